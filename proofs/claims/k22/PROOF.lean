import PyProof.Rows.All
import Wide.All
import OpenK.AllK
import Wide.FinOn
import HandS.ForMost
import HandS.IsInst
import HandS.FStr
import HandS.Codes
import HandS.Star
import HandS.Zip
import HandS.More
import HandS.Defaults
import HandS.Rev
import HandS.Walk
import HandS.TupAny
import HandS.TupMul
import HandS.Wide
import HandS.Style
import HandS.Iter
import HandS.Conv
import KE.KTurns
import KE.GoesMore
import PySem.Challenge.RW_neverhappens_k22_whole_boxes_are_their_p
set_option Elab.async false
set_option linter.all false
set_option maxRecDepth 100000
set_option maxHeartbeats 4000000
namespace ZG
open PySem PySem.Spec PyProof.Rows L2
/-! ### zip of two rows, each a list or a tuple; the target any -/
def ItAt (t : Bool) (h : Heap) (i l : Addr) (k : Nat) : Prop := match t with
  | true => h.IsTupleIter i l k
  | false => h.IsListIter i l k
def SeqIs (t : Bool) (h : Heap) (l : Addr) (xs : Array Value) : Prop := match t with
  | true => h.IsTuple l xs
  | false => h.IsList l xs
def Sq (t : Bool) (K : PySem.W.Frag) (H : Hp) (a : Addr) (xs : List V) : Prop := match t with
  | true => SqT K H a xs
  | false => SqL K H a xs
theorem ItAt.on {t : Bool} {h h' : Heap} {i l : Addr} {k : Nat} (x : ItAt t h i l k) (e : ∀ o, h.get? i = some o → h'.get? i = some o) : ItAt t h' i l k := by
  cases t
  · exact Heap.IsListIter.at x e
  · exact Heap.IsTupleIter.at x e
theorem ItAt.get {t : Bool} {h : Heap} {i l : Addr} {k : Nat} (x : ItAt t h i l k) : ∃ o fs, h.get? i = some o ∧ o.data = .fields fs := by
  cases t <;> (obtain ⟨o, e, _, d⟩ := x; exact ⟨o, _, e, d⟩)
theorem SeqIs.on {t : Bool} {h h' : Heap} {b l : Addr} {xs : Array Value} (x : SeqIs t h l xs) (hs : Heap.ExtBut b h h') (ne : l ≠ b) : SeqIs t h' l xs := by
  cases t
  · exact Heap.IsList.extBut x hs ne
  · exact Heap.IsTuple.extBut x hs ne
theorem SeqIs.push {t : Bool} {h : Heap} {l : Addr} {xs : Array Value} (x : SeqIs t h l xs) (o : Obj) : SeqIs t (h.push o) l xs := by
  cases t
  · exact Heap.IsList.push x o
  · exact Heap.IsTuple.push x o
theorem SeqIs.lt {t : Bool} {h : Heap} {l : Addr} {xs : Array Value} (x : SeqIs t h l xs) : l < h.objs.size := by
  cases t <;> (obtain ⟨o, e, _⟩ := x; exact Heap.lt_size e)
abbrev itObj (t : Bool) (l : Addr) : Obj := { cls := .type (if t then "tuple_iterator" else "list_iterator"), data := .fields #[.ref l, .int 0 0] }
theorem itAt_new (t : Bool) {h : Heap} {i l : Addr} (e : h.get? i = some (itObj t l)) : ItAt t h i l 0 := by
  cases t <;> exact ⟨_, e, rfl, rfl⟩
section
variable {prog : Program} {w : World} {A : Around} {E : Value → Shared → Prop} {s : Shared}
theorem nextIn_item {t : Bool} {i l : Addr} {k : Nat} {xs : Array Value} {x : Value} {Q : Value → Shared → Prop} (h1 : ItAt t s.heap i l k) (h2 : SeqIs t s.heap l xs) (hx : xs[k]? = some x)
    (q : ∀ h', ItAt t h' i l (k + 1) → Heap.SameBut i s.heap h' → Q x { s with heap := h' }) : wpAny (model prog w) A (Builtin.SmallTypes.nextOf (.ref i)) Q E s := by
  cases t
  · exact wpAny_nextOf_list_item h1 h2 hx q
  · exact RZ.nextOf_tuple_item h1 h2 hx q
theorem nextIn_end {t : Bool} {i l : Addr} {k : Nat} {xs : Array Value} {Q : Value → Shared → Prop} (hh : A.handled = none) (h1 : ItAt t s.heap i l k) (h2 : SeqIs t s.heap l xs) (hx : xs[k]? = none)
    (q : ∀ h' e, Heap.ExtBut i s.heap h' → (∃ o, h'.get? e = some o ∧ o.cls = .type "StopIteration") → E (.ref e) { s with heap := h' }) : wpAny (model prog w) A (Builtin.SmallTypes.nextOf (.ref i)) Q E s := by
  cases t
  · exact wpAny_nextOf_list_end hh h1 h2 hx q
  · exact RZ.nextOf_tuple_end hh h1 h2 hx q
/-- the zip at z: f0 tells which tuple it gave out -/
abbrev ZipSt (h : Heap) (z TI TO : Addr) (f0 : Value) (f : Bool) : Prop :=
  h.get? z = some { cls := .type "zip", dict := none, data := .fields #[f0, .bool f, .bool false, .ref TI, .ref TO], slots := #[] }
def Gave (f0 : Value) : Prop := f0 = .none ∨ ∃ T : Addr, f0 = rawInt T
theorem gave_free {z TI TO : Addr} {f0 : Value} {f : Bool} {Q : Bool → Shared → Prop} (hz : ZipSt s.heap z TI TO f0 f) (g : Gave f0) (q1 : Q true s)
    (q2 : ∀ h', ZipSt h' z TI TO f0 true → Heap.SameBut z s.heap h' → Q false { s with heap := h' }) : wpAny (model prog w) A (Builtin.SmallTypes.ownedTupleIsFree (.ref z)) Q E s := by
  unfold Builtin.SmallTypes.ownedTupleIsFree
  rcases g with rfl | ⟨T, rfl⟩
  · exact wpAny_bind (wpAny_field hz rfl (x := .none) rfl (wpAny_pure q1))
  refine wpAny_bind (wpAny_field hz rfl (x := rawInt T) rfl ?_)
  show wpAny _ _ (loadIfAlive ((T : Int).toNat) >>= _) _ _ _
  rw [Int.toNat_natCast]
  have k : ∀ {Q' : Option Obj → Shared → Prop}, Q' (s.heap.get? T) s → wpAny (model prog w) A (loadIfAlive T) Q' E s := fun h => fun _ _ _ => h
  refine wpAny_bind (k ?_)
  cases s.heap.get? T with
  | none =>
    simp only [Option.isNone_none, if_true]
    exact wpAny_pure q1
  | some oT =>
    simp only [Option.isNone_some, Bool.false_eq_true, if_false]
    refine wpAny_bind (wpAny_field hz rfl (x := .bool f) rfl ?_)
    cases f with
    | true =>
      rw [if_neg (show ¬ ((Value.bool true != Value.bool true) = true) from Bool.false_ne_true)]
      exact wpAny_pure (q2 s.heap hz (Heap.SameBut.refl _ _))
    | false =>
      rw [if_pos (show (Value.bool false != Value.bool true) = true from rfl)]
      exact wpAny_bind (wpAny_setField_rec hz (by simp) fun h₁ z1 s1 => wpAny_pure (q2 h₁ z1 s1))
/-- a zip that has an item left -/
theorem zipG_item {t1 t2 : Bool} {z TI TO i1 i2 l1 l2 : Addr} {f0 : Value} {f : Bool} {k1 k2 : Nat} {xs ys : Array Value} {x y a b : Value} {Q : Option Value → Shared → Prop} (D : ZipApart z TI TO i1 i2 l1 l2)
    (hz : ZipSt s.heap z TI TO f0 f) (g : Gave f0) (hTI : IsPair s.heap TI (.ref i1) (.ref i2)) (hTO : IsPair s.heap TO a b)
    (h1 : ItAt t1 s.heap i1 l1 k1) (h2 : ItAt t2 s.heap i2 l2 k2) (hl1 : SeqIs t1 s.heap l1 xs) (hl2 : SeqIs t2 s.heap l2 ys) (hx : xs[k1]? = some x) (hy : ys[k2]? = some y)
    (hQ : ∀ h' f0' f', ZipSt h' z TI TO f0' f' → Gave f0' → (∃ a b, IsPair h' TO a b) → ItAt t1 h' i1 l1 (k1 + 1) → ItAt t2 h' i2 l2 (k2 + 1) → IsPair h' s.heap.objs.size x y → h'.objs.size = s.heap.objs.size + 1 →
      (∀ c o, c ≠ z → c ≠ TO → c ≠ i1 → c ≠ i2 → s.heap.get? c = some o → h'.get? c = some o) → Q (some (.ref s.heap.objs.size)) { s with heap := h' }) :
    wpAny (model prog w) A (pyNext (.ref z)) Q E s := by
  have hT : s.TypeIs (.ref z) "zip" := ⟨_, hz, rfl⟩
  unfold pyNext
  refine wpAny_bind (wpAny_attempt (wpAny_callSpecial?_slot (name := Str.ofString "__next__") hT F.slot_zip_next (wpAny_call_entry F.slot_zip_next hT F.entry_zip_next ?_ (F.args_zip_next_1 _))))
  show wpAny _ _ (field (.ref z) 2 >>= _) _ _ _
  refine wpAny_bind (wpAny_field hz rfl (x := .bool false) rfl ?_)
  show wpAny _ _ (field (.ref z) 3 >>= _) _ _ _
  refine wpAny_bind (wpAny_field hz rfl (x := .ref TI) rfl ?_)
  refine wpAny_bind (wpAny_seqItems hTI rfl ?_)
  refine wpAny_bind (gave_free (z := z) hz g ?free fun u1 z1 s1 => ?held)
  case free =>
    simp only [if_true]
    refine wpAny_bind (wpAny_rule ?_)
    refine wpAny_bind (wpAny_field hz rfl (x := .ref TO) rfl ?_)
    refine wpAny_bind (wpAny_setField_rec hz (by simp) fun u1 z1 s1 => ?_)
    replace z1 : ZipSt u1 z TI TO .ellipsis f := z1
    refine wpAny_bind ?_
    simp only [List.zipIdx_cons, List.zipIdx_nil, List.forIn_cons, List.forIn_nil]
    refine wpAny_bind (wpAny_bind (wpAny_onRaise ?_))
    show wpAny _ _ (Builtin.SmallTypes.nextOf (.ref i1) >>= _) _ _ _
    refine wpAny_bind (nextIn_item (h1.on fun o e => s1.extBut _ _ D.i1z e) (hl1.on s1.extBut D.l1z) hx fun u2 a2 s2 => wpAny_pure ?_)
    have p2 : IsPair u2 TO a b := s2.extBut _ _ D.TOi1 (s1.extBut _ _ D.TOz hTO)
    refine wpAny_bind (wpAny_seqItems p2 rfl ?_)
    refine wpAny_bind (wpAny_updateSeq_pair p2 fun u3 p3 s3 => ?_)
    replace p3 : IsPair u3 TO x b := p3
    refine wpAny_bind (wpAny_letGo (wpAny_pure ?_))
    refine wpAny_bind (wpAny_bind (wpAny_onRaise ?_))
    show wpAny _ _ (Builtin.SmallTypes.nextOf (.ref i2) >>= _) _ _ _
    refine wpAny_bind (nextIn_item (h2.on fun o e => s3.extBut _ _ D.TOi2.symm (s2.extBut _ _ D.i12.symm (s1.extBut _ _ D.i2z e)))
      (((hl2.on s1.extBut D.l2z).on s2.extBut D.l2i1).on s3.extBut D.l2TO) hy fun u4 a4 s4 => wpAny_pure ?_)
    have p4 : IsPair u4 TO x b := s4.extBut _ _ D.TOi2 p3
    refine wpAny_bind (wpAny_seqItems p4 rfl ?_)
    refine wpAny_bind (wpAny_updateSeq_pair p4 fun u5 p5 s5 => ?_)
    replace p5 : IsPair u5 TO x y := p5
    refine wpAny_bind (wpAny_letGo (wpAny_pure (wpAny_pure ?_)))
    refine wpAny_bind (wpAny_seqItems p5 rfl ?_)
    refine wpAny_bind (wpAny_newTuple ?_)
    have sz : u5.objs.size = s.heap.objs.size := by rw [s5.1, s4.1, s3.1, s2.1, s1.1]
    have z5 : ZipSt u5 z TI TO .ellipsis f := s5.extBut _ _ D.TOz.symm (s4.extBut _ _ D.i2z.symm (s3.extBut _ _ D.TOz.symm (s2.extBut _ _ D.i1z.symm z1)))
    have k5 : ∀ c o, c ≠ z → c ≠ TO → c ≠ i1 → c ≠ i2 → s.heap.get? c = some o → u5.get? c = some o := fun c o c1 c2 c3 c4 e =>
      s5.extBut _ _ c2 (s4.extBut _ _ c4 (s3.extBut _ _ c2 (s2.extBut _ _ c3 (s1.extBut _ _ c1 e))))
    have b1 : ItAt t1 u5 i1 l1 (k1 + 1) := a2.on fun o e => s5.extBut _ _ D.TOi1.symm (s4.extBut _ _ D.i12 (s3.extBut _ _ D.TOi1.symm e))
    have b2 : ItAt t2 u5 i2 l2 (k2 + 1) := a4.on fun o e => s5.extBut _ _ D.TOi2.symm e
    have zl : z < u5.objs.size := Heap.lt_size z5
    show wpAny _ _ (Builtin.SmallTypes.ownedTupleHandOut (.ref z) (.ref u5.objs.size) >>= _) _ _ _
    refine wpAny_bind ?_
    unfold Builtin.SmallTypes.ownedTupleHandOut
    have z6 : ZipSt (u5.push { cls := .type "tuple", data := .seq #[x, y] }) z TI TO .ellipsis f := Heap.get?_push_of_some _ z5
    refine wpAny_bind (wpAny_setField_rec z6 (by simp) fun u7 z7 s7 => ?_)
    replace z7 : ZipSt u7 z TI TO (rawInt u5.objs.size) f := z7
    refine wpAny_setField_rec z7 (by simp) fun u8 z8 s8 => ?_
    replace z8 : ZipSt u8 z TI TO (rawInt u5.objs.size) false := z8
    have up : ∀ c o, c ≠ z → u5.get? c = some o → u8.get? c = some o := fun c o c1 e => s8.extBut _ _ c1 (s7.extBut _ _ c1 (Heap.get?_push_of_some _ e))
    have t8 : IsPair u8 u5.objs.size x y := s8.extBut _ _ (Nat.ne_of_gt zl) (s7.extBut _ _ (Nat.ne_of_gt zl) (Heap.get?_push_size _ rfl))
    have n8 : u8.objs.size = u5.objs.size + 1 := by rw [s8.1, s7.1, Heap.size_push]
    rw [sz] at z8 t8 n8
    refine wpAny_pure ⟨_, rfl, wpAny_pure ?_⟩
    show Q (some (.ref u5.objs.size)) _
    rw [sz]
    exact hQ u8 _ _ z8 (.inr ⟨_, rfl⟩) ⟨_, _, up _ _ D.TOz p5⟩ (b1.on fun o e => up _ o D.i1z e) (b2.on fun o e => up _ o D.i2z e) t8 n8 fun c o c1 c2 c3 c4 e => up c o c1 (k5 c o c1 c2 c3 c4 e)
  case held =>
    simp only [Bool.false_eq_true, if_false]
    refine wpAny_bind ?_
    rw [← Array.forIn_toList]
    simp only [List.forIn_cons, List.forIn_nil]
    refine wpAny_bind (wpAny_bind (wpAny_holding ?_))
    show wpAny _ _ (Builtin.SmallTypes.nextOf (.ref i1) >>= _) _ _ _
    refine wpAny_bind (nextIn_item (s := { s with heap := u1 }) (h1.on fun o e => s1.extBut _ _ D.i1z e) (hl1.on s1.extBut D.l1z) hx fun u2 a2 s2 => wpAny_pure ?_)
    refine wpAny_pure ?_
    refine wpAny_bind (wpAny_bind (wpAny_holding ?_))
    show wpAny _ _ (Builtin.SmallTypes.nextOf (.ref i2) >>= _) _ _ _
    refine wpAny_bind (nextIn_item (s := { s with heap := u2 }) (h2.on fun o e => s2.extBut _ _ D.i12.symm (s1.extBut _ _ D.i2z e)) ((hl2.on s1.extBut D.l2z).on s2.extBut D.l2i1) hy fun u3 a3 s3 => wpAny_pure ?_)
    refine wpAny_pure (wpAny_pure ?_)
    show wpAny _ _ (newTuple [x, y] >>= _) _ _ _
    refine wpAny_bind (wpAny_newTuple ?_)
    have sz : u3.objs.size = s.heap.objs.size := by rw [s3.1, s2.1, s1.1]
    have z3 : ZipSt u3 z TI TO f0 true := s3.extBut _ _ D.i2z.symm (s2.extBut _ _ D.i1z.symm z1)
    have k3 : ∀ c o, c ≠ z → c ≠ TO → c ≠ i1 → c ≠ i2 → s.heap.get? c = some o → u3.get? c = some o := fun c o c1 _ c2 c3 e => s3.extBut _ _ c3 (s2.extBut _ _ c2 (s1.extBut _ _ c1 e))
    have b1 : ItAt t1 u3 i1 l1 (k1 + 1) := a2.on fun o e => s3.extBut _ _ D.i12 e
    refine wpAny_pure ⟨_, rfl, wpAny_pure ?_⟩
    show Q (some (.ref u3.objs.size)) _
    have hp : IsPair (u3.push { cls := .type "tuple", data := .seq #[x, y] }) u3.objs.size x y := Heap.get?_push_size _ rfl
    have n4 : (u3.push { cls := .type "tuple", data := .seq #[x, y] }).objs.size = u3.objs.size + 1 := Heap.size_push ..
    have pTO : IsPair u3 TO a b := s3.extBut _ _ D.TOi2 (s2.extBut _ _ D.TOi1 (s1.extBut _ _ D.TOz hTO))
    rw [sz] at hp n4 ⊢
    exact hQ _ _ _ (Heap.get?_push_of_some _ z3) g ⟨a, b, Heap.get?_push_of_some _ pTO⟩ (b1.on fun o e => Heap.get?_push_of_some _ e) (a3.on fun o e => Heap.get?_push_of_some _ e) hp n4 fun c o c1 c2 c3 c4 e => Heap.get?_push_of_some _ (k3 c o c1 c2 c3 c4 e)
/-- a zip that is through -/
theorem zipG_end {t1 t2 : Bool} {z TI TO i1 i2 l1 l2 : Addr} {f0 : Value} {f : Bool} {k1 k2 : Nat} {xs ys : Array Value} {a b : Value} {Q : Option Value → Shared → Prop} (hh : A.handled = none) (D : ZipApart z TI TO i1 i2 l1 l2)
    (hz : ZipSt s.heap z TI TO f0 f) (g : Gave f0) (hTI : IsPair s.heap TI (.ref i1) (.ref i2)) (hTO : IsPair s.heap TO a b)
    (h1 : ItAt t1 s.heap i1 l1 k1) (h2 : ItAt t2 s.heap i2 l2 k2) (hl1 : SeqIs t1 s.heap l1 xs) (hl2 : SeqIs t2 s.heap l2 ys) (hend : xs[k1]? = none ∨ ys[k2]? = none)
    (hQ : ∀ h', (∀ c o, c ≠ z → c ≠ TO → c ≠ i1 → c ≠ i2 → s.heap.get? c = some o → h'.get? c = some o) → Q none { s with heap := h' }) :
    wpAny (model prog w) A (pyNext (.ref z)) Q E s := by
  have hT : s.TypeIs (.ref z) "zip" := ⟨_, hz, rfl⟩
  have fin : ∀ (h' : Heap) (e : Addr), (∀ c o, c ≠ z → c ≠ TO → c ≠ i1 → c ≠ i2 → s.heap.get? c = some o → h'.get? c = some o) → (∃ o, h'.get? e = some o ∧ o.cls = .type "StopIteration") →
      wpAny (model prog w) A (isInstance (.ref e) (.type "StopIteration")) (fun v s' => v = true ∧ s' = { s with heap := h' }) E { s with heap := h' } := fun h' e _ he => by
    obtain ⟨o, ho, hc⟩ := he
    exact wpAny_isInstance (T := "StopIteration") (b := true) ⟨o, ho, hc⟩ isSubtype_stop ⟨rfl, rfl⟩
  unfold pyNext
  refine wpAny_bind (wpAny_attempt (wpAny_callSpecial?_slot (name := Str.ofString "__next__") hT F.slot_zip_next (wpAny_call_entry F.slot_zip_next hT F.entry_zip_next ?_ (F.args_zip_next_1 _))))
  show wpAny _ _ (field (.ref z) 2 >>= _) _ _ _
  refine wpAny_bind (wpAny_field hz rfl (x := .bool false) rfl ?_)
  show wpAny _ _ (field (.ref z) 3 >>= _) _ _ _
  refine wpAny_bind (wpAny_field hz rfl (x := .ref TI) rfl ?_)
  refine wpAny_bind (wpAny_seqItems hTI rfl ?_)
  refine wpAny_bind (gave_free (z := z) hz g ?free fun u1 z1 s1 => ?held)
  case free =>
    simp only [if_true]
    refine wpAny_bind (wpAny_rule ?_)
    refine wpAny_bind (wpAny_field hz rfl (x := .ref TO) rfl ?_)
    refine wpAny_bind (wpAny_setField_rec hz (by simp) fun u1 z1 s1 => ?_)
    replace z1 : ZipSt u1 z TI TO .ellipsis f := z1
    refine wpAny_bind ?_
    simp only [List.zipIdx_cons, List.zipIdx_nil, List.forIn_cons, List.forIn_nil]
    refine wpAny_bind (wpAny_bind (wpAny_onRaise ?_))
    show wpAny _ _ (Builtin.SmallTypes.nextOf (.ref i1) >>= _) _ _ _
    cases hx : xs[k1]? with
    | none =>
      refine wpAny_bind (nextIn_end hh (h1.on fun o e => s1.extBut _ _ D.i1z e) (hl1.on s1.extBut D.l1z) hx fun u2 e s2 he => ?_)
      obtain ⟨oe, hoe, hce⟩ := he
      have z2 : ZipSt u2 z TI TO .ellipsis f := s2 _ _ D.i1z.symm z1
      have hez : e ≠ z := fun x => by subst x; rw [z2] at hoe; cases hoe; simp at hce
      refine wpAny_setField_rec z2 (by simp) fun u3 _ s3 => ?_
      refine wpAny_bind (wpAny_isInstance (T := "StopIteration") (b := true) ⟨oe, s3.extBut _ _ hez hoe, hce⟩ isSubtype_stop ?_)
      exact wpAny_pure (hQ u3 fun c o c1 _ c3 _ x => s3.extBut _ _ c1 (s2 _ _ c3 (s1.extBut _ _ c1 x)))
    | some x =>
      have hy : ys[k2]? = none := by rcases hend with h | h; rw [hx] at h; cases h; exact h
      refine wpAny_bind (nextIn_item (h1.on fun o e => s1.extBut _ _ D.i1z e) (hl1.on s1.extBut D.l1z) hx fun u2 a2 s2 => wpAny_pure ?_)
      have p2 : IsPair u2 TO a b := s2.extBut _ _ D.TOi1 (s1.extBut _ _ D.TOz hTO)
      refine wpAny_bind (wpAny_seqItems p2 rfl ?_)
      refine wpAny_bind (wpAny_updateSeq_pair p2 fun u3 p3 s3 => ?_)
      refine wpAny_bind (wpAny_letGo (wpAny_pure ?_))
      refine wpAny_bind (wpAny_bind (wpAny_onRaise ?_))
      show wpAny _ _ (Builtin.SmallTypes.nextOf (.ref i2) >>= _) _ _ _
      refine wpAny_bind (nextIn_end hh (h2.on fun o e => s3.extBut _ _ D.TOi2.symm (s2.extBut _ _ D.i12.symm (s1.extBut _ _ D.i2z e)))
        (((hl2.on s1.extBut D.l2z).on s2.extBut D.l2i1).on s3.extBut D.l2TO) hy fun u4 e s4 he => ?_)
      obtain ⟨oe, hoe, hce⟩ := he
      have z4 : ZipSt u4 z TI TO .ellipsis f := s4 _ _ D.i2z.symm (s3.extBut _ _ D.TOz.symm (s2.extBut _ _ D.i1z.symm z1))
      have hez : e ≠ z := fun x => by subst x; rw [z4] at hoe; cases hoe; simp at hce
      refine wpAny_setField_rec z4 (by simp) fun u5 _ s5 => ?_
      refine wpAny_bind (wpAny_isInstance (T := "StopIteration") (b := true) ⟨oe, s5.extBut _ _ hez hoe, hce⟩ isSubtype_stop ?_)
      exact wpAny_pure (hQ u5 fun c o c1 c2 c3 c4 x => s5.extBut _ _ c1 (s4 _ _ c4 (s3.extBut _ _ c2 (s2.extBut _ _ c3 (s1.extBut _ _ c1 x)))))
  case held =>
    simp only [Bool.false_eq_true, if_false]
    refine wpAny_bind ?_
    rw [← Array.forIn_toList]
    simp only [List.forIn_cons, List.forIn_nil]
    refine wpAny_bind (wpAny_bind (wpAny_holding ?_))
    show wpAny _ _ (Builtin.SmallTypes.nextOf (.ref i1) >>= _) _ _ _
    cases hx : xs[k1]? with
    | none =>
      refine wpAny_bind (nextIn_end (s := { s with heap := u1 }) hh (h1.on fun o e => s1.extBut _ _ D.i1z e) (hl1.on s1.extBut D.l1z) hx fun u2 e s2 he => ?_)
      obtain ⟨oe, hoe, hce⟩ := he
      refine wpAny_bind (wpAny_isInstance (T := "StopIteration") (b := true) ⟨oe, hoe, hce⟩ isSubtype_stop ?_)
      exact wpAny_pure (hQ u2 fun c o c1 _ c3 _ x => s2 _ _ c3 (s1.extBut _ _ c1 x))
    | some x =>
      have hy : ys[k2]? = none := by rcases hend with h | h; rw [hx] at h; cases h; exact h
      refine wpAny_bind (nextIn_item (s := { s with heap := u1 }) (h1.on fun o e => s1.extBut _ _ D.i1z e) (hl1.on s1.extBut D.l1z) hx fun u2 a2 s2 => wpAny_pure ?_)
      refine wpAny_pure ?_
      refine wpAny_bind (wpAny_bind (wpAny_holding ?_))
      show wpAny _ _ (Builtin.SmallTypes.nextOf (.ref i2) >>= _) _ _ _
      refine wpAny_bind (nextIn_end (s := { s with heap := u2 }) hh (h2.on fun o e => s2.extBut _ _ D.i12.symm (s1.extBut _ _ D.i2z e)) ((hl2.on s1.extBut D.l2z).on s2.extBut D.l2i1) hy fun u3 e s3 he => ?_)
      obtain ⟨oe, hoe, hce⟩ := he
      refine wpAny_bind (wpAny_isInstance (T := "StopIteration") (b := true) ⟨oe, hoe, hce⟩ isSubtype_stop ?_)
      exact wpAny_pure (hQ u3 fun c o c1 _ c3 c4 x => s3 _ _ c4 (s2.extBut _ _ c3 (s1.extBut _ _ c1 x)))
/-- what is done with the tuple that it gave out ahead of a target -/
theorem goG {tg : Expr} {z TI TO T : Addr} {f0 : Value} {f : Bool} {Q : Unit → Shared → Prop} (hz : ZipSt s.heap z TI TO f0 f) (g : Gave f0)
    (hQ : ∀ h' f0', ZipSt h' z TI TO f0' f → Gave f0' → Heap.SameBut z s.heap h' → Q () { s with heap := h' }) : wpAny (model prog w) A (letOwnedTupleGo tg (.ref z) (.ref T)) Q E s := by
  have q0 : Q () s := hQ s.heap f0 hz g (Heap.SameBut.refl _ _)
  unfold letOwnedTupleGo
  cases tg <;> first
    | exact wpAny_pure q0
    | (refine wpAny_bind (wpAny_load hz ?_)
       show wpAny _ _ (if (["enumerate", "zip", "dict_itemiterator", "dict_reverseitemiterator", "odict_iterator", "itertools.zip_longest", "itertools.pairwise"].contains "zip" && (#[f0, .bool f, .bool false, .ref TI, .ref TO] : Array Value)[0]? == some (rawInt T)) = true then _ else _) Q E s
       split
       · refine wpAny_bind (wpAny_rule ?_)
         show wpAny _ _ (setField (.ref z) 0 .none) Q E s
         exact wpAny_setField_rec hz (by simp) fun h' z' s' => hQ h' .none z' (.inl rfl) s'
       · exact wpAny_pure q0)
abbrev zG1 (t : Bool) (h : Heap) (l1 : Addr) : Heap := h.push (itObj t l1)
abbrev zG2 (t1 t2 : Bool) (h : Heap) (l1 l2 : Addr) : Heap := (zG1 t1 h l1).push (itObj t2 l2)
abbrev zG3 (t1 t2 : Bool) (h : Heap) (l1 l2 : Addr) : Heap := (zG2 t1 t2 h l1 l2).push { cls := .type "tuple", data := .seq #[.ref h.objs.size, .ref (zG1 t1 h l1).objs.size] }
abbrev zG4 (t1 t2 : Bool) (h : Heap) (l1 l2 : Addr) : Heap := (zG3 t1 t2 h l1 l2).push { cls := .type "tuple", data := .seq #[.none, .none] }
abbrev zG5 (t1 t2 : Bool) (h : Heap) (l1 l2 : Addr) : Heap := (zG4 t1 t2 h l1 l2).push { cls := .type "zip", data := .fields #[.none, .bool false, .bool false, .ref (zG2 t1 t2 h l1 l2).objs.size, .ref (zG3 t1 t2 h l1 l2).objs.size] }
theorem iterG {t : Bool} {l : Addr} {xs : Array Value} {Q : Value → Shared → Prop} (hl : SeqIs t s.heap l xs) (q : Q (.ref s.heap.objs.size) { s with heap := s.heap.push (itObj t l) }) : wpAny (model prog w) A (pyIter (.ref l)) Q E s := by
  cases t
  · exact wpAny_pyIter_list hl q
  · exact wpAny_pyIter_tuple hl q
end
theorem meets_zipG (t1 t2 : Bool) (l1 l2 : Addr) (xs ys : Array Value) :
    Meets (Builtin.«zip.__new__» ⟨[.type "zip", .ref l1, .ref l2], []⟩) (fun _ R s => SeqIs t1 s.heap l1 xs ∧ SeqIs t2 s.heap l2 ys ∧
      R (.ok (.ret (.ref (zG4 t1 t2 s.heap l1 l2).objs.size))) { s with heap := zG5 t1 t2 s.heap l1 l2 }) :=
  .of_wp fun prog w A R s h => by
    obtain ⟨hp, g, d, tk, os⟩ := s
    obtain ⟨hl1, hl2, h⟩ := h
    have hsub := sub_zip
    have q1 : SeqIs t1 (Shared.heap ⟨hp, g, d, tk, os⟩) l1 xs := hl1
    have q2 : SeqIs t2 (Shared.heap ⟨hp.push (itObj t1 l1), g, d, tk, os⟩) l2 ys := SeqIs.push hl2 _
    wp_walk using iterG q1, iterG q2
    exact ⟨_, rfl, h⟩
theorem call_zipG {prog : Program} {w : World} {A : Around} {E : Value → Shared → Prop} {s : Shared} {t1 t2 : Bool} {l1 l2 : Addr} {xs ys : Array Value} {Q : Value → Shared → Prop} (hl1 : SeqIs t1 s.heap l1 xs) (hl2 : SeqIs t2 s.heap l2 ys)
    (h : ∀ h', ZipSt h' (s.heap.objs.size + 4) (s.heap.objs.size + 2) (s.heap.objs.size + 3) .none false → IsPair h' (s.heap.objs.size + 2) (.ref s.heap.objs.size) (.ref (s.heap.objs.size + 1)) →
      IsPair h' (s.heap.objs.size + 3) .none .none → ItAt t1 h' s.heap.objs.size l1 0 → ItAt t2 h' (s.heap.objs.size + 1) l2 0 →
      (∀ c o, s.heap.get? c = some o → h'.get? c = some o) → Q (.ref (s.heap.objs.size + 4)) { s with heap := h' }) :
    wpAny (model prog w) A (call (.type "zip") [.ref l1, .ref l2]) Q E s := by
  refine callType_new F.called_zip (by decide) (F.typeCall_zip_2 _ _) (F.newCall_zip_2 _ _) (fun obj => F.args_object_init_3 obj _ _) F.entry_zip_new (meets_zipG t1 t2 l1 l2 xs ys) ⟨hl1, hl2, ?_⟩
  have z1 : (zG1 t1 s.heap l1).objs.size = s.heap.objs.size + 1 := Heap.size_push ..
  have z2 : (zG2 t1 t2 s.heap l1 l2).objs.size = s.heap.objs.size + 2 := by rw [Heap.size_push, z1]
  have z3 : (zG3 t1 t2 s.heap l1 l2).objs.size = s.heap.objs.size + 3 := by rw [Heap.size_push, z2]
  have z4 : (zG4 t1 t2 s.heap l1 l2).objs.size = s.heap.objs.size + 4 := by rw [Heap.size_push, z3]
  have g5 : (zG5 t1 t2 s.heap l1 l2).get? (zG4 t1 t2 s.heap l1 l2).objs.size = some _ := Heap.get?_push_size _ rfl
  have g4 : (zG5 t1 t2 s.heap l1 l2).get? (zG3 t1 t2 s.heap l1 l2).objs.size = some _ := Heap.get?_push_of_some _ (Heap.get?_push_size _ rfl)
  have g3 : (zG5 t1 t2 s.heap l1 l2).get? (zG2 t1 t2 s.heap l1 l2).objs.size = some _ := Heap.get?_push_of_some _ (Heap.get?_push_of_some _ (Heap.get?_push_size _ rfl))
  have g2 : (zG5 t1 t2 s.heap l1 l2).get? (zG1 t1 s.heap l1).objs.size = some (itObj t2 l2) := Heap.get?_push_of_some _ (Heap.get?_push_of_some _ (Heap.get?_push_of_some _ (Heap.get?_push_size _ (by cases t2 <;> rfl))))
  have g1 : (zG5 t1 t2 s.heap l1 l2).get? s.heap.objs.size = some (itObj t1 l1) := Heap.get?_push_of_some _ (Heap.get?_push_of_some _ (Heap.get?_push_of_some _ (Heap.get?_push_of_some _ (Heap.get?_push_size _ (by cases t1 <;> rfl)))))
  show _ ∧ _
  rw [z2, z3, z4] at g5
  rw [z1, z2] at g3
  rw [z3] at g4
  rw [z1] at g2
  rw [z4]
  exact ⟨⟨_, g5, rfl⟩, h _ g5 g3 g4 (itAt_new t1 g1) (itAt_new t2 g2) fun c o x =>
    Heap.get?_push_of_some _ (Heap.get?_push_of_some _ (Heap.get?_push_of_some _ (Heap.get?_push_of_some _ (Heap.get?_push_of_some _ x))))⟩
theorem Sq.at {X : Cx} {pins : List (Addr × Obj)} {σ : L2.St} {H : Hp} {s : Shared} {t : Bool} {a : Addr} {xs : List V} (I : Inv X pins σ H s) (h : Sq t X.K H a xs) : ∃ its : List Value, Vals xs its ∧ SeqIs t s.heap a its.toArray := by
  cases t
  · obtain ⟨its, r, p, _⟩ := I.list h
    exact ⟨its, r, p.isList⟩
  · obtain ⟨its, r, p, _⟩ := I.tuple h
    exact ⟨its, r, p⟩
theorem Sq.inj {X : Cx} {pins : List (Addr × Obj)} {σ : L2.St} {H : Hp} {s : Shared} {t : Bool} {a : Addr} {xs ys : List V} (I : Inv X pins σ H s) (h : Sq t X.K H a xs) (h' : Sq t X.K H a ys) : xs = ys := by
  cases t
  · exact I.list_inj h h'
  · exact I.tuple_inj h h'
/-- the rows at a and b as they stand at each turn, the items in new pairs -/
def ItzG (K : PySem.W.Frag) (t1 t2 : Bool) (a b : Addr) : It :=
  ⟨fun i H => ∃ (xs ys : List V) (x y : V), Sq t1 K H a xs ∧ Sq t2 K H b ys ∧ xs[i]? = some x ∧ ys[i]? = some y,
    fun i H v H' => ∃ T x y, v = .ref T ∧ H T = none ∧ H' = upd H T (.tup [x, y]) ∧ (∀ xs, Sq t1 K H a xs → xs[i]? = some x) ∧ ∀ ys, Sq t2 K H b ys → ys[i]? = some y,
    fun i H => ∃ xs ys : List V, Sq t1 K H a xs ∧ Sq t2 K H b ys ∧ (xs.length ≤ i ∨ ys.length ≤ i)⟩
theorem turn_zipG {P : Program} {w : World} {K : PySem.W.Frag} {tg : Expr} {t1 t2 : Bool} {a b z TI TO i1 i2 : Addr} (D : ZipApart z TI TO i1 i2 a b) :
    Turn P w K tg (ItzG K t1 t2 a b) [z, TI, TO, i1, i2] z (fun i h => (∃ f0 f, ZipSt h z TI TO f0 f ∧ Gave f0) ∧ IsPair h TI (.ref i1) (.ref i2) ∧ (∃ x y, IsPair h TO x y) ∧ ItAt t1 h i1 a i ∧ ItAt t2 h i2 b i) where
  mem := by simp
  obj := fun i h st c hc => by
    obtain ⟨⟨f0, f, hz, _⟩, hTI, ⟨x, y, hTO⟩, h1, h2⟩ := st
    obtain ⟨o1, fs1, e1, d1⟩ := h1.get
    obtain ⟨o2, fs2, e2, d2⟩ := h2.get
    have e' : c = z ∨ c = TI ∨ c = TO ∨ c = i1 ∨ c = i2 := by simpa using hc
    rcases e' with q | q | q | q | q
    · rw [q]; exact ⟨_, hz, fun v q => nomatch q⟩
    · rw [q]; exact ⟨_, hTI, fun v q => nomatch q⟩
    · rw [q]; exact ⟨_, hTO, fun v q => nomatch q⟩
    · rw [q]; exact ⟨o1, e1, fun v q => by rw [d1] at q; cases q⟩
    · rw [q]; exact ⟨o2, e2, fun v q => by rw [d2] at q; cases q⟩
  keep := fun i h h' st k => by
    obtain ⟨⟨f0, f, hz, g⟩, hTI, ⟨x, y, hTO⟩, h1, h2⟩ := st
    exact ⟨⟨f0, f, k z (by simp) _ hz, g⟩, k TI (by simp) _ hTI, ⟨x, y, k TO (by simp) _ hTO⟩, h1.on fun o q => k i1 (by simp) o q, h2.on fun o q => k i2 (by simp) o q⟩
  item := by
    intro X hP hw hK hc i pins s σ H E I hf st hg
    subst hP hw hK
    obtain ⟨⟨f0, f, hz, g⟩, hTI, ⟨x0, y0, hTO⟩, h1, h2⟩ := st
    obtain ⟨xs, ys, x, y, hqx, hqy, hx, hy⟩ := hg
    obtain ⟨its, rv, p⟩ := hqx.at I
    obtain ⟨its2, rv2, p2⟩ := hqy.at I
    obtain ⟨u, hu, ru⟩ := rv.get hx
    obtain ⟨u2, hu2, ru2⟩ := rv2.get hy
    have hzl : z < s.heap.objs.size := Heap.lt_size hz
    refine zipG_item D hz g hTI hTO h1 h2 p p2 (x := u) (y := u2) (by simpa using hu) (by simpa using hu2) fun h' f0' f' z' g' TO' h1' h2' hT hsz hk => ?_
    refine ⟨_, rfl, goG (s := { s with heap := h' }) z' g' fun h'' f0'' z'' g'' sb => ?_⟩
    have hT2 : h''.get? s.heap.objs.size = some { cls := .type "tuple", data := .seq #[u, u2] } := (sb.2 _ (Nat.ne_of_gt hzl)).trans hT
    have new : ObjOk X.prog X.w (upd H s.heap.objs.size (.tup [x, y])) h'' s.heap.objs.size (.tup [x, y]) :=
      ⟨by show 2 ≤ sizeLine; decide, [u, u2], .cons ru (.cons ru2 .nil), ⟨_, hT2, rfl, _, rfl⟩⟩
    have I1 : Inv X pins σ (upd H s.heap.objs.size (.tup [x, y])) { s with heap := h'' } :=
      I.turnedNew (t' := s.toks) (ch := [z, TI, TO, i1, i2]) (fun c o hb q => (sb.2 c (fun q' => hb (by simp [q']))).trans (hk c o (fun q' => hb (by simp [q'])) (fun q' => hb (by simp [q'])) (fun q' => hb (by simp [q'])) (fun q' => hb (by simp [q'])) q)) hf (Nat.le_refl _) new
    have TI' : IsPair h' TI (.ref i1) (.ref i2) := hk _ _ D.TIz D.TITO D.TIi1 D.TIi2 hTI
    obtain ⟨x1, y1, TO'⟩ := TO'
    refine ⟨.ref s.heap.objs.size, _, I1, rfl, ⟨_, x, y, rfl, I.hok.fresh (Nat.le_refl _), rfl, fun l hl => by rw [hl.inj I hqx]; exact hx, fun l hl => by rw [hl.inj I hqy]; exact hy⟩, ⟨⟨_, _, z'', g''⟩, ?_, ⟨x1, y1, ?_⟩, ?_, ?_⟩, fun c hcm => ?_⟩
    · exact (sb.2 _ D.TIz).trans TI'
    · exact (sb.2 _ D.TOz).trans TO'
    · exact h1'.on fun o q => (sb.2 _ D.i1z).trans q
    · exact h2'.on fun o q => (sb.2 _ D.i2z).trans q
    · have hlt : c < s.heap.objs.size := by
        obtain ⟨o1, _, e1, _⟩ := h1.get
        obtain ⟨o2, _, e2, _⟩ := h2.get
        have e' : c = z ∨ c = TI ∨ c = TO ∨ c = i1 ∨ c = i2 := by simpa using hcm
        rcases e' with q | q | q | q | q
        · rw [q]; exact hzl
        · rw [q]; exact Heap.lt_size hTI
        · rw [q]; exact Heap.lt_size hTO
        · rw [q]; exact Heap.lt_size e1
        · rw [q]; exact Heap.lt_size e2
      rw [upd_ne (Nat.ne_of_lt hlt)]
      exact (hf c hcm).1
  done := by
    intro X hP hw hK hc i pins s σ H E I hf st hg
    subst hP hw hK
    obtain ⟨⟨f0, f, hz, g⟩, hTI, ⟨x0, y0, hTO⟩, h1, h2⟩ := st
    obtain ⟨xs, ys, hqx, hqy, hend⟩ := hg
    obtain ⟨its, rv, p⟩ := hqx.at I
    obtain ⟨its2, rv2, p2⟩ := hqy.at I
    have l1 := rv.length
    have l2 := rv2.length
    have he : its.toArray[i]? = none ∨ its2.toArray[i]? = none := by
      rcases hend with q | q
      · exact .inl (by simp; omega)
      · exact .inr (by simp; omega)
    exact zipG_end (I.ok.hd hc) D hz g hTI hTO h1 h2 p p2 he fun h' hk => ⟨rfl, I.turnedL (t' := s.toks) (ch := [z, TI, TO, i1, i2]) (fun c o hb q =>
      hk c o (fun q' => hb (by simp [q'])) (fun q' => hb (by simp [q'])) (fun q' => hb (by simp [q'])) (fun q' => hb (by simp [q'])) q) hf⟩
  self := fun A i s Q E st h => by
    obtain ⟨⟨f0, f, hz, g⟩, _⟩ := st
    have hT : s.TypeIs (.ref z) "zip" := ⟨_, hz, rfl⟩
    refine wpAny_pyIter_slot hT F.slot_zip_iter (wpAny_call_entry F.slot_zip_iter hT F.entry_zip_iter ?_ (F.args_zip_iter_1 _))
    show wpAny _ _ (ret (.ref z)) _ _ s
    exact wpAny_pure ⟨_, rfl, "zip", _, hT, F.slot_zip_next.lookup, h⟩
def iZipG (K : PySem.W.Frag) (ta : TA) : TI := fun σ H R => ta σ H fun vs H1 => ∃ (t1 t2 : Bool) (a b : Addr) (xs ys : List V), vs = [.ref a, .ref b] ∧ Sq t1 K H1 a xs ∧ Sq t2 K H1 b ys ∧ R (ItzG K t1 t2 a b) H1
theorem pi_zipG {X : Cx} {tg e e2 : Expr} {ta : TA} {p pos : Pos} (hg : Gl X "zip") (hm : X.mg "zip" = none) (ha : PA X [e, e2] ta)
    (hs : starEach [e, e2] X.env = (false, eval e X.env) :: starEach [e2] X.env := by rfl) (hpl : (backTo pos (starEach [e2] X.env)).any (·.1) = false := by rfl) :
    PI X tg (.Call (.Name "zip" p) [e, e2] [] pos) (iZipG X.K ta) := by
  refine ⟨fun pins s σ H R I h => ?_⟩
  refine Call_ (ld_blt I hg hm PyProof.Rows.boot_zip (PyProof.Rows.callWith_type1 (thn (ha.run pos pins s σ H _ I h) fun us s1 ⟨vs, H1, I1, r1, q1⟩ => ?_) hs hpl))
  obtain ⟨t1, t2, a, b, xs, ys, ex, hqx, hqy, q⟩ := q1
  subst ex
  cases r1 with
  | cons r rr =>
    cases rr with
    | cons r' rr =>
      cases rr
      cases r
      cases r'
      obtain ⟨its, rv, p1⟩ := hqx.at I1
      obtain ⟨its2, rv2, p2⟩ := hqy.at I1
      refine call_zipG p1 p2 fun h' hz hTI hTO h1 h2 hk => ?_
      have hT : Shared.TypeIs { s1 with heap := h' } (.ref (s1.heap.objs.size + 4)) "zip" := ⟨_, hz, rfl⟩
      refine wpAny_pyIter_slot hT F.slot_zip_iter (wpAny_call_entry F.slot_zip_iter hT F.entry_zip_iter ?_ (F.args_zip_iter_1 _))
      show wpAny _ _ (ret (.ref _)) _ _ _
      refine wpAny_pure ⟨_, rfl, "zip", _, hT, F.slot_zip_next.lookup, ?_⟩
      have I2 : Inv X pins σ H1 { s1 with heap := h' } := I1.kept (t' := s1.toks) hk
      refine ⟨s1.heap.objs.size + 4, [s1.heap.objs.size + 4, s1.heap.objs.size + 2, s1.heap.objs.size + 3, s1.heap.objs.size, s1.heap.objs.size + 1], _, _, H1, rfl, I2, turn_zipG (PySem.W.ktu_apart s1.heap.objs.size a b p1.lt p2.lt), ⟨⟨_, _, hz, .inl rfl⟩, hTI, ⟨_, _, hTO⟩, h1, h2⟩, fun c hcm => ?_, q⟩
      have e' : c = s1.heap.objs.size + 4 ∨ c = s1.heap.objs.size + 2 ∨ c = s1.heap.objs.size + 3 ∨ c = s1.heap.objs.size ∨ c = s1.heap.objs.size + 1 := by simpa using hcm
      have hle : s1.heap.objs.size ≤ c := by
        rcases e' with z | z | z | z | z <;> (rw [z]; omega)
      exact I1.fpOk hle (I1.hok.fresh hle)
theorem walk_zipG {K : PySem.W.Frag} {t1 t2 : Bool} {a b : Addr} {xs ys : List V} {n : Nat} (hn : n = min xs.length ys.length) : Walk (ItzG K t1 t2 a b) n (fun H => Sq t1 K H a xs ∧ Sq t2 K H b ys) (YPair (fun i => xs[i]?) (fun i => ys[i]?)) := by
  subst hn
  refine ⟨fun i _ hi q => ?_, fun _ q => ⟨xs, ys, q.1, q.2, by omega⟩, fun i H v H' _ q y => ?_⟩
  · have h1 : i < xs.length := by omega
    have h2 : i < ys.length := by omega
    exact ⟨xs, ys, xs[i], ys[i], q.1, q.2, by simp [h1], by simp [h2]⟩
  · obtain ⟨T, x, z, h1, h2, h3, h4, h5⟩ := y
    exact ⟨T, x, z, h1, h2, h3, h4 xs q.1, h5 ys q.2⟩
end ZG
namespace EnT
open PySem PySem.Spec PyProof.Rows L2
/-! ### enumerate over a tuple -/
theorem meets_enumT (l : Addr) (items : Array Value) :
    Meets (Builtin.«enumerate.__new__» ⟨[.type "enumerate", .ref l], []⟩) (fun _ R s => s.heap.IsTuple l items ∧
      R (.ok (.ret (.ref (s.heap.push { cls := .type "tuple_iterator", data := .fields #[.ref l, .int 0 0] }).objs.size)))
        { s with heap := (s.heap.push { cls := .type "tuple_iterator", data := .fields #[.ref l, .int 0 0] }).push { cls := .type "enumerate", data := .fields #[.none, .bool false, .ref s.heap.objs.size, rawInt 0, .none, .none] } }) :=
  .of_wp fun prog w A R s h => by
    obtain ⟨hp, g, d, tk, os⟩ := s; obtain ⟨hl, h⟩ := h
    have hsub := sub_enumerate
    have q1 : ∀ {A' : Around} {E : Value → Shared → Prop} {Q : Value → Shared → Prop}, Q (.ref hp.objs.size) ⟨hp.push { cls := .type "tuple_iterator", data := .fields #[.ref l, .int 0 0] }, g, d, tk, os⟩ → wpAny (model prog w) A' (pyIter (.ref l)) Q E ⟨hp, g, d, tk, os⟩ :=
      fun q => wpAny_pyIter_tuple (s := ⟨hp, g, d, tk, os⟩) hl q
    wp_walk using q1
    refine wpAny_stack_any fun st => wpAny_pure ?_
    split
    · rename_i c _ _ _ _ _
      cases (c == Value.type "enumerate")
      · wp_walk using q1
        exact ⟨_, rfl, h⟩
      · wp_walk using q1
        exact ⟨_, rfl, h⟩
    · wp_walk using q1
      exact ⟨_, rfl, h⟩
theorem call_enumT {prog : Program} {w : World} {A : Around} {E : Value → Shared → Prop} {s : Shared} {l : Addr} {items : Array Value} {Q : Value → Shared → Prop} (hL : s.heap.IsTuple l items)
    (h : ∀ h', IsEnum h' (s.heap.objs.size + 1) s.heap.objs.size 0 .none → h'.IsTupleIter s.heap.objs.size l 0 → h'.objs.size = s.heap.objs.size + 2 →
      (∀ b o, s.heap.get? b = some o → h'.get? b = some o) → Q (.ref (s.heap.objs.size + 1)) { s with heap := h' }) :
    wpAny (model prog w) A (call (.type "enumerate") [.ref l]) Q E s := by
  refine callType_new F.called_enumerate (by decide) (F.typeCall_enumerate_1 _) (F.newCall_enumerate_1 _) (fun obj => F.args_object_init_2 obj _) F.entry_enumerate_new
    (meets_enumT l items) ⟨hL, ?_⟩
  have hz : (s.heap.push { cls := .type "tuple_iterator", data := .fields #[.ref l, .int 0 0] }).objs.size = s.heap.objs.size + 1 := Heap.size_push ..
  show _ ∧ _
  rw [hz]
  have he : IsEnum ((s.heap.push { cls := .type "tuple_iterator", data := .fields #[.ref l, .int 0 0] }).push
      { cls := .type "enumerate", data := .fields #[.none, .bool false, .ref s.heap.objs.size, rawInt 0, .none, .none] }) (s.heap.objs.size + 1) s.heap.objs.size 0 .none := by
    have := Heap.get?_push_size (s.heap.push { cls := .type "tuple_iterator", data := .fields #[.ref l, .int 0 0] })
      (o := { cls := .type "enumerate", data := .fields #[.none, .bool false, .ref s.heap.objs.size, rawInt 0, .none, .none] }) rfl
    rw [hz] at this; exact this
  refine ⟨⟨_, he, rfl⟩, h _ he ⟨_, Heap.get?_push_of_some _ (Heap.get?_push_size _ rfl), rfl, rfl⟩ (by rw [Heap.size_push, hz]) fun b o x => Heap.get?_push_of_some _ (Heap.get?_push_of_some _ x)⟩
/-- the tuple at a as it stands at each turn, each item in a new pair -/
def IteT (K : PySem.W.Frag) (a : Addr) : It :=
  ⟨fun i H => ∃ (xs : List V) (x : V), SqT K H a xs ∧ xs[i]? = some x, fun i H v H' => ∃ T x, v = .ref T ∧ H T = none ∧ H' = upd H T (.tup [.int (i : Nat), x]) ∧ ∀ xs, SqT K H a xs → xs[i]? = some x, fun i H => ∃ xs : List V, SqT K H a xs ∧ xs.length ≤ i⟩
theorem enumT_end {prog : Program} {w : World} {A : Around} {E : Value → Shared → Prop} {s : Shared} {e it t : Addr} {i : Nat} {items : Array Value} {old : Value} {Q : Option Value → Shared → Prop} (hh : A.handled = none)
    (he : IsEnum s.heap e it i old) (hit : s.heap.IsTupleIter it t i) (ht : s.heap.IsTuple t items) (hx : items[i]? = none)
    (hQ : ∀ h', Heap.ExtBut it s.heap h' → Q none { s with heap := h' }) : wpAny (model prog w) A (pyNext (.ref e)) Q E s := by
  have hT : s.TypeIs (.ref e) "enumerate" := ⟨_, he, rfl⟩
  unfold pyNext
  refine wpAny_bind (wpAny_attempt (wpAny_callSpecial?_slot (name := Str.ofString "__next__") hT F.slot_enumerate_next
    (wpAny_call_entry F.slot_enumerate_next hT F.entry_enumerate_next ?_ (F.args_enumerate_next_1 _))))
  show wpAny _ _ (field (.ref e) 2 >>= _) _ _ _
  refine wpAny_bind (wpAny_field he rfl (x := .ref it) rfl ?_)
  refine wpAny_bind (wpAny_nextOf_tuple_end (A := A.in1) hh hit ht hx fun h' x he' hx' => ?_)
  obtain ⟨o, ho, hc⟩ := hx'
  refine wpAny_bind (wpAny_isInstance (T := "StopIteration") (b := true) ⟨o, ho, hc⟩ isSubtype_stop ?_)
  exact wpAny_pure (hQ _ he')
theorem turn_enumT {P : Program} {w : World} {K : PySem.W.Frag} {elts : List Expr} {kk : Nat} {tpos : Pos} (a e it : Addr) :
    Turn P w K (.Tuple elts kk tpos) (IteT K a) [e, it] e (fun i h => (∃ old, IsEnum h e it ((i : Nat) : Int) old) ∧ h.IsTupleIter it a i ∧ e ≠ it) where
  mem := by simp
  obj := fun i h st b hb => by
    obtain ⟨⟨old, he⟩, ⟨o, ho, hc, hd⟩, _⟩ := st
    have e' : b = e ∨ b = it := by simpa using hb
    rcases e' with z | z
    · rw [z]; exact ⟨_, he, fun v q => nomatch q⟩
    · rw [z]; exact ⟨o, ho, fun v q => by rw [hd] at q; cases q⟩
  keep := fun i h h' st k => let ⟨⟨old, he⟩, hi, hne⟩ := st; ⟨⟨old, k e (by simp) _ he⟩, hi.at fun o q => k it (by simp) o q, hne⟩
  item := by
    intro X hP hw hK hc i pins s σ H E I hf st hg
    subst hP hw hK
    obtain ⟨⟨old, he⟩, hit, hne⟩ := st
    obtain ⟨xs, x, hq, hx⟩ := hg
    obtain ⟨its, rv, p, hz⟩ := I.tuple hq
    obtain ⟨u, hu, ru⟩ := rv.get hx
    have hel : e < s.heap.objs.size := Heap.lt_size he
    have hil : it < s.heap.objs.size := by obtain ⟨_, q, _⟩ := hit; exact Heap.lt_size q
    have hT0 : s.heap.IsTuple a its.toArray := p
    have nae : e ≠ a := fun z => by
      obtain ⟨o, ho, hcl, _⟩ := hT0
      rw [← z, he] at ho
      obtain rfl := Option.some.inj ho
      exact absurd (show Value.type "enumerate" = Value.type "tuple" from hcl) (by decide)
    have nai : a ≠ it := fun z => by
      obtain ⟨o, ho, hcl, _⟩ := hT0
      obtain ⟨o2, ho2, hcl2, _⟩ := hit
      rw [z, ho2] at ho
      obtain rfl := Option.some.inj ho
      rw [hcl2] at hcl
      exact absurd (show Value.type "tuple_iterator" = Value.type "tuple" from hcl) (by decide)
    refine wpAny_pyNext_enum_itemD (i := i) (Draws.tuple (A := X.A.in1) (I.ok.hd hc) it a nai its.toArray) he ⟨hit, hT0⟩ (by
      have := (List.getElem?_eq_some_iff.mp hu).1
      simpa using this) hne (by simp [hne, nae]) fun y h' tk hy ho hst' hT hsz hk => ?_
    have ey : y = u := by
      have hy' : its[i]? = some y := by simpa using hy
      rw [hu] at hy'
      exact (Option.some.inj hy').symm
    subst ey
    refine ⟨_, rfl, wpAny_letOwnedTupleGo_enum (s := { s with heap := h', toks := tk + 1 }) ho fun h'' he' sb => ?_⟩
    have hT2 : h''.get? s.heap.objs.size = some { cls := .type "tuple", data := .seq #[.int i tk, y] } := (sb.2 _ (Nat.ne_of_gt hel)).trans hT
    have new : ObjOk X.prog X.w (upd H s.heap.objs.size (.tup [.int (i : Nat), x])) h'' s.heap.objs.size (.tup [.int (i : Nat), x]) :=
      ⟨by show 2 ≤ sizeLine; decide, [.int i tk, y], .cons ⟨_, rfl⟩ (.cons ru .nil), ⟨_, hT2, rfl, _, rfl⟩⟩
    have I1 : Inv X pins σ (upd H s.heap.objs.size (.tup [.int (i : Nat), x])) { s with heap := h'', toks := tk + 1 } :=
      I.turnedNew (ch := [e, it]) (fun b ob hb q => (sb.2 b (fun z => hb (by simp [z]))).trans (hk b ob (fun z => hb (by simp [z])) (fun z => hb (by simp [z])) q)) hf (Nat.le_refl _) new
    refine ⟨.ref s.heap.objs.size, _, I1, rfl, ⟨_, x, rfl, I.hok.fresh (Nat.le_refl _), rfl, fun ys hy => by rw [I.tuple_inj hy hq]; exact hx⟩, ⟨⟨y, ?_⟩, hst'.1.at fun o q => (sb.2 it (Ne.symm hne)).trans q, hne⟩, fun b hb => ?_⟩
    · have e1 : ((i + 1 : Nat) : Int) = (i : Int) + 1 := by omega
      rw [e1]; exact he'
    · have hb' : b < s.heap.objs.size := by
        have e' : b = e ∨ b = it := by simpa using hb
        rcases e' with z | z
        · rw [z]; exact hel
        · rw [z]; exact hil
      rw [upd_ne (Nat.ne_of_lt hb')]
      exact (hf b hb).1
  done := by
    intro X hP hw hK hc i pins s σ H E I hf st hg
    subst hP hw hK
    obtain ⟨⟨old, he⟩, hit, hne⟩ := st
    obtain ⟨xs, hq, hx⟩ := hg
    obtain ⟨its, rv, p, hz⟩ := I.tuple hq
    obtain ⟨f0, f1, f2, f3, f4, f5⟩ := hf it (by simp)
    have hl := rv.length
    exact enumT_end (I.ok.hd hc) he hit p (by simp; omega) fun h' eb => ⟨rfl, I.turned (t' := s.toks) (fun b o hb q => eb b o hb q) f0 f1 f3 f4 f5⟩
  self := fun A i s Q E st h => let ⟨⟨_, he⟩, _⟩ := st; wpAny_pyIter_enum he h
def iEnumT (K : PySem.W.Frag) (ta : TA) : TI := fun σ H R => ta σ H fun vs H1 => ∃ a xs, vs = [.ref a] ∧ SqT K H1 a xs ∧ R (IteT K a) H1
theorem pi_enumT {X : Cx} {e : Expr} {ta : TA} {p pos tpos : Pos} {elts : List Expr} {kk : Nat} (hg : Gl X "enumerate") (hm : X.mg "enumerate" = none) (ha : PA X [e] ta) (hs : starEach [e] X.env = [(false, eval e X.env)] := by rfl) :
    PI X (.Tuple elts kk tpos) (.Call (.Name "enumerate" p) [e] [] pos) (iEnumT X.K ta) := by
  refine ⟨fun pins s σ H R I h => ?_⟩
  refine Call_ (ld_blt I hg hm boot_enumerate (PyProof.Rows.callWith_type1 (thn (ha.run pos pins s σ H _ I h) fun us s1 ⟨vs, H1, I1, r1, q1⟩ => ?_) hs rfl))
  obtain ⟨a, xs, ex, hq, q⟩ := q1
  subst ex
  cases r1 with
  | cons r rr =>
    cases rr
    cases r
    obtain ⟨its, rv, p', hz⟩ := I1.tuple hq
    refine call_enumT (show s1.heap.IsTuple a its.toArray from p') fun h' he hit hsz hk => wpAny_pyIter_enum he ?_
    have I2 : Inv X pins σ H1 { s1 with heap := h' } := I1.kept (t' := s1.toks) hk
    refine ⟨s1.heap.objs.size + 1, [s1.heap.objs.size + 1, s1.heap.objs.size], _, _, H1, rfl, I2, turn_enumT a (s1.heap.objs.size + 1) s1.heap.objs.size, ⟨⟨.none, he⟩, hit, Nat.succ_ne_self _⟩, fun b hb => ?_, q⟩
    have e' : b = s1.heap.objs.size + 1 ∨ b = s1.heap.objs.size := by simpa using hb
    have hle : s1.heap.objs.size ≤ b := by
      rcases e' with z | z
      · rw [z]; exact Nat.le_add_right _ _
      · rw [z]; exact Nat.le_refl _
    exact I1.fpOk hle (I1.hok.fresh hle)
/-- a loop over enumerate of a tuple -/
theorem for_enumT {K : PySem.W.Frag} {a : Addr} {xs : List V} {g : TG} {tb : TS} {D : Ends} {σ : L2.St} {H : Hp} (Pv : Nat → L2.St → Hp → Prop) (h0 : Pv 0 σ H) (hq : ∀ i σ H, Pv i σ H → SqT K H a xs)
    (hs : ∀ (i : Nat) (x : V) (T : Addr) (σ : L2.St) (H : Hp), xs[i]? = some x → Pv i σ H → H T = none → g (.ref T) σ (upd H T (.tup [.int (i : Nat), x])) fun σ2 H2 => tb { D with nx := Pv (i + 1), ct := Pv (i + 1), bk := D.nx } σ2 H2) (hd : ∀ σ H, Pv xs.length σ H → D.nx σ H) :
    ∃ W : Nat → Nat → L2.St → Hp → Prop, (∃ m, W 0 m σ H) ∧ ∀ i m σ H, W i m σ H →
      ((IteT K a).stop i H ∧ D.nx σ H) ∨ ((IteT K a).go i H ∧ ∃ N : L2.St → Hp → Prop, (∀ σ' H', N σ' H' → ∃ m', m' < m ∧ W (i + 1) m' σ' H') ∧ ∀ v H', (IteT K a).yld i H v H' → g v σ H' fun σ2 H2 => tb { D with nx := N, ct := N, bk := D.nx } σ2 H2) := by
  refine ⟨fun i m σ H => m = xs.length - i ∧ i ≤ xs.length ∧ Pv i σ H, ⟨xs.length, rfl, Nat.zero_le _, h0⟩, ?_⟩
  rintro i m σ H ⟨rfl, hi, p⟩
  have q := hq i σ H p
  rcases Nat.lt_or_ge i xs.length with hlt | hge
  · have ex := List.getElem?_eq_getElem hlt
    refine .inr ⟨⟨xs, _, q, ex⟩, Pv (i + 1), fun σ' H' p' => ⟨xs.length - (i + 1), by omega, rfl, hlt, p'⟩, ?_⟩
    rintro v H' ⟨T, x, rfl, hT, rfl, f1⟩
    exact hs i x T σ H (f1 xs q) p hT
  · have e : i = xs.length := by omega
    subst e
    exact .inl ⟨⟨xs, q, hge⟩, hd σ H p⟩
/-! ### enumerate over a list or a tuple -/
def ItEG (K : PySem.W.Frag) (t : Bool) (a : Addr) : It := match t with
  | true => IteT K a
  | false => Ite K a
def iEnumG (K : PySem.W.Frag) (ta : TA) : TI := fun σ H R => ta σ H fun vs H1 => ∃ (t : Bool) (a : Addr) (xs : List V), vs = [.ref a] ∧ ZG.Sq t K H1 a xs ∧ R (ItEG K t a) H1
theorem pi_enumG {X : Cx} {e : Expr} {ta : TA} {p pos tpos : Pos} {elts : List Expr} {kk : Nat} (hg : Gl X "enumerate") (hm : X.mg "enumerate" = none) (ha : PA X [e] ta) (hs : starEach [e] X.env = [(false, eval e X.env)] := by rfl) :
    PI X (.Tuple elts kk tpos) (.Call (.Name "enumerate" p) [e] [] pos) (iEnumG X.K ta) := by
  refine ⟨fun pins s σ H R I h => ?_⟩
  refine Call_ (ld_blt I hg hm boot_enumerate (PyProof.Rows.callWith_type1 (thn (ha.run pos pins s σ H _ I h) fun us s1 ⟨vs, H1, I1, r1, q1⟩ => ?_) hs rfl))
  obtain ⟨t, a, xs, ex, hq, q⟩ := q1
  subst ex
  have hle : ∀ b, b ∈ [s1.heap.objs.size + 1, s1.heap.objs.size] → s1.heap.objs.size ≤ b := fun b hb => by
    have e' : b = s1.heap.objs.size + 1 ∨ b = s1.heap.objs.size := by simpa using hb
    rcases e' with z | z
    · rw [z]; exact Nat.le_add_right _ _
    · rw [z]; exact Nat.le_refl _
  cases r1 with
  | cons r rr =>
    cases rr
    cases r
    cases t with
    | true =>
      obtain ⟨its, rv, p', hz⟩ := I1.tuple hq
      refine call_enumT (show s1.heap.IsTuple a its.toArray from p') fun h' he hit hsz hk => wpAny_pyIter_enum he ?_
      have I2 : Inv X pins σ H1 { s1 with heap := h' } := I1.kept (t' := s1.toks) hk
      exact ⟨s1.heap.objs.size + 1, [s1.heap.objs.size + 1, s1.heap.objs.size], _, _, H1, rfl, I2, turn_enumT a (s1.heap.objs.size + 1) s1.heap.objs.size, ⟨⟨.none, he⟩, hit, Nat.succ_ne_self _⟩, fun b hb => I1.fpOk (hle b hb) (I1.hok.fresh (hle b hb)), q⟩
    | false =>
      obtain ⟨its, rv, p', hz⟩ := I1.list hq
      refine call_enumerate_list p'.isList fun h' he hit hsz hk => wpAny_pyIter_enum he ?_
      have I2 : Inv X pins σ H1 { s1 with heap := h' } := I1.kept (t' := s1.toks) hk
      exact ⟨s1.heap.objs.size + 1, [s1.heap.objs.size + 1, s1.heap.objs.size], _, _, H1, rfl, I2, turn_enum a (s1.heap.objs.size + 1) s1.heap.objs.size, ⟨⟨.none, he⟩, hit, Nat.succ_ne_self _⟩, fun b hb => I1.fpOk (hle b hb) (I1.hok.fresh (hle b hb)), q⟩
theorem walk_enumG {K : PySem.W.Frag} {t : Bool} {a : Addr} {xs : List V} : Walk (ItEG K t a) xs.length (fun H => ZG.Sq t K H a xs) (YPair (fun i => some (.int (i : Nat))) (fun i => xs[i]?)) := by
  cases t with
  | false => exact walk_enum
  | true =>
    refine ⟨fun i H hi q => ⟨xs, xs[i], q, List.getElem?_eq_getElem hi⟩, fun H q => ⟨xs, q, Nat.le_refl _⟩, fun i H v H' _ q y => ?_⟩
    obtain ⟨T, x, h1, h2, h3, h4⟩ := y
    exact ⟨T, .int (i : Nat), x, h1, h2, h3, rfl, h4 xs q⟩
end EnT
namespace MxT
open PySem PySem.Spec PyProof.Rows L2
/-! ### max and min of a tuple of whole numbers -/
section
variable {prog : Program} {w : World} {A : Around} {E : Value → Shared → Prop} {s : Shared} {l : Addr} {its : List Value} {ns : List Int} {Q : Value → Shared → Prop}
theorem old_keptT {h' : Heap} (hk : ∀ b o, b ∉ [s.heap.objs.size] → (s.heap.push { cls := .type "tuple_iterator", data := .fields #[.ref l, .int 0 0] }).get? b = some o → h'.get? b = some o) :
    ∀ b o, s.heap.get? b = some o → h'.get? b = some o := fun b o e =>
  hk b o (fun z => absurd (Heap.lt_size e) ((List.mem_singleton.mp z) ▸ Nat.lt_irrefl _)) (Heap.get?_push_of_some _ e)
theorem maxT_raw (hh : A.handled = none) (hl : s.heap.IsTuple l its.toArray) (hi : IntsAre its ns) (hne : 0 < ns.length)
    (h : ∀ h' tk M t', (∀ b o, s.heap.get? b = some o → h'.get? b = some o) → M ∈ ns → (∀ a, a ∈ ns → a ≤ M) → Q (.int M t') { s with heap := h', toks := tk }) : wpAny (model prog w) A (call (.builtin "max") [.ref l]) Q E s := by
  obtain ⟨xs, e⟩ := hi.allInts.items
  have hn : numsOf (intItems xs).toList = ns := by rw [← e]; exact hi.numsOf
  rw [nums_intItems] at hn
  subst hn
  rw [e] at hl
  have hsz : 0 < xs.size := by simpa using hne
  have hlt : l < s.heap.objs.size := by
    obtain ⟨_, e, _⟩ := hl
    exact Heap.lt_size e
  refine PySem.call_max_walk (wpAny_pyIter_tuple hl ?_)
  refine ⟨_, _, _, _, _, _, _, rfl, Walks.tuple (A := A.in1) hh _ l (Nat.ne_of_lt hlt) (intItems xs), ⟨⟨_, Heap.get?_push_size _ rfl, rfl, rfl⟩, hl.push _⟩, fun b hb => ?_, by simpa [intItems] using hsz, CmpOf.ints_gt (numAt xs) (fun _ _ => intItems_at), fun v h' tk hv hk => ?_⟩
  · show b < (s.heap.push _).objs.size
    rw [Heap.size_push]
    have hb' : b = s.heap.objs.size ∨ b = l := by simpa using hb
    rcases hb' with z | z
    · rw [z]; exact Nat.lt_succ_self _
    · rw [z]; exact Nat.lt_succ_of_lt hlt
  · have hv' : (intItems xs)[argBest (fun i j => decide (numAt xs i > numAt xs j)) (xs.size - 1)]? = some v := by simpa [intItems] using hv
    obtain ⟨t, rfl⟩ := intItems_at hv'
    obtain ⟨h1, h2⟩ := argBest_gt (numAt xs) (xs.size - 1)
    refine h h' tk _ t (old_keptT hk) ?_ fun a ha => ?_
    · rw [numAt_eq]; exact PySem.getD_mem (by rw [List.length_map, Array.length_toList]; omega)
    · obtain ⟨j, hj, rfl⟩ := mem_getD ha
      have hj2 : j < xs.size := by simpa using hj
      rw [← numAt_eq]; exact h2 j (by omega)
theorem minT_raw (hh : A.handled = none) (hl : s.heap.IsTuple l its.toArray) (hi : IntsAre its ns) (hne : 0 < ns.length)
    (h : ∀ h' tk M t', (∀ b o, s.heap.get? b = some o → h'.get? b = some o) → M ∈ ns → (∀ a, a ∈ ns → M ≤ a) → Q (.int M t') { s with heap := h', toks := tk }) : wpAny (model prog w) A (call (.builtin "min") [.ref l]) Q E s := by
  obtain ⟨xs, e⟩ := hi.allInts.items
  have hn : numsOf (intItems xs).toList = ns := by rw [← e]; exact hi.numsOf
  rw [nums_intItems] at hn
  subst hn
  rw [e] at hl
  have hsz : 0 < xs.size := by simpa using hne
  have hlt : l < s.heap.objs.size := by
    obtain ⟨_, e, _⟩ := hl
    exact Heap.lt_size e
  refine PySem.call_min_walk (wpAny_pyIter_tuple hl ?_)
  refine ⟨_, _, _, _, _, _, _, rfl, Walks.tuple (A := A.in1) hh _ l (Nat.ne_of_lt hlt) (intItems xs), ⟨⟨_, Heap.get?_push_size _ rfl, rfl, rfl⟩, hl.push _⟩, fun b hb => ?_, by simpa [intItems] using hsz, CmpOf.ints_lt (numAt xs) (fun _ _ => intItems_at), fun v h' tk hv hk => ?_⟩
  · show b < (s.heap.push _).objs.size
    rw [Heap.size_push]
    have hb' : b = s.heap.objs.size ∨ b = l := by simpa using hb
    rcases hb' with z | z
    · rw [z]; exact Nat.lt_succ_self _
    · rw [z]; exact Nat.lt_succ_of_lt hlt
  · have hv' : (intItems xs)[argBest (fun i j => decide (numAt xs i < numAt xs j)) (xs.size - 1)]? = some v := by simpa [intItems] using hv
    obtain ⟨t, rfl⟩ := intItems_at hv'
    obtain ⟨h1, h2⟩ := argBest_lt (numAt xs) (xs.size - 1)
    refine h h' tk _ t (old_keptT hk) ?_ fun a ha => ?_
    · rw [numAt_eq]; exact PySem.getD_mem (by rw [List.length_map, Array.length_toList]; omega)
    · obtain ⟨j, hj, rfl⟩ := mem_getD ha
      have hj2 : j < xs.size := by simpa using hj
      rw [← numAt_eq]; exact h2 j (by omega)
end
section
variable {X : Cx}
def rMaxT (K : PySem.W.Frag) : List V → Hp → VK → Prop := fun vs H Q => ∃ (a : Addr) (ns : List Int), vs = [V.ref a] ∧ SqT K H a (ns.map V.int) ∧ 0 < ns.length ∧ ∀ m, m ∈ ns → (∀ y, y ∈ ns → y ≤ m) → Q (.int m) H
def rMinT (K : PySem.W.Frag) : List V → Hp → VK → Prop := fun vs H Q => ∃ (a : Addr) (ns : List Int), vs = [V.ref a] ∧ SqT K H a (ns.map V.int) ∧ 0 < ns.length ∧ ∀ m, m ∈ ns → (∀ y, y ∈ ns → m ≤ y) → Q (.int m) H
theorem call_maxT (hc : X.calm = true) : CallR X (.builtin "max") (rMaxT X.K) := by
  intro pins s σ H vs us Q I r h
  obtain ⟨a, ns, rfl, hs, hne, q⟩ := h
  obtain ⟨its, rv, hl, _⟩ := I.tuple hs
  rw [Vals.ref1 r]
  exact maxT_raw (I.ok.hd hc) hl rv.ints hne fun h' tk m t' hk h1 h2 => ⟨.int _, H, I.kept hk, ⟨_, rfl⟩, q m h1 h2⟩
theorem call_minT (hc : X.calm = true) : CallR X (.builtin "min") (rMinT X.K) := by
  intro pins s σ H vs us Q I r h
  obtain ⟨a, ns, rfl, hs, hne, q⟩ := h
  obtain ⟨its, rv, hl, _⟩ := I.tuple hs
  rw [Vals.ref1 r]
  exact minT_raw (I.ok.hd hc) hl rv.ints hne fun h' tk m t' hk h1 h2 => ⟨.int _, H, I.kept hk, ⟨_, rfl⟩, q m h1 h2⟩
end
end MxT
namespace RgS
open PySem PySem.Spec PyProof.Rows L2
/-! ### list(range(a, b, c)); min of three -/
section
variable {X : Cx} {a b c : Expr} {ta : TA} {te : TE}
theorem call_min3 (hc : X.calm = true) : CallR X (.builtin "min") (fun xs H Q => ∃ i j k, xs = [.int i, .int j, .int k] ∧ ∀ m : Int, (m = i ∨ m = j ∨ m = k) → m ≤ i → m ≤ j → m ≤ k → Q (.int m) H) := by
  intro pins s σ H xs us Q I r h
  obtain ⟨i, j, k, rfl, q⟩ := h
  cases r with
  | cons r rr =>
    cases rr with
    | cons r' rr =>
      cases rr with
      | cons r'' rr =>
        cases rr
        obtain ⟨t, rfl⟩ := r
        obtain ⟨t', rfl⟩ := r'
        obtain ⟨t'', rfl⟩ := r''
        refine min_three_ints (I.ok.hd hc) fun h' tk kk => ?_
        by_cases h1 : j < i
        · rw [if_pos h1]
          by_cases h2 : k < j
          · rw [if_pos h2]
            exact ⟨.int k, H, I.kept kk, ⟨_, rfl⟩, q k (.inr (.inr rfl)) (by omega) (by omega) (by omega)⟩
          · rw [if_neg h2]
            exact ⟨.int j, H, I.kept kk, ⟨_, rfl⟩, q j (.inr (.inl rfl)) (by omega) (by omega) (by omega)⟩
        · rw [if_neg h1]
          by_cases h2 : k < i
          · rw [if_pos h2]
            exact ⟨.int k, H, I.kept kk, ⟨_, rfl⟩, q k (.inr (.inr rfl)) (by omega) (by omega) (by omega)⟩
          · rw [if_neg h2]
            exact ⟨.int i, H, I.kept kk, ⟨_, rfl⟩, q i (.inl rfl) (by omega) (by omega) (by omega)⟩
/-- the ints i, i + c, .., n of them -/
def rgCV (i c : Int) (n : Nat) : List V := (List.range n).map fun k => V.int (i + (k : Nat) * c)
theorem vals_rgC {i c : Int} {n : Nat} {acc : Array Value} (h : ItemsOf (fun k v => ∃ t, v = .int (i + k * c) t) acc n) : Vals (rgCV i c n) acc.toList := by
  have e : acc.toList.length = n := by rw [Array.length_toList]; exact h.1
  unfold rgCV
  rw [← e]
  refine vals_of_get acc.toList _ fun j u hj => ?_
  obtain ⟨t, rfl⟩ := h.2 j u (by rw [← hj, Array.getElem?_toList])
  exact ⟨t, rfl⟩
/-- an expression that makes a range with a step -/
def PRgC (X : Cx) (e : Expr) (t : L2.St → Hp → (Int → Int → Int → Hp → Prop) → Prop) : Prop :=
  ∀ (pins : List (Addr × Obj)) (s : Shared) (σ : L2.St) (H : Hp) (Q : Int → Int → Int → Hp → Prop), Inv X pins σ H s → t σ H Q →
    wpAny (model X.prog X.w) X.A (eval e X.env) (fun x s' => ∃ r i j k t u v H', x = .ref r ∧ IsRange s'.heap r i j k t u v ∧ Inv X pins σ H' s' ∧ Q i j k H') X.xe s
def tRg3 (ta : TA) : L2.St → Hp → (Int → Int → Int → Hp → Prop) → Prop := fun σ H Q => ta σ H fun vs H1 => ∃ (i j c : Int), vs = [.int i, .int j, .int c] ∧ c ≠ 0 ∧ c.natAbs < 1073741824 ∧ Q i j c H1
theorem prg_3 {p pos : Pos} (hg : Gl X "range") (hm : X.mg "range" = none) (ha : L2.PA X [a, b, c] ta)
    (hs : starEach [a, b, c] X.env = (false, eval a X.env) :: starEach [b, c] X.env := by rfl) (hpl : (backTo pos (starEach [b, c] X.env)).any (·.1) = false := by rfl) :
    PRgC X (.Call (.Name "range" p) [a, b, c] [] pos) (tRg3 ta) := by
  intro pins s σ H Q I h
  refine Call_ (ld_blt I hg hm PyProof.Rows.boot_range (PyProof.Rows.callWith_type1 (thn (ha.run pos pins s σ H _ I h) fun us s1 ⟨vs, H1, I1, r1, q1⟩ => ?_) hs hpl))
  obtain ⟨i, j, k, e, c0, c1, q⟩ := q1
  subst e
  cases r1 with
  | cons r rr =>
    cases rr with
    | cons r' rr =>
      cases rr with
      | cons r'' rr =>
        cases rr
        obtain ⟨t, rfl⟩ := r
        obtain ⟨t', rfl⟩ := r'
        obtain ⟨t'', rfl⟩ := r''
        refine call_range_3 c0 ?_ (.inl (PyProof.noPylong_small c1))
        exact ⟨_, i, j, k, _, _, _, H1, rfl, IsRange.new _ _ _ _ _ _ _, I1.kept fun b u e => Heap.get?_push_of_some _ e, q⟩
def tLstRgC (te : L2.St → Hp → (Int → Int → Int → Hp → Prop) → Prop) : TE := fun σ H Q => te σ H fun i j c H1 => ∃ n : Nat, RgC i j c n ∧ n ≤ 1000000 ∧ ∀ q, H1 q = none → Q (.ref q) (upd H1 q (.lst (rgCV i c n)))
theorem pe_listRgC {e : Expr} {tr : L2.St → Hp → (Int → Int → Int → Hp → Prop) → Prop} {p pos : Pos} (hc : X.calm = true) (hg : Gl X "list") (hm : X.mg "list" = none) (he : PRgC X e tr) (na : starEach [e] X.env = (false, eval e X.env) :: starEach [] X.env := by rfl) : PE X (.Call (.Name "list" p) [e] [] pos) (tLstRgC tr) := by
  refine ⟨fun pins s σ H Q I h => ?_⟩
  refine Call_ (ld_blt I hg hm PyProof.Rows.boot_list (PyProof.Rows.callWith_type1 (PyProof.Rows.args_cons (thn (he pins s σ H _ I h) fun x s1 ⟨r, i, j, k, t, u, v, H1, ex, hr, I1, n, ok, b5, q⟩ => PyProof.Rows.args_nil ?_) na) na))
  subst ex
  refine call_list_range (n := n) (I1.ok.hd hc) hr ok.2.2.1 ok.2.2.2 (by omega) fun h' tk acc c' hk e' hi => ?_
  refine ⟨.ref s1.heap.objs.size, upd H1 s1.heap.objs.size (.lst (rgCV i k n)), I1.laid hk (Nat.le_refl _) (show ObjOk X.prog X.w _ _ _ (.lst (rgCV i k n)) from ⟨?_, acc.toList, c', vals_rgC hi, ?_⟩), rfl, q _ (I1.hok.fresh (Nat.le_refl _))⟩
  · unfold rgCV
    rw [List.length_map, List.length_range, sizeLine_eq]
    omega
  · rw [Array.toArray_toList]; exact e'
end
end RgS
namespace Mine
open PySem L2
open ZG (Sq ItzG walk_zipG)
def top (i : Nat) : Stmt := PySem.Challenge.pw_neverhappens_k22_whole_boxes_are_their_p.main.body.getD i (.Pass ⟨0, 0, 0, 0⟩)
abbrev s_close : Stmt := top 1
abbrev s_has_contradiction : Stmt := top 2
abbrev s_shortened : Stmt := top 3
abbrev s_frozen : Stmt := top 4
abbrev s_range_box : Stmt := top 5
abbrev s_bound : Stmt := top 6
abbrev s_meet_boxes : Stmt := top 7
abbrev s_add_columns : Stmt := top 9
abbrev s_limits_over : Stmt := top 10
abbrev s_pick_columns : Stmt := top 11
abbrev s_with_column : Stmt := top 12
abbrev s_free_column : Stmt := top 13
abbrev s_shift_column : Stmt := top 14
abbrev s_tie_boxes : Stmt := top 15
abbrev s_l_cell : Stmt := top 17
abbrev s_l_source : Stmt := top 18
abbrev s_l_pick : Stmt := top 19
abbrev s_l_hull : Stmt := top 20
abbrev s_l_belongs : Stmt := top 21
abbrev s_l_grid : Stmt := top 22
abbrev s_l_same : Stmt := top 23
abbrev s_l_points : Stmt := top 24
abbrev s_l_fits : Stmt := top 25
abbrev s_l_start : Stmt := top 26
abbrev s_l_distinct : Stmt := top 27
abbrev s_l_part : Stmt := top 28
abbrev s_l_columns : Stmt := top 29
abbrev s_l_near_box : Stmt := top 30
abbrev s_l_cut : Stmt := top 31
abbrev s_l_moved_points : Stmt := top 32
abbrev s_l_few : Stmt := top 33
abbrev s_l_change : Stmt := top 34
abbrev s_law : Stmt := top 35
abbrev p_close : List Str := ["matrix"]
abbrev p_has_contradiction : List Str := ["rows"]
abbrev p_shortened : List Str := ["rows", "middle"]
abbrev p_frozen : List Str := ["rows"]
abbrev p_range_box : List Str := ["ranges"]
abbrev p_bound : List Str := ["box", "i", "j", "most"]
abbrev p_meet_boxes : List Str := ["a", "b"]
abbrev p_add_columns : List Str := ["box", "ranges"]
abbrev p_limits_over : List Str := ["first", "limits"]
abbrev p_pick_columns : List Str := ["box", "columns"]
abbrev p_with_column : List Str := ["box", "i", "above", "below"]
abbrev p_free_column : List Str := ["box", "i", "lo", "hi"]
abbrev p_shift_column : List Str := ["box", "i", "low", "high"]
abbrev p_tie_boxes : List Str := ["box", "other", "columns"]
abbrev p_l_cell : List Str := ["_law_script", "_law_at"]
abbrev p_l_source : List Str := ["_law_cell_here"]
abbrev p_l_pick : List Str := ["_law_source_here", "_law_size"]
abbrev p_l_hull : List Str := ["_law_points_here", "_law_size"]
abbrev p_l_belongs : List Str := ["_law_matrix", "_law_point"]
abbrev p_l_grid : List Str := ["_law_ranges"]
abbrev p_l_same : List Str := ["_law_actual", "_law_due"]
abbrev p_l_points : List Str := ["_law_matrix"]
abbrev p_l_fits : List Str := ["_law_matrix", "_law_point", "_law_c", "_law_value"]
abbrev p_l_start : List Str := ["_law_source_here", "_law_size"]
abbrev p_l_distinct : List Str := ["_law_points_here"]
abbrev p_l_part : List Str := ["_law_point", "_law_columns_here"]
abbrev p_l_columns : List Str := ["_law_source_here", "_law_size", "_law_upto"]
abbrev p_l_near_box : List Str := ["_law_source_here", "_law_base"]
abbrev p_l_cut : List Str := ["_law_source_here", "_law_state"]
abbrev p_l_moved_points : List Str := ["_law_points_here", "_law_i", "_law_low", "_law_high", "_law_free"]
abbrev p_l_few : List Str := ["_law_points_here", "_law_size"]
abbrev p_l_change : List Str := ["_law_source_here", "_law_state"]
abbrev p_law : List Str := ["_law_script"]
/-- what the program's top leaves: where each def stands -/
structure Txt (w : World) (K : PySem.W.Frag) (mg : Str → Option Value) where
  a_close : Addr
  d_close : FuncData
  F_close : Fun K "close" "close" s_close a_close d_close
  b_close : Binds K d_close p_close []
  m_close : mg "close" = some (.ref a_close)
  a_has_contradiction : Addr
  d_has_contradiction : FuncData
  F_has_contradiction : Fun K "has_contradiction" "has_contradiction" s_has_contradiction a_has_contradiction d_has_contradiction
  b_has_contradiction : Binds K d_has_contradiction p_has_contradiction []
  m_has_contradiction : mg "has_contradiction" = some (.ref a_has_contradiction)
  a_shortened : Addr
  d_shortened : FuncData
  F_shortened : Fun K "shortened" "shortened" s_shortened a_shortened d_shortened
  b_shortened : Binds K d_shortened p_shortened []
  m_shortened : mg "shortened" = some (.ref a_shortened)
  a_frozen : Addr
  d_frozen : FuncData
  F_frozen : Fun K "frozen" "frozen" s_frozen a_frozen d_frozen
  b_frozen : Binds K d_frozen p_frozen []
  m_frozen : mg "frozen" = some (.ref a_frozen)
  a_range_box : Addr
  d_range_box : FuncData
  F_range_box : Fun K "range_box" "range_box" s_range_box a_range_box d_range_box
  b_range_box : Binds K d_range_box p_range_box []
  m_range_box : mg "range_box" = some (.ref a_range_box)
  a_bound : Addr
  d_bound : FuncData
  F_bound : Fun K "bound" "bound" s_bound a_bound d_bound
  b_bound : Binds K d_bound p_bound []
  m_bound : mg "bound" = some (.ref a_bound)
  a_meet_boxes : Addr
  d_meet_boxes : FuncData
  F_meet_boxes : Fun K "meet_boxes" "meet_boxes" s_meet_boxes a_meet_boxes d_meet_boxes
  b_meet_boxes : Binds K d_meet_boxes p_meet_boxes []
  m_meet_boxes : mg "meet_boxes" = some (.ref a_meet_boxes)
  a_add_columns : Addr
  d_add_columns : FuncData
  F_add_columns : Fun K "add_columns" "add_columns" s_add_columns a_add_columns d_add_columns
  b_add_columns : Binds K d_add_columns p_add_columns []
  m_add_columns : mg "add_columns" = some (.ref a_add_columns)
  a_limits_over : Addr
  d_limits_over : FuncData
  F_limits_over : Fun K "limits_over" "limits_over" s_limits_over a_limits_over d_limits_over
  b_limits_over : Binds K d_limits_over p_limits_over []
  m_limits_over : mg "limits_over" = some (.ref a_limits_over)
  a_pick_columns : Addr
  d_pick_columns : FuncData
  F_pick_columns : Fun K "pick_columns" "pick_columns" s_pick_columns a_pick_columns d_pick_columns
  b_pick_columns : Binds K d_pick_columns p_pick_columns []
  m_pick_columns : mg "pick_columns" = some (.ref a_pick_columns)
  a_with_column : Addr
  d_with_column : FuncData
  F_with_column : Fun K "with_column" "with_column" s_with_column a_with_column d_with_column
  b_with_column : Binds K d_with_column p_with_column []
  m_with_column : mg "with_column" = some (.ref a_with_column)
  a_free_column : Addr
  d_free_column : FuncData
  F_free_column : Fun K "free_column" "free_column" s_free_column a_free_column d_free_column
  b_free_column : Binds K d_free_column p_free_column []
  m_free_column : mg "free_column" = some (.ref a_free_column)
  a_shift_column : Addr
  d_shift_column : FuncData
  F_shift_column : Fun K "shift_column" "shift_column" s_shift_column a_shift_column d_shift_column
  b_shift_column : Binds K d_shift_column p_shift_column []
  m_shift_column : mg "shift_column" = some (.ref a_shift_column)
  a_tie_boxes : Addr
  d_tie_boxes : FuncData
  F_tie_boxes : Fun K "tie_boxes" "tie_boxes" s_tie_boxes a_tie_boxes d_tie_boxes
  b_tie_boxes : Binds K d_tie_boxes p_tie_boxes []
  m_tie_boxes : mg "tie_boxes" = some (.ref a_tie_boxes)
  a_l_cell : Addr
  d_l_cell : FuncData
  F_l_cell : Fun K "_law_cell" "_law_cell" s_l_cell a_l_cell d_l_cell
  b_l_cell : Binds K d_l_cell p_l_cell []
  m_l_cell : mg "_law_cell" = some (.ref a_l_cell)
  a_l_source : Addr
  d_l_source : FuncData
  F_l_source : Fun K "_law_source" "_law_source" s_l_source a_l_source d_l_source
  b_l_source : Binds K d_l_source p_l_source []
  m_l_source : mg "_law_source" = some (.ref a_l_source)
  a_l_pick : Addr
  d_l_pick : FuncData
  F_l_pick : Fun K "_law_pick" "_law_pick" s_l_pick a_l_pick d_l_pick
  b_l_pick : Binds K d_l_pick p_l_pick []
  m_l_pick : mg "_law_pick" = some (.ref a_l_pick)
  a_l_hull : Addr
  d_l_hull : FuncData
  F_l_hull : Fun K "_law_hull" "_law_hull" s_l_hull a_l_hull d_l_hull
  b_l_hull : Binds K d_l_hull p_l_hull []
  m_l_hull : mg "_law_hull" = some (.ref a_l_hull)
  a_l_belongs : Addr
  d_l_belongs : FuncData
  F_l_belongs : Fun K "_law_belongs" "_law_belongs" s_l_belongs a_l_belongs d_l_belongs
  b_l_belongs : Binds K d_l_belongs p_l_belongs []
  m_l_belongs : mg "_law_belongs" = some (.ref a_l_belongs)
  a_l_grid : Addr
  d_l_grid : FuncData
  F_l_grid : Fun K "_law_grid" "_law_grid" s_l_grid a_l_grid d_l_grid
  b_l_grid : Binds K d_l_grid p_l_grid []
  m_l_grid : mg "_law_grid" = some (.ref a_l_grid)
  a_l_same : Addr
  d_l_same : FuncData
  F_l_same : Fun K "_law_same" "_law_same" s_l_same a_l_same d_l_same
  b_l_same : Binds K d_l_same p_l_same []
  m_l_same : mg "_law_same" = some (.ref a_l_same)
  a_l_points : Addr
  d_l_points : FuncData
  F_l_points : Fun K "_law_points" "_law_points" s_l_points a_l_points d_l_points
  b_l_points : Binds K d_l_points p_l_points []
  m_l_points : mg "_law_points" = some (.ref a_l_points)
  a_l_fits : Addr
  d_l_fits : FuncData
  F_l_fits : Fun K "_law_fits" "_law_fits" s_l_fits a_l_fits d_l_fits
  b_l_fits : Binds K d_l_fits p_l_fits []
  m_l_fits : mg "_law_fits" = some (.ref a_l_fits)
  a_l_start : Addr
  d_l_start : FuncData
  F_l_start : Fun K "_law_start" "_law_start" s_l_start a_l_start d_l_start
  b_l_start : Binds K d_l_start p_l_start []
  m_l_start : mg "_law_start" = some (.ref a_l_start)
  a_l_distinct : Addr
  d_l_distinct : FuncData
  F_l_distinct : Fun K "_law_distinct" "_law_distinct" s_l_distinct a_l_distinct d_l_distinct
  b_l_distinct : Binds K d_l_distinct p_l_distinct []
  m_l_distinct : mg "_law_distinct" = some (.ref a_l_distinct)
  a_l_part : Addr
  d_l_part : FuncData
  F_l_part : Fun K "_law_part" "_law_part" s_l_part a_l_part d_l_part
  b_l_part : Binds K d_l_part p_l_part []
  m_l_part : mg "_law_part" = some (.ref a_l_part)
  a_l_columns : Addr
  d_l_columns : FuncData
  F_l_columns : Fun K "_law_columns" "_law_columns" s_l_columns a_l_columns d_l_columns
  b_l_columns : Binds K d_l_columns p_l_columns []
  m_l_columns : mg "_law_columns" = some (.ref a_l_columns)
  a_l_near_box : Addr
  d_l_near_box : FuncData
  F_l_near_box : Fun K "_law_near_box" "_law_near_box" s_l_near_box a_l_near_box d_l_near_box
  b_l_near_box : Binds K d_l_near_box p_l_near_box []
  m_l_near_box : mg "_law_near_box" = some (.ref a_l_near_box)
  a_l_cut : Addr
  d_l_cut : FuncData
  F_l_cut : Fun K "_law_cut" "_law_cut" s_l_cut a_l_cut d_l_cut
  b_l_cut : Binds K d_l_cut p_l_cut []
  m_l_cut : mg "_law_cut" = some (.ref a_l_cut)
  a_l_moved_points : Addr
  d_l_moved_points : FuncData
  F_l_moved_points : Fun K "_law_moved_points" "_law_moved_points" s_l_moved_points a_l_moved_points d_l_moved_points
  b_l_moved_points : Binds K d_l_moved_points p_l_moved_points []
  m_l_moved_points : mg "_law_moved_points" = some (.ref a_l_moved_points)
  a_l_few : Addr
  d_l_few : FuncData
  F_l_few : Fun K "_law_few" "_law_few" s_l_few a_l_few d_l_few
  b_l_few : Binds K d_l_few p_l_few []
  m_l_few : mg "_law_few" = some (.ref a_l_few)
  a_l_change : Addr
  d_l_change : FuncData
  F_l_change : Fun K "_law_change" "_law_change" s_l_change a_l_change d_l_change
  b_l_change : Binds K d_l_change p_l_change []
  m_l_change : mg "_law_change" = some (.ref a_l_change)
  a_law : Addr
  d_law : FuncData
  F_law : Fun K "law" "law" s_law a_law d_law
  b_law : Binds K d_law p_law []
  m_law : mg "law" = some (.ref a_law)
  z_any : mg "any" = none
  z_bool : mg "bool" = none
  z_enumerate : mg "enumerate" = none
  z_int : mg "int" = none
  z_isinstance : mg "isinstance" = none
  z_len : mg "len" = none
  z_list : mg "list" = none
  z_max : mg "max" = none
  z_min : mg "min" = none
  z_range : mg "range" = none
  z_str : mg "str" = none
  z_tuple : mg "tuple" = none
  z_zip : mg "zip" = none
abbrev n_close : List Str := ["matrix", "rows", "i", "row", "j", "most", "middle"]
theorem sc_close : FnScope n_close p_close (defScope s_close) := ⟨rfl, rfl, rfl, by decide +kernel, rfl, by decide +kernel, by decide +kernel⟩
abbrev n_has_contradiction : List Str := ["rows", "at", "row"]
theorem sc_has_contradiction : FnScope n_has_contradiction p_has_contradiction (defScope s_has_contradiction) := ⟨rfl, rfl, rfl, by decide +kernel, rfl, by decide +kernel, by decide +kernel⟩
abbrev n_shortened : List Str := ["rows", "middle", "through", "row", "most", "second"]
theorem sc_shortened : FnScope n_shortened p_shortened (defScope s_shortened) := ⟨rfl, rfl, rfl, by decide +kernel, rfl, by decide +kernel, by decide +kernel⟩
abbrev n_frozen : List Str := ["rows", "row"]
theorem sc_frozen : FnScope n_frozen p_frozen (defScope s_frozen) := ⟨rfl, rfl, rfl, by decide +kernel, rfl, by decide +kernel, by decide +kernel⟩
abbrev n_range_box : List Str := ["ranges", "low", "high", "ends", "i", "_", "j"]
theorem sc_range_box : FnScope n_range_box p_range_box (defScope s_range_box) := ⟨rfl, rfl, rfl, by decide +kernel, rfl, by decide +kernel, by decide +kernel⟩
abbrev n_bound : List Str := ["box", "i", "j", "most", "behind", "second", "row", "old"]
theorem sc_bound : FnScope n_bound p_bound (defScope s_bound) := ⟨rfl, rfl, rfl, by decide +kernel, rfl, by decide +kernel, by decide +kernel⟩
abbrev n_meet_boxes : List Str := ["a", "b", "row", "other", "pair"]
theorem sc_meet_boxes : FnScope n_meet_boxes p_meet_boxes (defScope s_meet_boxes) := ⟨rfl, rfl, rfl, by decide +kernel, rfl, by decide +kernel, by decide +kernel⟩
abbrev n_add_columns : List Str := ["box", "ranges", "added", "rows", "row"]
theorem sc_add_columns : FnScope n_add_columns p_add_columns (defScope s_add_columns) := ⟨rfl, rfl, rfl, by decide +kernel, rfl, by decide +kernel, by decide +kernel⟩
abbrev n_limits_over : List Str := ["first", "limits", "second"]
theorem sc_limits_over : FnScope n_limits_over p_limits_over (defScope s_limits_over) := ⟨rfl, rfl, rfl, by decide +kernel, rfl, by decide +kernel, by decide +kernel⟩
abbrev n_pick_columns : List Str := ["box", "columns", "picked", "i", "j"]
theorem sc_pick_columns : FnScope n_pick_columns p_pick_columns (defScope s_pick_columns) := ⟨rfl, rfl, rfl, by decide +kernel, rfl, by decide +kernel, by decide +kernel⟩
abbrev n_with_column : List Str := ["box", "i", "above", "below", "rows", "row", "most"]
theorem sc_with_column : FnScope n_with_column p_with_column (defScope s_with_column) := ⟨rfl, rfl, rfl, by decide +kernel, rfl, by decide +kernel, by decide +kernel⟩
abbrev n_free_column : List Str := ["box", "i", "lo", "hi", "above", "most", "below", "row"]
theorem sc_free_column : FnScope n_free_column p_free_column (defScope s_free_column) := ⟨rfl, rfl, rfl, by decide +kernel, rfl, by decide +kernel, by decide +kernel⟩
abbrev n_shift_column : List Str := ["box", "i", "low", "high", "above", "most", "below", "row"]
theorem sc_shift_column : FnScope n_shift_column p_shift_column (defScope s_shift_column) := ⟨rfl, rfl, rfl, by decide +kernel, rfl, by decide +kernel, by decide +kernel⟩
abbrev n_tie_boxes : List Str := ["box", "other", "columns", "tied", "rows", "row", "i", "j", "most"]
theorem sc_tie_boxes : FnScope n_tie_boxes p_tie_boxes (defScope s_tie_boxes) := ⟨rfl, rfl, rfl, by decide +kernel, rfl, by decide +kernel, by decide +kernel⟩
abbrev n_l_cell : List Str := ["_law_script", "_law_at"]
theorem sc_l_cell : FnScope n_l_cell p_l_cell (defScope s_l_cell) := ⟨rfl, rfl, rfl, by decide +kernel, rfl, by decide +kernel, by decide +kernel⟩
abbrev n_l_source : List Str := ["_law_cell_here"]
theorem sc_l_source : FnScope n_l_source p_l_source (defScope s_l_source) := ⟨rfl, rfl, rfl, by decide +kernel, rfl, by decide +kernel, by decide +kernel⟩
abbrev n_l_pick : List Str := ["_law_source_here", "_law_size", "_law_k", "_law_digit", "_law_mixed"]
theorem sc_l_pick : FnScope n_l_pick p_l_pick (defScope s_l_pick) := ⟨rfl, rfl, rfl, by decide +kernel, rfl, by decide +kernel, by decide +kernel⟩
abbrev n_l_hull : List Str := ["_law_points_here", "_law_size", "_law_rows", "_law_i", "_law_row", "_law_j", "_law_point"]
theorem sc_l_hull : FnScope n_l_hull p_l_hull (defScope s_l_hull) := ⟨rfl, rfl, rfl, by decide +kernel, rfl, by decide +kernel, by decide +kernel⟩
abbrev n_l_belongs : List Str := ["_law_matrix", "_law_point", "_law_full", "_law_i", "_law_j"]
theorem sc_l_belongs : FnScope n_l_belongs p_l_belongs (defScope s_l_belongs) := ⟨rfl, rfl, rfl, by decide +kernel, rfl, by decide +kernel, by decide +kernel⟩
abbrev n_l_grid : List Str := ["_law_ranges", "_law_points_here", "_law_pair", "_law_longer", "_law_point", "_law_value"]
theorem sc_l_grid : FnScope n_l_grid p_l_grid (defScope s_l_grid) := ⟨rfl, rfl, rfl, by decide +kernel, rfl, by decide +kernel, by decide +kernel⟩
abbrev n_l_same : List Str := ["_law_actual", "_law_due", "_law_k"]
theorem sc_l_same : FnScope n_l_same p_l_same (defScope s_l_same) := ⟨rfl, rfl, rfl, by decide +kernel, rfl, by decide +kernel, by decide +kernel⟩
abbrev n_l_points : List Str := ["_law_matrix", "_law_i", "_law_points_here", "_law_c", "_law_longer", "_law_point", "_law_value"]
theorem sc_l_points : FnScope n_l_points p_l_points (defScope s_l_points) := ⟨rfl, rfl, rfl, by decide +kernel, rfl, by decide +kernel, by decide +kernel⟩
abbrev n_l_fits : List Str := ["_law_matrix", "_law_point", "_law_c", "_law_value", "_law_k"]
theorem sc_l_fits : FnScope n_l_fits p_l_fits (defScope s_l_fits) := ⟨rfl, rfl, rfl, by decide +kernel, rfl, by decide +kernel, by decide +kernel⟩
abbrev n_l_start : List Str := ["_law_source_here", "_law_size", "_law_near", "_law_k", "_law_value", "_law_points_here"]
theorem sc_l_start : FnScope n_l_start p_l_start (defScope s_l_start) := ⟨rfl, rfl, rfl, by decide +kernel, rfl, by decide +kernel, by decide +kernel⟩
abbrev n_l_distinct : List Str := ["_law_points_here", "_law_kept", "_law_seen", "_law_point"]
theorem sc_l_distinct : FnScope n_l_distinct p_l_distinct (defScope s_l_distinct) := ⟨rfl, rfl, rfl, by decide +kernel, rfl, by decide +kernel, by decide +kernel⟩
abbrev n_l_part : List Str := ["_law_point", "_law_columns_here", "_law_c"]
theorem sc_l_part : FnScope n_l_part p_l_part (defScope s_l_part) := ⟨rfl, rfl, rfl, by decide +kernel, rfl, by decide +kernel, by decide +kernel⟩
abbrev n_l_columns : List Str := ["_law_source_here", "_law_size", "_law_upto", "_law_columns_here", "_law_k"]
theorem sc_l_columns : FnScope n_l_columns p_l_columns (defScope s_l_columns) := ⟨rfl, rfl, rfl, by decide +kernel, rfl, by decide +kernel, by decide +kernel⟩
abbrev n_l_near_box : List Str := ["_law_source_here", "_law_base", "_law_points_here", "_law_k", "_law_value"]
theorem sc_l_near_box : FnScope n_l_near_box p_l_near_box (defScope s_l_near_box) := ⟨rfl, rfl, rfl, by decide +kernel, rfl, by decide +kernel, by decide +kernel⟩
abbrev n_l_cut : List Str := ["_law_source_here", "_law_state", "_law_points_here", "_law_size", "_law_box", "_law_base", "_law_choice", "_law_columns_here", "_law_other", "_law_i", "_law_j", "_law_number", "_law_below", "_law_point"]
theorem sc_l_cut : FnScope n_l_cut p_l_cut (defScope s_l_cut) := ⟨rfl, rfl, rfl, by decide +kernel, rfl, by decide +kernel, by decide +kernel⟩
abbrev n_l_moved_points : List Str := ["_law_points_here", "_law_i", "_law_low", "_law_high", "_law_free", "_law_found", "_law_point", "_law_value"]
theorem sc_l_moved_points : FnScope n_l_moved_points p_l_moved_points (defScope s_l_moved_points) := ⟨rfl, rfl, rfl, by decide +kernel, rfl, by decide +kernel, by decide +kernel⟩
abbrev n_l_few : List Str := ["_law_points_here", "_law_size"]
theorem sc_l_few : FnScope n_l_few p_l_few (defScope s_l_few) := ⟨rfl, rfl, rfl, by decide +kernel, rfl, by decide +kernel, by decide +kernel⟩
abbrev n_l_change : List Str := ["_law_source_here", "_law_state", "_law_points_here", "_law_size", "_law_box", "_law_choice", "_law_columns_here", "_law_i", "_law_low", "_law_high", "_law_found", "_law_pairs", "_law_point", "_law_added", "_law_more"]
theorem sc_l_change : FnScope n_l_change p_l_change (defScope s_l_change) := ⟨rfl, rfl, rfl, by decide +kernel, rfl, by decide +kernel, by decide +kernel⟩
abbrev n_law : List Str := ["_law_script", "_law_source_here", "_law_size", "_law_box", "_law_state", "_law_k"]
theorem sc_law : FnScope n_law p_law (defScope s_law) := ⟨rfl, rfl, rfl, by decide +kernel, rfl, by decide +kernel, by decide +kernel⟩
/-! ### a list against the empty one -/
def rEqL0 (K : PySem.W.Frag) (neg : Bool) : R2 := fun x y H Q => ∃ (a b : Addr) (xs : List V), x = .ref a ∧ y = .ref b ∧ SqL K H a xs ∧ SqL K H b [] ∧ Q (.bl (if neg then !xs.isEmpty else xs.isEmpty)) H
theorem op_neL0 {X : Cx} (hu : X.A.units < cLine) : OpR X (compareOp .NotEq) (rEqL0 X.K true) := by
  intro pins s σ H x y v u Q I rx ry h
  obtain ⟨a, b, xs, rfl, rfl, ha, hb, q⟩ := h
  obtain rfl : v = Value.ref a := rx
  obtain rfl : u = Value.ref b := ry
  obtain ⟨its, r1, t1, _⟩ := I.list ha
  obtain ⟨its2, r2, t2, _⟩ := I.list hb
  cases r2
  cases r1 with
  | nil => exact SeqAt.RcNeAt.lists (e := fun _ => true) t1.isList t2.isList rfl hu (fun j h1 h2 => absurd h2 (by simp)) _ _ _ _ ⟨.bl _, H, I, rfl, q⟩
  | cons _ _ => exact SeqAt.RcNeAt.lists_lengths t1.isList t2.isList (by simp) hu _ _ _ _ ⟨.bl _, H, I, rfl, q⟩
theorem op_eqL0 {X : Cx} (hu : X.A.units < cLine) : OpR X (compareOp .Eq) (rEqL0 X.K false) := by
  intro pins s σ H x y v u Q I rx ry h
  obtain ⟨a, b, xs, rfl, rfl, ha, hb, q⟩ := h
  obtain rfl : v = Value.ref a := rx
  obtain rfl : u = Value.ref b := ry
  obtain ⟨its, r1, t1, _⟩ := I.list ha
  obtain ⟨its2, r2, t2, _⟩ := I.list hb
  cases r2
  cases r1 with
  | nil => exact SeqAt.eq_listAt (e := fun _ => true) t1.isList t2.isList rfl hu (fun j h1 h2 => absurd h2 (by simp)) ⟨.bl _, H, I, rfl, q⟩
  | cons _ _ => exact SeqAt.eq_list_lengthsAt t1.isList t2.isList (by simp) hu ⟨.bl _, H, I, rfl, q⟩
/-! ### built-in names -/
theorem bt_int : bootBuiltins "int" = some (.type "int") := by decide +kernel
theorem bt_str : bootBuiltins "str" = some (.type "str") := by decide +kernel
theorem bt_bool : bootBuiltins "bool" = some (.type "bool") := by decide +kernel
theorem bt_tuple : bootBuiltins "tuple" = some (.type "tuple") := by decide +kernel
theorem bt_list : bootBuiltins "list" = some (.type "list") := by decide +kernel
theorem bt_dict : bootBuiltins "dict" = some (.type "dict") := by decide +kernel
theorem bb_max : bootBuiltins "max" = some (.builtin "max") := by decide +kernel
theorem bb_min : bootBuiltins "min" = some (.builtin "min") := by decide +kernel
theorem bb_isinstance : bootBuiltins "isinstance" = some (.builtin "isinstance") := by decide +kernel
/-! ### a source of draws: a list of three ints, which draws alone change -/
def Src (H : Hp) (a : Addr) : Prop := ∃ c m k : Int, H a = some (.lst [.int c, .int m, .int k])
/-- a source stands at a, and nothing else that was tracked has changed -/
structure Stp (a : Addr) (H H' : Hp) : Prop where
  s : Src H' a
  k : ∀ b o, b ≠ a → H b = some o → H' b = some o
theorem Stp.refl {a : Addr} {H : Hp} (h : Src H a) : Stp a H H := ⟨h, fun _ _ _ e => e⟩
theorem Stp.trans {a : Addr} {H H1 H2 : Hp} (x : Stp a H H1) (y : Stp a H1 H2) : Stp a H H2 := ⟨y.s, fun b o hb e => y.k b o hb (x.k b o hb e)⟩
theorem Src.ne {a p : Addr} {H : Hp} (h : Src H a) (n : H p = none) : a ≠ p := by
  obtain ⟨c, m, k, h⟩ := h
  exact ne_of_none h n
theorem Stp.free {a p : Addr} {H H' : Hp} (x : Stp a H H') (n : H' p = none) : H p = none := by
  cases q : H p with
  | none => rfl
  | some o =>
    have ne : p ≠ a := fun z => x.s.ne n z.symm
    rw [x.k p o ne q] at n
    cases n
/-- a new object beside the source -/
theorem Stp.new {a p : Addr} {H H' : Hp} {o : HO} (x : Stp a H H') (n : H' p = none) : Stp a H (upd H' p o) := by
  have ne := x.s.ne n
  obtain ⟨c, m, k, h⟩ := x.s
  refine ⟨⟨c, m, k, by rw [upd_ne ne]; exact h⟩, fun b u hb e => ?_⟩
  have e' := x.k b u hb e
  rw [upd_ne (ne_of_none e' n)]
  exact e'
theorem Stp.same {a : Addr} {H H' H2 : Hp} (x : Stp a H H') (s : Same H' H2) : Stp a H H2 := by
  obtain ⟨c, m, k, h⟩ := x.s
  exact ⟨⟨c, m, k, s _ _ h⟩, fun b o hb e => s b o (x.k b o hb e)⟩
theorem Stp.of_same {a : Addr} {H H' : Hp} (h : Src H a) (s : Same H H') : Stp a H H' := (Stp.refl h).same s
theorem Same.new {H : Hp} {p : Addr} (h : H p = none) (o : HO) : Same H (upd H p o) := fun b u q => by rw [upd_ne (ne_of_none q h)]; exact q
/-- a source that is new ahead of its draws: all that was tracked stands -/
theorem Stp.fresh {a : Addr} {H H1 H2 : Hp} (s : Same H H1) (n : H a = none) (x : Stp a H1 H2) : Same H H2 := fun b o e => x.k b o (ne_of_none e n) (s b o e)
theorem Stp.rd {K : PySem.W.Frag} {a p : Addr} {H H' : Hp} {xs : List V} (x : Stp a H H') (h : SqT K H p xs) (hs : Src H a) : SqT K H' p xs := by
  obtain ⟨c, m, k, hs⟩ := hs
  rcases h with (h | ⟨o, h⟩) | h
  · exact .inl (.inl (x.k _ _ (ne_of h hs (by intro z; cases z)) h))
  · exact .inl (.inr ⟨o, x.k _ _ (ne_of h hs (by intro z; cases z)) h⟩)
  · exact .inr h
theorem Stp.rdL {K : PySem.W.Frag} {a p : Addr} {H H' : Hp} {xs : List V} (x : Stp a H H') (h : SqL K H p xs) (ne : p ≠ a) : SqL K H' p xs := by
  rcases h with (h | ⟨o, h⟩) | h
  · exact .inl (.inl (x.k _ _ ne h))
  · exact .inl (.inr ⟨o, x.k _ _ ne h⟩)
  · exact .inr h
theorem Same.tup {K : PySem.W.Frag} {p : Addr} {H H' : Hp} {xs : List V} (x : Same H H') (h : SqT K H p xs) : SqT K H' p xs := by
  rcases h with (h | ⟨o, h⟩) | h
  · exact .inl (.inl (x _ _ h))
  · exact .inl (.inr ⟨o, x _ _ h⟩)
  · exact .inr h
/-! ### numbers -/
theorem ifT {c : Bool} {A B : Prop} (h : c = true) (a : A) : if c = true then A else B := by rw [if_pos h]; exact a
theorem ifF {c : Bool} {A B : Prop} (h : c = false) (b : B) : if c = true then A else B := by rw [h]; exact iteF b
theorem fmod_bd {x m : Int} (h : 0 < m) : 0 ≤ x.fmod m ∧ x.fmod m < m := ⟨Int.fmod_nonneg_of_pos x h, Int.fmod_lt_of_pos x h⟩
theorem fm64 {x m : Int} (h : 0 < m) (h2 : m ≤ 2 ^ 64) : -(2 ^ 64) < x.fmod m ∧ x.fmod m < 2 ^ 64 :=
  ⟨Int.lt_of_lt_of_le (by decide) (fmod_bd h).1, Int.lt_of_lt_of_le (fmod_bd h).2 h2⟩
theorem atI_int {α : Type} {xs : List α} {r : Int} (h0 : 0 ≤ r) (h : r.toNat < xs.length) : atI xs r = some xs[r.toNat] := by
  have e := atI_nat (xs := xs) (j := r.toNat) (List.getElem?_eq_getElem h)
  rwa [Int.toNat_of_nonneg h0] at e
/-! ### the promises of the draws -/
def spCell (K : PySem.W.Frag) : Sp := fun vs H Q _ => ∃ (l : Addr) (ns : List Int) (j : Int), vs = [.ref l, .int j] ∧ SqL K H l (ns.map V.int) ∧ 0 ≤ j ∧ ∀ i : Int, Q (.int i) H
def spSource : Sp := fun vs H Q _ => ∃ c : Int, vs = [.int c] ∧ ∀ p H', H p = none → Same H H' → Src H' p → Q (.ref p) H'
def spPick : Sp := fun vs H Q _ => ∃ (a : Addr) (n : Int), vs = [.ref a, .int n] ∧ Src H a ∧ n < 1073741824 ∧ ∀ (r : Int) (H' : Hp), Stp a H H' → 0 ≤ r → (r < n ∨ r = 0) → Q (.int r) H'
def spOne (K : PySem.W.Frag) : Sp := fun vs H Q _ => ∃ (a : Addr) (row : V), vs = [.ref a, row] ∧ Src H a ∧
  ((∃ (p : Addr) (xs : List V), row = .ref p ∧ p ≠ a ∧ SqL K H p xs ∧ 0 < xs.length ∧ xs.length < 1000 ∧ ∀ v H', v ∈ xs → Stp a H H' → Q v H') ∨
   (∃ z : Str, row = .str z ∧ 0 < z.length ∧ z.length < 1000 ∧ ∀ (c : Nat) H', c ∈ z.cps.toList → Stp a H H' → Q (.str ⟨#[c]⟩) H'))
section
variable {P : Program} {w : World} {K : PySem.W.Frag} {mg : Str → Option Value} {base : Heap}
theorem ok_l_cell (T : Txt w K mg) : FnOk P w K mg base CX0 1 T.a_l_cell T.d_l_cell p_l_cell (spCell K) := by
  refine T.F_l_cell.ok sc_l_cell (fun vs H Q E h => ?_) (fun cdv A outer s H vs Q E hr h => ?_)
  · obtain ⟨l, ns, j, rfl, _⟩ := h
    rfl
  obtain ⟨l, ns, j, rfl, hS, h0, q⟩ := h
  refine ⟨_, (pss_cons (ps_if (pt_cmpR op_lt (pv 1) (pe_callB call_len_seq rfl T.z_len PySem.boot_len (pa_cons (pv 0) pa_nil)) (nomark _)) (pss_one (ps_ret (pe_ix ix_list (pv 0) (pv 1) (fun _ _ => rfl)))) pss_nil)
      (pss_one (ps_ret pe_int))), ?_⟩
  have hl : (ns.map V.int).length = ns.length := List.length_map _
  refine ⟨_, rfl, _, rfl, l, _, rfl, .inl hS, _, _, rfl, rfl, _, rfl, ?_⟩
  refine ite2 (fun c => ?_) (fun c => ?_)
  · have c' : j < (((ns.map V.int).length : Nat) : Int) := of_decide_eq_true c
    rw [hl] at c'
    have hk : j.toNat < ns.length := by omega
    have e := atI_int (xs := ns.map V.int) h0 (by omega)
    rw [List.getElem_map] at e
    exact ⟨_, rfl, _, rfl, l, _, _, _, rfl, rfl, hS, e, q _⟩
  · exact q 0
theorem ok_l_source (T : Txt w K mg) : FnOk P w K mg base CX0 1 T.a_l_source T.d_l_source p_l_source spSource := by
  refine T.F_l_source.ok sc_l_source (fun vs H Q E h => ?_) (fun cdv A outer s H vs Q E hr h => ?_)
  · obtain ⟨c, rfl, _⟩ := h
    rfl
  obtain ⟨c, rfl, q⟩ := h
  refine ⟨_, (pss_one (ps_ret (pe_lst (pa_cons (pv 0) (pa_cons (pv 0) (pa_cons pe_int pa_nil)))))), ?_⟩
  refine ⟨_, rfl, _, rfl, (by show 3 ≤ sizeLine; decide), fun p hp => ?_⟩
  exact q p _ hp (Same.new hp _) ⟨c, c, 0, upd_same⟩
theorem ok_l_pick (T : Txt w K mg) : FnOk P w K mg base CX0 1 T.a_l_pick T.d_l_pick p_l_pick spPick := by
  refine T.F_l_pick.ok sc_l_pick (fun vs H Q E h => ?_) (fun cdv A outer s H vs Q E hr h => ?_)
  · obtain ⟨a, n, rfl, _⟩ := h
    rfl
  obtain ⟨a, n, rfl, ⟨c, m, k, hS⟩, hn, q⟩ := h
  refine ⟨_, (pss_cons (ps_set (i := 2) sc_l_pick.nd rfl (Or.inl rfl) (pe_ix ix_list (pv 0) pe_int (fun _ _ => rfl)))
      (pss_cons (ps_asg (pe_op op_add (pv 2) pe_int) (pg_sub (pv 0) pe_int set_list))
      (pss_cons (ps_if (pt_cmpR op_lt (pv 1) pe_int (nomark _)) (pss_one (ps_ret pe_int)) pss_nil)
      (pss_cons (ps_if (PW.pt (pw_and (pt_cmpR op_ge (pe_ix ix_list (pv 0) pe_int (fun _ _ => rfl)) (pe_op op_pow pe_int pe_int) (nomark _)) (pw_and1 (pt_cmpR op_gt (pe_ix ix_list (pv 0) pe_int (fun _ _ => rfl)) pe_int (nomark _))))) (pss_cons (ps_set (i := 3) sc_l_pick.nd rfl (Or.inl rfl) (pe_op op_modN (pe_callTy call_int1 rfl T.z_int bt_int (pa_cons (pe_ix ix_list (pv 0) pe_int (fun _ _ => rfl)) pa_nil)) (pv 1)))
      (pss_cons (ps_asg (pe_op op_fdivN (pe_ix ix_list (pv 0) pe_int (fun _ _ => rfl)) (pv 1)) (pg_sub (pv 0) pe_int set_list))
      (pss_one (ps_ret (pv 3))))) pss_nil)
      (pss_cons (ps_set (i := 4) sc_l_pick.nd rfl (Or.inl rfl) (pe_op op_modN (pe_callTy call_int1 rfl T.z_int bt_int (pa_cons (pe_op op_add (pe_op op_add (pe_ix ix_list (pv 0) pe_int (fun _ _ => rfl)) (pe_op op_mul pe_int (pv 2))) pe_int) pa_nil)) pe_int))
      (pss_cons (ps_set (i := 4) sc_l_pick.nd rfl (Or.inl rfl) (pe_op op_modN (pe_callTy call_int1 rfl T.z_int bt_int (pa_cons (pe_op op_mul (pv 4) (pe_op op_add (pv 4) pe_int)) pa_nil)) pe_int))
      (pss_cons (ps_set (i := 4) sc_l_pick.nd rfl (Or.inl rfl) (pe_op op_modN (pe_callTy call_int1 rfl T.z_int bt_int (pa_cons (pe_op op_add (pe_op op_mul (pv 4) (pe_op op_add (pv 4) pe_int)) (pe_op op_mul pe_int (pv 2))) pa_nil)) pe_int))
      (pss_one (ps_ret (pe_op op_modN (pe_callTy call_int1 rfl T.z_int bt_int (pa_cons (pe_op op_fdivN (pv 4) pe_int) pa_nil)) (pv 1))))))))))), ?_⟩
  refine ⟨_, rfl, a, _, 2, _, rfl, rfl, SqL.of hS, rfl, ?_⟩
  refine ⟨_, rfl, k, 1, rfl, rfl, _, rfl, a, _, 2, 2, rfl, rfl, hS, rfl, ?_⟩
  have h1 : (upd H a (.lst [.int c, .int m, .int (k + 1)])) a = some (.lst [.int c, .int m, .int (k + 1)]) := upd_same
  have st : Stp a H (upd H a (.lst [.int c, .int m, .int (k + 1)])) := ⟨⟨c, m, k + 1, upd_same⟩, fun b o hb e => by rw [upd_ne hb]; exact e⟩
  refine ⟨_, rfl, n, 2, rfl, rfl, _, rfl, ?_⟩
  refine ite2 (fun _ => ?_) (fun c2 => ?_)
  · exact q 0 _ st (Int.le_refl 0) (.inr rfl)
  have hn2 : ¬ n < 2 := of_decide_eq_false (Bool.eq_false_iff.mpr c2)
  refine ⟨_, rfl, a, _, 0, _, rfl, rfl, SqL.of h1, rfl, 10, 18, rfl, rfl, ⟨by decide, by decide, by decide⟩, _, _, rfl, rfl, _, rfl, ?_⟩
  refine ite2 (fun _ => ⟨_, rfl, a, _, 1, _, rfl, rfl, SqL.of h1, rfl, _, _, rfl, rfl, _, rfl, ite2 (fun _ => ?first) (fun _ => ?second)⟩) (fun _ => iteF ?third)
  case first =>
    refine ⟨_, rfl, a, _, 1, _, rfl, rfl, SqL.of h1, rfl, .inl ⟨_, rfl, ?_⟩⟩
    refine ⟨_, rfl, _, _, rfl, rfl, by omega, ?_⟩
    refine ⟨_, rfl, a, _, 1, _, rfl, rfl, SqL.of h1, rfl, _, rfl, m, n, rfl, rfl, ⟨by omega, by omega⟩, _, rfl, a, _, 1, 1, rfl, rfl, h1, rfl, ?_⟩
    refine ⟨_, rfl, ?_⟩
    have b := fmod_bd (x := m) (m := n) (by omega)
    refine q _ _ ⟨⟨c, m.fdiv n, k + 1, upd_same⟩, fun b o hb e => ?_⟩ b.1 (.inl b.2)
    rw [upd_ne hb]
    exact st.k b o hb e
  all_goals
    refine ⟨_, rfl, a, _, 0, _, rfl, rfl, SqL.of h1, rfl, _, rfl, 7919, k, rfl, rfl, .inl ⟨by decide, by decide⟩, _, _, rfl, rfl, _, _, rfl, rfl, .inl ⟨_, rfl, ?_⟩⟩
    refine ⟨_, _, rfl, rfl, (by intro z; cases z), ?_⟩
    refine ⟨_, rfl, _, rfl, _, _, rfl, rfl, _, _, rfl, rfl, .inl (fm64 (by decide) (by decide)), .inl ⟨_, rfl, ?_⟩⟩
    refine ⟨_, _, rfl, rfl, (by intro z; cases z), ?_⟩
    refine ⟨_, rfl, _, rfl, _, _, rfl, rfl, _, _, rfl, rfl, .inl (fm64 (by decide) (by decide)), _, rfl, 31, k, rfl, rfl, .inl ⟨by decide, by decide⟩, _, _, rfl, rfl, .inl ⟨_, rfl, ?_⟩⟩
    refine ⟨_, _, rfl, rfl, (by intro z; cases z), ?_⟩
    refine ⟨_, rfl, _, _, rfl, rfl, ⟨by decide, by decide⟩, .inl ⟨_, rfl, ?_⟩⟩
    refine ⟨_, rfl, _, _, rfl, rfl, (by omega), ?_⟩
    exact q _ _ st (fmod_bd (by omega)).1 (.inl (fmod_bd (by omega)).2)
end
/-! ### data: equal data are the same to _law_same -/
def Dok : Nat → PyData → Prop
  | 0, _ => False
  | _ + 1, .none => True
  | _ + 1, .bool _ => True
  | _ + 1, .int _ => True
  | _ + 1, .str _ => True
  | n + 1, .tuple ds => ds.length ≤ 100000 ∧ ∀ d ∈ ds, Dok n d
  | n + 1, .list ds => ds.length ≤ 100000 ∧ ∀ d ∈ ds, Dok n d
  | _ + 1, .dict _ => False
theorem dpAll_len {K : PySem.W.Frag} {H : Hp} : ∀ {vs : List V} {ds : List PyData}, DpAll K H vs ds → vs.length = ds.length
  | _, _, .nil => rfl
  | _, _, .cons _ r => congrArg (· + 1) (dpAll_len r)
theorem dpAll_get {K : PySem.W.Frag} {H : Hp} : ∀ {vs : List V} {ds : List PyData} {i : Nat} {d : PyData}, DpAll K H vs ds → ds[i]? = some d → ∃ v, vs[i]? = some v ∧ Dp K H v d
  | _, _, _, _, .nil, e => by simp at e
  | _, _, 0, d, .cons h _, e => by
    simp at e
    subst e
    exact ⟨_, rfl, h⟩
  | _, _, i + 1, d, .cons _ r, e => by
    obtain ⟨v, h1, h2⟩ := dpAll_get (i := i) r (by simpa using e)
    exact ⟨v, by simpa using h1, h2⟩
theorem tyL {K : PySem.W.Frag} {H : Hp} {a : Addr} {xs : List V} (h : SqL K H a xs) : TyX K H (.ref a) (.type "list") := by
  rcases h with (h | ⟨o, h⟩) | ⟨o, its, n, h, c, _⟩
  · exact .base (.lst h)
  · exact .base (.frz h)
  · exact .kList h c
theorem tyT {K : PySem.W.Frag} {H : Hp} {a : Addr} {xs : List V} (h : SqT K H a xs) : TyX K H (.ref a) (.type "tuple") := by
  rcases h with (h | ⟨o, h⟩) | ⟨o, its, n, h, c, _⟩
  · exact .base (.tup h)
  · exact .fTuple h
  · exact .kTuple h c
theorem isi {K : PySem.W.Frag} {H : Hp} {Q : VK} {x : V} {t c : String} (b : Bool) (ty : TyX K H x (.type t)) (kb : kitB t c = some b) (q : Q (.bl b) H) : rIsi K [x, .ty c] H Q := ⟨x, .ty c, _, _, b, rfl, .ty c, ty, kit_ty kb, q⟩
theorem kb_nt : kitB "NoneType" "tuple" = some false := by decide +kernel
theorem kb_nl : kitB "NoneType" "list" = some false := by decide +kernel
theorem kb_bt : kitB "bool" "tuple" = some false := by decide +kernel
theorem kb_bl : kitB "bool" "list" = some false := by decide +kernel
theorem kb_bb : kitB "bool" "bool" = some true := by decide +kernel
theorem kb_it : kitB "int" "tuple" = some false := by decide +kernel
theorem kb_il : kitB "int" "list" = some false := by decide +kernel
theorem kb_ib : kitB "int" "bool" = some false := by decide +kernel
theorem kb_ii : kitB "int" "int" = some true := by decide +kernel
theorem kb_st : kitB "str" "tuple" = some false := by decide +kernel
theorem kb_sl : kitB "str" "list" = some false := by decide +kernel
theorem kb_sb : kitB "str" "bool" = some false := by decide +kernel
theorem kb_si : kitB "str" "int" = some false := by decide +kernel
theorem kb_ss : kitB "str" "str" = some true := by decide +kernel
theorem kb_tt : kitB "tuple" "tuple" = some true := by decide +kernel
theorem kb_tl : kitB "tuple" "list" = some false := by decide +kernel
theorem kb_lt : kitB "list" "tuple" = some false := by decide +kernel
theorem kb_ll : kitB "list" "list" = some true := by decide +kernel
def spSame (K : PySem.W.Frag) (n : Nat) : Sp := fun vs H Q _ => ∃ (x y : V) (d : PyData), vs = [x, y] ∧ Dp K H x d ∧ Dp K H y d ∧ Dok n d ∧ Q (.bl true) H
section
variable {P : Program} {w : World} {K : PySem.W.Frag} {mg : Str → Option Value} {base : Heap}
theorem ok_l_same0 (T : Txt w K mg) : FnOk P w K mg base CX0 0 T.a_l_same T.d_l_same p_l_same (spSame K 0) := by
  have no : ∀ vs H Q E, ¬ spSame K 0 vs H Q E := fun vs H Q E h => by
    obtain ⟨x, y, d, _, _, _, h, _⟩ := h
    exact h
  exact ⟨fun vs H Q E h => absurd h (no vs H Q E), fun A outer s H args us vs Q E _ _ _ _ h => absurd h (no vs H Q E)⟩
/-- the part for two lists or two tuples -/
theorem same_seq {n : Nat} {H : Hp} {p r : Addr} {xs ys : List V} {ds : List PyData} (h1 : SqL K H p xs ∨ SqT K H p xs) (h2 : SqL K H r ys ∨ SqT K H r ys) (d1 : DpAll K H xs ds) (d2 : DpAll K H ys ds)
    (hd : ∀ d ∈ ds, Dok n d) {i : Nat} (hi : i < ds.length) {R : V → Hp → Prop} (q : R (.bl true) H) :
    tCall (spSame K n) [] E0 (tCons (tOp (rIx K) (tVar 0) (tVar 2)) (tCons (tOp (rIx K) (tVar 1) (tVar 2)) tNil)) [some (.ref p), some (.ref r), some (.int (0 + (i : Int)))] H R := by
  obtain ⟨x, e1, q1⟩ := dpAll_get (i := i) d1 (List.getElem?_eq_getElem hi)
  obtain ⟨y, e2, q2⟩ := dpAll_get (i := i) d2 (List.getElem?_eq_getElem hi)
  have a1 : atI xs (0 + (i : Int)) = some x := by rw [Int.zero_add]; exact atI_nat e1
  have a2 : atI ys (0 + (i : Int)) = some y := by rw [Int.zero_add]; exact atI_nat e2
  have k2 : tOp (rIx K) (tVar 1) (tVar 2) [some (.ref p), some (.ref r), some (.int (0 + (i : Int)))] H (fun v H' => tNil [some (.ref p), some (.ref r), some (.int (0 + (i : Int)))] H' fun vs H'' => spSame K n ((x :: v :: vs) ++ []) H'' R E0) := by
    refine ⟨_, rfl, _, rfl, ?_⟩
    have z : spSame K n [x, y] H R E0 := ⟨x, y, _, rfl, q1, q2, hd _ (List.getElem_mem hi), q⟩
    rcases h2 with h2 | h2
    · exact .inl ⟨r, _, _, _, rfl, rfl, h2, a2, z⟩
    · exact .inr (.inl ⟨r, _, _, _, rfl, rfl, h2, a2, z⟩)
  refine ⟨_, rfl, _, rfl, ?_⟩
  rcases h1 with h1 | h1
  · exact .inl ⟨p, _, _, _, rfl, rfl, h1, a1, k2⟩
  · exact .inr (.inl ⟨p, _, _, _, rfl, rfl, h1, a1, k2⟩)
theorem ok_l_same (T : Txt w K mg) : ∀ n : Nat, FnOk P w K mg base CX0 n T.a_l_same T.d_l_same p_l_same (spSame K n)
  | 0 => ok_l_same0 T
  | n + 1 => by
    have g_l_same := ok_l_same T n
    refine T.F_l_same.ok sc_l_same (fun vs H Q E h => ?_) (fun cdv A outer s H vs Q E hr h => ?_)
    · obtain ⟨x, y, d, rfl, _⟩ := h
      rfl
    obtain ⟨x, y, d, rfl, hx, hy, hd, q⟩ := h
    refine ⟨_, (pss_cons (ps_if (PW.pt (pw_or (pt_val (pe_callB call_isi rfl T.z_isinstance bb_isinstance (pa_cons (pv 1) (pa_cons (pe_bltn (v := .ty "tuple") rfl T.z_tuple bt_tuple rfl) pa_nil)))) (pw_or1 (pt_val (pe_callB call_isi rfl T.z_isinstance bb_isinstance (pa_cons (pv 1) (pa_cons (pe_bltn (v := .ty "list") rfl T.z_list bt_list rfl) pa_nil))))))) (pss_cons (ps_if (PW.pt (pw_or (pt_cmpR op_ne (pe_callB call_isi rfl T.z_isinstance bb_isinstance (pa_cons (pv 1) (pa_cons (pe_bltn (v := .ty "tuple") rfl T.z_tuple bt_tuple rfl) pa_nil))) (pe_callB call_isi rfl T.z_isinstance bb_isinstance (pa_cons (pv 0) (pa_cons (pe_bltn (v := .ty "tuple") rfl T.z_tuple bt_tuple rfl) pa_nil))) (nomark _)) (pw_or1 (pt_cmpR op_ne (pe_callB call_isi rfl T.z_isinstance bb_isinstance (pa_cons (pv 1) (pa_cons (pe_bltn (v := .ty "list") rfl T.z_list bt_list rfl) pa_nil))) (pe_callB call_isi rfl T.z_isinstance bb_isinstance (pa_cons (pv 0) (pa_cons (pe_bltn (v := .ty "list") rfl T.z_list bt_list rfl) pa_nil))) (nomark _))))) (pss_one (ps_ret pe_bl)) pss_nil)
      (pss_cons (ps_if (pt_cmpR op_ne (pe_callB call_len_seq rfl T.z_len PySem.boot_len (pa_cons (pv 0) pa_nil)) (pe_callB call_len_seq rfl T.z_len PySem.boot_len (pa_cons (pv 1) pa_nil)) (nomark _)) (pss_one (ps_ret pe_bl)) pss_nil)
      (pss_cons (ps_for PassesOwn.never rfl (pi_range1 rfl T.z_range (pa_cons (pe_callB call_len_seq rfl T.z_len PySem.boot_len (pa_cons (pv 1) pa_nil)) pa_nil)) (pg_name (i := 2) sc_l_same.nd rfl (Or.inl rfl))
        (pss_one (ps_if (pt_not (pt_val (pe_call g_l_same (hr.mono (by first | decide | omega)) rfl T.m_l_same T.F_l_same.kp T.b_l_same .nil pass0 (pa_cons (pe_ix ix_seq (pv 0) (pv 2) (fun _ _ => rfl)) (pa_cons (pe_ix ix_seq (pv 1) (pv 2) (fun _ _ => rfl)) pa_nil))))) (pss_one (ps_ret pe_bl)) pss_nil)))
      (pss_one (ps_ret pe_bl))))) pss_nil)
      (pss_cons (ps_if (pt_cmpR op_isN (pv 1) pe_non (nomark _)) (pss_one (ps_ret (pe_cmpR op_isN (pv 0) pe_non (nomark _)))) pss_nil)
      (pss_cons (ps_if (pt_val (pe_callB call_isi rfl T.z_isinstance bb_isinstance (pa_cons (pv 1) (pa_cons (pe_bltn (v := .ty "bool") rfl T.z_bool bt_bool rfl) pa_nil)))) (pss_one (ps_ret (pe_and (pe_callB call_isi rfl T.z_isinstance bb_isinstance (pa_cons (pv 0) (pa_cons (pe_bltn (v := .ty "bool") rfl T.z_bool bt_bool rfl) pa_nil))) (pe_one (pe_cmpR op_eq (pv 0) (pv 1) (nomark _)))))) pss_nil)
      (pss_cons (ps_if (pt_val (pe_callB call_isi rfl T.z_isinstance bb_isinstance (pa_cons (pv 1) (pa_cons (pe_bltn (v := .ty "int") rfl T.z_int bt_int rfl) pa_nil)))) (pss_one (ps_ret (pe_and (pe_callB call_isi rfl T.z_isinstance bb_isinstance (pa_cons (pv 0) (pa_cons (pe_bltn (v := .ty "int") rfl T.z_int bt_int rfl) pa_nil))) (pe_and (pe_not (pe_callB call_isi rfl T.z_isinstance bb_isinstance (pa_cons (pv 0) (pa_cons (pe_bltn (v := .ty "bool") rfl T.z_bool bt_bool rfl) pa_nil)))) (pe_one (pe_cmpR op_eq (pv 0) (pv 1) (nomark _))))))) pss_nil)
      (pss_one (ps_ret (pe_and (pe_callB call_isi rfl T.z_isinstance bb_isinstance (pa_cons (pv 0) (pa_cons (pe_bltn (v := .ty "str") rfl T.z_str bt_str rfl) pa_nil))) (pe_one (pe_cmpR op_eq (pv 0) (pv 1) (nomark _)))))))))), ?_⟩
    cases hx with
    | non =>
      cases hy
      refine ⟨_, rfl, _, _, _, _, false, rfl, .ty _, (.base .non), kit_ty kb_nt, ⟨_, rfl, iteF ⟨_, rfl, _, _, _, _, false, rfl, .ty _, (.base .non), kit_ty kb_nl, ⟨_, rfl, iteF ?_⟩⟩⟩⟩
      refine ⟨_, rfl, rfl, _, rfl, iteT ?_⟩
      exact ⟨_, rfl, rfl, q⟩
    | bl b =>
      cases hy
      refine ⟨_, rfl, _, _, _, _, false, rfl, .ty _, (.base (.bl _)), kit_ty kb_bt, ⟨_, rfl, iteF ⟨_, rfl, _, _, _, _, false, rfl, .ty _, (.base (.bl _)), kit_ty kb_bl, ⟨_, rfl, iteF ?_⟩⟩⟩⟩
      refine ⟨_, rfl, rfl, _, rfl, iteF ?_⟩
      refine ⟨_, rfl, _, _, _, _, true, rfl, .ty _, (.base (.bl _)), kit_ty kb_bb, ⟨_, rfl, iteT ?_⟩⟩
      refine ⟨_, rfl, _, _, _, _, true, rfl, .ty _, (.base (.bl _)), kit_ty kb_bb, ⟨_, rfl, iteT ?_⟩⟩
      refine ⟨_, rfl, _, rfl, rfl, ?_⟩
      rw [decide_eq_true rfl]
      exact q
    | int b =>
      cases hy
      refine ⟨_, rfl, _, _, _, _, false, rfl, .ty _, (.base (.int _)), kit_ty kb_it, ⟨_, rfl, iteF ⟨_, rfl, _, _, _, _, false, rfl, .ty _, (.base (.int _)), kit_ty kb_il, ⟨_, rfl, iteF ?_⟩⟩⟩⟩
      refine ⟨_, rfl, rfl, _, rfl, iteF ?_⟩
      refine ⟨_, rfl, _, _, _, _, false, rfl, .ty _, (.base (.int _)), kit_ty kb_ib, ⟨_, rfl, iteF ?_⟩⟩
      refine ⟨_, rfl, _, _, _, _, true, rfl, .ty _, (.base (.int _)), kit_ty kb_ii, ⟨_, rfl, iteT ?_⟩⟩
      refine ⟨_, rfl, _, _, _, _, true, rfl, .ty _, (.base (.int _)), kit_ty kb_ii, ⟨_, rfl, iteT ?_⟩⟩
      refine ⟨_, rfl, _, _, _, _, false, rfl, .ty _, (.base (.int _)), kit_ty kb_ib, ⟨_, rfl, _, rfl, iteT ?_⟩⟩
      refine ⟨_, rfl, _, rfl, rfl, ?_⟩
      rw [decide_eq_true rfl]
      exact q
    | str b =>
      cases hy
      refine ⟨_, rfl, _, _, _, _, false, rfl, .ty _, (.base (.str _)), kit_ty kb_st, ⟨_, rfl, iteF ⟨_, rfl, _, _, _, _, false, rfl, .ty _, (.base (.str _)), kit_ty kb_sl, ⟨_, rfl, iteF ?_⟩⟩⟩⟩
      refine ⟨_, rfl, rfl, _, rfl, iteF ?_⟩
      refine ⟨_, rfl, _, _, _, _, false, rfl, .ty _, (.base (.str _)), kit_ty kb_sb, ⟨_, rfl, iteF ?_⟩⟩
      refine ⟨_, rfl, _, _, _, _, false, rfl, .ty _, (.base (.str _)), kit_ty kb_si, ⟨_, rfl, iteF ?_⟩⟩
      refine ⟨_, rfl, _, _, _, _, true, rfl, .ty _, (.base (.str _)), kit_ty kb_ss, ⟨_, rfl, iteT ?_⟩⟩
      refine ⟨_, rfl, _, rfl, rfl, ?_⟩
      rw [decide_eq_true rfl]
      exact q
    | @lst p xs ds h1 d1 =>
      cases hy with
      | @lst r ys _ h2 d2 =>
      have l1 := dpAll_len d1
      have l2 := dpAll_len d2
      obtain ⟨hlen, hd⟩ := hd
      refine ⟨_, rfl, _, _, _, _, false, rfl, .ty _, (tyL h2), kit_ty kb_lt, ⟨_, rfl, iteF ⟨_, rfl, _, _, _, _, true, rfl, .ty _, (tyL h2), kit_ty kb_ll, ⟨_, rfl, iteT ?_⟩⟩⟩⟩
      refine ⟨_, rfl, _, _, _, _, false, rfl, .ty _, (tyL h2), kit_ty kb_lt, ⟨_, rfl, _, _, _, _, false, rfl, .ty _, (tyL h1), kit_ty kb_lt, ⟨rfl, _, rfl, iteF ?_⟩⟩⟩
      refine ⟨_, rfl, _, _, _, _, true, rfl, .ty _, (tyL h2), kit_ty kb_ll, ⟨_, rfl, _, _, _, _, true, rfl, .ty _, (tyL h1), kit_ty kb_ll, ⟨rfl, _, rfl, iteF ?_⟩⟩⟩
      refine ⟨_, rfl, p, _, rfl, .inl h1, _, rfl, r, _, rfl, .inl h2, rfl, _, rfl, ?_⟩
      refine iteNS (congrArg V.int (by omega)) ?_
      refine ⟨_, rfl, r, _, rfl, .inl h2, _, rfl, by omega, by omega, for_range (lo := 0) (fun i σ H' => H' = H ∧ ∃ v : Option V, σ = [some (.ref p), some (.ref r), v]) ⟨rfl, none, rfl⟩ ?_ ?_⟩
      · rintro i σ H' hi ⟨rfl, v, rfl⟩
        refine same_seq (.inl h1) (.inl h2) d1 d2 hd (by omega) ⟨_, rfl, iteF ?_⟩
        exact ⟨rfl, _, rfl⟩
      · rintro σ H' ⟨rfl, v, rfl⟩
        exact q
    | @tup p xs ds h1 d1 =>
      cases hy with
      | @tup r ys _ h2 d2 =>
      have l1 := dpAll_len d1
      have l2 := dpAll_len d2
      obtain ⟨hlen, hd⟩ := hd
      refine ⟨_, rfl, _, _, _, _, true, rfl, .ty _, (tyT h2), kit_ty kb_tt, ⟨_, rfl, iteT ?_⟩⟩
      refine ⟨_, rfl, _, _, _, _, true, rfl, .ty _, (tyT h2), kit_ty kb_tt, ⟨_, rfl, _, _, _, _, true, rfl, .ty _, (tyT h1), kit_ty kb_tt, ⟨rfl, _, rfl, iteF ?_⟩⟩⟩
      refine ⟨_, rfl, _, _, _, _, false, rfl, .ty _, (tyT h2), kit_ty kb_tl, ⟨_, rfl, _, _, _, _, false, rfl, .ty _, (tyT h1), kit_ty kb_tl, ⟨rfl, _, rfl, iteF ?_⟩⟩⟩
      refine ⟨_, rfl, p, _, rfl, .inr h1, _, rfl, r, _, rfl, .inr h2, rfl, _, rfl, ?_⟩
      refine iteNS (congrArg V.int (by omega)) ?_
      refine ⟨_, rfl, r, _, rfl, .inr h2, _, rfl, by omega, by omega, for_range (lo := 0) (fun i σ H' => H' = H ∧ ∃ v : Option V, σ = [some (.ref p), some (.ref r), v]) ⟨rfl, none, rfl⟩ ?_ ?_⟩
      · rintro i σ H' hi ⟨rfl, v, rfl⟩
        refine same_seq (.inr h1) (.inr h2) d1 d2 hd (by omega) ⟨_, rfl, iteF ?_⟩
        exact ⟨rfl, _, rfl⟩
      · rintro σ H' ⟨rfl, v, rfl⟩
        exact q
end
/-! ### rows and matrices of whole numbers -/
open ZG (Sq ItzG walk_zipG)
theorem Sq.same {K : PySem.W.Frag} {t : Bool} {p : Addr} {H H' : Hp} {xs : List V} (s : Same H H') (h : Sq t K H p xs) : Sq t K H' p xs := by
  cases t
  · exact s.seq h
  · exact Same.tup s h
theorem Sq.upd_same {K : PySem.W.Frag} {p : Addr} {H : Hp} {xs : List V} : Sq false K (upd H p (.lst xs)) p xs := SqL.of L2.upd_same
theorem Sq.upd_sameT {K : PySem.W.Frag} {p : Addr} {H : Hp} {xs : List V} : Sq true K (upd H p (.tup xs)) p xs := SqT.of L2.upd_same
/-- what stood stands but at D -/
def But (D : Addr) (H H' : Hp) : Prop := ∀ b o, b ≠ D → H b = some o → H' b = some o
theorem But.of_same {D : Addr} {H H' : Hp} (s : Same H H') : But D H H' := fun b o _ e => s b o e
theorem But.upd {D : Addr} {H : Hp} (o : HO) : But D H (upd H D o) := fun b u ne e => by rw [upd_ne ne]; exact e
theorem But.trans {D : Addr} {H H1 H2 : Hp} (a : But D H H1) (b : But D H1 H2) : But D H H2 := fun c o ne e => b c o ne (a c o ne e)
theorem Sq.but {K : PySem.W.Frag} {t : Bool} {p D : Addr} {H H' : Hp} {xs : List V} (s : But D H H') (ne : p ≠ D) (h : Sq t K H p xs) : Sq t K H' p xs := by
  cases t
  · rcases h with (h | ⟨o, h⟩) | h
    · exact .inl (.inl (s _ _ ne h))
    · exact .inl (.inr ⟨o, s _ _ ne h⟩)
    · exact .inr h
  · rcases h with (h | ⟨o, h⟩) | h
    · exact .inl (.inl (s _ _ ne h))
    · exact .inl (.inr ⟨o, s _ _ ne h⟩)
    · exact .inr h
/-- a matrix at p: rows of kind t2 in a row of kind t1 -/
def Mx (t1 t2 : Bool) (K : PySem.W.Frag) (H : Hp) (p : Addr) (M : List (List Int)) : Prop :=
  ∃ as : List Addr, Sq t1 K H p (as.map V.ref) ∧ as.length = M.length ∧ ∀ (i : Nat) (a : Addr) (r : List Int), as[i]? = some a → M[i]? = some r → Sq t2 K H a (r.map V.int)
theorem Mx.same {t1 t2 : Bool} {K : PySem.W.Frag} {H H' : Hp} {p : Addr} {M : List (List Int)} (s : Same H H') (h : Mx t1 t2 K H p M) : Mx t1 t2 K H' p M := by
  obtain ⟨as, h1, h2, h3⟩ := h
  exact ⟨as, Sq.same s h1, h2, fun i a r e1 e2 => Sq.same s (h3 i a r e1 e2)⟩
/-- its i-th row -/
theorem Mx.row {t1 t2 : Bool} {K : PySem.W.Frag} {H : Hp} {p : Addr} {M : List (List Int)} (h : Mx t1 t2 K H p M) : ∃ vs : List V, Sq t1 K H p vs ∧ vs.length = M.length ∧ ∀ (i : Nat) (v : V), vs[i]? = some v → ∃ (a : Addr) (r : List Int), v = .ref a ∧ M[i]? = some r ∧ Sq t2 K H a (r.map V.int) := by
  obtain ⟨as, h1, h2, h3⟩ := h
  refine ⟨as.map V.ref, h1, by rw [List.length_map]; exact h2, fun i v e => ?_⟩
  rw [List.getElem?_map] at e
  cases ea : as[i]? with
  | none => rw [ea] at e; cases e
  | some a =>
    rw [ea] at e
    cases e
    have hi : i < M.length := by
      have := (List.getElem?_eq_some_iff.mp ea).1
      omega
    exact ⟨a, M[i], rfl, List.getElem?_eq_getElem hi, h3 i a _ ea (List.getElem?_eq_getElem hi)⟩
theorem refs_of {K : PySem.W.Frag} {t2 : Bool} {H : Hp} : ∀ {ys : List V} {M : List (List Int)}, ys.length = M.length → (∀ (j : Nat) (y : V), ys[j]? = some y → ∃ (a : Addr) (r : List Int), y = .ref a ∧ M[j]? = some r ∧ Sq t2 K H a (r.map V.int)) →
    ∃ as : List Addr, ys = as.map V.ref ∧ as.length = M.length ∧ ∀ (i : Nat) (a : Addr) (r : List Int), as[i]? = some a → M[i]? = some r → Sq t2 K H a (r.map V.int)
  | [], [], _, _ => ⟨[], rfl, rfl, fun i a r e => by simp at e⟩
  | [], _ :: _, h, _ => by simp at h
  | _ :: _, [], h, _ => by simp at h
  | y :: ys, r :: M, h, k => by
    obtain ⟨as, e1, e2, e3⟩ := refs_of (ys := ys) (M := M) (by simpa using h) (fun j z e => by
      obtain ⟨a, r', h1, h2, h3⟩ := k (j + 1) z (by simpa using e)
      exact ⟨a, r', h1, by simpa using h2, h3⟩)
    obtain ⟨a, r', h1, h2, h3⟩ := k 0 y rfl
    have er : r = r' := by simpa using h2
    subst er
    subst h1 e1
    refine ⟨a :: as, rfl, by simp [e2], fun i b q e4 e5 => ?_⟩
    cases i with
    | zero =>
      cases e4
      cases e5
      exact h3
    | succ i => exact e3 i b q (by simpa using e4) (by simpa using e5)
theorem Mx.of {t1 t2 : Bool} {K : PySem.W.Frag} {H : Hp} {p : Addr} {ys : List V} {M : List (List Int)} (h : Sq t1 K H p ys) (l : ys.length = M.length) (k : ∀ (j : Nat) (y : V), ys[j]? = some y → ∃ (a : Addr) (r : List Int), y = .ref a ∧ M[j]? = some r ∧ Sq t2 K H a (r.map V.int)) : Mx t1 t2 K H p M := by
  obtain ⟨as, rfl, e2, e3⟩ := refs_of l k
  exact ⟨as, h, e2, e3⟩
theorem ys_ints {ns : List Int} : ∀ {ys : List V}, ys.length = ns.length → (∀ (j : Nat) (y : V), ys[j]? = some y → ∃ c, ns[j]? = some c ∧ y = .int c) → ys = ns.map V.int := by
  induction ns with
  | nil =>
    intro ys l _
    cases ys with
    | nil => rfl
    | cons _ _ => simp at l
  | cons n ns ih =>
    intro ys l k
    cases ys with
    | nil => simp at l
    | cons y ys =>
      obtain ⟨c, h1, h2⟩ := k 0 y rfl
      have e : n = c := by simpa using h1
      subst e h2
      rw [ih (ys := ys) (by simpa using l) (fun j z e => by
        obtain ⟨c, h1, h2⟩ := k (j + 1) z (by simpa using e)
        exact ⟨c, by simpa using h1, h2⟩)]
      rfl
/-- tuple(..) of a list or a tuple -/
def rTupOf (K : PySem.W.Frag) : List V → Hp → VK → Prop := fun xs H Q => ∃ p ys, xs = [.ref p] ∧ ((SqL K H p ys ∧ ∀ l, H l = none → Q (.ref l) (upd H l (.tup ys))) ∨ (SqT K H p ys ∧ Q (.ref p) H))
def rLenOf (K : PySem.W.Frag) : List V → Hp → VK → Prop := fun xs H Q => ∃ p ys, xs = [.ref p] ∧ (SqL K H p ys ∨ SqT K H p ys) ∧ Q (.int ys.length) H
/-- as data -/
def rowD (r : List Int) : PyData := .tuple (r.map PyData.int)
def matD (M : List (List Int)) : PyData := .tuple (M.map rowD)
theorem dp_ints {K : PySem.W.Frag} {H : Hp} : ∀ r : List Int, DpAll K H (r.map V.int) (r.map PyData.int)
  | [] => .nil
  | _ :: r => .cons (.int _) (dp_ints r)
theorem dp_rows {K : PySem.W.Frag} {H : Hp} : ∀ {as : List Addr} {M : List (List Int)}, as.length = M.length → (∀ (i : Nat) (a : Addr) (r : List Int), as[i]? = some a → M[i]? = some r → Sq true K H a (r.map V.int)) → DpAll K H (as.map V.ref) (M.map rowD)
  | [], [], _, _ => .nil
  | [], _ :: _, h, _ => by simp at h
  | _ :: _, [], h, _ => by simp at h
  | a :: as, r :: M, h, k => .cons (.tup (k 0 a r rfl rfl) (dp_ints r)) (dp_rows (by simpa using h) fun i b q e1 e2 => k (i + 1) b q (by simpa using e1) (by simpa using e2))
theorem Mx.dp {K : PySem.W.Frag} {H : Hp} {p : Addr} {M : List (List Int)} (h : Mx true true K H p M) : Dp K H (.ref p) (matD M) := by
  obtain ⟨as, h1, h2, h3⟩ := h
  exact .tup h1 (dp_rows h2 h3)
/-- all its rows have n numbers, n of them -/
def Sz (n : Nat) (M : List (List Int)) : Prop := M.length = n ∧ ∀ r ∈ M, r.length = n
theorem Sz.dok {n : Nat} {M : List (List Int)} (h : Sz n M) (hn : n ≤ 1000) : Dok 3 (matD M) := by
  refine ⟨by rw [List.length_map, h.1]; omega, fun d hd => ?_⟩
  obtain ⟨r, hr, rfl⟩ := List.mem_map.mp hd
  refine ⟨by rw [List.length_map, h.2 r hr]; omega, fun d hd => ?_⟩
  obtain ⟨c, _, rfl⟩ := List.mem_map.mp hd
  trivial
/-- a box: None, or a matrix -/
def BoxAt (K : PySem.W.Frag) (H : Hp) (v : V) : Option (List (List Int)) → Prop
  | none => v = .non
  | some M => ∃ p, v = .ref p ∧ Mx true true K H p M
def boxD : Option (List (List Int)) → PyData
  | none => .none
  | some M => matD M
theorem BoxAt.same {K : PySem.W.Frag} {H H' : Hp} {v : V} {B : Option (List (List Int))} (s : Same H H') (h : BoxAt K H v B) : BoxAt K H' v B := by
  cases B with
  | none => exact h
  | some M =>
    obtain ⟨p, e, h⟩ := h
    exact ⟨p, e, h.same s⟩
theorem BoxAt.dp {K : PySem.W.Frag} {H : Hp} {v : V} {B : Option (List (List Int))} (h : BoxAt K H v B) : Dp K H v (boxD B) := by
  cases B with
  | none =>
    obtain rfl : v = .non := h
    exact .non
  | some M =>
    obtain ⟨p, rfl, h⟩ := h
    exact h.dp
def BSz (n : Nat) (B : Option (List (List Int))) : Prop := ∀ M, B = some M → Sz n M
theorem BSz.dok {n : Nat} {B : Option (List (List Int))} (h : BSz n B) (hn : n ≤ 1000) : Dok 3 (boxD B) := by
  cases B with
  | none => trivial
  | some M => exact (h M rfl).dok hn
/-! ### comprehensions that leave what stood -/
def LcP (S : Hp → Prop) (R : Nat → V → Hp → Prop) (D : Addr) (i : Nat) (H : Hp) : Prop := S H ∧ ∃ acc : List V, H D = some (.lst acc) ∧ acc.length = i ∧ ∀ (j : Nat) (y : V), acc[j]? = some y → R j y H
theorem lcp_step {S : Hp → Prop} {R : Nat → V → Hp → Prop} {D : Addr} {i : Nat} {H H4 : Hp} {y : V} (P : LcP S R D i H) (e : ∀ o, H D = some o → H4 D = some o) (hi : i < sizeLine) (s : ∀ o, S (upd H4 D o)) (m : ∀ (j : Nat) (z : V) (o : HO), R j z H → R j z (upd H4 D o)) (r : ∀ o, R i y (upd H4 D o)) :
    ∃ acc, H4 D = some (.lst acc) ∧ acc.length < sizeLine ∧ LcP S R D (i + 1) (upd H4 D (.lst (acc ++ [y]))) := by
  obtain ⟨_, acc, h1, h2, h3⟩ := P
  refine ⟨acc, e _ h1, by omega, s _, _, upd_same, by simp [h2], fun j z ez => ?_⟩
  by_cases hj : j < i
  · rw [List.getElem?_append_left (by omega)] at ez
    exact m j z _ (h3 j z ez)
  · rw [List.getElem?_append_right (by omega)] at ez
    have ej : j = i := by
      have := (List.getElem?_eq_some_iff.mp ez).1
      simp at this
      omega
    subst ej
    rw [h2, Nat.sub_self] at ez
    have ez' : y = z := by simpa using ez
    rw [← ez']
    exact r _
/-- what the step of a comprehension that only makes new objects is to reach -/
theorem lcp_same {R : Nat → V → Hp → Prop} {D : Addr} {i : Nat} {H1 H H4 : Hp} {y : V} (P : LcP (Same H1) R D i H) (hD : H1 D = none) (s : Same H H4) (hi : i < sizeLine) (mono : ∀ (j : Nat) (z : V) (G G' : Hp), R j z G → But D G G' → R j z G') (r : R i y H4) :
    ∃ acc, H4 D = some (.lst acc) ∧ acc.length < sizeLine ∧ LcP (Same H1) R D (i + 1) (upd H4 D (.lst (acc ++ [y]))) :=
  lcp_step P (fun o e => s _ _ e) hi (fun o b u e => by rw [upd_ne (ne_of_none e hD)]; exact s _ _ (P.1 _ _ e)) (fun j z o q => mono j z _ _ q ((But.of_same s).trans (But.upd o))) fun o => mono i y _ _ r (But.upd o)
theorem lcp_start {R : Nat → V → Hp → Prop} {D : Addr} {H1 : Hp} (hD : H1 D = none) : LcP (Same H1) R D 0 (upd H1 D (.lst [])) :=
  ⟨fun b u e => by rw [upd_ne (ne_of_none e hD)]; exact e, [], upd_same, rfl, fun j y e => by simp at e⟩
/-- its numbers -/
def RInt (ns : List Int) : Nat → V → Hp → Prop := fun j y _ => ∃ c, ns[j]? = some c ∧ y = .int c
theorem RInt.mono {ns : List Int} {D : Addr} : ∀ (j : Nat) (z : V) (G G' : Hp), RInt ns j z G → But D G G' → RInt ns j z G' := fun _ _ _ _ h _ => h
/-- its rows -/
def RRow (K : PySem.W.Frag) (t : Bool) (M : List (List Int)) (D : Addr) : Nat → V → Hp → Prop := fun j y H => ∃ (a : Addr) (r : List Int), y = .ref a ∧ M[j]? = some r ∧ a ≠ D ∧ Sq t K H a (r.map V.int)
theorem RRow.mono {K : PySem.W.Frag} {t : Bool} {M : List (List Int)} {D : Addr} : ∀ (j : Nat) (z : V) (G G' : Hp), RRow K t M D j z G → But D G G' → RRow K t M D j z G' := by
  rintro j z G G' ⟨a, r, h1, h2, h3, h4⟩ b
  exact ⟨a, r, h1, h2, h3, Sq.but b h3 h4⟩
theorem lcp_ints {K : PySem.W.Frag} {S : Hp → Prop} {ns : List Int} {D : Addr} {n : Nat} {H : Hp} (P : LcP S (RInt ns) D n H) (hn : n = ns.length) : H D = some (.lst (ns.map V.int)) := by
  obtain ⟨_, acc, h1, h2, h3⟩ := P
  rw [h1, ys_ints (ns := ns) (by omega) h3]
theorem lcp_rows {K : PySem.W.Frag} {S : Hp → Prop} {t : Bool} {M : List (List Int)} {D : Addr} {n : Nat} {H : Hp} (P : LcP S (RRow K t M D) D n H) (hn : n = M.length) : Mx false t K H D M := by
  obtain ⟨_, acc, h1, h2, h3⟩ := P
  exact Mx.of (t1 := false) (SqL.of h1) (by omega) fun j y e => by
    obtain ⟨a, r, q1, q2, _, q3⟩ := h3 j y e
    exact ⟨a, r, q1, q2, q3⟩
theorem LcP.ne {S : Hp → Prop} {R : Nat → V → Hp → Prop} {D l : Addr} {i : Nat} {H : Hp} (P : LcP S R D i H) (hl : H l = none) : l ≠ D := by
  obtain ⟨_, acc, h, _⟩ := P
  exact fun z => absurd (z ▸ hl) (by rw [h]; intro z; cases z)
theorem lt_line {n : Nat} (h : n ≤ 10000000) : n < sizeLine := by rw [sizeLine_eq]; omega
/-- a comprehension without a test -/
theorem tyes {σ : L2.St} {H : Hp} {A B : Hp → Prop} (h : A H) : tYes σ H (fun b H3 => if b = true then A H3 else B H3) := by
  show if true = true then A H else B H
  rw [if_pos rfl]
  exact h
theorem get_int {r : List Int} {j : Nat} {v : V} (e : (r.map V.int)[j]? = some v) : ∃ k, r[j]? = some k ∧ v = .int k := by
  rw [List.getElem?_map] at e
  cases h : r[j]? with
  | none => rw [h] at e; cases e
  | some k => rw [h] at e; cases e; exact ⟨k, rfl, rfl⟩
theorem Sz.get {n i : Nat} {M : List (List Int)} {r : List Int} (h : Sz n M) (e : M[i]? = some r) : r.length = n := h.2 r (List.mem_of_getElem? e)
theorem zw_get {α β γ : Type} {f : α → β → γ} {xs : List α} {ys : List β} {i : Nat} {x : α} {y : β} (e1 : xs[i]? = some x) (e2 : ys[i]? = some y) : (List.zipWith f xs ys)[i]? = some (f x y) := by
  rw [List.getElem?_zipWith, e1, e2]
theorem lcp_put {R : Nat → V → Hp → Prop} {D : Addr} {i : Nat} {H1 H H4 : Hp} {y : V} {acc : List V} (P : LcP (Same H1) R D i H) (e : H D = some (.lst acc)) (hD : H1 D = none) (s : Same H H4) (hi : i < sizeLine) (mono : ∀ (j : Nat) (z : V) (G G' : Hp), R j z G → But D G G' → R j z G') (r : R i y H4) :
    LcP (Same H1) R D (i + 1) (upd H4 D (.lst (acc ++ [y]))) := by
  obtain ⟨acc', h1, _, h3⟩ := lcp_same P hD s hi mono r
  have := s _ _ e
  rw [this] at h1
  cases h1
  exact h3
/-- (0,) and the numbers of a row -/
theorem cat0 {K : PySem.W.Frag} {H : Hp} {t a : Addr} {r : List Int} {Q : VK} (h1 : SqT K H t [.int 0]) (h2 : SqT K H a (r.map V.int)) (hz : r.length ≤ 1000) (q : ∀ z H', Same H H' → SqT K H' z ((0 :: r).map V.int) → Q (.ref z) H') : rCatT K (.ref t) (.ref a) H Q := by
  refine ⟨t, a, _, _, rfl, rfl, h1, h2, by simp, ?_, fun e => ?_, fun ne p hp => ?_⟩
  · rw [List.length_map, sizeLine_eq]
    simp
    omega
  · have e' : r = [] := List.map_eq_nil_iff.mp e
    subst e'
    exact q t H (Same.refl H) h1
  · exact q p _ (Same.new hp _) (SqT.of upd_same)
theorem atI_row {r : List Int} {i : Nat} (h : i < r.length) : atI (r.map V.int) (0 + (i : Int)) = some (.int (r.getD i 0)) := by
  rw [Int.zero_add]
  refine atI_nat ?_
  rw [List.getElem?_map, List.getElem?_eq_getElem h]
  simp [List.getD, h]
theorem LcP.acc {S : Hp → Prop} {R : Nat → V → Hp → Prop} {D : Addr} {i : Nat} {H : Hp} (P : LcP S R D i H) : ∃ acc : List V, H D = some (.lst acc) ∧ acc.length = i := by
  obtain ⟨_, acc, h1, h2, _⟩ := P
  exact ⟨acc, h1, h2⟩
theorem map_get {α β : Type} {f : α → β} {xs : List α} {i : Nat} {x : α} (e : xs[i]? = some x) : (xs.map f)[i]? = some (f x) := by rw [List.getElem?_map, e]; rfl
/-! ### entries of a matrix -/
def getM (M : List (List Int)) (i j : Nat) : Int := (M.getD i []).getD j 0
theorem getM_of {M : List (List Int)} {i j : Nat} {r : List Int} {k : Int} (h1 : M[i]? = some r) (h2 : r[j]? = some k) : getM M i j = k := by
  simp [getM, List.getD_eq_getElem?_getD, h1, h2]
theorem Sz.at {n i : Nat} {M : List (List Int)} (h : Sz n M) (hi : i < n) : ∃ r, M[i]? = some r ∧ r.length = n := by
  have hi' : i < M.length := by rw [h.1]; exact hi
  exact ⟨M[i], List.getElem?_eq_getElem hi', h.2 _ (List.getElem_mem hi')⟩
theorem Sz.at2 {n i j : Nat} {M : List (List Int)} (h : Sz n M) (hi : i < n) (hj : j < n) : ∃ r, M[i]? = some r ∧ r.length = n ∧ r[j]? = some (getM M i j) := by
  obtain ⟨r, e, l⟩ := h.at hi
  have hj' : j < r.length := by omega
  refine ⟨r, e, l, ?_⟩
  rw [getM_of e (List.getElem?_eq_getElem hj')]
  exact List.getElem?_eq_getElem hj'
theorem split_lt {n : Nat} {c : Nat → Prop} : (∀ i < n + 1, c i) ↔ (∀ i < n, c i) ∧ c n := by
  constructor
  · exact fun h => ⟨fun i hi => h i (by omega), h n (by omega)⟩
  · rintro ⟨h1, h2⟩ i hi
    by_cases e : i = n
    · rw [e]; exact h2
    · exact h1 i (by omega)
theorem ixN_int {n : Nat} {c : Int} (h0 : 0 ≤ c) (h : c < (n : Int)) : ixN n c = some c.toNat := by
  unfold ixN
  rw [if_pos h0, if_pos h]
/-! ### closed matrices, and the best one below a matrix -/
def mkR (n : Nat) (f : Nat → Int) : List Int := (List.range n).map f
def mkM (n : Nat) (f : Nat → Nat → Int) : List (List Int) := (List.range n).map fun i => mkR n (f i)
theorem range_at {n i : Nat} (h : i < n) : (List.range n)[i]? = some i := by simp [h]
theorem mkR_at {n i : Nat} {f : Nat → Int} (h : i < n) : (mkR n f)[i]? = some (f i) := map_get (range_at h)
theorem mkM_at {n i : Nat} {f : Nat → Nat → Int} (h : i < n) : (mkM n f)[i]? = some (mkR n (f i)) := map_get (range_at h)
theorem mkR_len {n : Nat} {f : Nat → Int} : (mkR n f).length = n := by simp [mkR]
theorem mkM_sz {n : Nat} {f : Nat → Nat → Int} : Sz n (mkM n f) := by
  refine ⟨by simp [mkM], fun r hr => ?_⟩
  obtain ⟨i, _, rfl⟩ := List.mem_map.mp hr
  exact mkR_len
theorem mkM_get {n i j : Nat} {f : Nat → Nat → Int} (hi : i < n) (hj : j < n) : getM (mkM n f) i j = f i j := getM_of (mkM_at hi) (mkR_at hj)
theorem sz_ext {n : Nat} {M N : List (List Int)} (h1 : Sz n M) (h2 : Sz n N) (e : ∀ i < n, ∀ j < n, getM M i j = getM N i j) : M = N := by
  refine List.ext_getElem? fun i => ?_
  by_cases hi : i < n
  · obtain ⟨r, e1, l1⟩ := h1.at hi
    obtain ⟨r', e2, l2⟩ := h2.at hi
    rw [e1, e2]
    congr 1
    refine List.ext_getElem? fun j => ?_
    by_cases hj : j < n
    · have a1 : r[j]? = some (r[j]'(by omega)) := List.getElem?_eq_getElem _
      have a2 : r'[j]? = some (r'[j]'(by omega)) := List.getElem?_eq_getElem _
      rw [a1, a2, ← getM_of e1 a1, ← getM_of e2 a2, e i hi j hj]
    · rw [List.getElem?_eq_none (by omega), List.getElem?_eq_none (by omega)]
  · rw [List.getElem?_eq_none (by rw [h1.1]; omega), List.getElem?_eq_none (by rw [h2.1]; omega)]
theorem mkM_congr {n : Nat} {f g : Nat → Nat → Int} (h : ∀ i < n, ∀ j < n, f i j = g i j) : mkM n f = mkM n g := sz_ext mkM_sz mkM_sz fun i hi j hj => by rw [mkM_get hi hj, mkM_get hi hj, h i hi j hj]
theorem mkM_self {n : Nat} {M : List (List Int)} (h : Sz n M) : mkM n (getM M) = M := sz_ext mkM_sz h fun i hi j hj => mkM_get hi hj
structure Clo (n : Nat) (C : Nat → Nat → Int) : Prop where
  d : ∀ i < n, C i i = 0
  t : ∀ i < n, ∀ j < n, ∀ k < n, C i j ≤ C i k + C k j
def LeF (n : Nat) (C D : Nat → Nat → Int) : Prop := ∀ i < n, ∀ j < n, C i j ≤ D i j
theorem LeF.trans {n : Nat} {A B C : Nat → Nat → Int} (h : LeF n A B) (k : LeF n B C) : LeF n A C := fun i hi j hj => Int.le_trans (h i hi j hj) (k i hi j hj)
theorem LeF.refl {n : Nat} (A : Nat → Nat → Int) : LeF n A A := fun _ _ _ _ => Int.le_refl _
/-- the greatest closed matrix below D; none if there is no closed one below D -/
def Best (n : Nat) (D : Nat → Nat → Int) : Option (List (List Int)) → Prop
  | none => ∀ C, Clo n C → ¬ LeF n C D
  | some R => Sz n R ∧ Clo n (getM R) ∧ LeF n (getM R) D ∧ ∀ C, Clo n C → LeF n C D → LeF n C (getM R)
theorem Best.sz {n : Nat} {D : Nat → Nat → Int} {B : Option (List (List Int))} (h : Best n D B) : BSz n B := by
  intro M e
  subst e
  exact h.1
theorem Best.uniq {n : Nat} {D : Nat → Nat → Int} : ∀ {B B' : Option (List (List Int))}, Best n D B → Best n D B' → B = B'
  | none, none, _, _ => rfl
  | none, some R, h, k => absurd k.2.2.1 (h _ k.2.1)
  | some R, none, h, k => absurd h.2.2.1 (k _ h.2.1)
  | some R, some R', h, k => by
    have e : R = R' := sz_ext h.1 k.1 fun i hi j hj => by
      have h1 := k.2.2.2 _ h.2.1 h.2.2.1 i hi j hj
      have h2 := h.2.2.2 _ k.2.1 k.2.2.1 i hi j hj
      omega
    rw [e]
/-- only what is closed and below counts -/
theorem Best.congr {n : Nat} {D E : Nat → Nat → Int} (h : ∀ C, Clo n C → (LeF n C D ↔ LeF n C E)) : ∀ {B : Option (List (List Int))}, Best n D B → Best n E B
  | none, k => fun C hC hE => k C hC ((h C hC).mpr hE)
  | some R, k => ⟨k.1, k.2.1, (h _ k.2.1).mp k.2.2.1, fun C hC hE => k.2.2.2 C hC ((h C hC).mpr hE)⟩
theorem Best.self {n : Nat} {R : List (List Int)} (z : Sz n R) (c : Clo n (getM R)) : Best n (getM R) (some R) := ⟨z, c, LeF.refl _, fun _ _ h => h⟩
/-! ### shortening through each column in turn -/
def fw0 (n : Nat) (D : Nat → Nat → Int) : Nat → Nat → Int := fun i j => if i = j then min (D i j) 0 else D i j
def fwS (k : Nat) (D : Nat → Nat → Int) : Nat → Nat → Int := fun i j => min (D i j) (D i k + D k j)
/-- what holds ahead of the turn with column k -/
structure Fw (n : Nat) (D0 : Nat → Nat → Int) (k : Nat) (D : Nat → Nat → Int) : Prop where
  d : ∀ i < n, D i i ≤ 0
  le : LeF n D D0
  gr : ∀ C, Clo n C → LeF n C D0 → LeF n C D
  t : (∀ i < n, 0 ≤ D i i) → ∀ m < k, ∀ i < n, ∀ j < n, D i j ≤ D i m + D m j
theorem Fw.start {n : Nat} (D0 : Nat → Nat → Int) : Fw n D0 0 (fw0 n D0) where
  d := fun i hi => by
    unfold fw0
    rw [if_pos rfl]
    omega
  le := fun i hi j hj => by
    unfold fw0
    split <;> omega
  gr := fun C hC h i hi j hj => by
    unfold fw0
    have a := h i hi j hj
    split
    · rename_i e
      subst e
      have b := hC.d i hi
      omega
    · exact a
  t := fun _ m hm => by omega
theorem Fw.step {n k : Nat} {D0 D : Nat → Nat → Int} (h : Fw n D0 k D) (hk : k < n) (pos : ∀ i < n, 0 ≤ D i i) : Fw n D0 (k + 1) (fwS k D) where
  d := fun i hi => by
    have a := h.d i hi
    unfold fwS
    omega
  le := fun i hi j hj => by
    have a := h.le i hi j hj
    unfold fwS
    omega
  gr := fun C hC hl i hi j hj => by
    have a := h.gr C hC hl i hi j hj
    have b := h.gr C hC hl i hi k hk
    have c := h.gr C hC hl k hk j hj
    have e := hC.t i hi j hj k hk
    unfold fwS
    omega
  t := fun _ m hm i hi j hj => by
    have T := h.t pos
    have pk := pos k hk
    unfold fwS
    by_cases e : m = k
    · subst e
      omega
    · have hmk : m < k := by omega
      have mn : m < n := by omega
      have a1 := T m hmk i hi j hj
      have a2 := T m hmk k hk j hj
      have a3 := T m hmk i hi k hk
      have a4 := T m hmk k hk k hk
      omega
theorem Fw.done {n : Nat} {D0 D : Nat → Nat → Int} (h : Fw n D0 n D) (pos : ∀ i < n, 0 ≤ D i i) : Best n D0 (some (mkM n D)) := by
  have c : Clo n (getM (mkM n D)) := ⟨fun i hi => by
    rw [mkM_get hi hi]
    have := pos i hi
    have := h.d i hi
    omega, fun i hi j hj k hk => by
    rw [mkM_get hi hj, mkM_get hi hk, mkM_get hk hj]
    exact h.t pos k hk i hi j hj⟩
  refine ⟨mkM_sz, c, fun i hi j hj => ?_, fun C hC hl i hi j hj => ?_⟩
  · rw [mkM_get hi hj]
    exact h.le i hi j hj
  · rw [mkM_get hi hj]
    exact h.gr C hC hl i hi j hj
theorem Fw.bad {n k i : Nat} {D0 D : Nat → Nat → Int} (h : Fw n D0 k D) (hi : i < n) (neg : D i i < 0) : Best n D0 none := fun C hC hl => by
  have a := h.gr C hC hl i hi i hi
  have b := hC.d i hi
  omega
theorem Fw.congr {n k : Nat} {D0 D E : Nat → Nat → Int} (h : Fw n D0 k D) (hk : k ≤ n) (e : ∀ i < n, ∀ j < n, D i j = E i j) : Fw n D0 k E where
  d := fun i hi => by rw [← e i hi i hi]; exact h.d i hi
  le := fun i hi j hj => by rw [← e i hi j hj]; exact h.le i hi j hj
  gr := fun C hC hl i hi j hj => by rw [← e i hi j hj]; exact h.gr C hC hl i hi j hj
  t := fun pos m hm i hi j hj => by
    have mn : m < n := by omega
    rw [← e i hi j hj, ← e i hi m mn, ← e m mn j hj]
    exact h.t (fun i hi => by rw [e i hi i hi]; exact pos i hi) m hm i hi j hj
/-! ### close -/
theorem bb_any : bootBuiltins "any" = some (.builtin "any") := by decide +kernel
theorem bb_all : bootBuiltins "all" = some (.builtin "all") := by decide +kernel
def spFrozen (K : PySem.W.Frag) : Sp := fun vs H Q _ => ∃ (p : Addr) (M : List (List Int)), vs = [.ref p] ∧ Mx false false K H p M ∧ M.length ≤ 1000 ∧ ∀ q H', Same H H' → Mx true true K H' q M → Q (.ref q) H'
def spContra (K : PySem.W.Frag) : Sp := fun vs H Q _ => ∃ (p : Addr) (M : List (List Int)) (n : Nat), vs = [.ref p] ∧ Mx false false K H p M ∧ Sz n M ∧ n ≤ 900 ∧ ∀ b H', Same H H' → (b = true ↔ ∃ i < n, getM M i i < 0) → Q (.bl b) H'
def spShort (K : PySem.W.Frag) : Sp := fun vs H Q _ => ∃ (p : Addr) (M : List (List Int)) (n k : Nat), vs = [.ref p, .int k] ∧ Mx false false K H p M ∧ Sz n M ∧ n ≤ 900 ∧ k < n ∧ ∀ q H', Same H H' → Mx false false K H' q (mkM n (fwS k (getM M))) → Q (.ref q) H'
def spClose (K : PySem.W.Frag) : Sp := fun vs H Q _ => ∃ (t1 t2 : Bool) (p : Addr) (M : List (List Int)) (n : Nat), vs = [.ref p] ∧ Mx t1 t2 K H p M ∧ Sz n M ∧ n ≤ 900 ∧ ∀ v H' B, Same H H' → BoxAt K H' v B → Best n (getM M) B → Q v H'
theorem Mx.getT {t1 t2 : Bool} {K : PySem.W.Frag} {H : Hp} {p : Addr} {M : List (List Int)} {i : Nat} {r : List Int} (h : Mx t1 t2 K H p M) (e : M[i]? = some r) : ∃ (vs : List V) (a : Addr), Sq t1 K H p vs ∧ atI vs (i : Int) = some (.ref a) ∧ Sq t2 K H a (r.map V.int) := by
  obtain ⟨as, h1, h2, h3⟩ := h
  have hi : i < M.length := (List.getElem?_eq_some_iff.mp e).1
  have ea : as[i]? = some (as[i]'(by omega)) := List.getElem?_eq_getElem _
  exact ⟨_, _, h1, atI_nat (map_get ea), h3 i _ r ea e⟩
/-- a list of truth values at D, k of them; one holds if and only if A -/
def AnyP (H1 : Hp) (D : Addr) (k : Nat) (A : Prop) (H : Hp) : Prop := Same H1 H ∧ ∃ bs : List Bool, H D = some (.lst (bs.map V.bl)) ∧ bs.length = k ∧ (bs.any id = true ↔ A)
theorem AnyP.start {H1 : Hp} {D : Addr} {A : Prop} (hD : H1 D = none) (a : ¬ A) : AnyP H1 D 0 A (upd H1 D (.lst [])) :=
  ⟨Same.new hD _, [], upd_same, rfl, ⟨fun z => by simp at z, fun z => absurd z a⟩⟩
theorem AnyP.imp {H1 H : Hp} {D : Addr} {k k' : Nat} {A A' : Prop} (h : AnyP H1 D k A H) (ek : k = k') (e : A ↔ A') : AnyP H1 D k' A' H := by
  obtain ⟨s, bs, h1, h2, h3⟩ := h
  exact ⟨s, bs, h1, by omega, h3.trans e⟩
theorem AnyP.push {H1 H H4 : Hp} {D : Addr} {k : Nat} {A : Prop} {b : Bool} (h : AnyP H1 D k A H) (hD : H1 D = none) (s : Same H H4) (hk : k < sizeLine) :
    ∃ acc, H4 D = some (.lst acc) ∧ acc.length < sizeLine ∧ AnyP H1 D (k + 1) (A ∨ b = true) (upd H4 D (.lst (acc ++ [.bl b]))) := by
  obtain ⟨s1, bs, h1, h2, h3⟩ := h
  refine ⟨_, s _ _ h1, by rw [List.length_map]; omega, fun c u e => by rw [upd_ne (ne_of_none e hD)]; exact s _ _ (s1 _ _ e), bs ++ [b], by rw [List.map_append]; exact upd_same, by simp [h2], ?_⟩
  rw [List.any_append, Bool.or_eq_true, h3]
  simp
theorem ex_lt {n : Nat} {c : Nat → Prop} : (∃ i < n + 1, c i) ↔ (∃ i < n, c i) ∨ c n := by
  constructor
  · rintro ⟨i, hi, h⟩
    by_cases e : i = n
    · exact .inr (e ▸ h)
    · exact .inl ⟨i, by omega, h⟩
  · rintro (⟨i, hi, h⟩ | h)
    · exact ⟨i, by omega, h⟩
    · exact ⟨n, by omega, h⟩
section
variable {P : Program} {w : World} {K : PySem.W.Frag} {mg : Str → Option Value} {base : Heap}
theorem ok_frozen (T : Txt w K mg) : FnOk P w K mg base CX0 1 T.a_frozen T.d_frozen p_frozen (spFrozen K) := by
  refine T.F_frozen.ok sc_frozen (fun vs H Q E h => ?_) (fun cdv A outer s H vs Q E hr h => ?_)
  · obtain ⟨p, M, rfl, _⟩ := h
    rfl
  obtain ⟨p, M, rfl, hM, hn, q⟩ := h
  refine ⟨_, (pss_one (ps_ret (pe_callTy call_tuple_of rfl T.z_tuple bt_tuple (pa_cons (pe_lc (own := [("row", 1)]) (g := gName 1) (tt := tYes) rfl sc_frozen.nd (pi_list (pv 0)) (blkOk_by (own := [("row", 1)]) (N := n_frozen) (sc := defScope s_frozen) (by decide +kernel)) (fun _ _ _ _ _ => (pg_name (i := 1) sc_frozen.nd rfl (Or.inl rfl))) (fun _ _ _ _ _ => pts_nil) (fun _ _ _ _ _ => (pe_callTy (show CallR _ _ (rTupOf K) from call_tuple_of) rfl T.z_tuple bt_tuple (pa_cons (pv 1) pa_nil)))) pa_nil)))), ?_⟩
  obtain ⟨vs, hv, hl, hrow⟩ := hM.row
  refine ⟨_, rfl, p, rfl, ⟨vs, hv⟩, fun D hD => ?_⟩
  refine lc_it (walk_list (xs := vs)) (LcP (Same H) (RRow K true M D) D) (lcp_start hD) (fun i G _ P => P.1.seq hv) ?_ ?_
  · rintro i x G G' hi P ⟨rfl, ex⟩
    obtain ⟨a, r, rfl, er, ha⟩ := hrow i x ex
    refine ⟨rfl, tyes ?_⟩
    refine ⟨_, rfl, a, _, rfl, .inl ⟨P.1.seq ha, fun l hl => ?_⟩⟩
    exact lcp_same P hD (Same.new hl _) (lt_line (by omega)) RRow.mono ⟨l, r, rfl, er, P.ne hl, Sq.upd_sameT⟩
  · intro G P
    obtain ⟨as, h1, h2, h3⟩ := lcp_rows P hl
    refine ⟨D, _, rfl, .inl ⟨h1, fun l hl => ?_⟩⟩
    exact q l _ (P.1.trans (Same.new hl _)) ⟨as, Sq.upd_sameT, h2, fun i a r e1 e2 => Sq.same (Same.new hl _) (h3 i a r e1 e2)⟩
theorem ok_has_contradiction (T : Txt w K mg) : FnOk P w K mg base CX0 1 T.a_has_contradiction T.d_has_contradiction p_has_contradiction (spContra K) := by
  refine T.F_has_contradiction.ok sc_has_contradiction (fun vs H Q E h => ?_) (fun cdv A outer s H vs Q E hr h => ?_)
  · obtain ⟨p, M, n, rfl, _⟩ := h
    rfl
  obtain ⟨p, M, n, rfl, hM, sM, hn, q⟩ := h
  refine ⟨_, (pss_one (ps_ret (pe_callB (cr_any rfl) rfl T.z_any bb_any (pa_cons (pe_lc (own := [("at", 1), ("row", 2)]) (g := gTup K 2 (gCons (gName 1) (gCons (gName 2) gNil))) (tt := tYes) rfl sc_has_contradiction.nd (EnT.pi_enumG (by rfl) T.z_enumerate (pa_cons (pv 0) pa_nil)) (blkOk_by (own := [("at", 1), ("row", 2)]) (N := n_has_contradiction) (sc := defScope s_has_contradiction) (by decide +kernel)) (fun _ _ _ _ _ => (pg_tup rfl (pgs_cons (pg_name (i := 1) sc_has_contradiction.nd rfl (Or.inl rfl)) (pgs_cons (pg_name (i := 2) sc_has_contradiction.nd rfl (Or.inl rfl)) pgs_nil)))) (fun _ _ _ _ _ => pts_nil) (fun _ _ _ _ _ => (pe_cmpR op_lt (pe_ix (show IxR _ (rIxL K) from ix_list) (pv 2) (pv 1) (fun _ _ => rfl)) pe_int (nomark _)))) pa_nil)))), ?_⟩
  obtain ⟨vs, hv, hl, hrow⟩ := hM.row
  have lv : vs.length = n := by rw [hl, sM.1]
  refine ⟨_, rfl, false, p, _, rfl, hv, fun D hD => ?_⟩
  refine lc_it EnT.walk_enumG (fun i G => AnyP H D i (∃ i' < i, getM M i' i' < 0) G) (AnyP.start hD (by rintro ⟨i, h, _⟩; omega)) (fun i G _ P => Sq.same P.1 hv) ?_ ?_
  · rintro i x G G' hi P ⟨t, u, v, rfl, ht, rfl, eu, ev⟩
    cases eu
    obtain ⟨a, r, rfl, er, ha⟩ := hrow i v ev
    have lr := sM.get er
    have e0 : r[i]? = some (r[i]'(by omega)) := List.getElem?_eq_getElem _
    refine ⟨t, _, rfl, SqT.of upd_same, rfl, _, _, rfl, _, _, rfl, rfl, ?_⟩
    refine ⟨rfl, tyes ?_⟩
    refine ⟨_, rfl, _, rfl, a, _, _, _, rfl, rfl, (P.1.trans (Same.new ht _)).seq ha, atI_nat (map_get e0), _, _, rfl, rfl, ?_⟩
    obtain ⟨acc, z1, z2, z3⟩ := P.push (b := decide (r[i]'(by omega) < 0)) hD (Same.new ht (.tup [.int i, .ref a])) (lt_line (by omega))
    refine ⟨acc, z1, z2, z3.imp rfl ?_⟩
    rw [ex_lt, getM_of er e0, decide_eq_true_eq]
  · rintro G ⟨sG, bs, h1, h2, h3⟩
    rw [lv] at h3
    exact ⟨D, bs, rfl, SqL.of h1, q _ _ sG h3⟩
theorem ok_shortened (T : Txt w K mg) : FnOk P w K mg base CX0 1 T.a_shortened T.d_shortened p_shortened (spShort K) := by
  refine T.F_shortened.ok sc_shortened (fun vs H Q E h => ?_) (fun cdv A outer s H vs Q E hr h => ?_)
  · obtain ⟨p, M, n, k, rfl, _⟩ := h
    rfl
  obtain ⟨p, M, n, k, rfl, hM, sM, hn, hk, q⟩ := h
  refine ⟨_, (pss_cons (ps_set (i := 2) sc_shortened.nd rfl (Or.inr rfl) (pe_ix ix_list (pv 0) (pv 1) (fun _ _ => rfl)))
      (pss_one (ps_ret (pe_lc (own := [("row", 3)]) (g := gName 3) (tt := tYes) rfl sc_shortened.nd (pi_list (pv 0)) (blkOk_by (own := [("row", 3)]) (N := n_shortened) (sc := defScope s_shortened) (by decide +kernel)) (fun _ _ _ _ _ => (pg_name (i := 3) sc_shortened.nd rfl (Or.inr rfl))) (fun _ _ _ _ _ => pts_nil) (fun _ _ _ _ _ => (pe_lc (own := [("most", 4), ("second", 5)]) (g := gTup K 2 (gCons (gName 4) (gCons (gName 5) gNil))) (tt := tYes) rfl sc_shortened.nd (show PI _ _ _ (ZG.iZipG K _) from (ZG.pi_zipG (by rfl) T.z_zip (pa_cons (pv 3) (pa_cons (pv 2) pa_nil)))) (blkOk_by (own := [("most", 4), ("second", 5)]) (N := n_shortened) (sc := relS _ (defScope s_shortened)) (by decide +kernel)) (fun _ _ _ _ _ => (pg_tup rfl (pgs_cons (pg_name (i := 4) sc_shortened.nd rfl (Or.inl rfl)) (pgs_cons (pg_name (i := 5) sc_shortened.nd rfl (Or.inl rfl)) pgs_nil)))) (fun _ _ _ _ _ => pts_nil) (fun _ _ _ _ _ => (pe_callB (call_min2 rfl) rfl T.z_min bb_min (pa_cons (pv 4) (pa_cons (pe_op op_add (pe_ix (show IxR _ (rIxL K) from ix_list) (pv 3) (pv 1) (fun _ _ => rfl)) (pv 5)) pa_nil)))))))))), ?_⟩
  obtain ⟨rk, ek, lk⟩ := sM.at hk
  obtain ⟨vs0, ak, g1, g2, g3⟩ := hM.getT ek
  obtain ⟨vs, hv, hl, hrow⟩ := hM.row
  have lv : vs.length = n := by rw [hl, sM.1]
  refine ⟨_, rfl, _, rfl, p, _, _, _, rfl, rfl, g1, g2, ?_⟩
  refine ⟨_, rfl, p, rfl, ⟨vs, hv⟩, fun D hD => ?_⟩
  refine lc_it (walk_list (xs := vs)) (LcP (Same H) (RRow K false (mkM n (fwS k (getM M))) D) D) (lcp_start hD) (fun i G _ P => P.1.seq hv) ?_ ?_
  · rintro i x G G' hi P ⟨rfl, ex⟩
    rw [lv] at hi
    obtain ⟨a, r, rfl, er, ha⟩ := hrow i x ex
    have lr := sM.get er
    refine ⟨rfl, tyes ?_⟩
    have ha2 := Sq.same P.1 ha
    have hk2 := Sq.same P.1 g3
    refine ⟨_, rfl, _, rfl, false, false, a, ak, _, _, rfl, ha2, hk2, fun D2 hD2 => ?_⟩
    refine lc_it (walk_zipG (n := n) (by rw [List.length_map, List.length_map]; omega)) (LcP (Same G') (RInt (mkR n (fwS k (getM M) i))) D2) (lcp_start hD2) (fun i F _ P2 => ⟨Sq.same P2.1 ha2, Sq.same P2.1 hk2⟩) ?_ ?_
    · rintro j y F F' hj P2 ⟨t2, c1, c2, rfl, ht2, rfl, e1, e2⟩
      obtain ⟨k1, f1, rfl⟩ := get_int e1
      obtain ⟨k2, f2, rfl⟩ := get_int e2
      have e3 : r[k]? = some (r[k]'(by omega)) := List.getElem?_eq_getElem _
      refine ⟨t2, _, rfl, SqT.of upd_same, rfl, _, _, rfl, _, _, rfl, rfl, ?_⟩
      refine ⟨rfl, tyes ?_⟩
      refine ⟨_, rfl, _, rfl, _, rfl, a, _, _, _, rfl, rfl, (P2.1.trans (Same.new ht2 _)).seq ha2, atI_nat (map_get e3), _, rfl, _, _, rfl, rfl, _, _, rfl, ?_⟩
      refine lcp_same P2 hD2 (Same.new ht2 _) (lt_line (by omega)) RInt.mono ⟨_, mkR_at hj, ?_⟩
      unfold fwS
      rw [getM_of er f1, getM_of er e3, getM_of ek f2]
      congr 1
      split <;> omega
    · intro F P2
      have e := lcp_ints (K := K) P2 mkR_len.symm
      exact lcp_same P hD P2.1 (lt_line (by omega)) RRow.mono ⟨D2, _, rfl, mkM_at hi, P.ne hD2, SqL.of e⟩
  · intro G P
    exact q D G P.1 (lcp_rows P (by rw [lv, mkM_sz.1]))
theorem ok_close (T : Txt w K mg) : FnOk P w K mg base CX0 2 T.a_close T.d_close p_close (spClose K) := by
  have g_frozen := ok_frozen (P := P) (w := w) (base := base) T
  have g_has_contradiction := ok_has_contradiction (P := P) (w := w) (base := base) T
  have g_shortened := ok_shortened (P := P) (w := w) (base := base) T
  refine T.F_close.ok sc_close (fun vs H Q E h => ?_) (fun cdv A outer s H vs Q E hr h => ?_)
  · obtain ⟨t1, t2, p, M, n, rfl, _⟩ := h
    rfl
  obtain ⟨t1, t2, p, M, n, rfl, hM, sM, hn, q⟩ := h
  refine ⟨_, (pss_cons (ps_setLc (i := 1) (own := [("i", 2), ("row", 3)]) (g := gTup K 2 (gCons (gName 2) (gCons (gName 3) gNil))) (tt := tYes) rfl sc_close.nd rfl rfl (sw_true rfl rfl rfl (by decide +kernel)) (EnT.pi_enumG (by rfl) T.z_enumerate (pa_cons (pv 0) pa_nil)) (blkOk_by (own := [("i", 2), ("row", 3)]) (N := n_close) (sc := defScope s_close) (by decide +kernel)) (fun _ _ _ _ _ => (pg_tup rfl (pgs_cons (pg_name (i := 2) sc_close.nd rfl (Or.inr rfl)) (pgs_cons (pg_name (i := 3) sc_close.nd rfl (Or.inl rfl)) pgs_nil)))) (fun _ _ _ _ _ => pts_nil) (fun _ _ _ _ _ => (pe_lc (own := [("j", 4), ("most", 5)]) (g := gTup K 2 (gCons (gName 4) (gCons (gName 5) gNil))) (tt := tYes) rfl sc_close.nd (show PI _ _ _ (EnT.iEnumG K _) from (EnT.pi_enumG (by rfl) T.z_enumerate (pa_cons (pv 3) pa_nil))) (blkOk_by (own := [("j", 4), ("most", 5)]) (N := n_close) (sc := relS _ (defScope s_close)) (by decide +kernel)) (fun _ _ _ _ _ => (pg_tup rfl (pgs_cons (pg_name (i := 4) sc_close.nd rfl (Or.inl rfl)) (pgs_cons (pg_name (i := 5) sc_close.nd rfl (Or.inl rfl)) pgs_nil)))) (fun _ _ _ _ _ => pts_nil) (fun _ _ _ _ _ => (pe_ifExp (pt_cmpR op_eq (pv 2) (pv 4) (nomark _)) (pe_callB (call_min2 rfl) rfl T.z_min bb_min (pa_cons (pv 5) (pa_cons pe_int pa_nil))) (pv 5))))))
      (pss_cons (ps_for PassesOwn.never rfl (pi_range1 rfl T.z_range (pa_cons (pe_callB call_len_seq rfl T.z_len PySem.boot_len (pa_cons (pv 1) pa_nil)) pa_nil)) (pg_name (i := 6) sc_close.nd rfl (Or.inl rfl))
        (pss_cons (ps_if (pt_val (pe_call g_has_contradiction (hr.mono (by first | decide | omega)) rfl T.m_has_contradiction T.F_has_contradiction.kp T.b_has_contradiction .nil pass0 (pa_cons (pv 1) pa_nil))) (pss_one (ps_ret pe_non)) pss_nil)
      (pss_one (ps_set (i := 1) sc_close.nd rfl (Or.inl rfl) (pe_call g_shortened (hr.mono (by first | decide | omega)) rfl T.m_shortened T.F_shortened.kp T.b_shortened .nil pass0 (pa_cons (pv 1) (pa_cons (pv 6) pa_nil)))))))
      (pss_one (ps_ret (pe_ifExp (pt_val (pe_call g_has_contradiction (hr.mono (by first | decide | omega)) rfl T.m_has_contradiction T.F_has_contradiction.kp T.b_has_contradiction .nil pass0 (pa_cons (pv 1) pa_nil))) pe_non (pe_call g_frozen (hr.mono (by first | decide | omega)) rfl T.m_frozen T.F_frozen.kp T.b_frozen .nil pass0 (pa_cons (pv 1) pa_nil))))))), ?_⟩
  obtain ⟨vs, hv, hl, hrow⟩ := hM.row
  have lv : vs.length = n := by rw [hl, sM.1]
  refine ⟨_, rfl, t1, p, _, rfl, hv, fun D hD => ?_⟩
  refine lc_it EnT.walk_enumG (LcP (Same H) (RRow K false (mkM n (fw0 n (getM M))) D) D) (lcp_start hD) (fun i G _ P => Sq.same P.1 hv) ?_ ?_
  · rintro i x G G' hi P ⟨t, u, v, rfl, ht, rfl, eu, ev⟩
    cases eu
    rw [lv] at hi
    obtain ⟨a, r, rfl, er, ha⟩ := hrow i v ev
    have lr := sM.get er
    have s1 : Same G (upd G t (.tup [.int i, .ref a])) := Same.new ht _
    refine ⟨t, _, rfl, SqT.of upd_same, rfl, _, _, rfl, _, _, rfl, rfl, ?_⟩
    refine ⟨rfl, tyes ?_⟩
    have ha2 := Sq.same (P.1.trans s1) ha
    refine ⟨_, rfl, t2, a, _, rfl, ha2, fun D2 hD2 => ?_⟩
    refine lc_it EnT.walk_enumG (LcP (Same _) (RInt (mkR n (fw0 n (getM M) i))) D2) (lcp_start hD2) (fun i F _ P2 => Sq.same P2.1 ha2) ?_ ?_
    · rintro j y F F' hj P2 ⟨t3, c1, c2, rfl, ht3, rfl, e1, e2⟩
      cases e1
      obtain ⟨k2, f2, rfl⟩ := get_int e2
      rw [List.length_map, lr] at hj
      refine ⟨t3, _, rfl, SqT.of upd_same, rfl, _, _, rfl, _, _, rfl, rfl, ?_⟩
      refine ⟨rfl, tyes ?_⟩
      refine ⟨_, rfl, _, rfl, rfl, _, rfl, ite2 (fun h => ?_) (fun h => ?_)⟩
      · have hij : i = j := by
          have h' := of_decide_eq_true h
          have := V.int.inj h'
          omega
        subst hij
        refine ⟨_, rfl, _, _, rfl, ?_⟩
        refine lcp_same P2 hD2 (Same.new ht3 _) (lt_line (by omega)) RInt.mono ⟨_, mkR_at hj, ?_⟩
        unfold fw0
        rw [if_pos rfl, getM_of er f2]
        congr 1
        split <;> omega
      · have hij : i ≠ j := fun z => h (decide_eq_true (by rw [z]))
        refine ⟨_, rfl, ?_⟩
        refine lcp_same P2 hD2 (Same.new ht3 _) (lt_line (by omega)) RInt.mono ⟨_, mkR_at hj, ?_⟩
        unfold fw0
        rw [if_neg hij, getM_of er f2]
    · intro F P2
      have e := lcp_ints (K := K) P2 (by rw [List.length_map, lr, mkR_len])
      exact lcp_same P hD (s1.trans P2.1) (lt_line (by omega)) RRow.mono ⟨D2, _, rfl, mkM_at hi, P.ne (s1.free hD2), SqL.of e⟩
  intro G P
  have m0 := lcp_rows P (by rw [lv, mkM_sz.1])
  have F0 : Fw n (getM M) 0 (getM (mkM n (fw0 n (getM M)))) := (Fw.start (getM M)).congr (by omega) fun i hi j hj => (mkM_get hi hj).symm
  obtain ⟨as, g1, g2, _⟩ := id m0
  have la : as.length = n := by rw [g2, mkM_sz.1]
  refine ⟨_, rfl, D, _, rfl, .inl g1, _, rfl, by omega, by rw [List.length_map, la]; omega, for_range (lo := 0) (fun i σ G' => ∃ (D' : Addr) (N : List (List Int)) (c : Option V), σ = [some (.ref p), some (.ref D'), none, none, none, none, c] ∧ Same H G' ∧ Mx false false K G' D' N ∧ Sz n N ∧ Fw n (getM M) i (getM N))
    ⟨D, _, none, rfl, P.1, m0, mkM_sz, F0⟩ ?_ ?_⟩
  · rintro i σ G1 hi ⟨D', N, c, rfl, s1, m1, z1, f1⟩
    rw [List.length_map, la] at hi
    refine ⟨_, rfl, D', N, n, rfl, m1, z1, hn, fun b G2 s2 hb => ⟨_, rfl, ?_⟩⟩
    cases b with
    | true =>
      obtain ⟨i', hi', neg⟩ := hb.mp rfl
      exact ifT rfl (q .non G2 none (s1.trans s2) rfl (f1.bad hi' neg))
    | false =>
      have pos : ∀ i < n, 0 ≤ getM N i i := fun i' hi' => by
        refine Int.not_lt.mp fun neg => ?_
        exact absurd (hb.mpr ⟨i', hi', neg⟩) (by decide)
      refine ifF rfl ?_
      refine ⟨_, rfl, _, rfl, D', N, n, i, congrArg (fun z => [V.ref D', V.int z]) (Int.zero_add _), m1.same s2, z1, hn, (by omega), fun q1 G3 s3 m3 => ?_⟩
      exact ⟨q1, _, _, rfl, (s1.trans s2).trans s3, m3, mkM_sz, (f1.step (by omega) pos).congr (by omega) fun i hi j hj => (mkM_get hi hj).symm⟩
  · rintro σ G1 ⟨D', N, c, rfl, s1, m1, z1, f1⟩
    rw [List.length_map, la, Int.toNat_natCast] at f1
    refine ⟨_, rfl, D', N, n, rfl, m1, z1, hn, fun b G2 s2 hb => ⟨_, rfl, ?_⟩⟩
    cases b with
    | true =>
      obtain ⟨i', hi', neg⟩ := hb.mp rfl
      exact ifT rfl (q .non G2 none (s1.trans s2) rfl (f1.bad hi' neg))
    | false =>
      have pos : ∀ i < n, 0 ≤ getM N i i := fun i' hi' => by
        refine Int.not_lt.mp fun neg => ?_
        exact absurd (hb.mpr ⟨i', hi', neg⟩) (by decide)
      refine ifF rfl ?_
      refine ⟨_, rfl, D', N, rfl, m1.same s2, by rw [z1.1]; omega, fun p' H' s' hM' => ?_⟩
      have bst := f1.done pos
      rw [mkM_self z1] at bst
      exact q _ _ (some N) ((s1.trans s2).trans s') ⟨p', rfl, hM'⟩ bst
end
/-! ### drawn numbers and points -/
def spNumber : Sp := fun vs H Q _ => ∃ a : Addr, vs = [.ref a] ∧ Src H a ∧ ∀ (r : Int) H', Stp a H H' → Q (.int r) H'
def spSize : Sp := fun vs H Q _ => ∃ a : Addr, vs = [.ref a] ∧ Src H a ∧ ∀ (n : Nat) H', Stp a H H' → n ≤ 20 → Q (.int n) H'
theorem ixInt {ns : List Int} {r : Int} (h0 : 0 ≤ r) (h : r < (ns.length : Int)) : ∃ u : Int, atI (ns.map V.int) r = some (.int u) := by
  have e := atI_int (xs := ns.map V.int) h0 (by rw [List.length_map]; omega)
  rw [List.getElem_map] at e
  exact ⟨_, e⟩
theorem Src.new {a p : Addr} {H : Hp} {o : HO} (h : Src H a) (n : H p = none) : Src (upd H p o) a := (Stp.refl h).new n |>.s
/-- points: a list of tuples, the list a tracked one -/
def Pts (K : PySem.W.Frag) (H : Hp) (p : Addr) (Ps : List (List Int)) : Prop :=
  ∃ as : List Addr, H p = some (.lst (as.map V.ref)) ∧ as.length = Ps.length ∧ ∀ (i : Nat) (a : Addr) (r : List Int), as[i]? = some a → Ps[i]? = some r → SqT K H a (r.map V.int)
theorem Pts.mx {K : PySem.W.Frag} {H : Hp} {p : Addr} {Ps : List (List Int)} (h : Pts K H p Ps) : Mx false true K H p Ps := by
  obtain ⟨as, h1, h2, h3⟩ := h
  exact ⟨as, SqL.of h1, h2, h3⟩
theorem Pts.same {K : PySem.W.Frag} {H H' : Hp} {p : Addr} {Ps : List (List Int)} (s : Same H H') (h : Pts K H p Ps) : Pts K H' p Ps := by
  obtain ⟨as, h1, h2, h3⟩ := h
  exact ⟨as, s _ _ h1, h2, fun i a r e1 e2 => Same.tup s (h3 i a r e1 e2)⟩
theorem Stp.put {a D : Addr} {G F : Hp} {o : HO} (x : Stp a G F) (hs : Src G a) (hD : G D = none) : Stp a G (upd F D o) := by
  have ne := hs.ne hD
  obtain ⟨c, m, k, h⟩ := x.s
  exact ⟨⟨c, m, k, by rw [upd_ne ne]; exact h⟩, fun b u hb e => by rw [upd_ne (ne_of_none e hD)]; exact x.k b u hb e⟩
/-- the points so far, none of them at p -/
def PtsN (K : PySem.W.Frag) (H : Hp) (p : Addr) (Ps : List (List Int)) : Prop :=
  ∃ as : List Addr, H p = some (.lst (as.map V.ref)) ∧ as.length = Ps.length ∧ ∀ (i : Nat) (a : Addr) (r : List Int), as[i]? = some a → Ps[i]? = some r → a ≠ p ∧ SqT K H a (r.map V.int)
theorem PtsN.pts {K : PySem.W.Frag} {H : Hp} {p : Addr} {Ps : List (List Int)} (h : PtsN K H p Ps) : Pts K H p Ps := by
  obtain ⟨as, h1, h2, h3⟩ := h
  exact ⟨as, h1, h2, fun i a r e1 e2 => (h3 i a r e1 e2).2⟩
theorem ints_of {acc : List V} (h : ∀ (j : Nat) (y : V), acc[j]? = some y → ∃ k : Int, y = .int k) : ∃ ns : List Int, acc = ns.map V.int := by
  induction acc with
  | nil => exact ⟨[], rfl⟩
  | cons y acc ih =>
    obtain ⟨k, rfl⟩ := h 0 y rfl
    obtain ⟨ns, rfl⟩ := ih fun j y e => h (j + 1) y (by simpa using e)
    exact ⟨k :: ns, rfl⟩
/-- one point more -/
theorem PtsN.push {K : PySem.W.Frag} {G F : Hp} {p t : Addr} {Ps : List (List Int)} {as : List Addr} {ns : List Int} (e2 : as.length = Ps.length) (e3 : ∀ (i : Nat) (a : Addr) (r : List Int), as[i]? = some a → Ps[i]? = some r → a ≠ p ∧ SqT K G a (r.map V.int))
    (k : ∀ (x : Addr) (xs : List V), SqT K G x xs → SqT K F x xs) (ht : SqT K F t (ns.map V.int)) (ne : t ≠ p) : PtsN K (upd F p (.lst (as.map V.ref ++ [.ref t]))) p (Ps ++ [ns]) := by
  refine ⟨as ++ [t], by rw [List.map_append]; exact upd_same, by simp [e2], fun i a r h1 h2 => ?_⟩
  have put : ∀ {x : Addr} {xs : List V}, x ≠ p → SqT K F x xs → SqT K (upd F p (.lst (as.map V.ref ++ [.ref t]))) x xs := fun nx h => Sq.but (t := true) (But.upd _) nx h
  by_cases hi : i < as.length
  · rw [List.getElem?_append_left hi] at h1
    rw [List.getElem?_append_left (by omega)] at h2
    obtain ⟨q1, q2⟩ := e3 i a r h1 h2
    exact ⟨q1, put q1 (k _ _ q2)⟩
  · rw [List.getElem?_append_right (by omega)] at h1
    rw [List.getElem?_append_right (by omega)] at h2
    have ei : i = as.length := by
      have := (List.getElem?_eq_some_iff.mp h1).1
      simp at this
      omega
    subst ei
    rw [Nat.sub_self] at h1
    rw [e2, Nat.sub_self] at h2
    have h1' : t = a := by simpa using h1
    have h2' : ns = r := by simpa using h2
    subst h1' h2'
    exact ⟨ne, put ne ht⟩
/-- all have n numbers, and there are few -/
def Few (n : Nat) (Ps : List (List Int)) : Prop := Ps.length ≤ 20 ∧ ∀ r ∈ Ps, r.length = n
def spSeeds (K : PySem.W.Frag) : Sp := fun vs H Q _ => ∃ (a : Addr) (n : Nat), vs = [.ref a, .int n] ∧ Src H a ∧ n ≤ 20 ∧ ∀ p H' Ps, Stp a H H' → H p = none → Pts K H' p Ps → Few n Ps → Q (.ref p) H'
section
variable {P : Program} {w : World} {K : PySem.W.Frag} {mg : Str → Option Value} {base : Heap}
end
/-! ### the least box of some points -/
def lmax : List Int → Int
  | [] => 0
  | [x] => x
  | x :: y :: r => max x (lmax (y :: r))
theorem lmax_mem : ∀ {xs : List Int}, xs ≠ [] → lmax xs ∈ xs
  | [], h => absurd rfl h
  | [x], _ => by simp [lmax]
  | x :: y :: r, _ => by
    have ih := lmax_mem (xs := y :: r) (by simp)
    unfold lmax
    by_cases h : x ≤ lmax (y :: r)
    · rw [Int.max_eq_right h]
      exact List.mem_cons_of_mem _ ih
    · rw [Int.max_eq_left (by omega)]
      exact List.mem_cons_self
theorem lmax_le : ∀ {xs : List Int} {x : Int}, x ∈ xs → x ≤ lmax xs
  | [], _, h => by simp at h
  | [z], x, h => by
    have e : x = z := by simpa using h
    rw [e]
    exact Int.le_refl _
  | z :: y :: r, x, h => by
    unfold lmax
    rcases List.mem_cons.mp h with rfl | h
    · omega
    · have := lmax_le (xs := y :: r) h
      omega
theorem lmax_eq {xs : List Int} {m : Int} (h1 : m ∈ xs) (h2 : ∀ y ∈ xs, y ≤ m) : m = lmax xs := by
  have ne : xs ≠ [] := fun z => by rw [z] at h1; simp at h1
  have a := h2 _ (lmax_mem ne)
  have b := lmax_le h1
  omega
theorem lmax_append {xs ys : List Int} (h1 : xs ≠ []) (h2 : ys ≠ []) : lmax (xs ++ ys) = max (lmax xs) (lmax ys) := by
  symm
  refine lmax_eq ?_ fun y hy => ?_
  · by_cases h : lmax xs ≤ lmax ys
    · rw [Int.max_eq_right h]
      exact List.mem_append.mpr (.inr (lmax_mem h2))
    · rw [Int.max_eq_left (by omega)]
      exact List.mem_append.mpr (.inl (lmax_mem h1))
  · rcases List.mem_append.mp hy with h | h
    · have := lmax_le h
      omega
    · have := lmax_le h
      omega
/-- column i minus column j of a point -/
def dif (i j : Nat) (r : List Int) : Int := (0 :: r).getD i 0 - (0 :: r).getD j 0
def hullM (n : Nat) (Ps : List (List Int)) : List (List Int) := (List.range (n + 1)).map fun i => (List.range (n + 1)).map fun j => lmax (Ps.map (dif i j))
def hull (n : Nat) (Ps : List (List Int)) : Option (List (List Int)) := if Ps = [] then none else some (hullM n Ps)
theorem hullM_sz (n : Nat) (Ps : List (List Int)) : Sz (n + 1) (hullM n Ps) := by
  refine ⟨by simp [hullM], fun r hr => ?_⟩
  obtain ⟨i, _, rfl⟩ := List.mem_map.mp hr
  simp
theorem hull_sz (n : Nat) (Ps : List (List Int)) : BSz (n + 1) (hull n Ps) := by
  intro M e
  unfold hull at e
  split at e
  · cases e
  · cases e
    exact hullM_sz n Ps
theorem range_get {n i : Nat} (h : i < n) : (List.range n)[i]? = some i := by simp [h]
def spHull (K : PySem.W.Frag) : Sp := fun vs H Q _ => ∃ (p : Addr) (n : Nat) (Ps : List (List Int)), vs = [.ref p, .int n] ∧ n ≤ 900 ∧ Mx false true K H p Ps ∧ (∀ r ∈ Ps, r.length = n) ∧ Ps.length ≤ 1000000 ∧ ∀ v H', Same H H' → BoxAt K H' v (hull n Ps) → Q v H'
section
variable {P : Program} {w : World} {K : PySem.W.Frag} {mg : Str → Option Value} {base : Heap}
theorem ok_l_hull (T : Txt w K mg) : FnOk P w K mg base CX0 1 T.a_l_hull T.d_l_hull p_l_hull (spHull K) := by
  refine T.F_l_hull.ok sc_l_hull (fun vs H Q E h => ?_) (fun cdv A outer s H vs Q E hr h => ?_)
  · obtain ⟨p, n, Ps, rfl, _⟩ := h
    rfl
  obtain ⟨p, n, Ps, rfl, hn, hM, hl, hz, q⟩ := h
  refine ⟨_, (pss_cons (ps_if (pt_cmpR (op_eqL0 hr.units0) (pv 0) (pe_lst pa_nil) (nomark _)) (pss_one (ps_ret pe_non)) pss_nil)
      (pss_cons (ps_set (i := 2) sc_l_hull.nd rfl (Or.inl rfl) (pe_lst pa_nil))
      (pss_cons (ps_for PassesOwn.never rfl (pi_range1 rfl T.z_range (pa_cons (pe_op op_add (pv 1) pe_int) pa_nil)) (pg_name (i := 3) sc_l_hull.nd rfl (Or.inr rfl))
        (pss_cons (ps_set (i := 4) sc_l_hull.nd rfl (Or.inl rfl) (pe_lst pa_nil))
      (pss_cons (ps_for PassesOwn.never rfl (pi_range1 rfl T.z_range (pa_cons (pe_op op_add (pv 1) pe_int) pa_nil)) (pg_name (i := 5) sc_l_hull.nd rfl (Or.inr rfl))
        (pss_one (ps_expr (pe_bm PySem.F.plainAttrs_list PySem.F.slot_list_append PySem.F.type_list_append mt_append (pv 4) (pa_cons (pe_callB (cr_max rfl) rfl T.z_max bb_max (pa_cons (pe_lc (own := [("_law_point", 6)]) (g := gName 6) (tt := tYes) rfl sc_l_hull.nd (pi_list (pv 0)) (blkOk_by (own := [("_law_point", 6)]) (N := n_l_hull) (sc := defScope s_l_hull) (by decide +kernel)) (fun _ _ _ _ _ => (pg_name (i := 6) sc_l_hull.nd rfl (Or.inl rfl))) (fun _ _ _ _ _ => pts_nil) (fun _ _ _ _ _ => (pe_op op_sub (pe_ix (show IxR _ (rIxT K) from ix_tup) (pe_op (show OpR _ _ (rCatT K) from op_catT) (pe_tup (pa_cons pe_int pa_nil)) (pv 6)) (pv 3) (fun _ _ => rfl)) (pe_ix (show IxR _ (rIxT K) from ix_tup) (pe_op (show OpR _ _ (rCatT K) from op_catT) (pe_tup (pa_cons pe_int pa_nil)) (pv 6)) (pv 5) (fun _ _ => rfl))))) pa_nil)) pa_nil)))))
      (pss_one (ps_expr (pe_bm PySem.F.plainAttrs_list PySem.F.slot_list_append PySem.F.type_list_append mt_append (pv 2) (pa_cons (pe_callTy call_tuple_of rfl T.z_tuple bt_tuple (pa_cons (pv 4) pa_nil)) pa_nil)))))))
      (pss_one (ps_ret (pe_callTy call_tuple_of rfl T.z_tuple bt_tuple (pa_cons (pv 2) pa_nil))))))), ?_⟩
  obtain ⟨vs, hv, lv, hrow⟩ := hM.row
  refine ⟨_, rfl, (by show 0 ≤ sizeLine; decide), fun e he => ?_⟩
  have s0 : Same H (upd H e (.lst [])) := Same.new he _
  refine ⟨p, e, vs, rfl, rfl, s0.seq hv, SqL.of upd_same, _, rfl, ?_⟩
  by_cases hPs : Ps = []
  · subst hPs
    have ev : vs = [] := List.length_eq_zero_iff.mp (by simpa using lv)
    subst ev
    exact ifT rfl (q .non _ s0 rfl)
  have nev : vs ≠ [] := fun z => by
    subst z
    exact hPs (List.length_eq_zero_iff.mp (by simpa using lv.symm))
  refine ifF (by cases vs with
    | nil => exact absurd rfl nev
    | cons _ _ => rfl) ?_
  refine ⟨(by show 0 ≤ sizeLine; decide), fun pr hpr => ?_⟩
  refine ⟨_, rfl, _, _, rfl, rfl, _, rfl, by omega, by omega, for_range (lo := 0) (fun i σ G => (∃ b c d f : Option V, σ = [some (.ref p), some (.int n), some (.ref pr), b, c, d, f]) ∧ LcP (Same (upd H e (.lst []))) (RRow K true (hullM n Ps) pr) pr i G)
    ⟨⟨none, none, none, none, rfl⟩, lcp_start hpr⟩ ?_ ?_⟩
  · rintro i σ G hi ⟨⟨b, c, d, f, rfl⟩, P⟩
    refine ⟨(by show 0 ≤ sizeLine; decide), fun pw hpw => ?_⟩
    refine ⟨_, rfl, _, _, rfl, rfl, _, rfl, by omega, by omega, for_range (lo := 0) (fun j σ F => (∃ d f : Option V, σ = [some (.ref p), some (.int n), some (.ref pr), some (.int (0 + (i : Int))), some (.ref pw), d, f]) ∧ LcP (Same G) (RInt ((List.range (n + 1)).map fun j => lmax (Ps.map (dif i j)))) pw j F)
      ⟨⟨d, f, rfl⟩, lcp_start hpw⟩ ?_ ?_⟩
    · rintro j σ F hj ⟨⟨d', f', rfl⟩, PF⟩
      obtain ⟨acc, a1, a2⟩ := PF.acc
      have sF : Same H F := (s0.trans P.1).trans PF.1
      have hvF := sF.seq hv
      refine ⟨_, rfl, .inl ⟨rfl, _, SqL.of a1⟩, ?_⟩
      refine ⟨_, rfl, p, rfl, ⟨vs, hvF⟩, fun D hD => ?_⟩
      refine lc_it (walk_list (xs := vs)) (LcP (Same F) (RInt (Ps.map (dif i j))) D) (lcp_start hD) (fun _ F1 _ PD => PD.1.seq hvF) ?_ ?_
      · rintro k x F1 F2 hk PD ⟨rfl, ex⟩
        obtain ⟨a, r, rfl, er, ha⟩ := hrow k x ex
        have lr := hl r (List.mem_of_getElem? er)
        refine ⟨rfl, tyes ?_⟩
        have ha1 := Sq.same (sF.trans PD.1) ha
        refine ⟨(by show 1 ≤ sizeLine; decide), fun t1 ht1 => ?_⟩
        refine ⟨_, rfl, cat0 (SqT.of upd_same) (Same.tup (Same.new ht1 _) ha1) (by omega) fun z1 Fa sa hz1 => ?_⟩
        refine ⟨_, rfl, z1, _, _, _, rfl, rfl, hz1, atI_row (by simp; omega), ?_⟩
        have s1 := (Same.new ht1 (.tup [.int 0])).trans sa
        refine ⟨(by show 1 ≤ sizeLine; decide), fun t2 ht2 => ?_⟩
        refine ⟨_, rfl, cat0 (SqT.of upd_same) (Same.tup (s1.trans (Same.new ht2 _)) ha1) (by omega) fun z2 Fb sb hz2 => ?_⟩
        refine ⟨_, rfl, z2, _, _, _, rfl, rfl, hz2, atI_row (by simp; omega), ?_⟩
        refine ⟨_, _, rfl, rfl, ?_⟩
        exact lcp_same PD hD (s1.trans ((Same.new ht2 _).trans sb)) (lt_line (by omega)) RInt.mono ⟨dif i j r, map_get er, rfl⟩
      · intro F1 PD
        have ne : Ps.map (dif i j) ≠ [] := fun z => hPs (List.map_eq_nil_iff.mp z)
        refine ⟨D, _, rfl, SqL.of (lcp_ints (K := K) PD (by rw [List.length_map]; exact lv)), List.length_pos_iff.mpr ne, fun m hm hx => ?_⟩
        have em := lmax_eq hm hx
        refine ⟨pw, acc, _, rfl, rfl, PD.1 _ _ a1, lt_line (by omega), ⟨_, _, rfl⟩, ?_⟩
        exact lcp_put PF a1 hpw PD.1 (lt_line (by omega)) RInt.mono ⟨m, by rw [em]; exact map_get (range_get (by omega)), rfl⟩
    · rintro σ F ⟨⟨d', f', rfl⟩, PF⟩
      obtain ⟨acc, a1, a2⟩ := P.acc
      have a1F := PF.1 _ _ a1
      refine ⟨_, rfl, .inl ⟨rfl, _, SqL.of a1F⟩, ?_⟩
      refine ⟨_, rfl, pw, _, rfl, .inl ⟨SqL.of (lcp_ints (K := K) PF (by simp)), fun t ht => ?_⟩⟩
      have tn : t ≠ pr := fun z => by
        rw [← z, ht] at a1F
        cases a1F
      refine ⟨pr, acc, _, rfl, rfl, by rw [upd_ne tn.symm]; exact a1F, lt_line (by omega), ⟨_, _, _, _, rfl⟩, ?_⟩
      exact lcp_put P a1 hpr (PF.1.trans (Same.new ht _)) (lt_line (by omega)) RRow.mono ⟨t, _, rfl, map_get (range_get (by omega)), tn, Sq.upd_sameT⟩
  · rintro σ G ⟨⟨b, c, d, f, rfl⟩, P⟩
    obtain ⟨as, h1, h2, h3⟩ := lcp_rows P (by simp [hullM])
    refine ⟨_, rfl, pr, _, rfl, .inl ⟨h1, fun l hl => ?_⟩⟩
    refine q (.ref l) _ ((s0.trans P.1).trans (Same.new hl _)) ?_
    unfold hull
    rw [if_neg hPs]
    exact ⟨l, rfl, as, Sq.upd_sameT, h2, fun i a r e1 e2 => Sq.same (Same.new hl _) (h3 i a r e1 e2)⟩
end
/-! ### the least box is closed -/
theorem getM_hull {n : Nat} {Ps : List (List Int)} {i j : Nat} (hi : i < n + 1) (hj : j < n + 1) : getM (hullM n Ps) i j = lmax (Ps.map (dif i j)) := getM_of (map_get (range_get hi)) (map_get (range_get hj))
theorem hull_tri {n : Nat} {Ps : List (List Int)} (hP : Ps ≠ []) {i j k : Nat} (hi : i < n + 1) (hj : j < n + 1) (hk : k < n + 1) : getM (hullM n Ps) i j ≤ getM (hullM n Ps) i k + getM (hullM n Ps) k j := by
  rw [getM_hull hi hj, getM_hull hi hk, getM_hull hk hj]
  obtain ⟨r, hr, e⟩ := List.mem_map.mp (lmax_mem (xs := Ps.map (dif i j)) fun z => hP (List.map_eq_nil_iff.mp z))
  have h1 : dif i k r ≤ lmax (Ps.map (dif i k)) := lmax_le (List.mem_map_of_mem hr)
  have h2 : dif k j r ≤ lmax (Ps.map (dif k j)) := lmax_le (List.mem_map_of_mem hr)
  rw [← e]
  unfold dif at *
  omega
theorem hull_diag {n : Nat} {Ps : List (List Int)} (hP : Ps ≠ []) {i : Nat} (hi : i < n + 1) : getM (hullM n Ps) i i = 0 := by
  rw [getM_hull hi hi]
  obtain ⟨r, hr, e⟩ := List.mem_map.mp (lmax_mem (xs := Ps.map (dif i i)) fun z => hP (List.map_eq_nil_iff.mp z))
  rw [← e]
  unfold dif
  omega
/-- the points at these addresses -/
def PA (K : PySem.W.Frag) (H : Hp) (as : List Addr) (Ps : List (List Int)) : Prop := as.length = Ps.length ∧ ∀ (i : Nat) (a : Addr) (r : List Int), as[i]? = some a → Ps[i]? = some r → SqT K H a (r.map V.int)
theorem Pts.pa {K : PySem.W.Frag} {H : Hp} {p : Addr} {Ps : List (List Int)} (h : Pts K H p Ps) : ∃ as, H p = some (.lst (as.map V.ref)) ∧ PA K H as Ps := by
  obtain ⟨as, h1, h2, h3⟩ := h
  exact ⟨as, h1, h2, h3⟩
theorem PA.pts {K : PySem.W.Frag} {H : Hp} {p : Addr} {as : List Addr} {Ps : List (List Int)} (h : PA K H as Ps) (e : H p = some (.lst (as.map V.ref))) : Pts K H p Ps := ⟨as, e, h.1, h.2⟩
theorem PA.same {K : PySem.W.Frag} {H H' : Hp} {as : List Addr} {Ps : List (List Int)} (s : Same H H') (h : PA K H as Ps) : PA K H' as Ps := ⟨h.1, fun i a r e1 e2 => Same.tup s (h.2 i a r e1 e2)⟩
theorem PA.stp {K : PySem.W.Frag} {a : Addr} {H H' : Hp} {as : List Addr} {Ps : List (List Int)} (s : Stp a H H') (hs : Src H a) (h : PA K H as Ps) : PA K H' as Ps := ⟨h.1, fun i b r e1 e2 => s.rd (h.2 i b r e1 e2) hs⟩
theorem PA.drop {K : PySem.W.Frag} {H : Hp} {as : List Addr} {Ps : List (List Int)} (k : Nat) (h : PA K H as Ps) : PA K H (as.drop k) (Ps.drop k) := by
  refine ⟨by rw [List.length_drop, List.length_drop, h.1], fun i a r e1 e2 => ?_⟩
  rw [List.getElem?_drop] at e1 e2
  exact h.2 _ a r e1 e2
theorem PA.take {K : PySem.W.Frag} {H : Hp} {as : List Addr} {Ps : List (List Int)} (k : Nat) (h : PA K H as Ps) : PA K H (as.take k) (Ps.take k) := by
  refine ⟨by rw [List.length_take, List.length_take, h.1], fun i a r e1 e2 => ?_⟩
  rw [List.getElem?_take] at e1 e2
  split at e1
  · rename_i hk
    rw [if_pos hk] at e2
    exact h.2 _ a r e1 e2
  · cases e1
theorem PA.append {K : PySem.W.Frag} {H : Hp} {as bs : List Addr} {Ps Qs : List (List Int)} (h : PA K H as Ps) (k : PA K H bs Qs) : PA K H (as ++ bs) (Ps ++ Qs) := by
  refine ⟨by rw [List.length_append, List.length_append, h.1, k.1], fun i a r e1 e2 => ?_⟩
  by_cases hi : i < as.length
  · rw [List.getElem?_append_left hi] at e1
    rw [List.getElem?_append_left (by rw [← h.1]; exact hi)] at e2
    exact h.2 i a r e1 e2
  · rw [List.getElem?_append_right (by omega)] at e1
    rw [List.getElem?_append_right (by rw [← h.1]; omega), ← h.1] at e2
    exact k.2 _ a r e1 e2
theorem PA.one {K : PySem.W.Frag} {H : Hp} {a : Addr} {r : List Int} (h : SqT K H a (r.map V.int)) : PA K H [a] [r] := by
  refine ⟨rfl, fun i b q e1 e2 => ?_⟩
  cases i with
  | zero =>
    cases e1
    cases e2
    exact h
  | succ i => simp at e1
theorem Pts.stp {K : PySem.W.Frag} {a p : Addr} {H H' : Hp} {Ps : List (List Int)} (s : Stp a H H') (hs : Src H a) (ne : p ≠ a) (h : Pts K H p Ps) : Pts K H' p Ps := by
  obtain ⟨as, h1, h2⟩ := h.pa
  exact (h2.stp s hs).pts (s.k _ _ ne h1)
/-! ### rows that are written: lists of numbers in a list -/
def RowsL (H : Hp) (as : List Addr) (Rs : List (List Int)) : Prop := as.length = Rs.length ∧ ∀ (i : Nat) (x : Addr) (r : List Int), as[i]? = some x → Rs[i]? = some r → H x = some (.lst (r.map V.int))
theorem RowsL.keep {H H' : Hp} {as : List Addr} {Rs : List (List Int)} (h : RowsL H as Rs) (k : ∀ x ∈ as, ∀ o, H x = some o → H' x = some o) : RowsL H' as Rs :=
  ⟨h.1, fun i x r e1 e2 => k x (List.mem_of_getElem? e1) _ (h.2 i x r e1 e2)⟩
theorem RowsL.at {H : Hp} {as : List Addr} {Rs : List (List Int)} {i : Nat} (h : RowsL H as Rs) (hi : i < Rs.length) : ∃ x r, as[i]? = some x ∧ Rs[i]? = some r ∧ H x = some (.lst (r.map V.int)) := by
  have ea : as[i]? = some (as[i]'(by rw [h.1]; exact hi)) := List.getElem?_eq_getElem _
  have er : Rs[i]? = some Rs[i] := List.getElem?_eq_getElem hi
  exact ⟨_, _, ea, er, h.2 i _ _ ea er⟩
theorem nodup_ix {α : Type} {as : List α} (nd : as.Nodup) {i j : Nat} {x : α} (h1 : as[i]? = some x) (h2 : as[j]? = some x) : i = j := by
  obtain ⟨l1, q1⟩ := List.getElem?_eq_some_iff.mp h1
  obtain ⟨l2, q2⟩ := List.getElem?_eq_some_iff.mp h2
  have p := List.pairwise_iff_getElem.mp nd
  rcases Nat.lt_trichotomy i j with h | h | h
  · exact absurd (q1.trans q2.symm) (p i j l1 l2 h)
  · exact h
  · exact absurd (q2.trans q1.symm) (p j i l2 l1 h)
theorem RowsL.put {H : Hp} {as : List Addr} {Rs : List (List Int)} {i : Nat} {x : Addr} {r' : List Int} (h : RowsL H as Rs) (nd : as.Nodup) (ea : as[i]? = some x) : RowsL (upd H x (.lst (r'.map V.int))) as (Rs.set i r') := by
  refine ⟨by rw [List.length_set]; exact h.1, fun j y q e1 e2 => ?_⟩
  rw [List.getElem?_set] at e2
  by_cases hj : i = j
  · subst hj
    rw [if_pos rfl] at e2
    rw [ea] at e1
    cases e1
    split at e2
    · cases e2
      exact upd_same
    · cases e2
  · rw [if_neg hj] at e2
    have ne : y ≠ x := fun z => by
      subst z
      exact hj (nodup_ix nd ea e1)
    rw [upd_ne ne]
    exact h.2 j y q e1 e2
/-- the diagonal's entry i becomes v -/
def setD (Rs : List (List Int)) (i : Nat) (v : Int) : List (List Int) := Rs.set i ((Rs.getD i []).set i v)
theorem setD_eq {Rs : List (List Int)} {i : Nat} {r : List Int} {v : Int} (e : Rs[i]? = some r) : setD Rs i v = Rs.set i (r.set i v) := by
  unfold setD
  rw [List.getD_eq_getElem?_getD, e]
  rfl
theorem setD_at {Rs : List (List Int)} {i : Nat} {r : List Int} {v : Int} (e : Rs[i]? = some r) : (setD Rs i v)[i]? = some (r.set i v) := by
  rw [setD_eq e, List.getElem?_set, if_pos rfl, if_pos (List.getElem?_eq_some_iff.mp e).1]
theorem setD_sz {n i : Nat} {Rs : List (List Int)} {v : Int} (h : Sz n Rs) (hi : i < n) : Sz n (setD Rs i v) := by
  obtain ⟨r, e, l⟩ := h.at hi
  rw [setD_eq e]
  refine ⟨by rw [List.length_set]; exact h.1, fun q hq => ?_⟩
  rcases List.mem_or_eq_of_mem_set hq with h1 | h1
  · exact h.2 q h1
  · rw [h1, List.length_set]
    exact l
theorem setD_get {n i a b : Nat} {Rs : List (List Int)} {v : Int} (h : Sz n Rs) (hi : i < n) (ha : a < n) (hb : b < n) : getM (setD Rs i v) a b = if a = i ∧ b = i then v else getM Rs a b := by
  obtain ⟨r, e, l⟩ := h.at hi
  by_cases e1 : a = i
  · subst e1
    by_cases e2 : b = a
    · subst e2
      rw [if_pos ⟨rfl, rfl⟩]
      exact getM_of (setD_at e) (by rw [List.getElem?_set, if_pos rfl, if_pos (by omega)])
    · rw [if_neg (fun z => e2 z.2)]
      have eb : r[b]? = some (r[b]'(by omega)) := List.getElem?_eq_getElem _
      rw [getM_of e eb]
      exact getM_of (setD_at e) (by rw [List.getElem?_set, if_neg (fun z => e2 z.symm)]; exact eb)
  · rw [if_neg (fun z => e1 z.1)]
    obtain ⟨q, eq', lq⟩ := h.at ha
    have eb : q[b]? = some (q[b]'(by omega)) := List.getElem?_eq_getElem _
    rw [getM_of eq' eb]
    exact getM_of (by rw [setD_eq e, List.getElem?_set, if_neg (fun z => e1 z.symm)]; exact eq') eb
theorem setD_setD {Rs : List (List Int)} {i : Nat} {r : List Int} {v w : Int} (e : Rs[i]? = some r) : (setD Rs i v).set i (r.set i w) = setD Rs i w := by
  rw [setD_eq e, setD_eq e, List.set_set]
/-- rows that were made since H0 -/
structure RowsN (a : Addr) (H0 G : Hp) (pr : Addr) (as : List Addr) (Rs : List (List Int)) : Prop where
  st : Stp a H0 G
  s0 : Src H0 a
  e : G pr = some (.lst (as.map V.ref))
  rw : RowsL G as Rs
  nd : as.Nodup
  nw : ∀ x ∈ as, H0 x = none
  np : pr ∉ as
  n0 : H0 pr = none
theorem RowsN.na {a : Addr} {H0 G : Hp} {pr : Addr} {as : List Addr} {Rs : List (List Int)} (h : RowsN a H0 G pr as Rs) : ∀ x ∈ as, x ≠ a := fun x hx => (h.s0.ne (h.nw x hx)).symm
theorem RowsN.npa {a : Addr} {H0 G : Hp} {pr : Addr} {as : List Addr} {Rs : List (List Int)} (h : RowsN a H0 G pr as Rs) : pr ≠ a := (h.s0.ne h.n0).symm
theorem RowsN.go {a : Addr} {H0 G G' : Hp} {pr : Addr} {as : List Addr} {Rs : List (List Int)} (h : RowsN a H0 G pr as Rs) (s : Stp a G G') : RowsN a H0 G' pr as Rs :=
  ⟨h.st.trans s, h.s0, s.k _ _ h.npa h.e, h.rw.keep fun x hx o e => s.k x o (h.na x hx) e, h.nd, h.nw, h.np, h.n0⟩
theorem RowsN.put {a : Addr} {H0 G : Hp} {pr : Addr} {as : List Addr} {Rs : List (List Int)} {i : Nat} {x : Addr} {r' : List Int} (h : RowsN a H0 G pr as Rs) (ea : as[i]? = some x) : RowsN a H0 (upd G x (.lst (r'.map V.int))) pr as (Rs.set i r') :=
  ⟨h.st.put h.s0 (h.nw x (List.mem_of_getElem? ea)), h.s0, by
    have ne : pr ≠ x := fun z => h.np (by rw [z]; exact List.mem_of_getElem? ea)
    rw [upd_ne ne]
    exact h.e, h.rw.put h.nd ea, h.nd, h.nw, h.np, h.n0⟩
theorem RowsN.start {a : Addr} {H0 G : Hp} {pr : Addr} (s : Stp a H0 G) (s0 : Src H0 a) (hp : G pr = none) : RowsN a H0 (upd G pr (.lst [])) pr [] [] :=
  ⟨s.new hp, s0, upd_same, ⟨rfl, fun i x r e => by simp at e⟩, List.nodup_nil, fun x hx => by simp at hx, by simp, s.free hp⟩
/-- one row more -/
theorem RowsN.push {a : Addr} {H0 G F : Hp} {pr D : Addr} {as : List Addr} {Rs : List (List Int)} {ns : List Int} (h : RowsN a H0 G pr as Rs) (s : Stp a G F) (hD : G D = none) (eD : F D = some (.lst (ns.map V.int))) :
    RowsN a H0 (upd F pr (.lst (as.map V.ref ++ [.ref D]))) pr (as ++ [D]) (Rs ++ [ns]) := by
  have h' := h.go s
  have dp : D ≠ pr := fun z => by
    have e := h.e
    rw [← z, hD] at e
    cases e
  have nin : D ∉ as := fun z => by
    obtain ⟨i, hi, e⟩ := List.getElem_of_mem z
    obtain ⟨x, r, e1, e2, e3⟩ := h.rw.at (i := i) (by rw [← h.rw.1]; exact hi)
    rw [List.getElem?_eq_getElem hi, e] at e1
    cases e1
    rw [hD] at e3
    cases e3
  refine ⟨h'.st.put h.s0 h.n0, h.s0, by rw [List.map_append]; exact upd_same, ⟨by simp [h.rw.1], fun i x r e1 e2 => ?_⟩, ?_, fun x hx => ?_, ?_, h.n0⟩
  · by_cases hi : i < as.length
    · rw [List.getElem?_append_left hi] at e1
      rw [List.getElem?_append_left (by rw [← h.rw.1]; exact hi)] at e2
      have ne : x ≠ pr := fun z => h.np (by rw [← z]; exact List.mem_of_getElem? e1)
      rw [upd_ne ne]
      exact h'.rw.2 i x r e1 e2
    · rw [List.getElem?_append_right (by omega)] at e1
      rw [List.getElem?_append_right (by rw [← h.rw.1]; omega), ← h.rw.1] at e2
      have ei : i - as.length = 0 := by
        have := (List.getElem?_eq_some_iff.mp e1).1
        simp at this
        omega
      rw [ei] at e1 e2
      have e1' : D = x := by simpa using e1
      have e2' : ns = r := by simpa using e2
      subst e1' e2'
      rw [upd_ne dp]
      exact eD
  · rw [List.nodup_append]
    refine ⟨h.nd, by simp, fun x hx y hy z => ?_⟩
    have : y = D := by simpa using hy
    subst this
    subst z
    exact nin hx
  · rcases List.mem_append.mp hx with q | q
    · exact h.nw x q
    · have : x = D := by simpa using q
      rw [this]
      exact h.st.free hD
  · intro z
    rcases List.mem_append.mp z with q | q
    · exact h.np q
    · have : pr = D := by simpa using q
      exact dp this.symm
def spDiag (K : PySem.W.Frag) : Sp := fun vs H Q _ => ∃ (a pr : Addr) (as : List Addr) (Rs : List (List Int)) (n : Nat) (H0 : Hp), vs = [.ref a, .ref pr] ∧ 1 ≤ n ∧ n ≤ 900 ∧ RowsN a H0 H pr as Rs ∧ Sz n Rs ∧
  ∀ t H' M, Stp a H0 H' → Mx true true K H' t M → Sz n M → (∀ i < n, ∀ j < n, i ≠ j → getM M i j = getM Rs i j) → (∀ i < n, -3 ≤ getM M i i ∧ getM M i i ≤ 3) → Q (.ref t) H'
/-! ### the box of all points within ranges -/
/-- the ranges, as rows of two numbers -/
def wid (Rs : List (List Int)) (i j : Nat) : Int := if i = j then 0 else (([0, 0] :: Rs).getD i []).getD 1 0 - (([0, 0] :: Rs).getD j []).getD 0 0
theorem wipe_off {σ : L2.St} {j : Nat} {x : Option V} : ∀ {vs : List Nat}, j ∉ vs → wipe (σ.set j x) vs = (wipe σ vs).set j x
  | [], _ => rfl
  | v :: vs, h => by
    have n : v ≠ j := fun z => h (by rw [z]; exact List.mem_cons_self)
    show (wipe (σ.set j x) vs).set v none = ((wipe σ vs).set v none).set j x
    rw [wipe_off fun z => h (List.mem_cons_of_mem _ z), List.set_comm _ _ n.symm]
theorem wipe_set {σ : L2.St} {j : Nat} {x : Option V} : ∀ {vs : List Nat}, j ∈ vs → wipe (σ.set j x) vs = wipe σ vs
  | [], h => by simp at h
  | v :: vs, h => by
    show (wipe (σ.set j x) vs).set v none = (wipe σ vs).set v none
    by_cases hj : j ∈ vs
    · rw [wipe_set hj]
    · have e : j = v := by
        rcases List.mem_cons.mp h with e | e
        · exact e
        · exact absurd e hj
      subst e
      rw [wipe_off hj, List.set_set]
theorem wipe_sub {σ : L2.St} {vs : List Nat} : ∀ {us : List Nat}, (∀ u ∈ us, u ∈ vs) → wipe (wipe σ us) vs = wipe σ vs
  | [], _ => rfl
  | u :: us, h => by
    show wipe ((wipe σ us).set u none) vs = _
    rw [wipe_set (h u List.mem_cons_self), wipe_sub fun x hx => h x (List.mem_cons_of_mem _ hx)]
/-- three names of a block are gone again -/
theorem wipe3 {σ : L2.St} {a b c : Nat} {x y z : Option V} : wipe ((((wipe σ [a, b, c]).set a x).set b y).set c z) [a, b, c] = wipe σ [a, b, c] := by
  rw [wipe_set (by simp), wipe_set (by simp), wipe_set (by simp), wipe_sub fun u h => h]
theorem two_at {Rs : List (List Int)} (hR2 : ∀ r ∈ Rs, r.length = 2) (i : Nat) (r : List Int) (e : ([0, 0] :: Rs)[i]? = some r) : ∃ lo hi, r = [lo, hi] ∧ (([0, 0] :: Rs).getD i []).getD 1 0 = hi ∧ (([0, 0] :: Rs).getD i []).getD 0 0 = lo := by
  have l2 : r.length = 2 := by
    rcases List.mem_cons.mp (List.mem_of_getElem? e) with rfl | h
    · rfl
    · exact hR2 r h
  obtain ⟨lo, hi, rfl⟩ : ∃ lo hi, r = [lo, hi] := by
    match r, l2 with
    | [a, b], _ => exact ⟨a, b, rfl⟩
  have eD : ([0, 0] :: Rs).getD i [] = [lo, hi] := by rw [List.getD_eq_getElem?_getD, e]; rfl
  rw [eD]
  exact ⟨lo, hi, rfl, rfl, rfl⟩
/-- some range has no number -/
def Gap (Rs : List (List Int)) (k : Nat) : Prop := ∃ i < k, (Rs.getD i []).getD 1 0 < (Rs.getD i []).getD 0 0
open Classical in
noncomputable def rangeB (Rs : List (List Int)) : Option (List (List Int)) := if Gap Rs Rs.length then none else some (mkM (Rs.length + 1) (wid Rs))
def spRangeBox (K : PySem.W.Frag) : Sp := fun vs H Q _ => ∃ (q : Addr) (Rs : List (List Int)), vs = [.ref q] ∧ Mx true true K H q Rs ∧ (∀ r ∈ Rs, r.length = 2) ∧ Rs.length ≤ 100 ∧ ∀ v H', Same H H' → BoxAt K H' v (rangeB Rs) → Q v H'
section
variable {P : Program} {w : World} {K : PySem.W.Frag} {mg : Str → Option Value} {base : Heap}
theorem ok_range_box (T : Txt w K mg) : FnOk P w K mg base CX0 2 T.a_range_box T.d_range_box p_range_box (spRangeBox K) := by
  have g_frozen := ok_frozen (P := P) (w := w) (base := base) T
  refine T.F_range_box.ok sc_range_box (fun vs H Q E h => ?_) (fun cdv A outer s H vs Q E hr h => ?_)
  · obtain ⟨q, Rs, rfl, _⟩ := h
    rfl
  obtain ⟨q, Rs, rfl, hR, hR2, hRn, k⟩ := h
  refine ⟨_, (pss_cons (ps_if (pt_val (pe_callB (cr_any rfl) rfl T.z_any bb_any (pa_cons (pe_lc (own := [("low", 1), ("high", 2)]) (g := gTup K 2 (gCons (gName 1) (gCons (gName 2) gNil))) (tt := tYes) rfl sc_range_box.nd (pi_tup (pv 0)) (blkOk_by (own := [("low", 1), ("high", 2)]) (N := n_range_box) (sc := defScope s_range_box) (by decide +kernel)) (fun _ _ _ _ _ => (pg_tup rfl (pgs_cons (pg_name (i := 1) sc_range_box.nd rfl (Or.inl rfl)) (pgs_cons (pg_name (i := 2) sc_range_box.nd rfl (Or.inl rfl)) pgs_nil)))) (fun _ _ _ _ _ => pts_nil) (fun _ _ _ _ _ => (pe_cmpR op_gt (pv 1) (pv 2) (nomark _)))) pa_nil))) (pss_one (ps_ret pe_non)) pss_nil)
      (pss_cons (ps_set (i := 3) sc_range_box.nd rfl (Or.inr rfl) (pe_lst (pa_cons (pe_tup (pa_cons pe_int (pa_cons pe_int pa_nil))) (StX.pa_star (pv 0) pa_nil))))
      (pss_one (ps_ret (pe_call g_frozen (hr.mono (by first | decide | omega)) rfl T.m_frozen T.F_frozen.kp T.b_frozen .nil pass0 (pa_cons (pe_lc (own := [("i", 4), ("_", 5), ("high", 2)]) (g := gTup K 2 (gCons (gName 4) (gCons (gTup K 2 (gCons (gName 5) (gCons (gName 2) gNil))) gNil))) (tt := tYes) rfl sc_range_box.nd (EnT.pi_enumG (by rfl) T.z_enumerate (pa_cons (pv 3) pa_nil)) (blkOk_by (own := [("i", 4), ("_", 5), ("high", 2)]) (N := n_range_box) (sc := defScope s_range_box) (by decide +kernel)) (fun _ _ _ _ _ => (pg_tup rfl (pgs_cons (pg_name (i := 4) sc_range_box.nd rfl (Or.inr rfl)) (pgs_cons (pg_tup rfl (pgs_cons (pg_name (i := 5) sc_range_box.nd rfl (Or.inl rfl)) (pgs_cons (pg_name (i := 2) sc_range_box.nd rfl (Or.inr rfl)) pgs_nil))) pgs_nil)))) (fun _ _ _ _ _ => pts_nil) (fun _ _ _ _ _ => (pe_lc (own := [("j", 6), ("low", 1), ("_", 5)]) (g := gTup K 2 (gCons (gName 6) (gCons (gTup K 2 (gCons (gName 1) (gCons (gName 5) gNil))) gNil))) (tt := tYes) rfl sc_range_box.nd (show PI _ _ _ (EnT.iEnumG K _) from (EnT.pi_enumG (by rfl) T.z_enumerate (pa_cons (pv 3) pa_nil))) (blkOk_by (own := [("j", 6), ("low", 1), ("_", 5)]) (N := n_range_box) (sc := relS _ (defScope s_range_box)) (by decide +kernel)) (fun _ _ _ _ _ => (pg_tup rfl (pgs_cons (pg_name (i := 6) sc_range_box.nd rfl (Or.inl rfl)) (pgs_cons (pg_tup rfl (pgs_cons (pg_name (i := 1) sc_range_box.nd rfl (Or.inl rfl)) (pgs_cons (pg_name (i := 5) sc_range_box.nd rfl (Or.inl rfl)) pgs_nil))) pgs_nil)))) (fun _ _ _ _ _ => pts_nil) (fun _ _ _ _ _ => (pe_ifExp (pt_cmpR op_eq (pv 4) (pv 6) (nomark _)) pe_int (pe_op op_sub (pv 2) (pv 1))))))) pa_nil)))))), ?_⟩
  obtain ⟨vr, hvr, lvr, rrow⟩ := hR.row
  have row2 : ∀ (i : Nat) (v : V), vr[i]? = some v → ∃ (a : Addr) (lo hi : Int), v = .ref a ∧ (Rs.getD i []).getD 0 0 = lo ∧ (Rs.getD i []).getD 1 0 = hi ∧ SqT K H a [.int lo, .int hi] := fun i v e => by
    obtain ⟨a, r, e1, e2, e3⟩ := rrow i v e
    have l2 := hR2 r (List.mem_of_getElem? e2)
    have eD : Rs.getD i [] = r := by rw [List.getD_eq_getElem?_getD, e2]; rfl
    rw [eD]
    match r, l2, e3 with
    | [x, y], _, e3 => exact ⟨a, x, y, e1, rfl, rfl, e3⟩
  refine ⟨_, rfl, q, rfl, ⟨vr, hvr⟩, fun D hD => ?_⟩
  refine lc_it (walk_tup (xs := vr)) (fun i G => AnyP H D i (Gap Rs i) G) (AnyP.start hD (by rintro ⟨i, h, _⟩; omega)) (fun i G _ P => Same.tup P.1 hvr) ?_ ?_
  · rintro i x G G' hi P ⟨rfl, ex⟩
    obtain ⟨a, lo, hh, rfl, e1, e2, ha⟩ := row2 i x ex
    refine ⟨a, _, rfl, Same.tup P.1 ha, rfl, _, _, rfl, _, _, rfl, rfl, ?_⟩
    refine ⟨rfl, tyes ?_⟩
    refine ⟨_, rfl, _, rfl, _, _, rfl, rfl, ?_⟩
    obtain ⟨acc, z1, z2, z3⟩ := P.push (b := decide (hh < lo)) hD (Same.refl _) (lt_line (by omega))
    refine ⟨acc, z1, z2, z3.imp rfl ?_⟩
    unfold Gap
    rw [ex_lt, e1, e2, decide_eq_true_eq]
  · rintro G ⟨sG, bs, h1, h2, h3⟩
    rw [lvr] at h3
    refine ⟨D, bs, rfl, SqL.of h1, _, rfl, ite2 (fun c => ?_) (fun c => ?_)⟩
    · refine k .non G sG ?_
      unfold rangeB
      rw [if_pos (h3.mp c)]
      rfl
    have ng : ¬ Gap Rs Rs.length := fun z => c (h3.mpr z)
    obtain ⟨ra, r1, r2, r3⟩ := hR
    refine ⟨(by show 2 ≤ sizeLine; decide), fun t ht => ?_⟩
    have s0 := sG.trans (Same.new ht (.tup [.int 0, .int 0]))
    refine ⟨_, rfl, q, ra.map V.ref, rfl, .inl (Same.tup s0 r1), ?_⟩
    refine ⟨(by
      rw [sizeLine_eq]
      simp only [List.length_cons, List.length_append, List.length_map, List.length_nil]
      omega), fun l hl => ?_⟩
    have s1 := s0.trans (Same.new hl (.lst (V.ref t :: (ra.map V.ref ++ []))))
    have mE : Mx false true K (upd (upd G t (.tup [.int 0, .int 0])) l (.lst (V.ref t :: (ra.map V.ref ++ [])))) l ([0, 0] :: Rs) := by
      refine ⟨t :: ra, SqL.of (by rw [upd_same, List.append_nil]; rfl), by simp [r2], fun i a r e1 e2 => ?_⟩
      cases i with
      | zero =>
        simp at e1 e2
        subst e1 e2
        exact Same.tup (Same.new hl _) (SqT.of upd_same)
      | succ i => exact Sq.same s1 (r3 i a r (by simpa using e1) (by simpa using e2))
    generalize (upd (upd G t (.tup [.int 0, .int 0])) l (.lst (V.ref t :: (ra.map V.ref ++ [])))) = H1 at s1 mE
    have lE : ([0, 0] :: Rs).length = Rs.length + 1 := rfl
    have two := two_at hR2
    generalize eE : ([0, 0] :: Rs) = Es at mE lE two
    obtain ⟨vs, hv, lv, hrow⟩ := mE.row
    have lv2 : vs.length = Rs.length + 1 := by rw [lv, lE]
    refine ⟨_, rfl, false, l, _, rfl, hv, fun D hD => ?_⟩
    refine lc_it EnT.walk_enumG (LcP (Same H1) (RRow K false (mkM (Rs.length + 1) (wid Rs)) D) D) (lcp_start hD) (fun i G _ P => Sq.same P.1 hv) ?_ ?_
    · rintro i x G G' hi P ⟨t, u, v, rfl, ht, rfl, eu, ev⟩
      cases eu
      rw [lv2] at hi
      obtain ⟨a, r, rfl, er, ha⟩ := hrow i v ev
      obtain ⟨lo, hh, rfl, w1, w0⟩ := two i r er
      have s2 : Same G (upd G t (.tup [.int i, .ref a])) := Same.new ht _
      have ha2 := Sq.same (P.1.trans s2) ha
      refine ⟨t, _, rfl, SqT.of upd_same, rfl, _, _, rfl, _, _, rfl, a, _, rfl, ha2, rfl, _, _, rfl, _, _, rfl, rfl, rfl, ?_⟩
      refine ⟨rfl, tyes ?_⟩
      show tLc _ _ _ _ _ [some (.ref q), none, some (.int hh), some (.ref l), some (.int i), some (.int lo), none] _ _
      have hv2 := Sq.same (P.1.trans s2) hv
      refine ⟨_, rfl, false, l, _, rfl, hv2, fun D2 hD2 => ?_⟩
      refine lc_it EnT.walk_enumG (LcP (Same _) (RInt (mkR (Rs.length + 1) (wid Rs i))) D2) (lcp_start hD2) (fun i F _ P2 => Sq.same P2.1 hv2) ?_ ?_
      · rintro j y F F' hj P2 ⟨t3, c1, c2, rfl, ht3, rfl, e1, e2⟩
        cases e1
        rw [lv2] at hj
        obtain ⟨a', r', rfl, er', ha'⟩ := hrow j c2 e2
        obtain ⟨lo', hh', rfl, w1', w0'⟩ := two j r' er'
        have s3 := (P.1.trans s2).trans (P2.1.trans (Same.new ht3 (.tup [.int j, .ref a'])))
        have ha3 := Sq.same s3 ha'
        refine ⟨t3, _, rfl, SqT.of upd_same, rfl, _, _, rfl, _, _, rfl, ?_⟩
        refine ⟨a', _, rfl, ha3, rfl, _, _, rfl, _, _, rfl, rfl, rfl, ?_⟩
        refine ⟨wipe3, tyes ?_⟩
        show tIf _ _ _ [some (.ref q), some (.int lo'), some (.int hh), some (.ref l), some (.int i), some (.int hh'), some (.int j)] _ _
        refine ⟨_, rfl, _, rfl, rfl, _, rfl, ite2 (fun h => ?_) (fun h => ?_)⟩
        · have hij : i = j := by
            have h' := of_decide_eq_true h
            have := V.int.inj h'
            omega
          subst hij
          refine lcp_same P2 hD2 (Same.new ht3 _) (lt_line (by omega)) RInt.mono ⟨_, mkR_at hj, ?_⟩
          unfold wid
          rw [if_pos rfl]
        · have hij : i ≠ j := fun z => h (decide_eq_true (by rw [z]))
          refine ⟨_, rfl, _, rfl, _, _, rfl, rfl, ?_⟩
          refine lcp_same P2 hD2 (Same.new ht3 _) (lt_line (by omega)) RInt.mono ⟨_, mkR_at hj, ?_⟩
          unfold wid
          rw [if_neg hij, eE, w1, w0']
      · intro F P2
        have e := lcp_ints (K := K) P2 (by rw [lv2, mkR_len])
        exact lcp_same P hD (s2.trans P2.1) (lt_line (by omega)) RRow.mono ⟨D2, _, rfl, mkM_at hi, P.ne (s2.free hD2), SqL.of e⟩
    · intro G' P
      have m0 := lcp_rows P (by rw [lv2, mkM_sz.1])
      refine ⟨D, _, rfl, m0, by rw [mkM_sz.1]; omega, fun p' H' s' hM' => ?_⟩
      refine k (.ref p') H' ((s1.trans P.1).trans s') ?_
      unfold rangeB
      rw [if_neg ng]
      exact ⟨p', rfl, hM'⟩
end
theorem Mx.get3 {t1 t2 : Bool} {K : PySem.W.Frag} {H : Hp} {p : Addr} {M : List (List Int)} {n i j : Nat} (h : Mx t1 t2 K H p M) (z : Sz n M) (hi : i < n) (hj : j < n) : ∃ (vs : List V) (a : Addr) (r : List Int), Sq t1 K H p vs ∧ atI vs (i : Int) = some (.ref a) ∧ Sq t2 K H a (r.map V.int) ∧ atI (r.map V.int) (j : Int) = some (.int (getM M i j)) := by
  obtain ⟨r, er, lr⟩ := z.at hi
  obtain ⟨as, h1, h2, h3⟩ := h
  have ea : as[i]? = some (as[i]'(by rw [h2, z.1]; exact hi)) := List.getElem?_eq_getElem _
  refine ⟨_, _, r, h1, atI_nat (map_get ea), h3 i _ r ea er, ?_⟩
  have e : r[j]? = some (r[j]'(by omega)) := List.getElem?_eq_getElem _
  rw [getM_of er e]
  exact atI_nat (map_get e)
/-! ### one bound put into a closed matrix -/
theorem bb_sum : bootBuiltins "sum" = some (.builtin "sum") := by decide +kernel
theorem bb_abs : bootBuiltins "abs" = some (.builtin "abs") := by decide +kernel
def cutF (D : Nat → Nat → Int) (i j : Nat) (c : Int) : Nat → Nat → Int := fun a b => if a = i ∧ b = j then min (D a b) c else D a b
theorem cutF_le {n i j : Nat} {c : Int} {C D : Nat → Nat → Int} (hi : i < n) (hj : j < n) : LeF n C (cutF D i j c) ↔ LeF n C D ∧ C i j ≤ c := by
  constructor
  · intro h
    refine ⟨fun a ha b hb => ?_, ?_⟩
    · have := h a ha b hb
      unfold cutF at this
      split at this
      · omega
      · exact this
    · have := h i hi j hj
      unfold cutF at this
      rw [if_pos ⟨rfl, rfl⟩] at this
      omega
  · rintro ⟨h1, h2⟩ a ha b hb
    unfold cutF
    have := h1 a ha b hb
    split
    · rename_i e
      obtain ⟨rfl, rfl⟩ := e
      omega
    · exact this
def bndF (R : Nat → Nat → Int) (i j : Nat) (c : Int) : Nat → Nat → Int := fun k m => min (R k m) (R k i + c + R j m)
def bndB (n i j : Nat) (c : Int) : Option (List (List Int)) → Option (List (List Int))
  | none => none
  | some M => if c + getM M j i < 0 then none else some (mkM n (bndF (getM M) i j c))
theorem bndB_neg {n i j : Nat} {c : Int} {M : List (List Int)} (h : c + getM M j i < 0) : bndB n i j c (some M) = none := if_pos h
theorem bndB_pos {n i j : Nat} {c : Int} {M : List (List Int)} (h : ¬ c + getM M j i < 0) : bndB n i j c (some M) = some (mkM n (bndF (getM M) i j c)) := if_neg h
theorem bndB_sz {n i j : Nat} {c : Int} {B : Option (List (List Int))} : BSz n (bndB n i j c B) := by
  intro M e
  cases B with
  | none => cases e
  | some R =>
    by_cases h : c + getM R j i < 0
    · rw [bndB_neg h] at e
      cases e
    · rw [bndB_pos h] at e
      cases e
      exact mkM_sz
theorem bnd_best {n i j : Nat} {c : Int} {D : Nat → Nat → Int} {B : Option (List (List Int))} (h : Best n D B) (hi : i < n) (hj : j < n) : Best n (cutF D i j c) (bndB n i j c B) := by
  cases B with
  | none => exact fun C hC hl => h C hC ((cutF_le hi hj).mp hl).1
  | some R =>
    obtain ⟨z, cl, le, gr⟩ := h
    by_cases neg : c + getM R j i < 0
    · rw [bndB_neg neg]
      intro C hC hl
      obtain ⟨h1, h2⟩ := (cutF_le hi hj).mp hl
      have a := gr C hC h1 j hj i hi
      have b := hC.t i hi i hi j hj
      have d := hC.d i hi
      omega
    · rw [bndB_pos neg]
      refine ⟨mkM_sz, ⟨fun k hk => ?_, fun k hk m hm l hl => ?_⟩, fun a ha b hb => ?_, fun C hC hl k hk m hm => ?_⟩
      · rw [mkM_get hk hk]
        unfold bndF
        have a := cl.d k hk
        have b := cl.t j hj i hi k hk
        omega
      · rw [mkM_get hk hm, mkM_get hk hl, mkM_get hl hm]
        unfold bndF
        have a1 := cl.t k hk m hm l hl
        have a2 := cl.t k hk i hi l hl
        have a3 := cl.t j hj m hm l hl
        have a4 := cl.t j hj i hi l hl
        omega
      · rw [mkM_get ha hb]
        have x := le a ha b hb
        unfold cutF bndF
        split
        · rename_i e
          obtain ⟨rfl, rfl⟩ := e
          have d1 := cl.d a ha
          have d2 := cl.d b hb
          omega
        · omega
      · rw [mkM_get hk hm]
        obtain ⟨h1, h2⟩ := (cutF_le hi hj).mp hl
        have g := gr C hC h1
        have a := g k hk m hm
        have b := g k hk i hi
        have d := g j hj m hm
        have e := hC.t k hk m hm i hi
        have f := hC.t i hi m hm j hj
        unfold bndF
        omega
def spBounded (K : PySem.W.Frag) : Sp := fun vs H Q _ => ∃ (va : V) (B : Option (List (List Int))) (n i j : Nat) (c : Int), vs = [va, .int i, .int j, .int c] ∧ n ≤ 900 ∧ BoxAt K H va B ∧ BSz n B ∧ i < n ∧ j < n ∧ ∀ v H', Same H H' → BoxAt K H' v (bndB n i j c B) → Q v H'
/-! ### columns picked -/
def pk (cs : List Nat) (a : Nat) : Nat := (0 :: cs).getD a 0
def pickM (cs : List Nat) (M : List (List Int)) : List (List Int) := mkM (cs.length + 1) fun a b => getM M (pk cs a) (pk cs b)
def natsV (cs : List Nat) : List V := cs.map fun c : Nat => V.int (c : Int)
def spPickC (K : PySem.W.Frag) : Sp := fun vs H Q _ => ∃ (v : V) (B : Option (List (List Int))) (p : Addr) (cs : List Nat) (n : Nat), vs = [v, .ref p] ∧ BoxAt K H v B ∧ BSz n B ∧ SqT K H p (natsV cs) ∧ (∀ c ∈ cs, c < n) ∧ 0 < n ∧ n ≤ 900 ∧ cs.length ≤ 100 ∧ ∀ v H', Same H H' → BoxAt K H' v (B.map (pickM cs)) → Q v H'
theorem pk_get {cs : List Nat} {a : Nat} {v : V} (e : (natsV (0 :: cs))[a]? = some v) : v = .int (pk cs a : Int) ∧ a < cs.length + 1 := by
  unfold natsV at e
  rw [List.getElem?_map] at e
  cases e2 : (0 :: cs)[a]? with
  | none => rw [e2] at e; cases e
  | some c =>
    rw [e2] at e
    cases e
    unfold pk
    rw [List.getD_eq_getElem?_getD, e2]
    exact ⟨rfl, (List.getElem?_eq_some_iff.mp e2).1⟩
theorem pk_lt {cs : List Nat} {n a : Nat} (h : ∀ c ∈ cs, c < n) (h0 : 0 < n) : pk cs a < n := by
  unfold pk
  rw [List.getD_eq_getElem?_getD]
  cases e : (0 :: cs)[a]? with
  | none => exact h0
  | some c =>
    rcases List.mem_cons.mp (List.mem_of_getElem? e) with rfl | hc
    · exact h0
    · exact h c hc
section
variable {P : Program} {w : World} {K : PySem.W.Frag} {mg : Str → Option Value} {base : Heap}
theorem ok_pick_columns (T : Txt w K mg) : FnOk P w K mg base CX0 2 T.a_pick_columns T.d_pick_columns p_pick_columns (spPickC K) := by
  have g_frozen := ok_frozen (P := P) (w := w) (base := base) T
  refine T.F_pick_columns.ok sc_pick_columns (fun vs H Q E h => ?_) (fun cdv A outer s H vs Q E hr h => ?_)
  · obtain ⟨v, B, p, cs, n, rfl, _⟩ := h
    rfl
  obtain ⟨v, B, p, cs, n, rfl, hB, zB, hp, hc, n0, n9, lc, k⟩ := h
  refine ⟨_, (pss_cons (ps_if (pt_cmpR op_isN (pv 0) pe_non (nomark _)) (pss_one (ps_ret pe_non)) pss_nil)
      (pss_cons (ps_set (i := 2) sc_pick_columns.nd rfl (Or.inr rfl) (pe_tup (pa_cons pe_int (StX.pa_star (pv 1) pa_nil))))
      (pss_one (ps_ret (pe_call g_frozen (hr.mono (by first | decide | omega)) rfl T.m_frozen T.F_frozen.kp T.b_frozen .nil pass0 (pa_cons (pe_lc (own := [("i", 3)]) (g := gName 3) (tt := tYes) rfl sc_pick_columns.nd (pi_tup (pv 2)) (blkOk_by (own := [("i", 3)]) (N := n_pick_columns) (sc := defScope s_pick_columns) (by decide +kernel)) (fun _ _ _ _ _ => (pg_name (i := 3) sc_pick_columns.nd rfl (Or.inr rfl))) (fun _ _ _ _ _ => pts_nil) (fun _ _ _ _ _ => (pe_lc (own := [("j", 4)]) (g := gName 4) (tt := tYes) rfl sc_pick_columns.nd (show PI _ _ _ (iTup K _) from (pi_tup (pv 2))) (blkOk_by (own := [("j", 4)]) (N := n_pick_columns) (sc := relS _ (defScope s_pick_columns)) (by decide +kernel)) (fun _ _ _ _ _ => (pg_name (i := 4) sc_pick_columns.nd rfl (Or.inl rfl))) (fun _ _ _ _ _ => pts_nil) (fun _ _ _ _ _ => (pe_ix (show IxR _ (rIxT K) from ix_tup) (pe_ix (show IxR _ (rIxT K) from ix_tup) (pv 0) (pv 3) (fun _ _ => rfl)) (pv 4) (fun _ _ => rfl)))))) pa_nil)))))), ?_⟩
  cases B with
  | none =>
    have hB : v = .non := hB
    subst hB
    exact ⟨_, rfl, rfl, _, rfl, ifT rfl (k .non H (Same.refl _) rfl)⟩
  | some M =>
    obtain ⟨b, rfl, hM⟩ := hB
    have zM : Sz n M := zB M rfl
    refine ⟨_, rfl, rfl, _, rfl, ifF rfl ?_⟩
    refine ⟨_, rfl, p, natsV cs, rfl, .inl hp, ?_⟩
    refine ⟨(by
      rw [sizeLine_eq]
      simp only [natsV, List.length_cons, List.length_append, List.length_map, List.length_nil]
      omega), fun t ht => ?_⟩
    have s1 := Same.new ht (.tup (V.int 0 :: (natsV cs ++ [])))
    have ht1 : SqT K (upd H t (.tup (V.int 0 :: (natsV cs ++ [])))) t (natsV (0 :: cs)) := SqT.of (by rw [upd_same, List.append_nil]; rfl)
    have lt : (natsV (0 :: cs)).length = cs.length + 1 := by simp [natsV]
    generalize upd H t (.tup (V.int 0 :: (natsV cs ++ []))) = H1 at s1 ht1
    refine ⟨_, rfl, t, rfl, ⟨_, ht1⟩, fun D hD => ?_⟩
    refine lc_it (walk_tup (xs := natsV (0 :: cs))) (LcP (Same H1) (RRow K false (pickM cs M) D) D) (lcp_start hD) (fun _ G _ P => Same.tup P.1 ht1) ?_ ?_
    · rintro i x G G' hi P ⟨rfl, ex⟩
      obtain ⟨rfl, hi'⟩ := pk_get ex
      refine ⟨rfl, tyes ?_⟩
      show tLc _ _ _ _ _ [some (.ref b), some (.ref p), some (.ref t), some (.int (pk cs i : Int)), none] _ _
      refine ⟨_, rfl, t, rfl, ⟨_, Same.tup P.1 ht1⟩, fun D2 hD2 => ?_⟩
      refine lc_it (walk_tup (xs := natsV (0 :: cs))) (LcP (Same G') (RInt (mkR (cs.length + 1) fun b => getM M (pk cs i) (pk cs b))) D2) (lcp_start hD2) (fun _ F _ P2 => Same.tup (P.1.trans P2.1) ht1) ?_ ?_
      · rintro j y F F' hj P2 ⟨rfl, ey⟩
        obtain ⟨rfl, hj'⟩ := pk_get ey
        obtain ⟨vs, a, r, g1, g2, g3, g4⟩ := hM.get3 zM (pk_lt hc n0 (a := i)) (pk_lt hc n0 (a := j))
        have sF := s1.trans (P.1.trans P2.1)
        refine ⟨rfl, tyes ?_⟩
        refine ⟨_, rfl, _, rfl, b, _, _, _, rfl, rfl, Same.tup sF g1, g2, _, rfl, a, _, _, _, rfl, rfl, Same.tup sF g3, g4, ?_⟩
        exact lcp_same P2 hD2 (Same.refl _) (lt_line (by omega)) RInt.mono ⟨_, mkR_at hj', rfl⟩
      · intro F P2
        have e := lcp_ints (K := K) P2 (by rw [lt, mkR_len])
        exact lcp_same P hD P2.1 (lt_line (by omega)) RRow.mono ⟨D2, _, rfl, mkM_at hi', P.ne hD2, SqL.of e⟩
    · intro G P
      have m0 := lcp_rows P (by rw [lt]; exact mkM_sz.1.symm)
      refine ⟨D, _, rfl, m0, by unfold pickM; rw [mkM_sz.1]; omega, fun p' H' s' hM' => ?_⟩
      exact k (.ref p') H' ((s1.trans P.1).trans s') ⟨p', rfl, hM'⟩
end
theorem cut_lo {xs : List V} {r : Int} (h0 : 0 ≤ r) (h : r.toNat ≤ xs.length) : cutV xs (some r) none = xs.drop r.toNat := by
  have e : HT.sIx xs.length 0 (some r) = r.toNat := by
    show (if r < 0 then (r + (xs.length : Int)).toNat else min r.toNat xs.length) = r.toNat
    rw [if_neg (by omega), Nat.min_eq_left h]
  unfold cutV
  rw [e]
  show (xs.drop r.toNat).take (xs.length - r.toNat) = _
  exact List.take_of_length_le (by rw [List.length_drop]; omega)
theorem cut_hi {xs : List V} {r : Int} (h0 : 0 ≤ r) (h : r.toNat ≤ xs.length) : cutV xs none (some r) = xs.take r.toNat := by
  have e : HT.sIx xs.length xs.length (some r) = r.toNat := by
    show (if r < 0 then (r + (xs.length : Int)).toNat else min r.toNat xs.length) = r.toNat
    rw [if_neg (by omega), Nat.min_eq_left h]
  unfold cutV
  rw [e]
  show (xs.drop 0).take (r.toNat - 0) = _
  rw [List.drop_zero, Nat.sub_zero]
/-! ### matrices whose entries are written one after the other -/
def updF (f : Nat → Nat → Int) (i j : Nat) (v : Int) : Nat → Nat → Int := fun a b => if a = i ∧ b = j then v else f a b
theorem mkR_set {n j : Nat} {f : Nat → Int} {v : Int} : (mkR n f).set j v = mkR n fun b => if b = j then v else f b := by
  refine List.ext_getElem? fun b => ?_
  by_cases hb : b < n
  · rw [List.getElem?_set, mkR_at hb, mkR_at hb, mkR_len]
    by_cases e : j = b
    · rw [if_pos e, if_pos e.symm, if_pos (by omega)]
    · rw [if_neg e, if_neg (fun z => e z.symm)]
  · rw [List.getElem?_eq_none (by rw [List.length_set, mkR_len]; omega), List.getElem?_eq_none (by rw [mkR_len]; omega)]
theorem mkM_len {n : Nat} {f : Nat → Nat → Int} : (mkM n f).length = n := by simp [mkM]
theorem mkM_put {n i j : Nat} {f : Nat → Nat → Int} {v : Int} : (mkM n f).set i ((mkR n (f i)).set j v) = mkM n (updF f i j v) := by
  refine List.ext_getElem? fun a => ?_
  by_cases ha : a < n
  · rw [List.getElem?_set, mkM_at ha, mkM_at ha, mkM_len, mkR_set]
    by_cases e : i = a
    · subst e
      rw [if_pos rfl, if_pos ha]
      congr 2
      funext b
      unfold updF
      by_cases h : b = j
      · rw [if_pos h, if_pos ⟨rfl, h⟩]
      · rw [if_neg h, if_neg (fun z => h z.2)]
    · rw [if_neg e]
      congr 2
      funext b
      unfold updF
      rw [if_neg (fun z => e z.1.symm)]
  · rw [List.getElem?_eq_none (by rw [List.length_set, mkM_len]; omega), List.getElem?_eq_none (by rw [mkM_len]; omega)]
/-- g ahead of row i, column j, else f -/
def mix (f g : Nat → Nat → Int) (i j : Nat) : Nat → Nat → Int := fun a b => if a < i ∨ (a = i ∧ b < j) then g a b else f a b
theorem mix_step {n i j : Nat} {f g : Nat → Nat → Int} {v : Int} (e : v = g i j) : mkM n (updF (mix f g i j) i j v) = mkM n (mix f g i (j + 1)) := by
  refine mkM_congr fun a ha b hb => ?_
  unfold updF mix
  by_cases h : a = i ∧ b = j
  · obtain ⟨rfl, rfl⟩ := h
    rw [if_pos ⟨rfl, rfl⟩, if_pos (.inr ⟨rfl, by omega⟩), e]
  · rw [if_neg h]
    by_cases k : a < i ∨ (a = i ∧ b < j)
    · rw [if_pos k, if_pos (by omega)]
    · rw [if_neg k, if_neg (by omega)]
theorem mix_skip {n i j : Nat} {f g : Nat → Nat → Int} (e : f i j = g i j) : mkM n (mix f g i j) = mkM n (mix f g i (j + 1)) := by
  refine mkM_congr fun a ha b hb => ?_
  unfold mix
  by_cases k : a < i ∨ (a = i ∧ b < j)
  · rw [if_pos k, if_pos (by omega)]
  · rw [if_neg k]
    by_cases h : a = i ∧ b = j
    · obtain ⟨rfl, rfl⟩ := h
      rw [if_pos (.inr ⟨rfl, by omega⟩), e]
    · rw [if_neg (by omega)]
theorem mix_row {n i : Nat} {f g : Nat → Nat → Int} : mkM n (mix f g i n) = mkM n (mix f g (i + 1) 0) := by
  refine mkM_congr fun a ha b hb => ?_
  unfold mix
  by_cases k : a < i ∨ (a = i ∧ b < n)
  · rw [if_pos k, if_pos (by omega)]
  · rw [if_neg k, if_neg (by omega)]
theorem mix_start {n : Nat} {f g : Nat → Nat → Int} : mkM n (mix f g 0 0) = mkM n f := mkM_congr fun a ha b hb => by
  unfold mix
  rw [if_neg (by omega)]
theorem mix_end {n : Nat} {f g : Nat → Nat → Int} : mkM n (mix f g n 0) = mkM n g := mkM_congr fun a ha b hb => by
  unfold mix
  rw [if_pos (.inl ha)]
theorem mkM_app {n i : Nat} {f : Nat → Nat → Int} (hi : i < n) : (mkM n f).take (i + 1) = (mkM n f).take i ++ [mkR n (f i)] := by
  rw [List.take_add_one, mkM_at hi]
  rfl
def rListOf (K : PySem.W.Frag) : List V → Hp → VK → Prop := fun xs H Q => ∃ p ys, xs = [.ref p] ∧ (SqL K H p ys ∨ SqT K H p ys) ∧ ∀ l, H l = none → Q (.ref l) (upd H l (.lst ys))
def spWid (K : PySem.W.Frag) : Sp := fun vs H Q _ => ∃ (a q : Addr) (Rs : List (List Int)), vs = [.ref q] ∧ Src H a ∧ Mx true true K H q Rs ∧ (∀ r ∈ Rs, r.length = 2) ∧ Rs.length ≤ 100 ∧
  ∀ pr as H', Same H H' → RowsN a H H' pr as (mkM (Rs.length + 1) (wid Rs)) → Q (.ref pr) H'
def spClosedI (K : PySem.W.Frag) : Sp := fun vs H Q _ => ∃ (a pr : Addr) (as : List Addr) (f C : Nat → Nat → Int) (n : Nat) (H0 : Hp), vs = [.ref pr] ∧ n ≤ 900 ∧ RowsN a H0 H pr as (mkM n f) ∧ (∀ i < n, f i i = 0) ∧ Clo n C ∧ LeF n C f ∧
  ∀ v H' N, Same H H' → BoxAt K H' v (some N) → Best n f (some N) → Q v H'
theorem fw_zero {n : Nat} {f : Nat → Nat → Int} (h : ∀ i < n, f i i = 0) : Fw n f 0 f where
  d := fun i hi => by rw [h i hi]; exact Int.le_refl _
  le := LeF.refl _
  gr := fun _ _ h => h
  t := fun _ m hm => by omega
theorem fwS_col {k i : Nat} {g : Nat → Nat → Int} (h : g k k = 0) : fwS k g i k = g i k := by
  unfold fwS
  omega
theorem fwS_row {k j : Nat} {g : Nat → Nat → Int} (h : g k k = 0) : fwS k g k j = g k j := by
  unfold fwS
  omega
/-! ### one bound; what two boxes have in common -/
def spBound (K : PySem.W.Frag) : Sp := fun vs H Q _ => ∃ (v : V) (B : Option (List (List Int))) (n i j : Nat) (c : Int), vs = [v, .int i, .int j, .int c] ∧ BoxAt K H v B ∧ BSz n B ∧ (∀ M, B = some M → Clo n (getM M)) ∧ i < n ∧ j < n ∧ n ≤ 900 ∧ ∀ v H', Same H H' → BoxAt K H' v (bndB n i j c B) → Q v H'
def minF (f g : Nat → Nat → Int) : Nat → Nat → Int := fun i j => min (f i j) (g i j)
def MeetB (n : Nat) : Option (List (List Int)) → Option (List (List Int)) → Option (List (List Int)) → Prop
  | some M, some N, R => Best n (minF (getM M) (getM N)) R
  | _, _, R => R = none
def spMeet (K : PySem.W.Frag) : Sp := fun vs H Q _ => ∃ (va vb : V) (A B : Option (List (List Int))) (n : Nat), vs = [va, vb] ∧ BoxAt K H va A ∧ BoxAt K H vb B ∧ BSz n A ∧ BSz n B ∧ n ≤ 900 ∧ ∀ v H' R, Same H H' → BoxAt K H' v R → MeetB n A B R → Q v H'
theorem bnd_id {n i j : Nat} {c : Int} {M : List (List Int)} (z : Sz n M) (h : Clo n (getM M)) (hi : i < n) (hj : j < n) (l : getM M i j ≤ c) : bndB n i j c (some M) = some M := by
  have neg : ¬ c + getM M j i < 0 := by
    have a := h.t i hi i hi j hj
    have b := h.d i hi
    omega
  rw [bndB_pos neg]
  refine congrArg some (sz_ext mkM_sz z fun k hk m hm => ?_)
  rw [mkM_get hk hm]
  unfold bndF
  have a := h.t k hk m hm i hi
  have b := h.t i hi m hm j hj
  omega
section
variable {P : Program} {w : World} {K : PySem.W.Frag} {mg : Str → Option Value} {base : Heap}
theorem ok_bound (T : Txt w K mg) : FnOk P w K mg base CX0 2 T.a_bound T.d_bound p_bound (spBound K) := by
  have g_frozen := ok_frozen (P := P) (w := w) (base := base) T
  refine T.F_bound.ok sc_bound (fun vs H Q E h => ?_) (fun cdv A outer s H vs Q E hr h => ?_)
  · obtain ⟨v, B, n, i, j, c, rfl, _⟩ := h
    rfl
  obtain ⟨v, B, n, i, j, c, rfl, hB, zB, cB, hi, hj, hn, q⟩ := h
  refine ⟨_, (pss_cons (ps_if (PW.pt (pw_or (pt_cmpR op_isN (pv 0) pe_non (nomark _)) (pw_or1 (pt_cmpR op_lt (pe_op op_add (pv 3) (pe_ix ix_tup (pe_ix ix_tup (pv 0) (pv 2) (fun _ _ => rfl)) (pv 1) (fun _ _ => rfl))) pe_int (nomark _))))) (pss_one (ps_ret pe_non)) pss_nil)
      (pss_cons (ps_if (pt_cmpR op_le (pe_ix ix_tup (pe_ix ix_tup (pv 0) (pv 1) (fun _ _ => rfl)) (pv 2) (fun _ _ => rfl)) (pv 3) (nomark _)) (pss_one (ps_ret (pv 0))) pss_nil)
      (pss_cons (ps_set (i := 4) sc_bound.nd rfl (Or.inr rfl) (pe_lc (own := [("second", 5)]) (g := gName 5) (tt := tYes) rfl sc_bound.nd (pi_tup (pe_ix ix_tup (pv 0) (pv 2) (fun _ _ => rfl))) (blkOk_by (own := [("second", 5)]) (N := n_bound) (sc := defScope s_bound) (by decide +kernel)) (fun _ _ _ _ _ => (pg_name (i := 5) sc_bound.nd rfl (Or.inl rfl))) (fun _ _ _ _ _ => pts_nil) (fun _ _ _ _ _ => (pe_op op_add (pv 3) (pv 5)))))
      (pss_one (ps_ret (pe_call g_frozen (hr.mono (by first | decide | omega)) rfl T.m_frozen T.F_frozen.kp T.b_frozen .nil pass0 (pa_cons (pe_lc (own := [("row", 6)]) (g := gName 6) (tt := tYes) rfl sc_bound.nd (pi_tup (pv 0)) (blkOk_by (own := [("row", 6)]) (N := n_bound) (sc := defScope s_bound) (by decide +kernel)) (fun _ _ _ _ _ => (pg_name (i := 6) sc_bound.nd rfl (Or.inr rfl))) (fun _ _ _ _ _ => pts_nil) (fun _ _ _ _ _ => (pe_lc (own := [("old", 7), ("second", 5)]) (g := gTup K 2 (gCons (gName 7) (gCons (gName 5) gNil))) (tt := tYes) rfl sc_bound.nd (show PI _ _ _ (ZG.iZipG K _) from (ZG.pi_zipG (by rfl) T.z_zip (pa_cons (pv 6) (pa_cons (pv 4) pa_nil)))) (blkOk_by (own := [("old", 7), ("second", 5)]) (N := n_bound) (sc := relS _ (defScope s_bound)) (by decide +kernel)) (fun _ _ _ _ _ => (pg_tup rfl (pgs_cons (pg_name (i := 7) sc_bound.nd rfl (Or.inl rfl)) (pgs_cons (pg_name (i := 5) sc_bound.nd rfl (Or.inl rfl)) pgs_nil)))) (fun _ _ _ _ _ => pts_nil) (fun _ _ _ _ _ => (pe_callB (call_min2 rfl) rfl T.z_min bb_min (pa_cons (pv 7) (pa_cons (pe_op op_add (pe_ix (show IxR _ (rIxT K) from ix_tup) (pv 6) (pv 1) (fun _ _ => rfl)) (pv 5)) pa_nil))))))) pa_nil))))))), ?_⟩
  cases B with
  | none =>
    obtain rfl : v = .non := hB
    exact ⟨_, rfl, rfl, _, rfl, ifT rfl (ifT rfl (q _ _ (Same.refl _) rfl))⟩
  | some M =>
  obtain ⟨pa, rfl, hM⟩ := hB
  have sM := zB M rfl
  have cM := cB M rfl
  refine ⟨_, rfl, rfl, _, rfl, ifF rfl ?_⟩
  obtain ⟨vs, hv, lv, hrow⟩ := hM.row
  have lv1 : vs.length = n := by rw [lv, sM.1]
  obtain ⟨vs1, a1, r1, g1, g2, g3, g4⟩ := hM.get3 sM hj hi
  refine ⟨_, rfl, _, rfl, _, rfl, pa, _, _, _, rfl, rfl, g1, g2, _, rfl, a1, _, _, _, rfl, rfl, g3, g4, _, _, rfl, rfl, _, _, rfl, rfl, _, rfl, ite2 (fun h => ?_) (fun h => ?_)⟩
  · have h' : c + getM M j i < 0 := of_decide_eq_true h
    exact q _ _ (Same.refl _) (by rw [bndB_neg h']; rfl)
  have h' : ¬ c + getM M j i < 0 := of_decide_eq_false (Bool.eq_false_iff.mpr h)
  obtain ⟨vs2, a2, r2, k1, k2, k3, k4⟩ := hM.get3 sM hi hj
  refine ⟨_, rfl, _, rfl, pa, _, _, _, rfl, rfl, k1, k2, _, rfl, a2, _, _, _, rfl, rfl, k3, k4, _, rfl, _, _, rfl, rfl, _, rfl, ite2 (fun h2 => ?_) (fun h2 => ?_)⟩
  · have h3 : getM M i j ≤ c := of_decide_eq_true h2
    refine ⟨_, rfl, q _ _ (Same.refl _) ?_⟩
    rw [bnd_id sM cM hi hj h3]
    exact ⟨pa, rfl, hM⟩
  rw [bndB_pos h'] at q
  obtain ⟨rj, ej, lj⟩ := sM.at hj
  obtain ⟨ws, aj, x1, x2, x3⟩ := hM.getT ej
  have erj : rj = mkR n (getM M j) := by
    have e2 := mkM_at (f := getM M) hj
    rw [mkM_self sM, ej] at e2
    exact Option.some.inj e2
  refine ⟨_, rfl, _, rfl, pa, _, _, _, rfl, rfl, x1, x2, aj, rfl, ⟨_, x3⟩, fun D hD => ?_⟩
  refine lc_it (walk_tup (xs := rj.map V.int)) (LcP (Same H) (RInt (mkR n fun m => c + getM M j m)) D) (lcp_start hD) (fun i G _ P => Same.tup P.1 x3) ?_ ?_
  · rintro k x G G' hk P ⟨rfl, ex⟩
    obtain ⟨u, fk, rfl⟩ := get_int ex
    rw [List.length_map, lj] at hk
    rw [erj, mkR_at hk] at fk
    cases fk
    refine ⟨rfl, tyes ?_⟩
    refine ⟨_, rfl, _, rfl, _, _, rfl, rfl, ?_⟩
    exact lcp_same P hD (Same.refl _) (lt_line (by omega)) RInt.mono ⟨_, mkR_at hk, rfl⟩
  intro G PA
  have hb := lcp_ints (K := K) PA (by rw [List.length_map, lj, mkR_len])
  have sG := PA.1
  have lb : ((mkR n fun m => c + getM M j m).map V.int).length = n := by rw [List.length_map, mkR_len]
  refine ⟨_, rfl, pa, rfl, ⟨_, Same.tup sG hv⟩, fun D2 hD2 => ?_⟩
  refine lc_it (walk_tup (xs := vs)) (LcP (Same G) (RRow K false (mkM n (bndF (getM M) i j c)) D2) D2) (lcp_start hD2) (fun _ F _ P => Same.tup (sG.trans P.1) hv) ?_ ?_
  · rintro k x F F' hk P ⟨rfl, ex⟩
    rw [lv1] at hk
    obtain ⟨a, r, rfl, er, ha⟩ := hrow k x ex
    have er2 : r = mkR n (getM M k) := by
      have e2 := mkM_at (f := getM M) hk
      rw [mkM_self sM, er] at e2
      exact Option.some.inj e2
    have lr := sM.get er
    refine ⟨rfl, tyes ?_⟩
    have haF := Same.tup (sG.trans P.1) ha
    refine ⟨_, rfl, _, rfl, true, false, a, D, _, _, rfl, haF, SqL.of (P.1 _ _ hb), fun D3 hD3 => ?_⟩
    refine lc_it (walk_zipG (n := n) (by rw [lb, List.length_map, lr]; omega)) (LcP (Same F') (RInt (mkR n (bndF (getM M) i j c k))) D3) (lcp_start hD3) (fun _ E _ P3 => ⟨Same.tup P3.1 haF, SqL.of (P3.1 _ _ (P.1 _ _ hb))⟩) ?_ ?_
    · rintro m y E1 E2 hm P3 ⟨t, c1, c2, rfl, ht, rfl, e1, e2⟩
      obtain ⟨u1, f1, rfl⟩ := get_int e1
      obtain ⟨u2, f2, rfl⟩ := get_int e2
      rw [er2, mkR_at hm] at f1
      cases f1
      rw [mkR_at hm] at f2
      cases f2
      have s3 := P3.1.trans (Same.new ht (.tup [.int (getM M k m), .int (c + getM M j m)]))
      have at_ : atI (r.map V.int) (i : Int) = some (.int (getM M k i)) := by
        rw [er2]
        exact atI_nat (map_get (mkR_at hi))
      refine ⟨t, _, rfl, SqT.of upd_same, rfl, _, _, rfl, _, _, rfl, rfl, ?_⟩
      refine ⟨rfl, tyes ?_⟩
      refine ⟨_, rfl, _, rfl, _, rfl, a, _, _, _, rfl, rfl, Same.tup s3 haF, at_, _, rfl, _, _, rfl, rfl, _, _, rfl, ?_⟩
      refine lcp_same P3 hD3 (Same.new ht _) (lt_line (by omega)) RInt.mono ⟨_, mkR_at hm, ?_⟩
      unfold bndF
      congr 1
      split <;> omega
    · intro E P3
      have e := lcp_ints (K := K) P3 mkR_len.symm
      exact lcp_same P hD2 P3.1 (lt_line (by omega)) RRow.mono ⟨D3, _, rfl, mkM_at hk, P.ne hD3, SqL.of e⟩
  · intro F P
    have m0 := lcp_rows P (by rw [lv1, mkM_sz.1])
    exact ⟨D2, _, rfl, m0, by rw [mkM_sz.1]; omega, fun p' H' s' hM' => q (.ref p') H' ((sG.trans P.1).trans s') ⟨p', rfl, hM'⟩⟩
theorem ok_meet_boxes (T : Txt w K mg) : FnOk P w K mg base CX0 3 T.a_meet_boxes T.d_meet_boxes p_meet_boxes (spMeet K) := by
  have g_close := ok_close (P := P) (w := w) (K := K) (base := base) T
  refine T.F_meet_boxes.ok sc_meet_boxes (fun vs H Q E h => ?_) (fun cdv A outer s H vs Q E hr h => ?_)
  · obtain ⟨va, vb, BA, BB, n, rfl, _⟩ := h
    rfl
  obtain ⟨va, vb, BA, BB, n, rfl, hA, hB, zA, zB, hn, q⟩ := h
  refine ⟨_, (pss_cons (ps_if (PW.pt (pw_or (pt_cmpR op_isN (pv 0) pe_non (nomark _)) (pw_or1 (pt_cmpR op_isN (pv 1) pe_non (nomark _))))) (pss_one (ps_ret pe_non)) pss_nil)
      (pss_one (ps_ret (pe_call g_close (hr.mono (by first | decide | omega)) rfl T.m_close T.F_close.kp T.b_close .nil pass0 (pa_cons (pe_lc (own := [("row", 2), ("other", 3)]) (g := gTup K 2 (gCons (gName 2) (gCons (gName 3) gNil))) (tt := tYes) rfl sc_meet_boxes.nd (ZG.pi_zipG (by rfl) T.z_zip (pa_cons (pv 0) (pa_cons (pv 1) pa_nil))) (blkOk_by (own := [("row", 2), ("other", 3)]) (N := n_meet_boxes) (sc := defScope s_meet_boxes) (by decide +kernel)) (fun _ _ _ _ _ => (pg_tup rfl (pgs_cons (pg_name (i := 2) sc_meet_boxes.nd rfl (Or.inl rfl)) (pgs_cons (pg_name (i := 3) sc_meet_boxes.nd rfl (Or.inl rfl)) pgs_nil)))) (fun _ _ _ _ _ => pts_nil) (fun _ _ _ _ _ => (pe_lc (own := [("pair", 4)]) (g := gName 4) (tt := tYes) rfl sc_meet_boxes.nd (show PI _ _ _ (ZG.iZipG K _) from (ZG.pi_zipG (by rfl) T.z_zip (pa_cons (pv 2) (pa_cons (pv 3) pa_nil)))) (blkOk_by (own := [("pair", 4)]) (N := n_meet_boxes) (sc := relS _ (defScope s_meet_boxes)) (by decide +kernel)) (fun _ _ _ _ _ => (pg_name (i := 4) sc_meet_boxes.nd rfl (Or.inl rfl))) (fun _ _ _ _ _ => pts_nil) (fun _ _ _ _ _ => (pe_callB (show CallR _ _ (MxT.rMinT K) from (MxT.call_minT rfl)) rfl T.z_min bb_min (pa_cons (pv 4) pa_nil)))))) pa_nil))))), ?_⟩
  cases BA with
  | none =>
    obtain rfl : va = .non := hA
    exact ⟨_, rfl, rfl, _, rfl, ifT rfl (ifT rfl (q _ _ none (Same.refl _) rfl rfl))⟩
  | some M =>
  obtain ⟨pa, rfl, hM⟩ := hA
  refine ⟨_, rfl, rfl, _, rfl, ifF rfl ?_⟩
  cases BB with
  | none =>
    obtain rfl : vb = .non := hB
    exact ⟨_, rfl, rfl, _, rfl, ifT rfl (q _ _ none (Same.refl _) rfl rfl)⟩
  | some N =>
  obtain ⟨pb, rfl, hN⟩ := hB
  refine ⟨_, rfl, rfl, _, rfl, ifF rfl ?_⟩
  have sM := zA M rfl
  have sN := zB N rfl
  obtain ⟨vsA, hvA, hlA, hrA⟩ := hM.row
  obtain ⟨vsB, hvB, hlB, hrB⟩ := hN.row
  have lM := sM.1
  have lN := sN.1
  let R1 : List (List Int) := mkM n (minF (getM M) (getM N))
  refine ⟨_, rfl, _, rfl, true, true, pa, pb, _, _, rfl, hvA, hvB, fun D hD => ?_⟩
  refine lc_it (walk_zipG (n := n) (by omega)) (LcP (Same H) (RRow K false R1 D) D) (lcp_start hD) (fun i G _ P => ⟨Sq.same P.1 hvA, Sq.same P.1 hvB⟩) ?_ ?_
  · rintro i x G G' hi P ⟨t, u, v, rfl, ht, rfl, eu, ev⟩
    obtain ⟨a, r, rfl, er, ha⟩ := hrA i u eu
    obtain ⟨b, r', rfl, er', hb⟩ := hrB i v ev
    have lr := sM.get er
    have lr' := sN.get er'
    have s1 : Same G (upd G t (.tup [.ref a, .ref b])) := Same.new ht _
    refine ⟨t, _, rfl, SqT.of upd_same, rfl, _, _, rfl, _, _, rfl, rfl, ?_⟩
    refine ⟨rfl, tyes ?_⟩
    have ha2 := Sq.same (P.1.trans s1) ha
    have hb2 := Sq.same (P.1.trans s1) hb
    refine ⟨_, rfl, _, rfl, true, true, a, b, _, _, rfl, ha2, hb2, fun D2 hD2 => ?_⟩
    refine lc_it (walk_zipG (n := n) (by rw [List.length_map, List.length_map]; omega)) (LcP (Same _) (RInt (mkR n (minF (getM M) (getM N) i))) D2) (lcp_start hD2) (fun i F _ P2 => ⟨Sq.same P2.1 ha2, Sq.same P2.1 hb2⟩) ?_ ?_
    · rintro j y F F' hj P2 ⟨t2, c1, c2, rfl, ht2, rfl, e1, e2⟩
      obtain ⟨k1, f1, rfl⟩ := get_int e1
      obtain ⟨k2, f2, rfl⟩ := get_int e2
      refine ⟨rfl, tyes ?_⟩
      refine ⟨_, rfl, t2, [k1, k2], rfl, SqT.of upd_same, (by simp), fun m hm hx => ?_⟩
      have em : m = min k1 k2 := by
        have h1 := hx k1 (by simp)
        have h2 := hx k2 (by simp)
        have h3 : m = k1 ∨ m = k2 := by simpa using hm
        omega
      refine lcp_same P2 hD2 (Same.new ht2 _) (lt_line (by omega)) RInt.mono ⟨_, mkR_at hj, ?_⟩
      unfold minF
      rw [em, getM_of er f1, getM_of er' f2]
    · intro F P2
      have e := lcp_ints (K := K) P2 mkR_len.symm
      exact lcp_same P hD (s1.trans P2.1) (lt_line (by omega)) RRow.mono ⟨D2, _, rfl, mkM_at hi, P.ne (s1.free hD2), SqL.of e⟩
  · intro G P
    refine ⟨false, false, D, R1, n, rfl, lcp_rows P mkM_sz.1.symm, mkM_sz, hn, fun v H' R s' b' best => q v H' R (P.1.trans s') b' ?_⟩
    exact best.congr fun C _ => by
      constructor
      · intro h i hi j hj
        have := h i hi j hj
        rwa [mkM_get hi hj] at this
      · intro h i hi j hj
        rw [mkM_get hi hj]
        exact h i hi j hj
end
/-! ### columns changed -/
theorem slT_lo {K : PySem.W.Frag} {H : Hp} {a : Addr} {r : List Int} {c : Int} {Q : VK} (k : Nat) (ec : c = (k : Int)) (h : SqT K H a (r.map V.int)) (h0 : 0 < k) (hk : k ≤ r.length) (q : ∀ p H', H p = none → Same H H' → SqT K H' p ((r.drop k).map V.int) → Q (.ref p) H') : rSlT K (.ref a) (some c) none H Q := by
  subst ec
  have ec : cutV (r.map V.int) (some (k : Int)) none = (r.drop k).map V.int := by
    rw [cut_lo (by omega) (by rw [List.length_map]; omega), List.map_drop, Int.toNat_natCast]
  refine ⟨a, _, rfl, h, ?_, fun p hp => ?_⟩
  · rintro ⟨z, _⟩
    have e1 : HT.sIx (r.map V.int).length 0 (some (k : Int)) = min k (r.map V.int).length := HT.sIx_nat _ _ k
    rw [e1, List.length_map] at z
    omega
  · refine q p _ hp (Same.new hp _) ?_
    rw [← ec]
    exact SqT.of upd_same
theorem slT_hi {K : PySem.W.Frag} {H : Hp} {a : Addr} {r : List Int} {c : Int} {Q : VK} (k : Nat) (ec : c = (k : Int)) (h : SqT K H a (r.map V.int)) (hk : k < r.length) (q : ∀ p H', H p = none → Same H H' → SqT K H' p ((r.take k).map V.int) → Q (.ref p) H') : rSlT K (.ref a) none (some c) H Q := by
  subst ec
  have ec : cutV (r.map V.int) none (some (k : Int)) = (r.take k).map V.int := by
    rw [cut_hi (by omega) (by rw [List.length_map]; omega), List.map_take, Int.toNat_natCast]
  refine ⟨a, _, rfl, h, ?_, fun p hp => ?_⟩
  · rintro ⟨_, z⟩
    have e1 : HT.sIx (r.map V.int).length (r.map V.int).length (some (k : Int)) = min k (r.map V.int).length := HT.sIx_nat _ _ k
    rw [e1, List.length_map] at z
    omega
  · refine q p _ hp (Same.new hp _) ?_
    rw [← ec]
    exact SqT.of upd_same
theorem slL_lo {K : PySem.W.Frag} {H : Hp} {a : Addr} {r : List Int} {c : Int} {Q : VK} (k : Nat) (ec : c = (k : Int)) (h : SqL K H a (r.map V.int)) (hk : k ≤ r.length) (q : ∀ p H', H p = none → Same H H' → SqL K H' p ((r.drop k).map V.int) → Q (.ref p) H') : rSlL K (.ref a) (some c) none H Q := by
  subst ec
  have ec : cutV (r.map V.int) (some (k : Int)) none = (r.drop k).map V.int := by
    rw [cut_lo (by omega) (by rw [List.length_map]; omega), List.map_drop, Int.toNat_natCast]
  refine ⟨a, _, rfl, h, fun p hp => ?_⟩
  refine q p _ hp (Same.new hp _) ?_
  rw [← ec]
  exact SqL.of upd_same
theorem slL_hi {K : PySem.W.Frag} {H : Hp} {a : Addr} {r : List Int} {c : Int} {Q : VK} (k : Nat) (ec : c = (k : Int)) (h : SqL K H a (r.map V.int)) (hk : k ≤ r.length) (q : ∀ p H', H p = none → Same H H' → SqL K H' p ((r.take k).map V.int) → Q (.ref p) H') : rSlL K (.ref a) none (some c) H Q := by
  subst ec
  have ec : cutV (r.map V.int) none (some (k : Int)) = (r.take k).map V.int := by
    rw [cut_hi (by omega) (by rw [List.length_map]; omega), List.map_take, Int.toNat_natCast]
  refine ⟨a, _, rfl, h, fun p hp => ?_⟩
  refine q p _ hp (Same.new hp _) ?_
  rw [← ec]
  exact SqL.of upd_same
/-- a row with another entry -/
theorem row_set {r : List Int} {i : Nat} {c : Int} (h : i < r.length) : (r.take i).map V.int ++ V.int c :: ((r.drop (i + 1)).map V.int ++ []) = (r.set i c).map V.int := by
  rw [List.append_nil, List.set_eq_take_append_cons_drop, if_pos h, List.map_append, List.map_cons]
theorem refs_ofP {R : Addr → List Int → Prop} : ∀ {ys : List V} {M : List (List Int)}, ys.length = M.length → (∀ (j : Nat) (y : V), ys[j]? = some y → ∃ (a : Addr) (r : List Int), y = .ref a ∧ M[j]? = some r ∧ R a r) →
    ∃ as : List Addr, ys = as.map V.ref ∧ as.length = M.length ∧ ∀ (i : Nat) (a : Addr) (r : List Int), as[i]? = some a → M[i]? = some r → R a r
  | [], [], _, _ => ⟨[], rfl, rfl, fun i a r e => by simp at e⟩
  | [], _ :: _, h, _ => by simp at h
  | _ :: _, [], h, _ => by simp at h
  | y :: ys, r :: M, h, k => by
    obtain ⟨as, e1, e2, e3⟩ := refs_ofP (R := R) (ys := ys) (M := M) (by simpa using h) (fun j z e => by
      obtain ⟨a, r', h1, h2, h3⟩ := k (j + 1) z (by simpa using e)
      exact ⟨a, r', h1, by simpa using h2, h3⟩)
    obtain ⟨a, r', h1, h2, h3⟩ := k 0 y rfl
    have er : r = r' := by simpa using h2
    subst er
    subst h1 e1
    refine ⟨a :: as, rfl, by simp [e2], fun i b q e4 e5 => ?_⟩
    cases i with
    | zero =>
      cases e4
      cases e5
      exact h3
    | succ i => exact e3 i b q (by simpa using e4) (by simpa using e5)
theorem lcp_refs {K : PySem.W.Frag} {S : Hp → Prop} {t : Bool} {M : List (List Int)} {D : Addr} {n : Nat} {H : Hp} (P : LcP S (RRow K t M D) D n H) (hn : n = M.length) :
    ∃ as : List Addr, H D = some (.lst (as.map V.ref)) ∧ as.length = M.length ∧ ∀ (i : Nat) (a : Addr) (r : List Int), as[i]? = some a → M[i]? = some r → a ≠ D ∧ Sq t K H a (r.map V.int) := by
  obtain ⟨_, acc, h1, h2, h3⟩ := P
  obtain ⟨as, rfl, e2, e3⟩ := refs_ofP (R := fun a r => a ≠ D ∧ Sq t K H a (r.map V.int)) (ys := acc) (M := M) (by omega) h3
  exact ⟨as, h1, e2, e3⟩
def limR (f : Int) (r : List Int) : List Int := r.map fun s => f + s
def spLimits (K : PySem.W.Frag) : Sp := fun vs H Q _ => ∃ (f : Int) (p : Addr) (r : List Int), vs = [.int f, .ref p] ∧ SqT K H p (r.map V.int) ∧ r.length ≤ 1000 ∧ ∀ q H', H q = none → Same H H' → H' q = some (.lst ((limR f r).map V.int)) → Q (.ref q) H'
def wcF (i : Nat) (ab be : Nat → Int) (f : Nat → Nat → Int) : Nat → Nat → Int := fun a b => if a = i then (if b = i then 0 else ab b) else if b = i then be a else f a b
def spWithC (K : PySem.W.Frag) : Sp := fun vs H Q _ => ∃ (b pa pb : Addr) (i n : Nat) (ab be : Nat → Int) (M : List (List Int)), vs = [.ref b, .int i, .ref pa, .ref pb] ∧ Mx true true K H b M ∧ Sz n M ∧ i < n ∧ n ≤ 900 ∧ SqL K H pa ((mkR n ab).map V.int) ∧ SqL K H pb ((mkR n be).map V.int) ∧
  ∀ v H', Same H H' → BoxAt K H' v (some (mkM n (wcF i ab be (getM M)))) → Q v H'
def freeF (i : Nat) (lo hi : Int) (f : Nat → Nat → Int) : Nat → Nat → Int := wcF i (fun b => hi + f 0 b) (fun a => f a 0 - lo) f
def shiftF (i : Nat) (lo hi : Int) (f : Nat → Nat → Int) : Nat → Nat → Int := wcF i (fun b => f i b + hi) (fun a => f a i - lo) f
def chB (F : Nat → Int → Int → (Nat → Nat → Int) → Nat → Nat → Int) (n i : Nat) (lo hi : Int) : Option (List (List Int)) → Option (List (List Int))
  | none => none
  | some M => if lo > hi then none else some (mkM n (F i lo hi (getM M)))
def spChange (F : Nat → Int → Int → (Nat → Nat → Int) → Nat → Nat → Int) (K : PySem.W.Frag) : Sp := fun vs H Q _ => ∃ (v : V) (B : Option (List (List Int))) (i n : Nat) (lo hi : Int), vs = [v, .int i, .int lo, .int hi] ∧ BoxAt K H v B ∧ BSz n B ∧ i < n ∧ n ≤ 900 ∧ ∀ v H', Same H H' → BoxAt K H' v (chB F n i lo hi B) → Q v H'
theorem row_mk {n i : Nat} {M : List (List Int)} {r : List Int} (z : Sz n M) (hi : i < n) (e : M[i]? = some r) : r = mkR n (getM M i) := by
  have e2 := mkM_at (f := getM M) hi
  rw [mkM_self z, e] at e2
  exact Option.some.inj e2
section
variable {P : Program} {w : World} {K : PySem.W.Frag} {mg : Str → Option Value} {base : Heap}
theorem ok_limits_over (T : Txt w K mg) : FnOk P w K mg base CX0 1 T.a_limits_over T.d_limits_over p_limits_over (spLimits K) := by
  refine T.F_limits_over.ok sc_limits_over (fun vs H Q E h => ?_) (fun cdv A outer s H vs Q E hr h => ?_)
  · obtain ⟨f, p, r, rfl, _⟩ := h
    rfl
  obtain ⟨f, p, r, rfl, hp, hl, q⟩ := h
  refine ⟨_, (pss_one (ps_ret (pe_lc (own := [("second", 2)]) (g := gName 2) (tt := tYes) rfl sc_limits_over.nd (pi_tup (pv 1)) (blkOk_by (own := [("second", 2)]) (N := n_limits_over) (sc := defScope s_limits_over) (by decide +kernel)) (fun _ _ _ _ _ => (pg_name (i := 2) sc_limits_over.nd rfl (Or.inl rfl))) (fun _ _ _ _ _ => pts_nil) (fun _ _ _ _ _ => (pe_op op_add (pv 0) (pv 2)))))), ?_⟩
  refine ⟨_, rfl, p, rfl, ⟨_, hp⟩, fun D hD => ?_⟩
  refine lc_it (walk_tup (xs := r.map V.int)) (LcP (Same H) (RInt (limR f r)) D) (lcp_start hD) (fun i G _ P => Same.tup P.1 hp) ?_ ?_
  · rintro i x G G' hi P ⟨rfl, ex⟩
    obtain ⟨k, fk, rfl⟩ := get_int ex
    rw [List.length_map] at hi
    refine ⟨rfl, tyes ?_⟩
    refine ⟨_, rfl, _, rfl, _, _, rfl, rfl, ?_⟩
    exact lcp_same P hD (Same.refl _) (lt_line (by omega)) RInt.mono ⟨_, map_get fk, rfl⟩
  · intro G P
    exact q D G hD P.1 (lcp_ints (K := K) P (by simp [limR]))
theorem ok_with_column (T : Txt w K mg) : FnOk P w K mg base CX0 2 T.a_with_column T.d_with_column p_with_column (spWithC K) := by
  have g_frozen := ok_frozen (P := P) (w := w) (base := base) T
  refine T.F_with_column.ok sc_with_column (fun vs H Q E h => ?_) (fun cdv A outer s H vs Q E hr h => ?_)
  · obtain ⟨b, pa, pb, i, n, ab, be, M, rfl, _⟩ := h
    rfl
  obtain ⟨b, pa, pb, i, n, ab, be, M, rfl, hM, zM, hi, hn, ha, hb, q⟩ := h
  refine ⟨_, (pss_cons (ps_setLc (i := 4) (own := [("row", 5), ("most", 6)]) (g := gTup K 2 (gCons (gName 5) (gCons (gName 6) gNil))) (tt := tYes) rfl sc_with_column.nd rfl rfl (sw_true rfl rfl rfl (by decide +kernel)) (ZG.pi_zipG (by rfl) T.z_zip (pa_cons (pv 0) (pa_cons (pv 3) pa_nil))) (blkOk_by (own := [("row", 5), ("most", 6)]) (N := n_with_column) (sc := defScope s_with_column) (by decide +kernel)) (fun _ _ _ _ _ => (pg_tup rfl (pgs_cons (pg_name (i := 5) sc_with_column.nd rfl (Or.inl rfl)) (pgs_cons (pg_name (i := 6) sc_with_column.nd rfl (Or.inl rfl)) pgs_nil)))) (fun _ _ _ _ _ => pts_nil) (fun _ _ _ _ _ => (pe_lst (show L2.PA _ _ (StX.tStar K _ _) from (StX.pa_star (pe_slice (show SlR _ (rSlT K) from sl_tup) (pv 5) po_none (po_some (pv 1))) (pa_cons (pv 6) (show L2.PA _ _ (StX.tStar K _ _) from (StX.pa_star (pe_slice (show SlR _ (rSlT K) from sl_tup) (pv 5) (po_some (pe_op op_add (pv 1) pe_int)) po_none) pa_nil))))))))
      (pss_cons (ps_asg (pe_lst (StX.pa_star (pe_slice sl_list (pv 2) po_none (po_some (pv 1))) (pa_cons pe_int (StX.pa_star (pe_slice sl_list (pv 2) (po_some (pe_op op_add (pv 1) pe_int)) po_none) pa_nil)))) (pg_sub (pv 4) (pv 1) set_list))
      (pss_one (ps_ret (pe_call g_frozen (hr.mono (by first | decide | omega)) rfl T.m_frozen T.F_frozen.kp T.b_frozen .nil pass0 (pa_cons (pv 4) pa_nil)))))), ?_⟩
  obtain ⟨vs, hv, lv, hrow⟩ := hM.row
  have lv1 : vs.length = n := by rw [lv, zM.1]
  have lb : ((mkR n be).map V.int).length = n := by rw [List.length_map, mkR_len]
  have le : ((mkR n ab).map V.int).length = n := by rw [List.length_map, mkR_len]
  refine ⟨_, rfl, _, rfl, true, false, b, pb, _, _, rfl, hv, hb, fun D hD => ?_⟩
  let M1 : List (List Int) := mkM n fun a c => if c = i then be a else getM M a c
  refine lc_it (walk_zipG (n := n) (by omega)) (LcP (Same H) (RRow K false M1 D) D) (lcp_start hD) (fun i G _ P => ⟨Sq.same P.1 hv, Sq.same P.1 hb⟩) ?_ ?_
  · rintro k x G G' hk P ⟨t, u, v, rfl, ht, rfl, eu, ev⟩
    obtain ⟨a, r, rfl, er, hra⟩ := hrow k u eu
    obtain ⟨c, ec, rfl⟩ := get_int ev
    have lr := zM.get er
    have er2 := row_mk zM hk er
    rw [mkR_at hk] at ec
    cases ec
    have s1 : Same G (upd G t (.tup [.ref a, .int (be k)])) := Same.new ht _
    refine ⟨t, _, rfl, SqT.of upd_same, rfl, _, _, rfl, _, _, rfl, rfl, ?_⟩
    refine ⟨rfl, tyes ?_⟩
    have ha2 := Sq.same (P.1.trans s1) hra
    refine ⟨_, rfl, _, rfl, _, rfl, slT_hi i rfl ha2 (by omega) fun p1 G1 hp1 t1 h1 => ?_⟩
    refine ⟨p1, _, rfl, .inl h1, _, rfl, _, rfl, _, rfl, _, _, rfl, rfl, _, rfl, ?_⟩
    dsimp only [tNoPart]
    refine slT_lo (c := (i : Int) + 1) (i + 1) (by omega) (Sq.same t1 ha2) (by omega) (by omega) fun p2 G2 hp2 t2 h2 => ?_
    refine ⟨p2, _, rfl, .inl h2, ?_⟩
    dsimp only [tNil]
    rw [row_set (by omega)]
    refine ⟨by rw [List.length_map, List.length_set, lr, sizeLine_eq]; omega, fun l hl => ?_⟩
    have s3 := (s1.trans t1).trans (t2.trans (Same.new hl (.lst ((r.set i (be k)).map V.int))))
    refine lcp_same P hD s3 (lt_line (by omega)) RRow.mono ⟨l, _, rfl, ?_, P.ne ((s1.trans (t1.trans t2)).free hl), Sq.upd_same⟩
    show M1[k]? = _
    rw [mkM_at hk, er2, mkR_set]
  · intro G P
    have lM1 : n = M1.length := mkM_sz.1.symm
    obtain ⟨as, h1, h2, h3⟩ := lcp_refs P lM1
    have la : as.length = n := by rw [h2, ← lM1]
    have sG := P.1
    refine ⟨_, rfl, _, rfl, _, rfl, slL_hi i rfl (sG.seq ha) (by rw [mkR_len]; omega) fun p1 G1 hp1 t1 k1 => ?_⟩
    refine ⟨p1, _, rfl, .inr k1, _, rfl, _, rfl, _, _, rfl, rfl, _, rfl, ?_⟩
    dsimp only [tNoPart]
    refine slL_lo (c := (i : Int) + 1) (i + 1) (by omega) ((sG.trans t1).seq ha) (by rw [mkR_len]; omega) fun p2 G2 hp2 t2 k2 => ?_
    refine ⟨p2, _, rfl, .inr k2, ?_⟩
    dsimp only [tNil]
    rw [row_set (r := mkR n ab) (by rw [mkR_len]; omega)]
    refine ⟨by rw [List.length_map, List.length_set, mkR_len, sizeLine_eq]; omega, fun l hl => ?_⟩
    have s3 := t1.trans (t2.trans (Same.new hl (.lst (((mkR n ab).set i 0).map V.int))))
    have lD : l ≠ D := fun z => by
      have := (t1.trans t2) _ _ h1
      rw [← z, hl] at this
      cases this
    refine ⟨_, rfl, _, rfl, D, _, _, _, rfl, rfl, s3 _ _ h1, ixN_int (by omega) (by rw [List.length_map, la]; omega), ?_⟩
    rw [Int.toNat_natCast, ← List.map_set]
    have mE : Mx false false K (upd (upd G2 l (.lst (((mkR n ab).set i 0).map V.int))) D (.lst ((as.set i l).map V.ref))) D (mkM n (wcF i ab be (getM M))) := by
      refine ⟨as.set i l, Sq.upd_same, by rw [List.length_set, la, mkM_sz.1], fun j a r e1 e2 => ?_⟩
      have hj : j < n := by
        have := (List.getElem?_eq_some_iff.mp e1).1
        rw [List.length_set] at this
        omega
      rw [mkM_at hj] at e2
      cases e2
      rw [List.getElem?_set] at e1
      by_cases e : i = j
      · subst e
        rw [if_pos rfl, if_pos (by omega)] at e1
        cases e1
        refine Sq.but (But.upd _) lD ?_
        have er : mkR n (wcF i ab be (getM M) i) = (mkR n ab).set i 0 := by
          rw [mkR_set]
          refine congrArg (mkR n) (funext fun b => ?_)
          unfold wcF
          rw [if_pos rfl]
        rw [er]
        exact Sq.upd_same
      · rw [if_neg e] at e1
        obtain ⟨q1, q2⟩ := h3 j a _ e1 (mkM_at hj)
        refine Sq.but (But.upd _) q1 (Sq.same s3 ?_)
        have er : mkR n (wcF i ab be (getM M) j) = mkR n fun c => if c = i then be j else getM M j c := by
          refine congrArg (mkR n) (funext fun b => ?_)
          unfold wcF
          rw [if_neg (fun z => e z.symm)]
        rw [er]
        exact q2
    refine ⟨_, rfl, D, _, rfl, mE, by rw [mkM_sz.1]; omega, fun p' H' s' hM' => ?_⟩
    refine q (.ref p') H' (Same.trans ?_ s') ⟨p', rfl, hM'⟩
    exact fun x o e => by
      rw [upd_ne (ne_of_none e hD)]
      exact s3 _ _ (sG _ _ e)
end
/-! ### a column freed, shifted -/
section
variable {P : Program} {w : World} {K : PySem.W.Frag} {mg : Str → Option Value} {base : Heap}
theorem ok_free_column (T : Txt w K mg) : FnOk P w K mg base CX0 3 T.a_free_column T.d_free_column p_free_column (spChange freeF K) := by
  have g_with_column := ok_with_column (P := P) (w := w) (base := base) T
  refine T.F_free_column.ok sc_free_column (fun vs H Q E h => ?_) (fun cdv A outer s H vs Q E hr h => ?_)
  · obtain ⟨v, B, i, n, lo, hi, rfl, _⟩ := h
    rfl
  obtain ⟨v, B, i, n, lo, hi, rfl, hB, zB, hi', hn, q⟩ := h
  refine ⟨_, (pss_cons (ps_if (PW.pt (pw_or (pt_cmpR op_isN (pv 0) pe_non (nomark _)) (pw_or1 (pt_cmpR op_gt (pv 2) (pv 3) (nomark _))))) (pss_one (ps_ret pe_non)) pss_nil)
      (pss_cons (ps_setLc (i := 4) (own := [("most", 5)]) (g := gName 5) (tt := tYes) rfl sc_free_column.nd rfl rfl (sw_true rfl rfl rfl (by decide +kernel)) (pi_tup (pe_ix ix_tup (pv 0) pe_int (fun _ _ => rfl))) (blkOk_by (own := [("most", 5)]) (N := n_free_column) (sc := defScope s_free_column) (by decide +kernel)) (fun _ _ _ _ _ => (pg_name (i := 5) sc_free_column.nd rfl (Or.inl rfl))) (fun _ _ _ _ _ => pts_nil) (fun _ _ _ _ _ => (pe_op op_add (pv 3) (pv 5))))
      (pss_cons (ps_setLc (i := 6) (own := [("row", 7)]) (g := gName 7) (tt := tYes) rfl sc_free_column.nd rfl rfl (sw_true rfl rfl rfl (by decide +kernel)) (pi_tup (pv 0)) (blkOk_by (own := [("row", 7)]) (N := n_free_column) (sc := defScope s_free_column) (by decide +kernel)) (fun _ _ _ _ _ => (pg_name (i := 7) sc_free_column.nd rfl (Or.inl rfl))) (fun _ _ _ _ _ => pts_nil) (fun _ _ _ _ _ => (pe_op op_sub (pe_ix (show IxR _ (rIxT K) from ix_tup) (pv 7) pe_int (fun _ _ => rfl)) (pv 2))))
      (pss_one (ps_ret (pe_call g_with_column (hr.mono (by first | decide | omega)) rfl T.m_with_column T.F_with_column.kp T.b_with_column .nil pass0 (pa_cons (pv 0) (pa_cons (pv 1) (pa_cons (pv 4) (pa_cons (pv 6) pa_nil)))))))))), ?_⟩
  cases B with
  | none =>
    obtain rfl : v = .non := hB
    exact ⟨_, rfl, rfl, _, rfl, ifT rfl (ifT rfl (q _ _ (Same.refl _) rfl))⟩
  | some M =>
  obtain ⟨pa, rfl, hM⟩ := hB
  have zM := zB M rfl
  refine ⟨_, rfl, rfl, _, rfl, ifF rfl ?_⟩
  refine ⟨_, rfl, _, rfl, _, _, rfl, rfl, _, rfl, ite2 (fun h => ?_) (fun h => ?_)⟩
  · have h' : lo > hi := of_decide_eq_true h
    refine q _ _ (Same.refl _) ?_
    show BoxAt K H .non (if lo > hi then none else _)
    rw [if_pos h']
    rfl
  have h' : ¬ lo > hi := of_decide_eq_false (Bool.eq_false_iff.mpr h)
  obtain ⟨vs, hv, lv, hrow⟩ := hM.row
  have lv1 : vs.length = n := by rw [lv, zM.1]
  have hn0 : 0 < n := by omega
  obtain ⟨r0, e0, l0⟩ := zM.at hn0
  obtain ⟨ws, a0, x1, x2, x3⟩ := hM.getT e0
  have er0 := row_mk zM hn0 e0
  refine ⟨_, rfl, pa, _, _, _, rfl, rfl, x1, x2, a0, rfl, ⟨_, x3⟩, fun D hD => ?_⟩
  refine lc_it (walk_tup (xs := r0.map V.int)) (LcP (Same H) (RInt (mkR n fun b => hi + getM M 0 b)) D) (lcp_start hD) (fun i G _ P => Same.tup P.1 x3) ?_ ?_
  · rintro k x G G' hk P ⟨rfl, ex⟩
    obtain ⟨c, fk, rfl⟩ := get_int ex
    rw [List.length_map, l0] at hk
    rw [er0, mkR_at hk] at fk
    cases fk
    refine ⟨rfl, tyes ?_⟩
    refine ⟨_, rfl, _, rfl, _, _, rfl, rfl, ?_⟩
    exact lcp_same P hD (Same.refl _) (lt_line (by omega)) RInt.mono ⟨_, mkR_at hk, rfl⟩
  intro G PA
  have hA := lcp_ints (K := K) PA (by rw [List.length_map, l0, mkR_len])
  have sG := PA.1
  refine ⟨_, rfl, pa, rfl, ⟨_, Same.tup sG hv⟩, fun D2 hD2 => ?_⟩
  refine lc_it (walk_tup (xs := vs)) (LcP (Same G) (RInt (mkR n fun a => getM M a 0 - lo)) D2) (lcp_start hD2) (fun i F _ P => Same.tup (sG.trans P.1) hv) ?_ ?_
  · rintro k x F F' hk P ⟨rfl, ex⟩
    rw [lv1] at hk
    obtain ⟨a, r, rfl, er, ha⟩ := hrow k x ex
    have er2 := row_mk zM hk er
    have at0 : atI (r.map V.int) 0 = some (.int (getM M k 0)) := by
      rw [er2]
      exact atI_nat (j := 0) (map_get (mkR_at hn0))
    refine ⟨rfl, tyes ?_⟩
    refine ⟨_, rfl, a, _, _, _, rfl, rfl, Same.tup (sG.trans P.1) ha, at0, _, rfl, _, _, rfl, rfl, ?_⟩
    exact lcp_same P hD2 (Same.refl _) (lt_line (by omega)) RInt.mono ⟨_, mkR_at hk, rfl⟩
  intro F PB
  have hB2 := lcp_ints (K := K) PB (by rw [lv1, mkR_len])
  have sF := sG.trans PB.1
  refine ⟨_, rfl, _, rfl, _, rfl, _, rfl, pa, D, D2, i, n, _, _, M, rfl, hM.same sF, zM, hi', hn, SqL.of (PB.1 _ _ hA), SqL.of hB2, fun v H' s' b' => ?_⟩
  refine q v H' (sF.trans s') ?_
  show BoxAt K H' v (if lo > hi then none else _)
  rw [if_neg h']
  exact b'
theorem ok_shift_column (T : Txt w K mg) : FnOk P w K mg base CX0 3 T.a_shift_column T.d_shift_column p_shift_column (spChange shiftF K) := by
  have g_with_column := ok_with_column (P := P) (w := w) (base := base) T
  refine T.F_shift_column.ok sc_shift_column (fun vs H Q E h => ?_) (fun cdv A outer s H vs Q E hr h => ?_)
  · obtain ⟨v, B, i, n, lo, hi, rfl, _⟩ := h
    rfl
  obtain ⟨v, B, i, n, lo, hi, rfl, hB, zB, hi', hn, q⟩ := h
  refine ⟨_, (pss_cons (ps_if (PW.pt (pw_or (pt_cmpR op_isN (pv 0) pe_non (nomark _)) (pw_or1 (pt_cmpR op_gt (pv 2) (pv 3) (nomark _))))) (pss_one (ps_ret pe_non)) pss_nil)
      (pss_cons (ps_setLc (i := 4) (own := [("most", 5)]) (g := gName 5) (tt := tYes) rfl sc_shift_column.nd rfl rfl (sw_true rfl rfl rfl (by decide +kernel)) (pi_tup (pe_ix ix_tup (pv 0) (pv 1) (fun _ _ => rfl))) (blkOk_by (own := [("most", 5)]) (N := n_shift_column) (sc := defScope s_shift_column) (by decide +kernel)) (fun _ _ _ _ _ => (pg_name (i := 5) sc_shift_column.nd rfl (Or.inl rfl))) (fun _ _ _ _ _ => pts_nil) (fun _ _ _ _ _ => (pe_op op_add (pv 5) (pv 3))))
      (pss_cons (ps_setLc (i := 6) (own := [("row", 7)]) (g := gName 7) (tt := tYes) rfl sc_shift_column.nd rfl rfl (sw_true rfl rfl rfl (by decide +kernel)) (pi_tup (pv 0)) (blkOk_by (own := [("row", 7)]) (N := n_shift_column) (sc := defScope s_shift_column) (by decide +kernel)) (fun _ _ _ _ _ => (pg_name (i := 7) sc_shift_column.nd rfl (Or.inl rfl))) (fun _ _ _ _ _ => pts_nil) (fun _ _ _ _ _ => (pe_op op_sub (pe_ix (show IxR _ (rIxT K) from ix_tup) (pv 7) (pv 1) (fun _ _ => rfl)) (pv 2))))
      (pss_one (ps_ret (pe_call g_with_column (hr.mono (by first | decide | omega)) rfl T.m_with_column T.F_with_column.kp T.b_with_column .nil pass0 (pa_cons (pv 0) (pa_cons (pv 1) (pa_cons (pv 4) (pa_cons (pv 6) pa_nil)))))))))), ?_⟩
  cases B with
  | none =>
    obtain rfl : v = .non := hB
    exact ⟨_, rfl, rfl, _, rfl, ifT rfl (ifT rfl (q _ _ (Same.refl _) rfl))⟩
  | some M =>
  obtain ⟨pa, rfl, hM⟩ := hB
  have zM := zB M rfl
  refine ⟨_, rfl, rfl, _, rfl, ifF rfl ?_⟩
  refine ⟨_, rfl, _, rfl, _, _, rfl, rfl, _, rfl, ite2 (fun h => ?_) (fun h => ?_)⟩
  · have h' : lo > hi := of_decide_eq_true h
    refine q _ _ (Same.refl _) ?_
    show BoxAt K H .non (if lo > hi then none else _)
    rw [if_pos h']
    rfl
  have h' : ¬ lo > hi := of_decide_eq_false (Bool.eq_false_iff.mpr h)
  obtain ⟨vs, hv, lv, hrow⟩ := hM.row
  have lv1 : vs.length = n := by rw [lv, zM.1]
  obtain ⟨r0, e0, l0⟩ := zM.at hi'
  obtain ⟨ws, a0, x1, x2, x3⟩ := hM.getT e0
  have er0 := row_mk zM hi' e0
  refine ⟨_, rfl, _, rfl, pa, _, _, _, rfl, rfl, x1, x2, a0, rfl, ⟨_, x3⟩, fun D hD => ?_⟩
  refine lc_it (walk_tup (xs := r0.map V.int)) (LcP (Same H) (RInt (mkR n fun b => getM M i b + hi)) D) (lcp_start hD) (fun i G _ P => Same.tup P.1 x3) ?_ ?_
  · rintro k x G G' hk P ⟨rfl, ex⟩
    obtain ⟨c, fk, rfl⟩ := get_int ex
    rw [List.length_map, l0] at hk
    rw [er0, mkR_at hk] at fk
    cases fk
    refine ⟨rfl, tyes ?_⟩
    refine ⟨_, rfl, _, rfl, _, _, rfl, rfl, ?_⟩
    exact lcp_same P hD (Same.refl _) (lt_line (by omega)) RInt.mono ⟨_, mkR_at hk, rfl⟩
  intro G PA
  have hA := lcp_ints (K := K) PA (by rw [List.length_map, l0, mkR_len])
  have sG := PA.1
  refine ⟨_, rfl, pa, rfl, ⟨_, Same.tup sG hv⟩, fun D2 hD2 => ?_⟩
  refine lc_it (walk_tup (xs := vs)) (LcP (Same G) (RInt (mkR n fun a => getM M a i - lo)) D2) (lcp_start hD2) (fun i F _ P => Same.tup (sG.trans P.1) hv) ?_ ?_
  · rintro k x F F' hk P ⟨rfl, ex⟩
    rw [lv1] at hk
    obtain ⟨a, r, rfl, er, ha⟩ := hrow k x ex
    have er2 := row_mk zM hk er
    have at0 : atI (r.map V.int) (i : Int) = some (.int (getM M k i)) := by
      rw [er2]
      exact atI_nat (map_get (mkR_at hi'))
    refine ⟨rfl, tyes ?_⟩
    refine ⟨_, rfl, _, rfl, a, _, _, _, rfl, rfl, Same.tup (sG.trans P.1) ha, at0, _, rfl, _, _, rfl, rfl, ?_⟩
    exact lcp_same P hD2 (Same.refl _) (lt_line (by omega)) RInt.mono ⟨_, mkR_at hk, rfl⟩
  intro F PB
  have hB2 := lcp_ints (K := K) PB (by rw [lv1, mkR_len])
  have sF := sG.trans PB.1
  refine ⟨_, rfl, _, rfl, _, rfl, _, rfl, pa, D, D2, i, n, _, _, M, rfl, hM.same sF, zM, hi', hn, SqL.of (PB.1 _ _ hA), SqL.of hB2, fun v H' s' b' => ?_⟩
  refine q v H' (sF.trans s') ?_
  show BoxAt K H' v (if lo > hi then none else _)
  rw [if_neg h']
  exact b'
end
/-! ### columns tied -/
def TieB (n : Nat) (cs : List Nat) : Option (List (List Int)) → Option (List (List Int)) → Option (List (List Int)) → Prop
  | some M, some N, R => ∃ D : Nat → Nat → Int, Best n D R ∧ ∀ C, LeF n C D ↔ LeF n C (getM M) ∧ ∀ a < cs.length + 1, ∀ b < cs.length + 1, C (pk cs a) (pk cs b) ≤ getM N a b
  | _, _, R => R = none
def spTie (K : PySem.W.Frag) : Sp := fun vs H Q _ => ∃ (a : Addr) (va vb : V) (A B : Option (List (List Int))) (p : Addr) (cs : List Nat) (n : Nat), vs = [va, vb, .ref p] ∧ Src H a ∧ BoxAt K H va A ∧ BoxAt K H vb B ∧ BSz n A ∧ BSz (cs.length + 1) B ∧ SqT K H p (natsV cs) ∧ (∀ c ∈ cs, c < n) ∧ 0 < n ∧ n ≤ 900 ∧ cs.length ≤ 100 ∧
  ∀ v H' R, Same H H' → BoxAt K H' v R → TieB n cs A B R → Q v H'
theorem cut_upd {n i j : Nat} {g : Nat → Nat → Int} {c v : Int} (e : v = min (g i j) c) : mkM n (updF g i j v) = mkM n (cutF g i j c) := mkM_congr fun a ha b hb => by
  unfold updF cutF
  split
  · rename_i z
    obtain ⟨rfl, rfl⟩ := z
    exact e
  · rfl
/-- what holds ahead of entry i, j -/
def Tied (n : Nat) (cs : List Nat) (M N : List (List Int)) (i j : Nat) (g : Nat → Nat → Int) : Prop :=
  ∀ C, LeF n C g ↔ LeF n C (getM M) ∧ ∀ a b, (a < i ∧ b < cs.length + 1) ∨ (a = i ∧ b < j) → C (pk cs a) (pk cs b) ≤ getM N a b
theorem Tied.start {n : Nat} {cs : List Nat} {M N : List (List Int)} : Tied n cs M N 0 0 (getM M) := fun C => ⟨fun h => ⟨h, fun a b z => by omega⟩, fun h => h.1⟩
theorem Tied.step {n i j : Nat} {cs : List Nat} {M N : List (List Int)} {g : Nat → Nat → Int} (h : Tied n cs M N i j g) (hi : pk cs i < n) (hj : pk cs j < n) : Tied n cs M N i (j + 1) (cutF g (pk cs i) (pk cs j) (getM N i j)) := fun C => by
  rw [cutF_le hi hj, h C]
  constructor
  · rintro ⟨⟨h1, h2⟩, h3⟩
    refine ⟨h1, fun a b z => ?_⟩
    by_cases e : a = i ∧ b = j
    · obtain ⟨rfl, rfl⟩ := e
      exact h3
    · exact h2 a b (by omega)
  · rintro ⟨h1, h2⟩
    exact ⟨⟨h1, fun a b z => h2 a b (by omega)⟩, h2 i j (by omega)⟩
theorem Tied.row {n i : Nat} {cs : List Nat} {M N : List (List Int)} {g : Nat → Nat → Int} (h : Tied n cs M N i (cs.length + 1) g) : Tied n cs M N (i + 1) 0 g := fun C => by
  rw [h C]
  constructor
  · rintro ⟨h1, h2⟩
    exact ⟨h1, fun a b z => h2 a b (by omega)⟩
  · rintro ⟨h1, h2⟩
    exact ⟨h1, fun a b z => h2 a b (by omega)⟩
theorem Tied.done {n : Nat} {cs : List Nat} {M N : List (List Int)} {g : Nat → Nat → Int} (h : Tied n cs M N (cs.length + 1) 0 g) (C : Nat → Nat → Int) : LeF n C (getM (mkM n g)) ↔ LeF n C (getM M) ∧ ∀ a < cs.length + 1, ∀ b < cs.length + 1, C (pk cs a) (pk cs b) ≤ getM N a b := by
  have e : LeF n C (getM (mkM n g)) ↔ LeF n C g := ⟨fun z a ha b hb => by
    have := z a ha b hb
    rwa [mkM_get ha hb] at this, fun z a ha b hb => by
    rw [mkM_get ha hb]
    exact z a ha b hb⟩
  rw [e, h C]
  constructor
  · rintro ⟨h1, h2⟩
    exact ⟨h1, fun a ha b hb => h2 a b (.inl ⟨ha, hb⟩)⟩
  · rintro ⟨h1, h2⟩
    exact ⟨h1, fun a b z => h2 a (by omega) b (by omega)⟩
section
variable {P : Program} {w : World} {K : PySem.W.Frag} {mg : Str → Option Value} {base : Heap}
theorem ok_tie_boxes (T : Txt w K mg) : FnOk P w K mg base CX0 3 T.a_tie_boxes T.d_tie_boxes p_tie_boxes (spTie K) := by
  have g_close := ok_close (P := P) (w := w) (K := K) (base := base) T
  refine T.F_tie_boxes.ok sc_tie_boxes (fun vs H Q E h => ?_) (fun cdv A outer s H vs Q E hr h => ?_)
  · obtain ⟨a, va, vb, BA, BB, p, cs, n, rfl, _⟩ := h
    rfl
  obtain ⟨a, va, vb, BA, BB, p, cs, n, rfl, hS, hA, hB, zA, zB, hp, hc, n0, hn, lc, q⟩ := h
  refine ⟨_, (pss_cons (ps_if (PW.pt (pw_or (pt_cmpR op_isN (pv 0) pe_non (nomark _)) (pw_or1 (pt_cmpR op_isN (pv 1) pe_non (nomark _))))) (pss_one (ps_ret pe_non)) pss_nil)
      (pss_cons (ps_set (i := 3) sc_tie_boxes.nd rfl (Or.inl rfl) (pe_tup (pa_cons pe_int (StX.pa_star (pv 2) pa_nil))))
      (pss_cons (ps_setLc (i := 4) (own := [("row", 5)]) (g := gName 5) (tt := tYes) rfl sc_tie_boxes.nd rfl rfl (sw_true rfl rfl rfl (by decide +kernel)) (pi_tup (pv 0)) (blkOk_by (own := [("row", 5)]) (N := n_tie_boxes) (sc := defScope s_tie_boxes) (by decide +kernel)) (fun _ _ _ _ _ => (pg_name (i := 5) sc_tie_boxes.nd rfl (Or.inl rfl))) (fun _ _ _ _ _ => pts_nil) (fun _ _ _ _ _ => (pe_callTy (show CallR _ _ (rListOf K) from call_list_of) rfl T.z_list bt_list (pa_cons (pv 5) pa_nil))))
      (pss_cons (ps_for PassesOwn.never rfl (ZG.pi_zipG (by rfl) T.z_zip (pa_cons (pv 3) (pa_cons (pv 1) pa_nil))) (pg_tup rfl (pgs_cons (pg_name (i := 6) sc_tie_boxes.nd rfl (Or.inl rfl)) (pgs_cons (pg_name (i := 5) sc_tie_boxes.nd rfl (Or.inl rfl)) pgs_nil)))
        (pss_one (ps_for PassesOwn.never rfl (ZG.pi_zipG (by rfl) T.z_zip (pa_cons (pv 3) (pa_cons (pv 5) pa_nil))) (pg_tup rfl (pgs_cons (pg_name (i := 7) sc_tie_boxes.nd rfl (Or.inl rfl)) (pgs_cons (pg_name (i := 8) sc_tie_boxes.nd rfl (Or.inl rfl)) pgs_nil)))
        (pss_one (ps_asg (pe_callB (call_min2 rfl) rfl T.z_min bb_min (pa_cons (pe_ix ix_list (pe_ix ix_list (pv 4) (pv 6) (fun _ _ => rfl)) (pv 7) (fun _ _ => rfl)) (pa_cons (pv 8) pa_nil))) (pg_sub (pe_ix ix_list (pv 4) (pv 6) (fun _ _ => rfl)) (pv 7) set_list))))))
      (pss_one (ps_ret (pe_call g_close (hr.mono (by first | decide | omega)) rfl T.m_close T.F_close.kp T.b_close .nil pass0 (pa_cons (pv 4) pa_nil)))))))), ?_⟩
  cases BA with
  | none =>
    obtain rfl : va = .non := hA
    exact ⟨_, rfl, rfl, _, rfl, ifT rfl (ifT rfl (q _ _ none (Same.refl _) rfl rfl))⟩
  | some M =>
  obtain ⟨pa, rfl, hM⟩ := hA
  refine ⟨_, rfl, rfl, _, rfl, ifF rfl ?_⟩
  cases BB with
  | none =>
    obtain rfl : vb = .non := hB
    exact ⟨_, rfl, rfl, _, rfl, ifT rfl (q _ _ none (Same.refl _) rfl rfl)⟩
  | some N =>
  obtain ⟨pb, rfl, hN⟩ := hB
  refine ⟨_, rfl, rfl, _, rfl, ifF rfl ?_⟩
  have zM := zA M rfl
  have zN := zB N rfl
  refine ⟨_, rfl, p, natsV cs, rfl, .inl hp, ?_⟩
  refine ⟨(by
    rw [sizeLine_eq]
    simp only [natsV, List.length_cons, List.length_append, List.length_map, List.length_nil]
    omega), fun t ht => ?_⟩
  have s1 := Same.new ht (.tup (V.int 0 :: (natsV cs ++ [])))
  have ht1 : SqT K (upd H t (.tup (V.int 0 :: (natsV cs ++ [])))) t (natsV (0 :: cs)) := SqT.of (by rw [upd_same, List.append_nil]; rfl)
  have lt : (natsV (0 :: cs)).length = cs.length + 1 := by simp [natsV]
  have hS1 : Src (upd H t (.tup (V.int 0 :: (natsV cs ++ [])))) a := (Stp.of_same hS s1).s
  generalize upd H t (.tup (V.int 0 :: (natsV cs ++ []))) = H1 at s1 ht1 hS1
  have hM1 := hM.same s1
  have hN1 := hN.same s1
  obtain ⟨vs, hv, lv, hrow⟩ := hM1.row
  have lv1 : vs.length = n := by rw [lv, zM.1]
  obtain ⟨us, hu, lu, urow⟩ := hN1.row
  have lu1 : us.length = cs.length + 1 := by rw [lu, zN.1]
  refine ⟨_, rfl, pa, rfl, ⟨_, hv⟩, fun D hD => ?_⟩
  refine lc_it (walk_tup (xs := vs)) (fun i G => Same H1 G ∧ ∃ bs, RowsN a H1 G D bs ((mkM n (getM M)).take i)) ?_ (fun i G _ P => Same.tup P.1 hv) ?_ ?_
  · exact ⟨Same.new hD _, [], RowsN.start (Stp.refl hS1) hS1 hD⟩
  · rintro i x G G' hi ⟨sG, bs, hG⟩ ⟨rfl, ex⟩
    rw [lv1] at hi
    obtain ⟨xa, r, rfl, er, e3⟩ := hrow i x ex
    have er2 := row_mk zM hi er
    subst er2
    refine ⟨rfl, tyes ?_⟩
    refine ⟨_, rfl, xa, _, rfl, .inr (Same.tup sG e3), fun l hl => ?_⟩
    have sl := Same.new hl (.lst ((mkR n (getM M i)).map V.int))
    refine ⟨_, sl _ _ hG.e, lt_line (by rw [List.length_map, hG.rw.1]; have := List.length_take_le' i (mkM n (getM M)); rw [mkM_len] at this; omega), ?_, bs ++ [l], ?_⟩
    · exact fun b o e => by
        have ne : b ≠ D := fun z => by rw [z, hD] at e; cases e
        rw [upd_ne ne]
        exact sl _ _ (sG _ _ e)
    · rw [mkM_app hi]
      exact hG.push (Stp.of_same hG.st.s sl) hl upd_same
  rintro G ⟨sG, bs, hG⟩
  rw [lv1, List.take_of_length_le (by rw [mkM_len]; omega)] at hG
  have lb : bs.length = n := by rw [hG.rw.1, mkM_len]
  have put : ∀ {G : Hp} {x : Addr} {o : HO}, x ∈ bs → Same H1 G → Same H1 (upd G x o) := fun {G x o} hx s b u e => by
    have ne : b ≠ x := fun z => by rw [z, hG.nw x hx] at e; cases e
    rw [upd_ne ne]
    exact s _ _ e
  refine ⟨_, rfl, _, rfl, true, true, t, pb, _, _, rfl, Same.tup sG ht1, Same.tup sG hu, ?_⟩
  refine for_it (walk_zipG (n := cs.length + 1) (by omega)) (fun i σ G => (∃ x y z u : Option V, σ = [some (.ref pa), some (.ref pb), some (.ref p), some (.ref t), some (.ref D), x, y, z, u]) ∧ Same H1 G ∧ ∃ g, RowsN a H1 G D bs (mkM n g) ∧ Tied n cs M N i 0 g)
    ⟨⟨none, none, none, none, rfl⟩, sG, getM M, hG, Tied.start⟩ (fun i σ G _ P => ⟨Same.tup P.2.1 ht1, Same.tup P.2.1 hu⟩) ?_ ?_
  · rintro i x σ G G' hi ⟨⟨x1, x2, x3, x4, rfl⟩, sG, g, hG, tg⟩ ⟨t2, c1, c2, rfl, ht2, rfl, e1, e2⟩
    obtain ⟨rfl, _⟩ := pk_get e1
    obtain ⟨ar, r, rfl, er, har⟩ := urow i c2 e2
    have er2 := row_mk zN hi er
    have s2 : Same G (upd G t2 (.tup [.int (pk cs i : Int), .ref ar])) := Same.new ht2 _
    refine ⟨t2, _, rfl, SqT.of upd_same, rfl, _, _, rfl, _, _, rfl, rfl, ?_⟩
    have hG2 := hG.go (Stp.of_same hG.st.s s2)
    have sG2 := sG.trans s2
    have pi : pk cs i < n := pk_lt hc n0
    refine ⟨_, rfl, _, rfl, true, true, t, ar, _, _, rfl, Same.tup sG2 ht1, Same.tup sG2 har, ?_⟩
    refine for_it (walk_zipG (n := cs.length + 1) (by rw [List.length_map, er2, mkR_len]; omega)) (fun j σ G => (∃ z u : Option V, σ = [some (.ref pa), some (.ref pb), some (.ref p), some (.ref t), some (.ref D), some (.ref ar), some (.int (pk cs i)), z, u]) ∧ Same H1 G ∧ ∃ g, RowsN a H1 G D bs (mkM n g) ∧ Tied n cs M N i j g)
      ⟨⟨_, _, rfl⟩, sG2, g, hG2, tg⟩ (fun j σ G _ P => ⟨Same.tup P.2.1 ht1, Same.tup P.2.1 har⟩) ?_ ?_
    · rintro j x σ F F' hj ⟨⟨z, u, rfl⟩, sF, g, hF, tg⟩ ⟨t3, c1, c2, rfl, ht3, rfl, e1, e2⟩
      obtain ⟨rfl, _⟩ := pk_get e1
      obtain ⟨c, ec, rfl⟩ := get_int e2
      rw [er2, mkR_at hj] at ec
      cases ec
      have s3 : Same F (upd F t3 (.tup [.int (pk cs j : Int), .int (getM N i j)])) := Same.new ht3 _
      refine ⟨t3, _, rfl, SqT.of upd_same, rfl, _, _, rfl, _, _, rfl, rfl, ?_⟩
      have hF2 := hF.go (Stp.of_same hF.st.s s3)
      have sF2 := sF.trans s3
      have pj : pk cs j < n := pk_lt hc n0
      obtain ⟨xi, ri, ei, eri, hi3⟩ := hF2.rw.at (i := pk cs i) (by rw [mkM_len]; exact pi)
      rw [mkM_at pi] at eri
      cases eri
      have ati : atI (bs.map V.ref) (pk cs i : Int) = some (.ref xi) := atI_nat (map_get ei)
      have atj : atI ((mkR n (g (pk cs i))).map V.int) (pk cs j : Int) = some (.int (g (pk cs i) (pk cs j))) := atI_nat (map_get (mkR_at pj))
      have ix : ixN ((mkR n (g (pk cs i))).map V.int).length (pk cs j : Int) = some (pk cs j) := by
        have := ixN_int (n := ((mkR n (g (pk cs i))).map V.int).length) (c := (pk cs j : Int)) (by omega) (by rw [List.length_map, mkR_len]; omega)
        rw [this, Int.toNat_natCast]
      have hD3 := SqL.of (K := K) hF2.e
      refine ⟨_, rfl, _, rfl, D, _, _, _, rfl, rfl, hD3, ati, _, rfl, xi, _, _, _, rfl, rfl, SqL.of hi3, atj, _, rfl, _, _, rfl, ?_⟩
      refine ⟨_, rfl, _, rfl, D, _, _, _, rfl, rfl, hD3, ati, _, rfl, xi, _, _, _, rfl, rfl, hi3, ix, ?_⟩
      rw [← List.map_set]
      have hp := hF2.put (r' := (mkR n (g (pk cs i))).set (pk cs j) (if getM N i j < g (pk cs i) (pk cs j) then getM N i j else g (pk cs i) (pk cs j))) ei
      refine ⟨⟨_, _, rfl⟩, put (List.mem_of_getElem? ei) sF2, cutF g (pk cs i) (pk cs j) (getM N i j), ?_, tg.step pi pj⟩
      rw [mkM_put, cut_upd (c := getM N i j) (by split <;> omega)] at hp
      exact hp
    · rintro σ F ⟨⟨z, u, rfl⟩, sF, g, hF, tg⟩
      exact ⟨⟨_, _, _, _, rfl⟩, sF, g, hF, tg.row⟩
  · rintro σ G ⟨⟨x1, x2, x3, x4, rfl⟩, sG, g, hG, tg⟩
    have mG : Mx false false K G D (mkM n g) := ⟨bs, SqL.of hG.e, hG.rw.1, fun i x r e1 e2 => SqL.of (hG.rw.2 i x r e1 e2)⟩
    exact ⟨_, rfl, false, false, D, _, n, rfl, mG, mkM_sz, hn, fun v H' R s' b' best => q v H' R (s1.trans (sG.trans s')) b' ⟨_, best, fun C => tg.done C⟩⟩
end
/-! ### columns added -/
theorem rangeB_some {Rs A : List (List Int)} (h : rangeB Rs = some A) : A = mkM (Rs.length + 1) (wid Rs) := by
  unfold rangeB at h
  split at h
  · cases h
  · exact (Option.some.inj h).symm
def addF (n : Nat) (f g : Nat → Nat → Int) (a b : Nat) : Int := if a < n then (if b < n then f a b else f a 0 + g 0 (b - n + 1)) else if b < n then g (a - n + 1) 0 + f 0 b else g (a - n + 1) (b - n + 1)
noncomputable def addB (n : Nat) (Rs : List (List Int)) : Option (List (List Int)) → Option (List (List Int))
  | none => none
  | some M => (rangeB Rs).map fun _ => mkM (n + Rs.length) (addF n (getM M) (wid Rs))
def spAddC (K : PySem.W.Frag) : Sp := fun vs H Q _ => ∃ (v : V) (B : Option (List (List Int))) (q : Addr) (Rs : List (List Int)) (n : Nat), vs = [v, .ref q] ∧ BoxAt K H v B ∧ BSz n B ∧ Mx true true K H q Rs ∧ (∀ r ∈ Rs, r.length = 2) ∧ Rs.length ≤ 100 ∧ 0 < n ∧ n ≤ 700 ∧ ∀ v H', Same H H' → BoxAt K H' v (addB n Rs B) → Q v H'
theorem limR_mk {n : Nat} {c : Int} {f : Nat → Int} : limR c (mkR n f) = mkR n fun b => c + f b := by simp [limR, mkR]
theorem limR_drop {c : Int} {r : List Int} {k : Nat} : limR c (r.drop k) = (limR c r).drop k := by simp [limR, List.map_drop]
theorem mkR_app {n m : Nat} {f g : Nat → Int} : mkR n f ++ (mkR (m + 1) g).drop 1 = mkR (n + m) fun b => if b < n then f b else g (b - n + 1) := by
  refine List.ext_getElem? fun b => ?_
  by_cases h1 : b < n
  · rw [List.getElem?_append_left (by rw [mkR_len]; exact h1), mkR_at h1, mkR_at (by omega), if_pos h1]
  · rw [List.getElem?_append_right (by rw [mkR_len]; omega), mkR_len, List.getElem?_drop]
    by_cases h2 : b < n + m
    · rw [mkR_at h2, mkR_at (by omega), if_neg h1, Nat.add_comm 1]
    · rw [List.getElem?_eq_none (by rw [mkR_len]; omega), List.getElem?_eq_none (by rw [mkR_len]; omega)]
theorem mkR_app_int {n m : Nat} {f g : Nat → Int} : (mkR n f).map V.int ++ (((mkR (m + 1) g).drop 1).map V.int ++ []) = (mkR (n + m) fun b => if b < n then f b else g (b - n + 1)).map V.int := by
  rw [List.append_nil, ← List.map_append, mkR_app]
section
variable {P : Program} {w : World} {K : PySem.W.Frag} {mg : Str → Option Value} {base : Heap}
theorem ok_add_columns (T : Txt w K mg) : FnOk P w K mg base CX0 3 T.a_add_columns T.d_add_columns p_add_columns (spAddC K) := by
  have g_range_box := ok_range_box (P := P) (w := w) (base := base) T
  have g_limits_over := ok_limits_over (P := P) (w := w) (base := base) T
  have g_frozen := ok_frozen (P := P) (w := w) (base := base) T
  refine T.F_add_columns.ok sc_add_columns (fun vs H Q E h => ?_) (fun cdv A outer s H vs Q E hr h => ?_)
  · obtain ⟨v, B, q, Rs, n, rfl, _⟩ := h
    rfl
  obtain ⟨v, B, q, Rs, n, rfl, hB, zB, hR, hR2, hRn, n0, hn, k⟩ := h
  refine ⟨_, (pss_cons (ps_set (i := 2) sc_add_columns.nd rfl (Or.inr rfl) (pe_call g_range_box (hr.mono (by first | decide | omega)) rfl T.m_range_box T.F_range_box.kp T.b_range_box .nil pass0 (pa_cons (pv 1) pa_nil)))
      (pss_cons (ps_if (PW.pt (pw_or (pt_cmpR op_isN (pv 0) pe_non (nomark _)) (pw_or1 (pt_cmpR op_isN (pv 2) pe_non (nomark _))))) (pss_one (ps_ret pe_non)) pss_nil)
      (pss_cons (ps_setLc (i := 3) (own := [("row", 4)]) (g := gName 4) (tt := tYes) rfl sc_add_columns.nd rfl rfl (sw_true rfl rfl rfl (by decide +kernel)) (pi_tup (pv 0)) (blkOk_by (own := [("row", 4)]) (N := n_add_columns) (sc := defScope s_add_columns) (by decide +kernel)) (fun _ _ _ _ _ => (pg_name (i := 4) sc_add_columns.nd rfl (Or.inl rfl))) (fun _ _ _ _ _ => pts_nil) (fun _ _ _ _ _ => (pe_lst (show L2.PA _ _ (StX.tStar K _ _) from (StX.pa_star (pv 4) (show L2.PA _ _ (StX.tStar K _ _) from (StX.pa_star (pe_call g_limits_over (hr.mono (by first | decide | omega)) rfl T.m_limits_over T.F_limits_over.kp T.b_limits_over .nil pass0 (pa_cons (pe_ix (show IxR _ (rIxT K) from ix_tup) (pv 4) pe_int (fun _ _ => rfl)) (pa_cons (pe_slice (show SlR _ (rSlT K) from sl_tup) (pe_ix (show IxR _ (rIxT K) from ix_tup) (pv 2) pe_int (fun _ _ => rfl)) (po_some pe_int) po_none) pa_nil))) pa_nil)))))))
      (pss_cons (ps_for PassesOwn.never rfl (pi_tup (pe_slice sl_tup (pv 2) (po_some pe_int) po_none)) (pg_name (i := 4) sc_add_columns.nd rfl (Or.inl rfl))
        (pss_one (ps_expr (pe_bm PySem.F.plainAttrs_list PySem.F.slot_list_append PySem.F.type_list_append mt_append (pv 3) (pa_cons (pe_lst (StX.pa_star (pe_call g_limits_over (hr.mono (by first | decide | omega)) rfl T.m_limits_over T.F_limits_over.kp T.b_limits_over .nil pass0 (pa_cons (pe_ix ix_tup (pv 4) pe_int (fun _ _ => rfl)) (pa_cons (pe_ix ix_tup (pv 0) pe_int (fun _ _ => rfl)) pa_nil))) (StX.pa_star (pe_slice sl_tup (pv 4) (po_some pe_int) po_none) pa_nil))) pa_nil)))))
      (pss_one (ps_ret (pe_call g_frozen (hr.mono (by first | decide | omega)) rfl T.m_frozen T.F_frozen.kp T.b_frozen .nil pass0 (pa_cons (pv 3) pa_nil)))))))), ?_⟩
  refine ⟨_, rfl, q, Rs, rfl, hR, hR2, hRn, fun v1 H1 s1 b1 => ?_⟩
  cases B with
  | none =>
    obtain rfl : v = .non := hB
    exact ⟨_, rfl, rfl, _, rfl, ifT rfl (ifT rfl (k .non H1 s1 rfl))⟩
  | some M =>
  obtain ⟨pa, rfl, hM⟩ := hB
  have zM := zB M rfl
  refine ⟨_, rfl, rfl, _, rfl, ifF rfl ?_⟩
  cases eR : rangeB Rs with
  | none =>
    rw [eR] at b1
    obtain rfl : v1 = .non := b1
    refine ⟨_, rfl, rfl, _, rfl, ifT rfl (k .non H1 s1 ?_)⟩
    unfold addB
    rw [eR]
    rfl
  | some A =>
  rw [eR] at b1
  obtain ⟨pd, rfl, hA⟩ := b1
  have eA := rangeB_some eR
  have k' : ∀ v H', Same H H' → BoxAt K H' v (some (mkM (n + Rs.length) (addF n (getM M) (wid Rs)))) → Q v H' := fun v H' s' b' => k v H' s' (by unfold addB; rw [eR]; exact b')
  clear k
  refine ⟨_, rfl, rfl, _, rfl, ifF rfl ?_⟩
  generalize hm : Rs.length = m at *
  have zA : Sz (m + 1) A := by rw [eA]; exact mkM_sz
  have gA : ∀ a < m + 1, ∀ b < m + 1, getM A a b = wid Rs a b := fun a ha b hb => by rw [eA, mkM_get ha hb]
  have hM1 := hM.same s1
  obtain ⟨vs, hv, lv, hrow⟩ := hM1.row
  have lv1 : vs.length = n := by rw [lv, zM.1]
  obtain ⟨us, hu, lu, urow⟩ := hA.row
  have lu1 : us.length = m + 1 := by rw [lu, zA.1]
  obtain ⟨r0, e0, l0⟩ := zM.at n0
  obtain ⟨ws0, a0, x1, x2, x3⟩ := hM1.getT e0
  have er0 := row_mk zM n0 e0
  obtain ⟨d0, f0, m0⟩ := zA.at (i := 0) (by omega)
  obtain ⟨wd0, b0, y1, y2, y3⟩ := hA.getT f0
  have ed0 : d0 = mkR (m + 1) (wid Rs 0) := by
    rw [eA, mkM_at (by omega)] at f0
    exact (Option.some.inj f0).symm
  let MT : List (List Int) := mkM (n + m) (addF n (getM M) (wid Rs))
  refine ⟨_, rfl, pa, rfl, ⟨_, hv⟩, fun D hD => ?_⟩
  refine lc_it (walk_tup (xs := vs)) (LcP (Same H1) (RRow K false MT D) D) (lcp_start hD) (fun i G _ P => Same.tup P.1 hv) ?_ ?_
  · rintro i x G G' hi P ⟨rfl, ex⟩
    rw [lv1] at hi
    obtain ⟨a, r, rfl, er, ha⟩ := hrow i x ex
    have er2 := row_mk zM hi er
    have sG := P.1
    have at0 : atI (r.map V.int) 0 = some (.int (getM M i 0)) := by
      rw [er2]
      exact atI_nat (j := 0) (map_get (mkR_at n0))
    refine ⟨rfl, tyes ?_⟩
    refine ⟨_, rfl, a, _, rfl, .inl (Same.tup sG ha), ?_⟩
    refine ⟨_, rfl, a, _, _, _, rfl, rfl, Same.tup sG ha, at0, ?_⟩
    refine ⟨_, rfl, pd, _, _, _, rfl, rfl, Same.tup sG y1, y2, 1, rfl, ?_⟩
    dsimp only [tNoPart]
    refine slT_lo 1 rfl (Same.tup sG y3) (by omega) (by omega) fun p1 G1 hp1 t1 h1 => ?_
    refine ⟨_, p1, _, rfl, h1, by rw [List.length_drop]; omega, fun p2 G2 hp2 t2 h2 => ?_⟩
    refine ⟨p2, _, rfl, .inr (SqL.of h2), ?_⟩
    dsimp only [tNil]
    rw [limR_drop, ed0, limR_mk, er2, mkR_app_int]
    refine ⟨by rw [List.length_map, mkR_len, sizeLine_eq]; omega, fun l hl => ?_⟩
    have s3 := (t1.trans t2).trans (Same.new hl (.lst ((mkR (n + m) fun b => if b < n then getM M i b else getM M i 0 + wid Rs 0 (b - n + 1)).map V.int)))
    refine lcp_same P hD s3 (lt_line (by omega)) RRow.mono ⟨l, _, rfl, ?_, P.ne ((t1.trans t2).free hl), Sq.upd_same⟩
    show MT[i]? = _
    rw [mkM_at (by omega)]
    refine congrArg some (congrArg (mkR (n + m)) (funext fun b => ?_))
    unfold addF
    rw [if_pos hi]
  · intro G P
    rw [lv1] at P
    have sG := P.1
    have ec : cutV us (some 1) none = us.drop 1 := cut_lo (by decide) (by rw [lu1]; show 1 ≤ m + 1; omega)
    refine ⟨_, rfl, 1, rfl, pd, _, rfl, Same.tup sG hu, ?_, fun pc hpc => ?_⟩
    · rintro ⟨z, _⟩
      have e1 : HT.sIx us.length 0 (some 1) = min 1 us.length := HT.sIx_nat _ _ 1
      rw [e1, lu1] at z
      omega
    have hc : SqT K (upd G pc (.tup (cutV us (some 1) none))) pc (us.drop 1) := by
      rw [← ec]
      exact SqT.of upd_same
    have sc : Same G (upd G pc (.tup (cutV us (some 1) none))) := Same.new hpc _
    have pcD : pc ≠ D := P.ne hpc
    generalize upd G pc (.tup (cutV us (some 1) none)) = G0 at hc sc
    refine ⟨pc, rfl, ⟨_, hc⟩, ?_⟩
    have P0 : LcP (Same H1) (RRow K false MT D) D (n + 0) G0 := ⟨sG.trans sc, by
      obtain ⟨_, acc, h1, h2, h3⟩ := P
      exact ⟨acc, sc _ _ h1, h2, fun j y e => RRow.mono j y _ _ (h3 j y e) (But.of_same sc)⟩⟩
    refine for_it (walk_tup (xs := us.drop 1)) (fun i σ F => (∃ x : Option V, σ = [some (.ref pa), some (.ref q), some (.ref pd), some (.ref D), x]) ∧ SqT K F pc (us.drop 1) ∧ LcP (Same H1) (RRow K false MT D) D (n + i) F) ⟨⟨none, rfl⟩, hc, P0⟩ (fun i σ F _ P => P.2.1) ?_ ?_
    · rintro i x σ F F' hi ⟨⟨x', rfl⟩, sF, PF⟩ ⟨rfl, ex⟩
      rw [List.length_drop, lu1] at hi
      rw [List.getElem?_drop, Nat.add_comm] at ex
      obtain ⟨a, r, rfl, er, ha⟩ := urow _ _ ex
      have hi' : i + 1 < m + 1 := by omega
      have er2 : r = mkR (m + 1) (wid Rs (i + 1)) := by
        rw [eA, mkM_at hi'] at er
        exact (Option.some.inj er).symm
      have sX : Same H1 F' := PF.1
      have haF := Same.tup sX ha
      have at0 : atI (r.map V.int) 0 = some (.int (wid Rs (i + 1) 0)) := by
        rw [er2]
        exact atI_nat (j := 0) (map_get (mkR_at (by omega)))
      obtain ⟨acc, a1, a2⟩ := PF.acc
      refine ⟨_, rfl, .inl ⟨rfl, _, SqL.of a1⟩, ?_⟩
      refine ⟨_, rfl, a, _, _, _, rfl, rfl, haF, at0, ?_⟩
      refine ⟨_, rfl, pa, _, _, _, rfl, rfl, Same.tup sX x1, x2, ?_⟩
      refine ⟨_, a0, _, rfl, Same.tup sX x3, by omega, fun p2 G2 hp2 t2 h2 => ?_⟩
      refine ⟨p2, _, rfl, .inr (SqL.of h2), ?_⟩
      refine ⟨_, rfl, 1, rfl, ?_⟩
      dsimp only [tNoPart]
      refine slT_lo 1 rfl (Same.tup t2 haF) (by omega) (by rw [er2, mkR_len]; omega) fun p3 G3 hp3 t3 h3 => ?_
      refine ⟨p3, _, rfl, .inl h3, ?_⟩
      dsimp only [tNil]
      rw [er0, limR_mk, er2, mkR_app_int]
      refine ⟨by rw [List.length_map, mkR_len, sizeLine_eq]; omega, fun l hl => ?_⟩
      have s3 := (t2.trans t3).trans (Same.new hl (.lst ((mkR (n + m) fun b => if b < n then wid Rs (i + 1) 0 + getM M 0 b else wid Rs (i + 1) (b - n + 1)).map V.int)))
      have lD : l ≠ D := fun z => by
        have := (t2.trans t3) _ _ a1
        rw [← z, hl] at this
        cases this
      refine ⟨D, acc, _, rfl, rfl, s3 _ _ a1, lt_line (by omega), ⟨_, rfl⟩, ?_, ?_⟩
      · exact Sq.but (t := true) (But.upd _) pcD (Same.tup s3 sF)
      · refine lcp_put PF a1 hD s3 (lt_line (by show n + i ≤ 10000000; omega)) RRow.mono ⟨l, _, rfl, ?_, lD, Sq.upd_same⟩
        show MT[n + i]? = _
        rw [mkM_at (by omega)]
        refine congrArg some (congrArg (mkR (n + m)) (funext fun b => ?_))
        unfold addF
        rw [if_neg (by omega), show n + i - n + 1 = i + 1 by omega]
    · rintro σ F ⟨⟨x', rfl⟩, sF, PF⟩
      rw [List.length_drop, lu1] at PF
      have m0 := lcp_rows PF (by rw [mkM_len]; omega)
      refine ⟨_, rfl, D, _, rfl, m0, by rw [mkM_len]; omega, fun p' H' s' hM' => ?_⟩
      exact k' (.ref p') H' (s1.trans (PF.1.trans s')) ⟨p', rfl, hM'⟩
end
/-! ### all points of a matrix, listed -/
def valsL (M : List (List Int)) (c : Nat) : List Int := (List.range (getM M c 0 + 1 - (0 - getM M 0 c)).toNat).map fun (k : Nat) => (0 - getM M 0 c) + (k : Int)
def fitP (M : List (List Int)) (c : Nat) (p : List Int) (v : Int) : Prop := ∀ k < p.length, v - p.getD k 0 ≤ getM M c (k + 1) ∧ p.getD k 0 - v ≤ getM M (k + 1) c
instance (M : List (List Int)) (c : Nat) (p : List Int) (v : Int) : Decidable (fitP M c p v) := inferInstanceAs (Decidable (∀ k < p.length, _))
def stepV (M : List (List Int)) (c : Nat) (p : List Int) (vs : List Int) : List (List Int) := (vs.filter fun v => decide (fitP M c p v)).map fun v => p ++ [v]
def stepL (M : List (List Int)) (c : Nat) (Ps : List (List Int)) : List (List Int) := Ps.flatMap fun p => stepV M c p (valsL M c)
def ptsL (M : List (List Int)) : Nat → List (List Int)
  | 0 => [[]]
  | c + 1 => stepL M (c + 1) (ptsL M c)
def InP (M : List (List Int)) (c : Nat) (p : List Int) : Prop := p.length = c ∧ ∀ i < c + 1, ∀ j < c + 1, i ≠ j → dif i j p ≤ getM M i j
theorem mem_vals {M : List (List Int)} {c : Nat} {v : Int} : v ∈ valsL M c ↔ 0 - getM M 0 c ≤ v ∧ v ≤ getM M c 0 := by
  unfold valsL
  rw [List.mem_map]
  constructor
  · rintro ⟨k, hk, rfl⟩
    rw [List.mem_range] at hk
    omega
  · rintro ⟨h1, h2⟩
    exact ⟨(v - (0 - getM M 0 c)).toNat, List.mem_range.mpr (by omega), by omega⟩
theorem snoc_get {p : List Int} {v : Int} {i : Nat} (h : i ≤ p.length) : (0 :: (p ++ [v])).getD i 0 = (0 :: p).getD i 0 := by
  rw [← List.cons_append, List.getD_eq_getElem?_getD, List.getElem?_append_left (by simp; omega), ← List.getD_eq_getElem?_getD]
theorem snoc_last {p : List Int} {v : Int} : (0 :: (p ++ [v])).getD (p.length + 1) 0 = v := by
  rw [← List.cons_append, List.getD_eq_getElem?_getD, List.getElem?_append_right (by simp)]
  simp
theorem cons_get {p : List Int} {k : Nat} : (0 :: p).getD (k + 1) 0 = p.getD k 0 := rfl
theorem mem_pts {M : List (List Int)} : ∀ {c : Nat} {p : List Int}, p ∈ ptsL M c ↔ InP M c p
  | 0, p => by
    unfold ptsL InP
    constructor
    · intro h
      have e : p = [] := by simpa using h
      subst e
      exact ⟨rfl, fun i hi j hj ne => by omega⟩
    · rintro ⟨h, _⟩
      rw [List.length_eq_zero_iff.mp h]
      exact List.mem_singleton.mpr rfl
  | c + 1, p => by
    show p ∈ stepL M (c + 1) (ptsL M c) ↔ _
    unfold stepL stepV
    rw [List.mem_flatMap]
    constructor
    · rintro ⟨q, hq, hp⟩
      obtain ⟨v, hv, rfl⟩ := List.mem_map.mp hp
      obtain ⟨hv1, hv2⟩ := List.mem_filter.mp hv
      have hf : fitP M (c + 1) q v := of_decide_eq_true hv2
      obtain ⟨lq, iq⟩ := mem_pts.mp hq
      have hr := mem_vals.mp hv1
      refine ⟨by simp [lq], fun i hi j hj ne => ?_⟩
      have last : (0 :: (q ++ [v])).getD (c + 1) 0 = v := by
        have := snoc_last (p := q) (v := v)
        rwa [lq] at this
      unfold dif
      by_cases h1 : i = c + 1
      · subst h1
        rw [last, snoc_get (by omega)]
        cases j with
        | zero =>
          show v - 0 ≤ _
          omega
        | succ j =>
          rw [cons_get]
          exact (hf j (by omega)).1
      · by_cases h2 : j = c + 1
        · subst h2
          rw [last, snoc_get (by omega)]
          cases i with
          | zero =>
            show 0 - v ≤ _
            omega
          | succ i =>
            rw [cons_get]
            exact (hf i (by omega)).2
        · rw [snoc_get (by omega), snoc_get (by omega)]
          exact iq i (by omega) j (by omega) ne
    · rintro ⟨lp, ip⟩
      have ne : p ≠ [] := fun z => by rw [z] at lp; simp at lp
      obtain ⟨q, v, rfl⟩ : ∃ q v, p = q ++ [v] := ⟨p.dropLast, p.getLast ne, (List.dropLast_concat_getLast ne).symm⟩
      have lq : q.length = c := by simpa using lp
      have last : (0 :: (q ++ [v])).getD (c + 1) 0 = v := by
        have := snoc_last (p := q) (v := v)
        rwa [lq] at this
      refine ⟨q, mem_pts.mpr ⟨lq, fun i hi j hj ne => ?_⟩, List.mem_map.mpr ⟨v, List.mem_filter.mpr ⟨mem_vals.mpr ?_, decide_eq_true fun k hk => ?_⟩, rfl⟩⟩
      · have := ip i (by omega) j (by omega) ne
        unfold dif at *
        rwa [snoc_get (by omega), snoc_get (by omega)] at this
      · have a := ip (c + 1) (by omega) 0 (by omega) (by omega)
        have b := ip 0 (by omega) (c + 1) (by omega) (by omega)
        unfold dif at a b
        rw [last, snoc_get (by omega)] at a b
        have e : (0 :: q).getD 0 0 = 0 := rfl
        rw [e] at a b
        omega
      · have a := ip (c + 1) (by omega) (k + 1) (by omega) (by omega)
        have b := ip (k + 1) (by omega) (c + 1) (by omega) (by omega)
        unfold dif at a b
        rw [last, snoc_get (by omega), cons_get] at a b
        exact ⟨a, b⟩
/-- the point of a closed matrix in which a column is as small as can be -/
def colP (n : Nat) (C : Nat → Nat → Int) (j : Nat) : List Int := mkR n fun k => C (k + 1) j - C 0 j
theorem colP_get {n : Nat} {C : Nat → Nat → Int} {i j : Nat} (hi : i < n + 1) : (0 :: colP n C j).getD i 0 = C i j - C 0 j := by
  cases i with
  | zero =>
    show (0 : Int) = _
    omega
  | succ i =>
    rw [cons_get, List.getD_eq_getElem?_getD]
    unfold colP
    rw [mkR_at (by omega)]
    rfl
theorem colP_in {n : Nat} {C : Nat → Nat → Int} {M : List (List Int)} {j : Nat} (c : Clo (n + 1) C) (l : LeF (n + 1) C (getM M)) (hj : j < n + 1) : colP n C j ∈ ptsL M n := by
  refine mem_pts.mpr ⟨mkR_len, fun i hi k hk _ => ?_⟩
  unfold dif
  rw [colP_get hi, colP_get hk]
  have a := c.t i hi j hj k hk
  have b := l i hi k hk
  omega
theorem best_pts {n : Nat} {M : List (List Int)} (hd : ∀ i < n + 1, 0 ≤ getM M i i) : Best (n + 1) (getM M) (hull n (ptsL M n)) := by
  unfold hull
  split
  · rename_i e
    intro C hC hl
    have := colP_in hC hl (j := 0) (by omega)
    rw [e] at this
    simp at this
  · rename_i ne
    refine ⟨hullM_sz n _, ⟨fun i hi => hull_diag ne hi, fun i hi j hj k hk => hull_tri ne hi hj hk⟩, fun i hi j hj => ?_, fun C hC hl i hi j hj => ?_⟩
    · by_cases e : i = j
      · subst e
        rw [hull_diag ne hi]
        exact hd i hi
      · rw [getM_hull hi hj]
        obtain ⟨r, hr, er⟩ := List.mem_map.mp (lmax_mem (xs := (ptsL M n).map (dif i j)) fun z => ne (List.map_eq_nil_iff.mp z))
        rw [← er]
        exact (mem_pts.mp hr).2 i hi j hj e
    · rw [getM_hull hi hj]
      have h1 : dif i j (colP n C j) ≤ _ := lmax_le (List.mem_map_of_mem (colP_in hC hl hj))
      unfold dif at h1
      rw [colP_get hi, colP_get hj] at h1
      have := hC.d j hj
      unfold dif
      omega
theorem best_neg {n i : Nat} {D : Nat → Nat → Int} (hi : i < n) (neg : D i i < 0) : Best n D none := fun C hC hl => by
  have a := hl i hi i hi
  have b := hC.d i hi
  omega
/-- the points that the law lists for a matrix, or None -/
noncomputable def ptsB (n : Nat) : Option (List (List Int)) → List (List Int)
  | none => []
  | some M => open Classical in if ∀ i < n + 1, 0 ≤ getM M i i then ptsL M n else []
theorem best_ptsB {n : Nat} {M : List (List Int)} : Best (n + 1) (getM M) (hull n (ptsB n (some M))) := by
  show Best (n + 1) (getM M) (hull n (open Classical in if ∀ i < n + 1, 0 ≤ getM M i i then ptsL M n else []))
  split
  · rename_i h
    exact best_pts h
  · rename_i h
    have e : hull n [] = none := rfl
    rw [e]
    obtain ⟨i, h1⟩ := Classical.not_forall.mp h
    obtain ⟨hi, h2⟩ := Classical.not_imp.mp h1
    exact best_neg hi (by omega)
def spFits (K : PySem.W.Frag) : Sp := fun vs H Q _ => ∃ (p t : Addr) (M : List (List Int)) (r : List Int) (n c : Nat) (v : Int), vs = [.ref p, .ref t, .int c, .int v] ∧ n ≤ 900 ∧ Mx true true K H p M ∧ Sz (n + 1) M ∧ c ≤ n ∧ r.length ≤ n ∧ SqT K H t (r.map V.int) ∧ Q (.bl (decide (fitP M c r v))) H
/-- few enough to be listed -/
structure Small (n : Nat) (M : List (List Int)) : Prop where
  lo : ∀ c < n + 1, -1000000 ≤ getM M 0 c ∧ getM M 0 c ≤ 1000000
  hi : ∀ c < n + 1, -1000000 ≤ getM M c 0 ∧ getM M c 0 ≤ 1000000
  pts : ∀ c ≤ n, (ptsL M c).length ≤ 1000000
def spPoints (K : PySem.W.Frag) : Sp := fun vs H Q _ => ∃ (va : V) (B : Option (List (List Int))) (n : Nat), vs = [va] ∧ n ≤ 900 ∧ BoxAt K H va B ∧ BSz (n + 1) B ∧ (∀ M, B = some M → Small n M) ∧ ∀ q H', Same H H' → Pts K H' q (ptsB n B) → Q (.ref q) H'
/-- a tuple and one number more -/
theorem catV {K : PySem.W.Frag} {H : Hp} {t a : Addr} {r : List Int} {v : Int} {Q : VK} (h1 : SqT K H t (r.map V.int)) (h2 : SqT K H a [.int v]) (hz : r.length ≤ 1000) (q : ∀ z H', Same H H' → SqT K H' z ((r ++ [v]).map V.int) → (H z = none ∨ z = a) → Q (.ref z) H') : rCatA K (.ref t) (.ref a) H Q := by
  refine ⟨t, a, _, _, rfl, rfl, h1, h2, ?_, fun e => ?_, fun _ e => ?_, fun _ _ p hp => ?_⟩
  · rw [List.length_map, sizeLine_eq]
    simp
    omega
  · have e' : r = [] := List.map_eq_nil_iff.mp e
    subst e'
    exact q a H (Same.refl H) h2 (.inr rfl)
  · cases e
  · exact q p _ (Same.new hp _) (by rw [List.map_append]; exact SqT.of upd_same) (.inl hp)
theorem stepV_succ {M : List (List Int)} {c k : Nat} {p vs : List Int} {v : Int} (e : vs[k]? = some v) : stepV M c p (vs.take (k + 1)) = stepV M c p (vs.take k) ++ (if fitP M c p v then [p ++ [v]] else []) := by
  unfold stepV
  rw [List.take_succ, e]
  simp only [Option.toList_some, List.filter_append, List.map_append]
  congr 1
  by_cases h : fitP M c p v
  · simp [h]
  · simp [h]
theorem stepL_succ {M : List (List Int)} {c j : Nat} {Ps : List (List Int)} {p : List Int} (e : Ps[j]? = some p) : stepL M c (Ps.take (j + 1)) = stepL M c (Ps.take j) ++ stepV M c p (valsL M c) := by
  unfold stepL
  rw [List.take_succ, e]
  simp
theorem stepV_len {M : List (List Int)} {c k : Nat} {p vs : List Int} : (stepV M c p (vs.take k)).length ≤ (stepV M c p vs).length := by
  unfold stepV
  rw [List.length_map, List.length_map]
  exact (List.Sublist.filter _ (List.take_sublist k vs)).length_le
theorem stepL_len {M : List (List Int)} {c j : Nat} {Ps : List (List Int)} : (stepL M c (Ps.take j)).length ≤ (stepL M c Ps).length := by
  unfold stepL
  have e : Ps.flatMap (fun p => stepV M c p (valsL M c)) = (Ps.take j).flatMap (fun p => stepV M c p (valsL M c)) ++ (Ps.drop j).flatMap (fun p => stepV M c p (valsL M c)) := by
    rw [← List.flatMap_append, List.take_append_drop]
  rw [e, List.length_append]
  omega
theorem part_len {M : List (List Int)} {c j k : Nat} {Ps : List (List Int)} {p : List Int} (e : Ps[j]? = some p) : (stepL M c (Ps.take j) ++ stepV M c p ((valsL M c).take k)).length ≤ (stepL M c Ps).length := by
  have h1 := stepL_len (M := M) (c := c) (j := j + 1) (Ps := Ps)
  rw [stepL_succ e, List.length_append] at h1
  have h2 := stepV_len (M := M) (c := c) (k := k) (p := p) (vs := valsL M c)
  rw [List.length_append]
  omega
theorem vals_len {M : List (List Int)} {c : Nat} : (valsL M c).length = (getM M c 0 + 1 - (0 - getM M 0 c)).toNat := by simp [valsL]
theorem vals_get {M : List (List Int)} {c k : Nat} (h : k < (getM M c 0 + 1 - (0 - getM M 0 c)).toNat) : (valsL M c)[k]? = some (0 - getM M 0 c + (k : Int)) := map_get (range_at h)
section
variable {P : Program} {w : World} {K : PySem.W.Frag} {mg : Str → Option Value} {base : Heap}
theorem ok_l_fits (T : Txt w K mg) : FnOk P w K mg base CX0 1 T.a_l_fits T.d_l_fits p_l_fits (spFits K) := by
  refine T.F_l_fits.ok sc_l_fits (fun vs H Q E h => ?_) (fun cdv A outer s H vs Q E hr h => ?_)
  · obtain ⟨p, t, M, r, n, c, v, rfl, _⟩ := h
    rfl
  obtain ⟨p, t, M, r, n, c, v, rfl, hn, hM, sM, hc, hl, ht, q⟩ := h
  refine ⟨_, (pss_cons (ps_for PassesOwn.never rfl (pi_range1 rfl T.z_range (pa_cons (pe_callB call_len_seq rfl T.z_len PySem.boot_len (pa_cons (pv 1) pa_nil)) pa_nil)) (pg_name (i := 4) sc_l_fits.nd rfl (Or.inl rfl))
        (pss_one (ps_if (PW.pt (pw_or (pt_cmpR op_gt (pe_op op_sub (pv 3) (pe_ix ix_tup (pv 1) (pv 4) (fun _ _ => rfl))) (pe_ix ix_tup (pe_ix ix_tup (pv 0) (pv 2) (fun _ _ => rfl)) (pe_op op_add (pv 4) pe_int) (fun _ _ => rfl)) (nomark _)) (pw_or1 (pt_cmpR op_gt (pe_op op_sub (pe_ix ix_tup (pv 1) (pv 4) (fun _ _ => rfl)) (pv 3)) (pe_ix ix_tup (pe_ix ix_tup (pv 0) (pe_op op_add (pv 4) pe_int) (fun _ _ => rfl)) (pv 2) (fun _ _ => rfl)) (nomark _))))) (pss_one (ps_ret pe_bl)) pss_nil)))
      (pss_one (ps_ret pe_bl))), ?_⟩
  refine ⟨_, rfl, t, _, rfl, .inr ht, _, rfl, by omega, by rw [List.length_map]; omega, for_range (lo := 0) (fun i σ G => G = H ∧ (∃ b : Option V, σ = [some (.ref p), some (.ref t), some (.int c), some (.int v), b]) ∧ ∀ k < i, v - r.getD k 0 ≤ getM M c (k + 1) ∧ r.getD k 0 - v ≤ getM M (k + 1) c) ⟨rfl, ⟨none, rfl⟩, fun k h => by omega⟩ ?_ ?_⟩
  · rintro i σ G hi ⟨rfl, ⟨b, rfl⟩, hA⟩
    rw [List.length_map] at hi
    have hi' : i < r.length := by omega
    obtain ⟨r1, e1, l1, g1⟩ := sM.at2 (i := c) (j := i + 1) (by omega) (by omega)
    obtain ⟨r2, e2, l2, g2⟩ := sM.at2 (i := i + 1) (j := c) (by omega) (by omega)
    obtain ⟨vs1, a1, x1, x2, x3⟩ := hM.getT e1
    obtain ⟨vs2, a2, y1, y2, y3⟩ := hM.getT e2
    have ei : (0 + (i : Int) + 1) = ((i + 1 : Nat) : Int) := by omega
    have f1 : atI (r1.map V.int) (0 + (i : Int) + 1) = some (.int (getM M c (i + 1))) := by rw [ei]; exact atI_nat (map_get g1)
    have f2 : atI vs2 (0 + (i : Int) + 1) = some (.ref a2) := by rw [ei]; exact y2
    refine ⟨_, rfl, _, rfl, _, rfl, t, _, _, _, rfl, rfl, ht, atI_row hi', _, _, rfl, rfl, ?_⟩
    refine ⟨_, rfl, _, rfl, p, _, _, _, rfl, rfl, x1, x2, _, rfl, _, _, rfl, rfl, a1, _, _, _, rfl, rfl, x3, f1, _, _, rfl, rfl, _, rfl, ?_⟩
    refine ite2 (fun h => ifT rfl ?_) (fun h => ?_)
    · have h' : v - r.getD i 0 > getM M c (i + 1) := of_decide_eq_true h
      have e : decide (fitP M c r v) = false := decide_eq_false fun z => by
        have := (z i hi').1
        omega
      rw [e] at q
      exact q
    have h' : ¬ v - r.getD i 0 > getM M c (i + 1) := of_decide_eq_false (Bool.eq_false_iff.mpr h)
    refine ⟨_, rfl, _, rfl, t, _, _, _, rfl, rfl, ht, atI_row hi', _, rfl, _, _, rfl, rfl, ?_⟩
    refine ⟨_, rfl, _, rfl, _, _, rfl, rfl, p, _, _, _, rfl, rfl, y1, f2, _, rfl, a2, _, _, _, rfl, rfl, y3, atI_nat (map_get g2), _, _, rfl, rfl, _, rfl, ?_⟩
    refine ite2 (fun h => ?_) (fun h => ?_)
    · have h2 : r.getD i 0 - v > getM M (i + 1) c := of_decide_eq_true h
      have e : decide (fitP M c r v) = false := decide_eq_false fun z => by
        have := (z i hi').2
        omega
      rw [e] at q
      exact q
    · have h2 : ¬ r.getD i 0 - v > getM M (i + 1) c := of_decide_eq_false (Bool.eq_false_iff.mpr h)
      refine ⟨rfl, ⟨_, rfl⟩, fun k hk => ?_⟩
      by_cases e : k = i
      · subst e
        exact ⟨by omega, by omega⟩
      · exact hA k (by omega)
  · rintro σ G ⟨rfl, ⟨b, rfl⟩, hA⟩
    rw [List.length_map, Int.toNat_natCast] at hA
    have e : decide (fitP M c r v) = true := decide_eq_true hA
    rw [e] at q
    exact q
theorem ok_l_points (T : Txt w K mg) : FnOk P w K mg base CX0 2 T.a_l_points T.d_l_points p_l_points (spPoints K) := by
  have g_l_fits := ok_l_fits (P := P) (w := w) (base := base) T
  refine T.F_l_points.ok sc_l_points (fun vs H Q E h => ?_) (fun cdv A outer s H vs Q E hr h => ?_)
  · obtain ⟨va, B, n, rfl, _⟩ := h
    rfl
  obtain ⟨va, B, n, rfl, hn, hB, zB, sm, q⟩ := h
  refine ⟨_, (pss_cons (ps_if (PW.pt (pw_or (pt_cmpR op_isN (pv 0) pe_non (nomark _)) (pw_or1 (pt_cmpR op_lt (pe_callB (cr_min rfl) rfl T.z_min bb_min (pa_cons (pe_lc (own := [("_law_i", 1)]) (g := gName 1) (tt := tYes) rfl sc_l_points.nd (pi_range1 rfl T.z_range (pa_cons (pe_callB call_len_seq rfl T.z_len PySem.boot_len (pa_cons (pv 0) pa_nil)) pa_nil)) (blkOk_by (own := [("_law_i", 1)]) (N := n_l_points) (sc := defScope s_l_points) (by decide +kernel)) (fun _ _ _ _ _ => (pg_name (i := 1) sc_l_points.nd rfl (Or.inl rfl))) (fun _ _ _ _ _ => pts_nil) (fun _ _ _ _ _ => (pe_ix (show IxR _ (rIxT K) from ix_tup) (pe_ix (show IxR _ (rIxT K) from ix_tup) (pv 0) (pv 1) (fun _ _ => rfl)) (pv 1) (fun _ _ => rfl)))) pa_nil)) pe_int (nomark _))))) (pss_one (ps_ret (pe_lst pa_nil))) pss_nil)
      (pss_cons (ps_set (i := 2) sc_l_points.nd rfl (Or.inl rfl) (pe_lst (pa_cons (pe_tup pa_nil) pa_nil)))
      (pss_cons (ps_for PassesOwn.never rfl (pi_range2 rfl T.z_range (pa_cons pe_int (pa_cons (pe_callB call_len_seq rfl T.z_len PySem.boot_len (pa_cons (pv 0) pa_nil)) pa_nil))) (pg_name (i := 3) sc_l_points.nd rfl (Or.inl rfl))
        (pss_cons (ps_set (i := 4) sc_l_points.nd rfl (Or.inl rfl) (pe_lst pa_nil))
      (pss_cons (ps_for PassesOwn.never rfl (pi_list (pv 2)) (pg_name (i := 5) sc_l_points.nd rfl (Or.inl rfl))
        (pss_one (ps_for PassesOwn.never rfl (pi_range2 rfl T.z_range (pa_cons (pe_op op_sub pe_int (pe_ix ix_tup (pe_ix ix_tup (pv 0) pe_int (fun _ _ => rfl)) (pv 3) (fun _ _ => rfl))) (pa_cons (pe_op op_add (pe_ix ix_tup (pe_ix ix_tup (pv 0) (pv 3) (fun _ _ => rfl)) pe_int (fun _ _ => rfl)) pe_int) pa_nil))) (pg_name (i := 6) sc_l_points.nd rfl (Or.inl rfl))
        (pss_one (ps_if (pt_val (pe_call g_l_fits (hr.mono (by first | decide | omega)) rfl T.m_l_fits T.F_l_fits.kp T.b_l_fits .nil pass0 (pa_cons (pv 0) (pa_cons (pv 5) (pa_cons (pv 3) (pa_cons (pv 6) pa_nil)))))) (pss_one (ps_expr (pe_bm PySem.F.plainAttrs_list PySem.F.slot_list_append PySem.F.type_list_append mt_append (pv 4) (pa_cons (pe_op op_catA (pv 5) (pe_tup (pa_cons (pv 6) pa_nil))) pa_nil)))) pss_nil)))))
      (pss_one (ps_set (i := 2) sc_l_points.nd rfl (Or.inl rfl) (pe_callTy call_list_of rfl T.z_list bt_list (pa_cons (pv 4) pa_nil)))))))
      (pss_one (ps_ret (pv 2)))))), ?_⟩
  cases B with
  | none =>
    obtain rfl : va = .non := hB
    refine ⟨_, rfl, rfl, _, rfl, ifT rfl (ifT rfl ?_)⟩
    exact ⟨(by show 0 ≤ sizeLine; decide), fun p hp => q p _ (Same.new hp _) ⟨[], upd_same, rfl, fun i a r e => by simp at e⟩⟩
  | some M =>
  obtain ⟨pa, rfl, hM⟩ := hB
  have sM := zB M rfl
  have S := sm M rfl
  refine ⟨_, rfl, rfl, _, rfl, ifF rfl ?_⟩
  obtain ⟨vs, hv, lv, _⟩ := hM.row
  have lv1 : vs.length = n + 1 := by rw [lv, sM.1]
  refine ⟨_, rfl, pa, _, rfl, .inr hv, _, rfl, by omega, by omega, fun D hD => ?_⟩
  rw [lv1]
  refine lc_it walk_range (LcP (Same H) (RInt (mkR (n + 1) fun i => getM M i i)) D) (lcp_start hD) (fun _ _ _ _ => trivial) ?_ ?_
  · rintro j x F F' hj PF ⟨rfl, rfl⟩
    have hj' : j < n + 1 := by omega
    obtain ⟨r, e, l, g⟩ := sM.at2 hj' hj'
    obtain ⟨vs1, a1, x1, x2, x3⟩ := (hM.same PF.1).getT e
    refine ⟨rfl, tyes ?_⟩
    refine ⟨_, rfl, _, rfl, pa, _, _, _, rfl, rfl, x1, by rw [Int.zero_add]; exact x2, _, rfl, a1, _, _, _, rfl, rfl, x3, by rw [Int.zero_add]; exact atI_nat (map_get g), ?_⟩
    exact lcp_same PF hD (Same.refl _) (lt_line (by omega)) RInt.mono ⟨_, mkR_at hj', rfl⟩
  intro F PF
  refine ⟨D, _, rfl, SqL.of (lcp_ints (K := K) PF (by rw [mkR_len]; omega)), by rw [mkR_len]; omega, fun m hm hx => ?_⟩
  obtain ⟨i0, hi0, em⟩ := List.mem_map.mp hm
  rw [List.mem_range] at hi0
  have sF := PF.1
  refine ⟨_, _, rfl, rfl, _, rfl, ite2 (fun h => ?_) (fun h => ?_)⟩
  · have h' : m < 0 := of_decide_eq_true h
    have e : ptsB n (some M) = [] := if_neg fun z => by
      have := z i0 hi0
      omega
    rw [e] at q
    exact ⟨(by show 0 ≤ sizeLine; decide), fun p hp => q p _ (sF.trans (Same.new hp _)) ⟨[], upd_same, rfl, fun i a r e => by simp at e⟩⟩
  have h' : ¬ m < 0 := of_decide_eq_false (Bool.eq_false_iff.mpr h)
  have eB : ptsB n (some M) = ptsL M n := if_pos fun i hi => by
    have := hx (getM M i i) (List.mem_map.mpr ⟨i, List.mem_range.mpr hi, rfl⟩)
    omega
  rw [eB] at q
  refine ⟨(by show 0 ≤ sizeLine; decide), fun t0 ht0 => ?_⟩
  refine ⟨(by show 1 ≤ sizeLine; decide), fun D0 hD0 => ?_⟩
  have s0 : Same H (upd (upd F t0 (.tup [])) D0 (.lst [.ref t0])) := sF.trans ((Same.new ht0 _).trans (Same.new hD0 _))
  have p0 : Pts K (upd (upd F t0 (.tup [])) D0 (.lst [.ref t0])) D0 (ptsL M 0) := ⟨[t0], upd_same, rfl, fun i a r e1 e2 => by
    cases i with
    | zero =>
      cases e1
      cases e2
      exact Same.tup (Same.new hD0 _) (SqT.of upd_same)
    | succ i => simp at e1⟩
  generalize upd (upd F t0 (.tup [])) D0 (.lst [.ref t0]) = H0 at s0 p0
  refine ⟨_, rfl, pa, _, rfl, .inr (Same.tup s0 hv), 1, _, rfl, ⟨by decide, by decide, by omega, by omega⟩, for_range (lo := 1) (fun i σ G => ∃ (D' : Addr) (c l x y : Option V), σ = [some (.ref pa), none, some (.ref D'), c, l, x, y] ∧ Same H G ∧ Pts K G D' (ptsL M i)) ⟨D0, none, none, none, none, rfl, s0, p0⟩ ?_ ?_⟩
  · rintro i σ G hi ⟨D', c, l, x, y, rfl, sG, pG⟩
    rw [lv1] at hi
    have hi' : i < n := by omega
    obtain ⟨as, k1, pa1⟩ := pG.pa
    refine ⟨(by show 0 ≤ sizeLine; decide), fun L hL => ?_⟩
    have nDL : D' ≠ L := ne_of_none k1 hL
    have sL : Same G (upd G L (.lst [])) := Same.new hL _
    have ec : (1 + (i : Int)) = ((i + 1 : Nat) : Int) := by omega
    obtain ⟨r0, e0, l0, g0⟩ := sM.at2 (i := 0) (j := i + 1) (by omega) (by omega)
    obtain ⟨rc, e1, l1, g1⟩ := sM.at2 (i := i + 1) (j := 0) (by omega) (by omega)
    obtain ⟨vs0, a0, x1, x2, x3⟩ := hM.getT e0
    obtain ⟨vs1, a1, y1, y2, y3⟩ := hM.getT e1
    have la := pa1.1
    have hbig : (stepL M (i + 1) (ptsL M i)).length ≤ 1000000 := S.pts (i + 1) (by omega)
    refine ⟨_, rfl, D', rfl, ⟨_, SqL.of (sL _ _ k1)⟩, ?_⟩
    refine for_it (walk_list (xs := as.map V.ref)) (fun j σ F => (∃ x y : Option V, σ = [some (.ref pa), none, some (.ref D'), some (.int (1 + (i : Int))), some (.ref L), x, y]) ∧ Same G F ∧ PtsN K F L (stepL M (i + 1) ((ptsL M i).take j))) ⟨⟨x, y, rfl⟩, sL, [], upd_same, rfl, fun i a r e => by simp at e⟩ (fun j σ F _ P => SqL.of (P.2.1 _ _ k1)) ?_ ?_
    · rintro j v σ F F' hj ⟨⟨x, y, rfl⟩, sF, pF⟩ ⟨rfl, ev⟩
      rw [List.length_map, la] at hj
      have ep : (ptsL M i)[j]? = some (ptsL M i)[j] := List.getElem?_eq_getElem hj
      have ip := mem_pts.mp (List.mem_of_getElem? ep)
      generalize (ptsL M i)[j] = pt at ep ip
      have ea : as[j]? = some (as[j]'(by omega)) := List.getElem?_eq_getElem _
      have htp := pa1.2 j _ _ ea ep
      have ev' : V.ref (as[j]'(by omega)) = v := by
        have := map_get (f := V.ref) ea
        rw [this] at ev
        exact Option.some.inj ev
      subst ev'
      generalize as[j]'(by omega) = tp at htp
      have sHF := sG.trans sF
      have lo := S.lo (i + 1) (by omega)
      have hi2 := S.hi (i + 1) (by omega)
      have f0 : atI (r0.map V.int) (1 + (i : Int)) = some (.int (getM M 0 (i + 1))) := by rw [ec]; exact atI_nat (map_get g0)
      have f1 : atI vs1 (1 + (i : Int)) = some (.ref a1) := by rw [ec]; exact y2
      refine ⟨_, rfl, pa, _, ((0 : Nat) : Int), _, rfl, rfl, Same.tup sHF x1, x2, _, rfl, a0, _, _, _, rfl, rfl, Same.tup sHF x3, f0, _, _, rfl, rfl, ?_⟩
      refine ⟨_, rfl, _, rfl, pa, _, _, _, rfl, rfl, Same.tup sHF y1, f1, a1, _, ((0 : Nat) : Int), _, rfl, rfl, Same.tup sHF y3, atI_nat (map_get g1), _, _, rfl, rfl, ?_⟩
      refine ⟨_, _, rfl, ⟨by omega, by omega, by omega, by omega⟩, for_range (lo := 0 - getM M 0 (i + 1)) (fun k σ F1 => (∃ y : Option V, σ = [some (.ref pa), none, some (.ref D'), some (.int (1 + (i : Int))), some (.ref L), some (.ref tp), y]) ∧ Same G F1 ∧ PtsN K F1 L (stepL M (i + 1) ((ptsL M i).take j) ++ stepV M (i + 1) pt ((valsL M (i + 1)).take k))) ⟨⟨y, rfl⟩, sF, ?_⟩ ?_ ?_⟩
      · rw [List.take_zero]
        show PtsN K _ L (_ ++ [])
        rw [List.append_nil]
        exact pF
      · rintro k σ F1 hk ⟨⟨y, rfl⟩, sF1, pF1⟩
        have evk := vals_get (M := M) (c := i + 1) hk
        have sHF1 := sG.trans sF1
        have htp1 := Same.tup sF1 htp
        refine ⟨_, rfl, _, rfl, _, rfl, _, rfl, pa, tp, M, pt, n, i + 1, 0 - getM M 0 (i + 1) + (k : Int), ?_, hn, hM.same sHF1, sM, by omega, by rw [ip.1]; omega, htp1, _, rfl, ?_⟩
        · show [V.ref pa, V.ref tp, V.int (1 + (i : Int)), _] = _
          rw [ec]
        have eS := stepV_succ (M := M) (c := i + 1) (p := pt) evk
        refine ite2 (fun h => ?_) (fun h => ?_)
        · have h' : fitP M (i + 1) pt (0 - getM M 0 (i + 1) + (k : Int)) := of_decide_eq_true h
          rw [if_pos h'] at eS
          obtain ⟨bs, b1, b2, b3⟩ := id pF1
          have lb : bs.length ≤ 1000000 := by
            rw [b2]
            exact Nat.le_trans (part_len ep) hbig
          refine ⟨_, rfl, .inl ⟨rfl, _, SqL.of b1⟩, ?_⟩
          refine ⟨_, rfl, _, rfl, (by show 1 ≤ sizeLine; decide), fun t1 ht1 => ?_⟩
          have nt1 : t1 ≠ L := fun z => by rw [z, b1] at ht1; cases ht1
          have sT := Same.new ht1 (.tup [V.int (0 - getM M 0 (i + 1) + (k : Int))])
          refine catV (Same.tup sT htp1) (SqT.of upd_same) (by rw [ip.1]; omega) fun z F2 s2 hz nz => ?_
          have nzL : z ≠ L := by
            rcases nz with h | h
            · exact fun e => by
                rw [e, sT _ _ b1] at h
                cases h
            · rw [h]; exact nt1
          have sF2 := sT.trans s2
          refine ⟨L, _, _, rfl, rfl, sF2 _ _ b1, ?_, ⟨_, rfl⟩, ?_, ?_⟩
          · rw [List.length_map, sizeLine_eq]
            omega
          · intro b o e
            rw [upd_ne (ne_of_none e hL)]
            exact sF2 _ _ (sF1 _ _ e)
          · rw [eS, ← List.append_assoc]
            exact PtsN.push b2 b3 (fun x xs h => Same.tup sF2 h) hz nzL
        · have h' : ¬ fitP M (i + 1) pt (0 - getM M 0 (i + 1) + (k : Int)) := of_decide_eq_false (Bool.eq_false_iff.mpr h)
          rw [if_neg h', List.append_nil] at eS
          refine ⟨⟨_, rfl⟩, sF1, ?_⟩
          rw [eS]
          exact pF1
      · rintro σ F1 ⟨⟨y, rfl⟩, sF1, pF1⟩
        rw [← vals_len, List.take_length, ← stepL_succ ep] at pF1
        exact ⟨⟨_, _, rfl⟩, sF1, pF1⟩
    · rintro σ F ⟨⟨x, y, rfl⟩, sF, pF⟩
      rw [List.length_map, la, List.take_length] at pF
      obtain ⟨bs, b1, b2, b3⟩ := pF
      refine ⟨_, rfl, L, _, rfl, .inl (SqL.of b1), fun D2 hD2 => ?_⟩
      exact ⟨D2, _, _, _, _, rfl, (sG.trans sF).trans (Same.new hD2 _), bs, upd_same, b2, fun i a r e1 e2 => Same.tup (Same.new hD2 _) (b3 i a r e1 e2).2⟩
  · rintro σ G ⟨D', c, l, x, y, rfl, sG, pG⟩
    have en : ((vs.length : Int) - 1).toNat = n := by omega
    rw [en] at pG
    exact ⟨_, rfl, q D' G sG pG⟩
end
/-! ### parts of points (as in Law21a.inc) -/
def IsPr (r : List Int) : Prop := ∃ lo hi : Int, r = [lo, hi] ∧ lo ≤ hi
def endsL (Ps Rs : List (List Int)) : List (List Int) := Rs.foldl (fun Qs r => Qs.flatMap fun p => [p ++ [r.getD 0 0], p ++ [r.getD 1 0]]) Ps
def partL (r : List Int) (cs : List Nat) : List Int := cs.map fun c => r.getD (c - 1) 0
def spPart (K : PySem.W.Frag) : Sp := fun vs H Q _ => ∃ (t p : Addr) (r : List Int) (cs : List Nat), vs = [.ref t, .ref p] ∧ SqT K H t (r.map V.int) ∧ SqT K H p (natsV cs) ∧ (∀ c ∈ cs, 1 ≤ c ∧ c ≤ r.length) ∧ cs.length ≤ 100 ∧
  ∀ q H', Same H H' → H q = none → SqT K H' q ((partL r cs).map V.int) → Q (.ref q) H'
theorem endsL_app {Ps Rs : List (List Int)} {r : List Int} : endsL Ps (Rs ++ [r]) = (endsL Ps Rs).flatMap fun p => [p ++ [r.getD 0 0], p ++ [r.getD 1 0]] := by
  unfold endsL
  rw [List.foldl_append]
  rfl
theorem endsL_len : ∀ (Rs Ps : List (List Int)), (endsL Ps Rs).length = Ps.length * 2 ^ Rs.length := by
  intro Rs
  induction Rs with
  | nil => intro Ps; simp [endsL]
  | cons r Rs ih =>
    intro Ps
    show (endsL (Ps.flatMap fun p => [p ++ [r.getD 0 0], p ++ [r.getD 1 0]]) Rs).length = _
    rw [ih]
    have e : (Ps.flatMap fun p => [p ++ [r.getD 0 0], p ++ [r.getD 1 0]]).length = Ps.length * 2 := by
      induction Ps with
      | nil => rfl
      | cons p Ps ih2 =>
        rw [List.flatMap_cons, List.length_append, ih2, List.length_cons]
        simp
        omega
    rw [e, List.length_cons, Nat.pow_succ, Nat.mul_assoc, Nat.mul_comm 2]
theorem flat_take {α β : Type} {f : α → List β} {xs : List α} {j : Nat} {x : α} (e : xs[j]? = some x) : (xs.take (j + 1)).flatMap f = (xs.take j).flatMap f ++ f x := by
  rw [List.take_succ, e]
  simp
theorem natsV_ints {cs : List Nat} : natsV cs = (cs.map fun c : Nat => (c : Int)).map V.int := by simp [natsV]
section
variable {P : Program} {w : World} {K : PySem.W.Frag} {mg : Str → Option Value} {base : Heap}
theorem ok_l_part (T : Txt w K mg) : FnOk P w K mg base CX0 1 T.a_l_part T.d_l_part p_l_part (spPart K) := by
  refine T.F_l_part.ok sc_l_part (fun vs H Q E h => ?_) (fun cdv A outer s H vs Q E hr h => ?_)
  · obtain ⟨t, p, r, cs, rfl, _⟩ := h
    rfl
  obtain ⟨t, p, r, cs, rfl, ht, hp, hc, lc, q⟩ := h
  refine ⟨_, (pss_one (ps_ret (pe_callTy call_tuple_of rfl T.z_tuple bt_tuple (pa_cons (pe_lc (own := [("_law_c", 2)]) (g := gName 2) (tt := tYes) rfl sc_l_part.nd (pi_tup (pv 1)) (blkOk_by (own := [("_law_c", 2)]) (N := n_l_part) (sc := defScope s_l_part) (by decide +kernel)) (fun _ _ _ _ _ => (pg_name (i := 2) sc_l_part.nd rfl (Or.inl rfl))) (fun _ _ _ _ _ => pts_nil) (fun _ _ _ _ _ => (pe_ix (show IxR _ (rIxT K) from ix_tup) (pv 0) (pe_op op_sub (pv 2) pe_int) (fun _ _ => rfl)))) pa_nil)))), ?_⟩
  have ln : (natsV cs).length = cs.length := by simp [natsV]
  refine ⟨_, rfl, p, rfl, ⟨_, hp⟩, fun D hD => ?_⟩
  refine lc_it (walk_tup (xs := natsV cs)) (LcP (Same H) (RInt (partL r cs)) D) (lcp_start hD) (fun i G _ P => Same.tup P.1 hp) ?_ ?_
  · rintro i x G G' hi P ⟨rfl, ex⟩
    rw [ln] at hi
    have ec : cs[i]? = some cs[i] := List.getElem?_eq_getElem hi
    have hci := hc _ (List.getElem_mem hi)
    generalize cs[i] = c at ec hci
    have ex' : x = .int (c : Int) := by
      unfold natsV at ex
      rw [map_get ec] at ex
      exact (Option.some.inj ex).symm
    subst ex'
    refine ⟨rfl, tyes ?_⟩
    have at0 : atI (r.map V.int) ((c : Int) - 1) = some (.int (r.getD (c - 1) 0)) := by
      have h := atI_row (r := r) (i := c - 1) (by omega)
      rw [Int.zero_add] at h
      have e : (((c - 1 : Nat)) : Int) = (c : Int) - 1 := by omega
      rwa [e] at h
    refine ⟨_, rfl, _, rfl, _, _, rfl, rfl, t, _, _, _, rfl, rfl, Same.tup P.1 ht, at0, ?_⟩
    exact lcp_same P hD (Same.refl _) (lt_line (by omega)) RInt.mono ⟨_, map_get ec, rfl⟩
  · intro G P
    refine ⟨D, _, rfl, .inl ⟨SqL.of (lcp_ints (K := K) P (by rw [ln]; simp [partL])), fun l hl => ?_⟩⟩
    exact q l _ (P.1.trans (Same.new hl _)) (P.1.free hl) (SqT.of upd_same)
end
/-! ### hulls of moved points -/
/-- column a of a point -/
def xc (r : List Int) (a : Nat) : Int := (0 :: r).getD a 0
theorem dif_xc {a b : Nat} {r : List Int} : dif a b r = xc r a - xc r b := rfl
theorem xc_succ {r : List Int} {a : Nat} : xc r (a + 1) = r.getD a 0 := rfl
theorem lmax_is {xs : List Int} {m : Int} (h1 : m ∈ xs) (h2 : ∀ y ∈ xs, y ≤ m) : lmax xs = m := (lmax_eq h1 h2).symm
theorem hull_of {n : Nat} {Ps : List (List Int)} {f : Nat → Nat → Int} (ne : Ps ≠ []) (h : ∀ a < n + 1, ∀ b < n + 1, f a b ∈ Ps.map (dif a b) ∧ ∀ r ∈ Ps, dif a b r ≤ f a b) : hull n Ps = some (mkM (n + 1) f) := by
  unfold hull
  rw [if_neg ne]
  congr 1
  refine sz_ext (hullM_sz n Ps) mkM_sz fun a ha b hb => ?_
  rw [getM_hull ha hb, mkM_get ha hb]
  obtain ⟨h1, h2⟩ := h a ha b hb
  exact lmax_is h1 fun y hy => by
    obtain ⟨r, hr, rfl⟩ := List.mem_map.mp hy
    exact h2 r hr
/-- an entry of a hull is reached, and bounds -/
theorem hull_at {n a b : Nat} {Ps : List (List Int)} (ne : Ps ≠ []) (ha : a < n + 1) (hb : b < n + 1) : ∃ r ∈ Ps, dif a b r = getM (hullM n Ps) a b := by
  rw [getM_hull ha hb]
  obtain ⟨r, hr, e⟩ := List.mem_map.mp (lmax_mem (xs := Ps.map (dif a b)) fun z => ne (List.map_eq_nil_iff.mp z))
  exact ⟨r, hr, e⟩
theorem hull_le {n a b : Nat} {Ps : List (List Int)} {r : List Int} (ha : a < n + 1) (hb : b < n + 1) (hr : r ∈ Ps) : dif a b r ≤ getM (hullM n Ps) a b := by
  rw [getM_hull ha hb]
  exact lmax_le (List.mem_map_of_mem hr)
theorem hull_some {n : Nat} {Ps : List (List Int)} (ne : Ps ≠ []) : hull n Ps = some (hullM n Ps) := by
  unfold hull
  rw [if_neg ne]
theorem hull_clo {n : Nat} {Ps : List (List Int)} (ne : Ps ≠ []) : Clo (n + 1) (getM (hullM n Ps)) := ⟨fun _ hi => hull_diag ne hi, fun _ hi _ hj _ hk => hull_tri ne hi hj hk⟩
theorem xc_set {r : List Int} {k a : Nat} {v : Int} (hk : k < r.length) : xc (r.set k v) a = if a = k + 1 then v else xc r a := by
  cases a with
  | zero => rw [if_neg (by omega)]; rfl
  | succ a =>
    rw [xc_succ, List.getD_eq_getElem?_getD, List.getElem?_set]
    by_cases e : k = a
    · subst e
      rw [if_pos rfl, if_pos hk, if_pos rfl]
      rfl
    · rw [if_neg e, if_neg (by omega), xc_succ, List.getD_eq_getElem?_getD]
/-- each point with its k-th value changed to two others -/
def movedL (k : Nat) (u v : List Int → Int) (Ps : List (List Int)) : List (List Int) := Ps.flatMap fun r => [r.set k (u r), r.set k (v r)]
theorem mem_moved {k : Nat} {u v : List Int → Int} {Ps : List (List Int)} {s : List Int} : s ∈ movedL k u v Ps ↔ ∃ r ∈ Ps, s = r.set k (u r) ∨ s = r.set k (v r) := by
  unfold movedL
  rw [List.mem_flatMap]
  constructor
  · rintro ⟨r, hr, h⟩
    exact ⟨r, hr, by simpa using h⟩
  · rintro ⟨r, hr, h⟩
    exact ⟨r, hr, by simpa using h⟩
theorem moved_ne {k : Nat} {u v : List Int → Int} {Ps : List (List Int)} (ne : Ps ≠ []) : movedL k u v Ps ≠ [] := by
  obtain ⟨r, hr⟩ := List.exists_mem_of_ne_nil _ ne
  intro z
  have := (mem_moved (u := u) (v := v) (k := k)).mpr ⟨r, hr, .inl rfl⟩
  rw [z] at this
  simp at this
theorem free_hull {n k : Nat} {lo hi : Int} {Ps : List (List Int)} (hk : k < n) (l : ∀ r ∈ Ps, r.length = n) (h : lo ≤ hi) : chB freeF (n + 1) (k + 1) lo hi (hull n Ps) = hull n (movedL k (fun _ => lo) (fun _ => hi) Ps) := by
  by_cases ne : Ps = []
  · subst ne
    rfl
  rw [hull_some ne]
  show (if lo > hi then none else _) = _
  rw [if_neg (by omega)]
  refine (hull_of (moved_ne ne) fun a ha b hb => ?_).symm
  have sx : ∀ r ∈ Ps, ∀ (v : Int) (c : Nat), xc (r.set k v) c = if c = k + 1 then v else xc r c := fun r hr v c => xc_set (by rw [l r hr]; exact hk)
  have at_ : ∀ {m : Int}, (∃ r ∈ Ps, m = dif a b (r.set k lo) ∨ m = dif a b (r.set k hi)) → m ∈ (movedL k (fun _ => lo) (fun _ => hi) Ps).map (dif a b) := by
    rintro m ⟨r, hr, e | e⟩
    · exact List.mem_map.mpr ⟨_, mem_moved.mpr ⟨r, hr, .inl rfl⟩, e.symm⟩
    · exact List.mem_map.mpr ⟨_, mem_moved.mpr ⟨r, hr, .inr rfl⟩, e.symm⟩
  have all : ∀ {m : Int}, (∀ r ∈ Ps, dif a b (r.set k lo) ≤ m ∧ dif a b (r.set k hi) ≤ m) → ∀ s ∈ movedL k (fun _ => lo) (fun _ => hi) Ps, dif a b s ≤ m := by
    intro m h s hs
    obtain ⟨r, hr, e | e⟩ := mem_moved.mp hs
    · rw [e]; exact (h r hr).1
    · rw [e]; exact (h r hr).2
  have x0 : ∀ r : List Int, xc r 0 = 0 := fun _ => rfl
  unfold freeF wcF
  dsimp only
  by_cases ea : a = k + 1
  · by_cases eb : b = k + 1
    · rw [if_pos ea, if_pos eb]
      obtain ⟨r0, hr0⟩ := List.exists_mem_of_ne_nil _ ne
      refine ⟨at_ ⟨r0, hr0, .inl ?_⟩, all fun r hr => ?_⟩
      · rw [dif_xc, sx r0 hr0, sx r0 hr0, if_pos ea, if_pos eb]; omega
      · rw [dif_xc, dif_xc, sx r hr, sx r hr, sx r hr, sx r hr, if_pos ea, if_pos eb, if_pos ea, if_pos eb]; omega
    · rw [if_pos ea, if_neg eb]
      obtain ⟨r0, hr0, e0⟩ := hull_at (n := n) (a := 0) (b := b) ne (by omega) hb
      refine ⟨at_ ⟨r0, hr0, .inr ?_⟩, all fun r hr => ?_⟩
      · rw [← e0, dif_xc, dif_xc, sx r0 hr0, sx r0 hr0, if_pos ea, if_neg eb, x0]; omega
      · have hl := hull_le (n := n) (a := 0) (b := b) (by omega) hb hr
        rw [dif_xc, x0] at hl
        rw [dif_xc, dif_xc, sx r hr, sx r hr, sx r hr, sx r hr, if_pos ea, if_neg eb, if_pos ea, if_neg eb]
        omega
  · by_cases eb : b = k + 1
    · rw [if_neg ea, if_pos eb]
      obtain ⟨r0, hr0, e0⟩ := hull_at (n := n) (a := a) (b := 0) ne ha (by omega)
      refine ⟨at_ ⟨r0, hr0, .inl ?_⟩, all fun r hr => ?_⟩
      · rw [← e0, dif_xc, dif_xc, sx r0 hr0, sx r0 hr0, if_neg ea, if_pos eb, x0]; omega
      · have hl := hull_le (n := n) (a := a) (b := 0) ha (by omega) hr
        rw [dif_xc, x0] at hl
        rw [dif_xc, dif_xc, sx r hr, sx r hr, sx r hr, sx r hr, if_neg ea, if_pos eb, if_neg ea, if_pos eb]
        omega
    · rw [if_neg ea, if_neg eb]
      obtain ⟨r0, hr0, e0⟩ := hull_at (n := n) (a := a) (b := b) ne ha hb
      refine ⟨at_ ⟨r0, hr0, .inl ?_⟩, all fun r hr => ?_⟩
      · rw [← e0, dif_xc, dif_xc, sx r0 hr0, sx r0 hr0, if_neg ea, if_neg eb]
      · have hl := hull_le (n := n) (a := a) (b := b) ha hb hr
        rw [dif_xc] at hl
        rw [dif_xc, dif_xc, sx r hr, sx r hr, sx r hr, sx r hr, if_neg ea, if_neg eb, if_neg ea, if_neg eb]
        omega
theorem shift_hull {n k : Nat} {lo hi : Int} {Ps : List (List Int)} (hk : k < n) (l : ∀ r ∈ Ps, r.length = n) (h : lo ≤ hi) : chB shiftF (n + 1) (k + 1) lo hi (hull n Ps) = hull n (movedL k (fun r => r.getD k 0 + lo) (fun r => r.getD k 0 + hi) Ps) := by
  by_cases ne : Ps = []
  · subst ne
    rfl
  rw [hull_some ne]
  show (if lo > hi then none else _) = _
  rw [if_neg (by omega)]
  refine (hull_of (moved_ne ne) fun a ha b hb => ?_).symm
  have sx : ∀ r ∈ Ps, ∀ (v : Int) (c : Nat), xc (r.set k v) c = if c = k + 1 then v else xc r c := fun r hr v c => xc_set (by rw [l r hr]; exact hk)
  have xk : ∀ r : List Int, r.getD k 0 = xc r (k + 1) := fun _ => rfl
  have at_ : ∀ {m : Int}, (∃ r ∈ Ps, m = dif a b (r.set k (xc r (k + 1) + lo)) ∨ m = dif a b (r.set k (xc r (k + 1) + hi))) → m ∈ (movedL k (fun r => r.getD k 0 + lo) (fun r => r.getD k 0 + hi) Ps).map (dif a b) := by
    rintro m ⟨r, hr, e | e⟩
    · exact List.mem_map.mpr ⟨_, mem_moved.mpr ⟨r, hr, .inl rfl⟩, e.symm⟩
    · exact List.mem_map.mpr ⟨_, mem_moved.mpr ⟨r, hr, .inr rfl⟩, e.symm⟩
  have all : ∀ {m : Int}, (∀ r ∈ Ps, dif a b (r.set k (xc r (k + 1) + lo)) ≤ m ∧ dif a b (r.set k (xc r (k + 1) + hi)) ≤ m) → ∀ s ∈ movedL k (fun r => r.getD k 0 + lo) (fun r => r.getD k 0 + hi) Ps, dif a b s ≤ m := by
    intro m h s hs
    obtain ⟨r, hr, e | e⟩ := mem_moved.mp hs
    · rw [e]; exact (h r hr).1
    · rw [e]; exact (h r hr).2
  have kn : k + 1 < n + 1 := by omega
  unfold shiftF wcF
  dsimp only
  by_cases ea : a = k + 1
  · by_cases eb : b = k + 1
    · rw [if_pos ea, if_pos eb]
      obtain ⟨r0, hr0⟩ := List.exists_mem_of_ne_nil _ ne
      refine ⟨at_ ⟨r0, hr0, .inl ?_⟩, all fun r hr => ?_⟩
      · rw [dif_xc, sx r0 hr0, sx r0 hr0, if_pos ea, if_pos eb]; omega
      · rw [dif_xc, dif_xc, sx r hr, sx r hr, sx r hr, sx r hr, if_pos ea, if_pos eb, if_pos ea, if_pos eb]; omega
    · rw [if_pos ea, if_neg eb]
      obtain ⟨r0, hr0, e0⟩ := hull_at (n := n) (a := k + 1) (b := b) ne kn hb
      refine ⟨at_ ⟨r0, hr0, .inr ?_⟩, all fun r hr => ?_⟩
      · rw [← e0, dif_xc, dif_xc, sx r0 hr0, sx r0 hr0, if_pos ea, if_neg eb]; omega
      · have hl := hull_le (n := n) (a := k + 1) (b := b) kn hb hr
        rw [dif_xc] at hl
        rw [dif_xc, dif_xc, sx r hr, sx r hr, sx r hr, sx r hr, if_pos ea, if_neg eb, if_pos ea, if_neg eb]
        omega
  · by_cases eb : b = k + 1
    · rw [if_neg ea, if_pos eb]
      obtain ⟨r0, hr0, e0⟩ := hull_at (n := n) (a := a) (b := k + 1) ne ha kn
      refine ⟨at_ ⟨r0, hr0, .inl ?_⟩, all fun r hr => ?_⟩
      · rw [← e0, dif_xc, dif_xc, sx r0 hr0, sx r0 hr0, if_neg ea, if_pos eb]; omega
      · have hl := hull_le (n := n) (a := a) (b := k + 1) ha kn hr
        rw [dif_xc] at hl
        rw [dif_xc, dif_xc, sx r hr, sx r hr, sx r hr, sx r hr, if_neg ea, if_pos eb, if_neg ea, if_pos eb]
        omega
    · rw [if_neg ea, if_neg eb]
      obtain ⟨r0, hr0, e0⟩ := hull_at (n := n) (a := a) (b := b) ne ha hb
      refine ⟨at_ ⟨r0, hr0, .inl ?_⟩, all fun r hr => ?_⟩
      · rw [← e0, dif_xc, dif_xc, sx r0 hr0, sx r0 hr0, if_neg ea, if_neg eb]
      · have hl := hull_le (n := n) (a := a) (b := b) ha hb hr
        rw [dif_xc] at hl
        rw [dif_xc, dif_xc, sx r hr, sx r hr, sx r hr, sx r hr, if_neg ea, if_neg eb, if_neg ea, if_neg eb]
        omega
/-! picked columns -/
theorem xc_part {r : List Int} {cs : List Nat} {a : Nat} (hc : ∀ c ∈ cs, 1 ≤ c) (ha : a < cs.length + 1) : xc (partL r cs) a = xc r (pk cs a) := by
  cases a with
  | zero => rfl
  | succ a =>
    have ea : cs[a]? = some (cs[a]'(by omega)) := List.getElem?_eq_getElem _
    have h1 := hc _ (List.getElem_mem (by omega : a < cs.length))
    rw [xc_succ, List.getD_eq_getElem?_getD]
    unfold partL pk
    have e2 : cs.getD a 0 = cs[a]'(by omega) := by rw [List.getD_eq_getElem?_getD, ea]; rfl
    rw [map_get ea, List.getD_cons_succ, e2]
    show r.getD (cs[a]'(by omega) - 1) 0 = xc r (cs[a]'(by omega))
    generalize cs[a]'(by omega) = c at h1
    obtain ⟨c, rfl⟩ : ∃ d, c = d + 1 := ⟨c - 1, by omega⟩
    rfl
theorem pick_hull {n : Nat} {cs : List Nat} {Ps : List (List Int)} (hc : ∀ c ∈ cs, 1 ≤ c ∧ c ≤ n) : (hull n Ps).map (pickM cs) = hull cs.length (Ps.map fun r => partL r cs) := by
  by_cases ne : Ps = []
  · subst ne
    rfl
  rw [hull_some ne]
  have ne2 : Ps.map (fun r => partL r cs) ≠ [] := fun z => ne (List.map_eq_nil_iff.mp z)
  have lt : ∀ a < cs.length + 1, pk cs a < n + 1 := fun a _ => pk_lt (fun c h => by have := hc c h; omega) (by omega)
  have h1 : ∀ c ∈ cs, 1 ≤ c := fun c h => (hc c h).1
  refine (hull_of ne2 fun a ha b hb => ?_).symm
  constructor
  · obtain ⟨r, hr, e⟩ := hull_at (n := n) ne (lt a ha) (lt b hb)
    refine List.mem_map.mpr ⟨partL r cs, List.mem_map.mpr ⟨r, hr, rfl⟩, ?_⟩
    rw [← e, dif_xc, dif_xc, xc_part h1 ha, xc_part h1 hb]
  · intro s hs
    obtain ⟨r, hr, rfl⟩ := List.mem_map.mp hs
    have := hull_le (n := n) (lt a ha) (lt b hb) hr
    rw [dif_xc] at this ⊢
    rw [xc_part h1 ha, xc_part h1 hb]
    exact this
/-! columns added -/
def EndC (Rs : List (List Int)) (cs : List Int) : Prop := cs.length = Rs.length ∧ ∀ k < Rs.length, cs.getD k 0 = (Rs.getD k []).getD 0 0 ∨ cs.getD k 0 = (Rs.getD k []).getD 1 0
theorem mem_ends : ∀ {Rs Ps : List (List Int)} {s : List Int}, s ∈ endsL Ps Rs ↔ ∃ r ∈ Ps, ∃ cs, s = r ++ cs ∧ EndC Rs cs
  | [], Ps, s => by
    constructor
    · intro h
      exact ⟨s, h, [], by simp, rfl, fun k h => by simp at h⟩
    · rintro ⟨r, hr, cs, rfl, h, _⟩
      have : cs = [] := List.length_eq_zero_iff.mp h
      subst this
      rw [List.append_nil]
      exact hr
  | q :: Rs, Ps, s => by
    show s ∈ endsL (Ps.flatMap fun p => [p ++ [q.getD 0 0], p ++ [q.getD 1 0]]) Rs ↔ _
    rw [mem_ends]
    constructor
    · rintro ⟨r, hr, cs, rfl, h1, h2⟩
      obtain ⟨p, hp, hr⟩ := List.mem_flatMap.mp hr
      have e : r = p ++ [q.getD 0 0] ∨ r = p ++ [q.getD 1 0] := by simpa using hr
      rcases e with rfl | rfl
      · refine ⟨p, hp, q.getD 0 0 :: cs, by simp, by simp [h1], fun k hk => ?_⟩
        cases k with
        | zero => exact .inl rfl
        | succ k => exact h2 k (by simpa using hk)
      · refine ⟨p, hp, q.getD 1 0 :: cs, by simp, by simp [h1], fun k hk => ?_⟩
        cases k with
        | zero => exact .inr rfl
        | succ k => exact h2 k (by simpa using hk)
    · rintro ⟨r, hr, cs, rfl, h1, h2⟩
      cases cs with
      | nil => simp at h1
      | cons c cs =>
        have h3 := h2 0 (by simp)
        refine ⟨r ++ [c], List.mem_flatMap.mpr ⟨r, hr, ?_⟩, cs, by simp, by simpa using h1, fun k hk => h2 (k + 1) (by simpa using hk)⟩
        rcases h3 with h | h
        · have e : c = q.getD 0 0 := h
          rw [e]
          simp
        · have e : c = q.getD 1 0 := h
          rw [e]
          simp
theorem xc_app {r cs : List Int} {n a : Nat} (l : r.length = n) : xc (r ++ cs) a = if a < n + 1 then xc r a else cs.getD (a - n - 1) 0 := by
  cases a with
  | zero => rfl
  | succ a =>
    rw [xc_succ, List.getD_eq_getElem?_getD]
    by_cases h : a < n
    · rw [List.getElem?_append_left (by omega), if_pos (by omega), xc_succ, List.getD_eq_getElem?_getD]
    · rw [List.getElem?_append_right (by omega), if_neg (by omega), List.getD_eq_getElem?_getD, l, show a + 1 - n - 1 = a - n by omega]
/-- ends, chosen one by one -/
def chooseC (Rs : List (List Int)) (c : Nat → Nat) : List Int := (List.range Rs.length).map fun k => (Rs.getD k []).getD (c k) 0
theorem choose_end {Rs : List (List Int)} {c : Nat → Nat} (h : ∀ k, c k = 0 ∨ c k = 1) : EndC Rs (chooseC Rs c) := by
  refine ⟨by simp [chooseC], fun k hk => ?_⟩
  have e : (chooseC Rs c).getD k 0 = (Rs.getD k []).getD (c k) 0 := by
    unfold chooseC
    rw [List.getD_eq_getElem?_getD, map_get (range_at hk)]
    rfl
  rw [e]
  rcases h k with h | h <;> rw [h]
  · exact .inl rfl
  · exact .inr rfl
theorem choose_at {Rs : List (List Int)} {c : Nat → Nat} {k : Nat} (hk : k < Rs.length) : (chooseC Rs c).getD k 0 = (Rs.getD k []).getD (c k) 0 := by
  unfold chooseC
  rw [List.getD_eq_getElem?_getD, map_get (range_at hk)]
  rfl
theorem wid_succ {Rs : List (List Int)} {i j : Nat} (h : i ≠ j) : wid Rs (i + 1) (j + 1) = (Rs.getD i []).getD 1 0 - (Rs.getD j []).getD 0 0 := by
  unfold wid
  rw [if_neg (by omega)]
  rfl
theorem wid_0 {Rs : List (List Int)} {j : Nat} : wid Rs 0 (j + 1) = 0 - (Rs.getD j []).getD 0 0 := by
  unfold wid
  rw [if_neg (by omega)]
  rfl
theorem wid_r {Rs : List (List Int)} {i : Nat} : wid Rs (i + 1) 0 = (Rs.getD i []).getD 1 0 := by
  unfold wid
  rw [if_neg (by omega)]
  show (Rs.getD i []).getD 1 0 - 0 = _
  omega
theorem add_hull {n : Nat} {Ps Rs : List (List Int)} (l : ∀ r ∈ Ps, r.length = n) (hR : ∀ r ∈ Rs, IsPr r) : addB (n + 1) Rs (hull n Ps) = hull (n + Rs.length) (endsL Ps Rs) := by
  have lohi : ∀ k < Rs.length, (Rs.getD k []).getD 0 0 ≤ (Rs.getD k []).getD 1 0 := fun k hk => by
    have e : Rs[k]? = some Rs[k] := List.getElem?_eq_getElem hk
    obtain ⟨lo, hi, e2, le⟩ := hR _ (List.getElem_mem hk)
    have e3 : Rs.getD k [] = [lo, hi] := by rw [List.getD_eq_getElem?_getD, e, e2]; rfl
    rw [e3]
    exact le
  by_cases ne : Ps = []
  · subst ne
    have e : endsL [] Rs = [] := by
      apply List.eq_nil_iff_forall_not_mem.mpr
      intro s hs
      obtain ⟨r, hr, _⟩ := mem_ends.mp hs
      simp at hr
    rw [e]
    rfl
  have ng : ¬ Gap Rs Rs.length := by
    rintro ⟨i, hi, h⟩
    have := lohi i hi
    omega
  have eB : rangeB Rs = some (mkM (Rs.length + 1) (wid Rs)) := by
    unfold rangeB
    rw [if_neg ng]
  rw [hull_some ne]
  show (rangeB Rs).map _ = _
  rw [eB]
  have ch01 : ∀ {a' : Nat}, ∀ k, (fun k => if k = a' then 1 else 0 : Nat → Nat) k = 0 ∨ (fun k => if k = a' then 1 else 0 : Nat → Nat) k = 1 := fun k => by
    show (if _ then 1 else 0) = 0 ∨ (if _ then 1 else 0) = 1
    split
    · exact .inr rfl
    · exact .inl rfl
  obtain ⟨r0, hr0⟩ := List.exists_mem_of_ne_nil _ ne
  have ne2 : endsL Ps Rs ≠ [] := fun z => by
    have := (mem_ends (Rs := Rs)).mpr ⟨r0, hr0, chooseC Rs fun _ => 0, rfl, choose_end fun _ => .inl rfl⟩
    rw [z] at this
    simp at this
  show some (mkM (n + 1 + Rs.length) (addF (n + 1) (getM (hullM n Ps)) (wid Rs))) = _
  rw [show n + 1 + Rs.length = n + Rs.length + 1 by omega]
  refine (hull_of ne2 fun a ha b hb => ?_).symm
  have at_ : ∀ {m : Int} (r : List Int) (a' : Nat), r ∈ Ps → dif a b (r ++ chooseC Rs fun k => if k = a' then 1 else 0) = m → m ∈ (endsL Ps Rs).map (dif a b) := fun r a' hr e => List.mem_map.mpr ⟨_, mem_ends.mpr ⟨r, hr, _, rfl, choose_end ch01⟩, e⟩
  have all : ∀ {m : Int}, (∀ r ∈ Ps, ∀ cs, EndC Rs cs → dif a b (r ++ cs) ≤ m) → ∀ s ∈ endsL Ps Rs, dif a b s ≤ m := by
    intro m h s hs
    obtain ⟨r, hr, cs, rfl, hc⟩ := mem_ends.mp hs
    exact h r hr cs hc
  unfold addF
  by_cases h1 : a < n + 1
  · by_cases h2 : b < n + 1
    · rw [if_pos h1, if_pos h2]
      obtain ⟨r, hr, e⟩ := hull_at (n := n) ne h1 h2
      refine ⟨at_ r 0 hr ?_, all fun r hr cs hc => ?_⟩
      · rw [← e, dif_xc, dif_xc, xc_app (l r hr), xc_app (l r hr), if_pos h1, if_pos h2]
      · have := hull_le (n := n) h1 h2 hr
        rw [dif_xc] at this
        rw [dif_xc, xc_app (l r hr), xc_app (l r hr), if_pos h1, if_pos h2]
        exact this
    · rw [if_pos h1, if_neg h2]
      obtain ⟨k, rfl⟩ : ∃ k, b = n + 1 + k := ⟨b - (n + 1), by omega⟩
      have hk : k < Rs.length := by omega
      rw [show n + 1 + k - (n + 1) + 1 = k + 1 by omega, wid_0]
      obtain ⟨r, hr, e⟩ := hull_at (n := n) (b := 0) ne h1 (by omega)
      have x0 : ∀ r : List Int, xc r 0 = 0 := fun _ => rfl
      have ek : n + 1 + k - n - 1 = k := by omega
      refine ⟨at_ r (k + 1) hr ?_, all fun r hr cs hc => ?_⟩
      · rw [← e, dif_xc, dif_xc, xc_app (l r hr), xc_app (l r hr), if_pos h1, if_neg h2, ek, choose_at hk, if_neg (by omega), x0]
        omega
      · have := hull_le (n := n) (b := 0) h1 (by omega) hr
        rw [dif_xc, x0] at this
        rw [dif_xc, xc_app (l r hr), xc_app (l r hr), if_pos h1, if_neg h2, ek]
        have q := lohi k hk
        rcases hc.2 k hk with z | z <;> rw [z] <;> omega
  · obtain ⟨i, rfl⟩ : ∃ k, a = n + 1 + k := ⟨a - (n + 1), by omega⟩
    have hi : i < Rs.length := by omega
    have ei : n + 1 + i - n - 1 = i := by omega
    by_cases h2 : b < n + 1
    · rw [if_neg h1, if_pos h2, show n + 1 + i - (n + 1) + 1 = i + 1 by omega, wid_r]
      obtain ⟨r, hr, e⟩ := hull_at (n := n) (a := 0) ne (by omega) h2
      have x0 : ∀ r : List Int, xc r 0 = 0 := fun _ => rfl
      refine ⟨at_ r i hr ?_, all fun r hr cs hc => ?_⟩
      · rw [← e, dif_xc, dif_xc, xc_app (l r hr), xc_app (l r hr), if_neg h1, if_pos h2, ei, choose_at hi, if_pos rfl, x0]
        omega
      · have := hull_le (n := n) (a := 0) (by omega) h2 hr
        rw [dif_xc, x0] at this
        rw [dif_xc, xc_app (l r hr), xc_app (l r hr), if_neg h1, if_pos h2, ei]
        have q := lohi i hi
        rcases hc.2 i hi with z | z <;> rw [z] <;> omega
    · obtain ⟨k, rfl⟩ : ∃ k, b = n + 1 + k := ⟨b - (n + 1), by omega⟩
      have hk : k < Rs.length := by omega
      have ek : n + 1 + k - n - 1 = k := by omega
      rw [if_neg h1, if_neg h2, show n + 1 + i - (n + 1) + 1 = i + 1 by omega, show n + 1 + k - (n + 1) + 1 = k + 1 by omega]
      by_cases eq : i = k
      · subst eq
        have e0 : wid Rs (i + 1) (i + 1) = 0 := by unfold wid; rw [if_pos rfl]
        rw [e0]
        refine ⟨at_ r0 0 hr0 ?_, all fun r hr cs hc => ?_⟩
        · rw [dif_xc]; omega
        · rw [dif_xc]; omega
      · rw [wid_succ eq]
        refine ⟨at_ r0 i hr0 ?_, all fun r hr cs hc => ?_⟩
        · rw [dif_xc, xc_app (l r0 hr0), xc_app (l r0 hr0), if_neg h1, if_neg h2, ei, ek, choose_at hi, choose_at hk, if_pos rfl, if_neg (fun z => eq z.symm)]
        · rw [dif_xc, xc_app (l r hr), xc_app (l r hr), if_neg h1, if_neg h2, ei, ek]
          have q1 := lohi i hi
          have q2 := lohi k hk
          rcases hc.2 i hi with z | z <;> rcases hc.2 k hk with y | y <;> rw [z, y] <;> omega
/-! ### hulls of the same points; the points below a matrix (as in Law18b.inc) -/
theorem lmax_congr {xs ys : List Int} (h : ∀ x, x ∈ xs ↔ x ∈ ys) : lmax xs = lmax ys := by
  by_cases hx : xs = []
  · subst hx
    have : ys = [] := List.eq_nil_iff_forall_not_mem.mpr fun y hy => by simpa using (h y).mpr hy
    rw [this]
  · exact lmax_eq ((h _).mp (lmax_mem hx)) fun y hy => lmax_le ((h y).mpr hy)
theorem hull_congr {n : Nat} {Ps Qs : List (List Int)} (h : ∀ r, r ∈ Ps ↔ r ∈ Qs) : hull n Ps = hull n Qs := by
  have e : (Ps = []) ↔ (Qs = []) := by
    rw [List.eq_nil_iff_forall_not_mem, List.eq_nil_iff_forall_not_mem]
    exact ⟨fun k r hr => k r ((h r).mpr hr), fun k r hr => k r ((h r).mp hr)⟩
  unfold hull
  by_cases h1 : Ps = []
  · rw [if_pos h1, if_pos (e.mp h1)]
  · rw [if_neg h1, if_neg (fun z => h1 (e.mpr z))]
    congr 1
    unfold hullM
    refine List.map_congr_left fun i _ => List.map_congr_left fun j _ => lmax_congr fun x => ?_
    simp only [List.mem_map]
    exact ⟨fun ⟨r, hr, q⟩ => ⟨r, (h r).mp hr, q⟩, fun ⟨r, hr, q⟩ => ⟨r, (h r).mpr hr, q⟩⟩
/-- the greatest closed matrix below D is the hull of its points -/
theorem best_of_pts {n : Nat} {D : Nat → Nat → Int} {Ps : List (List Int)} (hP : ∀ r, r ∈ Ps ↔ r.length = n ∧ ∀ i < n + 1, ∀ j < n + 1, dif i j r ≤ D i j) (hd : ∀ i < n + 1, 0 ≤ D i i) : Best (n + 1) D (hull n Ps) := by
  have h := best_pts (n := n) (M := mkM (n + 1) D) fun i hi => by rw [mkM_get hi hi]; exact hd i hi
  have e : hull n Ps = hull n (ptsL (mkM (n + 1) D) n) := hull_congr fun r => by
    rw [hP r, mem_pts]
    constructor
    · rintro ⟨l, h⟩
      refine ⟨l, fun i hi j hj _ => ?_⟩
      rw [mkM_get hi hj]
      exact h i hi j hj
    · rintro ⟨l, h⟩
      refine ⟨l, fun i hi j hj => ?_⟩
      by_cases eq : i = j
      · subst eq
        have := hd i hi
        rw [dif_xc]
        omega
      · have := h i hi j hj eq
        rwa [mkM_get hi hj] at this
  rw [e]
  exact h.congr fun C _ => by
    constructor
    · intro z i hi j hj
      have := z i hi j hj
      rwa [mkM_get hi hj] at this
    · intro z i hi j hj
      rw [mkM_get hi hj]
      exact z i hi j hj
/-! ### law k22: the points of a box, all of them -/
def dfn (r : List Int) : Nat → Nat → Int := fun a b => dif a b r
structure Full (n : Nat) (Ps : List (List Int)) : Prop where
  len : ∀ r ∈ Ps, r.length = n
  al : Ps ≠ [] → ∀ p, p.length = n → LeF (n + 1) (dfn p) (getM (hullM n Ps)) → p ∈ Ps
theorem Full.mem {n : Nat} {Ps : List (List Int)} (h : Full n Ps) (ne : Ps ≠ []) {r : List Int} : r ∈ Ps ↔ r.length = n ∧ LeF (n + 1) (dfn r) (getM (hullM n Ps)) :=
  ⟨fun k => ⟨h.len r k, fun _ ha _ hb => hull_le ha hb k⟩, fun k => h.al ne r k.1 k.2⟩
theorem cut_full {n : Nat} {E : Nat → Nat → Int} {R : Option (List (List Int))} {Ps : List (List Int)} (hP : ∀ r, r ∈ Ps ↔ r.length = n ∧ LeF (n + 1) (dfn r) E) (hB : Best (n + 1) E R) : R = hull n Ps ∧ Full n Ps := by
  refine ⟨?_, fun r hr => ((hP r).mp hr).1, fun ne p lp hp => (hP p).mpr ⟨lp, fun a ha b hb => ?_⟩⟩
  · by_cases hd : ∀ i < n + 1, 0 ≤ E i i
    · exact hB.uniq (best_of_pts hP hd)
    · simp only [Classical.not_forall] at hd
      obtain ⟨i, hi, neg⟩ := hd
      have e : Ps = [] := List.eq_nil_iff_forall_not_mem.mpr fun r hr => by
        have := ((hP r).mp hr).2 i hi i hi
        unfold dfn dif at this
        omega
      rw [e]
      exact hB.uniq (best_neg hi (by omega))
  · obtain ⟨r, hr, e⟩ := hull_at ne ha hb
    have h1 := hp a ha b hb
    have h2 := ((hP r).mp hr).2 a ha b hb
    rw [← e] at h1
    exact Int.le_trans h1 h2
theorem pts_full {n : Nat} {M : List (List Int)} (z : Sz (n + 1) M) (c : Clo (n + 1) (getM M)) : some M = hull n (ptsL M n) ∧ Full n (ptsL M n) :=
  cut_full (E := getM M) (fun r => by
    rw [mem_pts]
    constructor
    · rintro ⟨l, h⟩
      refine ⟨l, fun a ha b hb => ?_⟩
      by_cases e : a = b
      · subst e
        rw [c.d a ha]
        show dif a a r ≤ 0
        unfold dif
        omega
      · exact h a ha b hb e
    · rintro ⟨l, h⟩
      exact ⟨l, fun a ha b hb _ => h a ha b hb⟩) (Best.self z c)
/-- a point that agrees with told columns -/
theorem extend {n m : Nat} {C : Nat → Nat → Int} {κ : Nat → Nat} {z : Nat → Int} (c : Clo n C) (hk : ∀ a < m + 1, κ a < n) (h : ∀ a < m + 1, ∀ b < m + 1, z a - z b ≤ C (κ a) (κ b)) :
    ∃ y : Nat → Int, (∀ a < m + 1, y (κ a) = z a) ∧ (∀ a < n, ∀ b < n, y a - y b ≤ C a b) ∧ ∀ a < n, ∃ b < m + 1, y a = C a (κ b) + z b := by
  have ex : ∀ x, ∃ v : Int, (∃ b < m + 1, v = C x (κ b) + z b) ∧ ∀ b < m + 1, v ≤ C x (κ b) + z b := fun x => by
    clear h hk
    induction m with
    | zero =>
      refine ⟨C x (κ 0) + z 0, ⟨0, by omega, rfl⟩, fun b hb => ?_⟩
      have e : b = 0 := by omega
      rw [e]
      exact Int.le_refl _
    | succ m ih =>
      obtain ⟨v, ⟨b, hb, e⟩, hv⟩ := ih
      by_cases g : v ≤ C x (κ (m + 1)) + z (m + 1)
      · refine ⟨v, ⟨b, by omega, e⟩, fun b' hb' => ?_⟩
        by_cases q : b' = m + 1
        · rw [q]; exact g
        · exact hv b' (by omega)
      · refine ⟨_, ⟨m + 1, by omega, rfl⟩, fun b' hb' => ?_⟩
        by_cases q : b' = m + 1
        · rw [q]; exact Int.le_refl _
        · have := hv b' (by omega)
          omega
  obtain ⟨y, hy⟩ := Classical.skolem.mp ex
  refine ⟨y, fun a ha => ?_, fun a ha b hb => ?_, fun a ha => (hy a).1⟩
  · obtain ⟨⟨b, hb, e⟩, up⟩ := hy (κ a)
    have h1 := up a ha
    rw [c.d _ (hk a ha)] at h1
    have h2 := h a ha b hb
    omega
  · obtain ⟨⟨d, hd, e⟩, _⟩ := hy b
    have h1 := (hy a).2 d hd
    have h2 := c.t a ha (κ d) (hk d hd) b hb
    omega
/-- the point of a function of columns -/
def ptOf (n : Nat) (y : Nat → Int) : List Int := mkR n fun k => y (k + 1)
theorem ptOf_xc {n a : Nat} {y : Nat → Int} (h0 : y 0 = 0) (ha : a < n + 1) : xc (ptOf n y) a = y a := by
  cases a with
  | zero => rw [h0]; rfl
  | succ k =>
    rw [xc_succ, List.getD_eq_getElem?_getD]
    unfold ptOf
    rw [mkR_at (by omega)]
    rfl
theorem ptOf_in {n : Nat} {Ps : List (List Int)} {y : Nat → Int} (f : Full n Ps) (ne : Ps ≠ []) (h0 : y 0 = 0) (h : ∀ a < n + 1, ∀ b < n + 1, y a - y b ≤ getM (hullM n Ps) a b) : ptOf n y ∈ Ps := f.al ne _ mkR_len fun a ha b hb => by
  show dif a b _ ≤ _
  rw [dif_xc, ptOf_xc h0 ha, ptOf_xc h0 hb]
  exact h a ha b hb
theorem xc_ext {n : Nat} {p q : List Int} (hp : p.length = n) (hq : q.length = n) (h : ∀ a < n + 1, xc p a = xc q a) : p = q := by
  refine List.ext_getElem (by rw [hp, hq]) fun k h1 h2 => ?_
  have := h (k + 1) (by omega)
  rw [xc_succ, xc_succ, List.getD_eq_getElem?_getD, List.getD_eq_getElem?_getD, List.getElem?_eq_getElem h1, List.getElem?_eq_getElem h2] at this
  exact this
theorem hull_between {n : Nat} {Ps Qs : List (List Int)} (sub : ∀ r ∈ Ps, r ∈ Qs) (ne : Ps ≠ []) (le : ∀ q ∈ Qs, LeF (n + 1) (dfn q) (getM (hullM n Ps))) : hull n Ps = hull n Qs := by
  have ne2 : Qs ≠ [] := fun e => by
    obtain ⟨r, hr⟩ := List.exists_mem_of_ne_nil _ ne
    have := sub r hr
    rw [e] at this
    simp at this
  have e := hull_of (n := n) (Ps := Qs) (f := getM (hullM n Ps)) ne2 fun a ha b hb => by
    obtain ⟨r, hr, e⟩ := hull_at ne ha hb
    exact ⟨List.mem_map.mpr ⟨r, sub r hr, e⟩, fun q hq => le q hq a ha b hb⟩
  rw [e, hull_some ne, mkM_self (hullM_sz n Ps)]
/-! ### columns picked, freed, shifted, added -/
theorem xc_zero {p : List Int} : xc p 0 = 0 := rfl
theorem full_pick {n : Nat} {cs : List Nat} {Ps Qs : List (List Int)} (f : Full n Ps) (hc : ∀ c ∈ cs, 1 ≤ c ∧ c ≤ n) (hQ : ∀ q, q ∈ Qs ↔ ∃ r ∈ Ps, q = partL r cs) : (hull n Ps).map (pickM cs) = hull cs.length Qs ∧ Full cs.length Qs := by
  have e : hull cs.length Qs = hull cs.length (Ps.map fun r => partL r cs) := hull_congr fun q => by
    rw [hQ, List.mem_map]
    exact ⟨fun ⟨r, hr, e⟩ => ⟨r, hr, e.symm⟩, fun ⟨r, hr, e⟩ => ⟨r, hr, e.symm⟩⟩
  have lp : ∀ r, (partL r cs).length = cs.length := fun r => List.length_map _
  have hk : ∀ a < cs.length + 1, pk cs a < n + 1 := fun a ha => by
    unfold pk
    cases a with
    | zero => exact Nat.zero_lt_succ n
    | succ k =>
      rw [List.getD_cons_succ, List.getD_eq_getElem?_getD, List.getElem?_eq_getElem (by omega)]
      have := hc _ (List.getElem_mem (l := cs) (n := k) (by omega))
      show cs[k] < n + 1
      omega
  refine ⟨by rw [e]; exact pick_hull hc, fun q hq => ?_, fun ne q lq hq => ?_⟩
  · obtain ⟨r, _, rfl⟩ := (hQ q).mp hq
    exact lp r
  · have nP : Ps ≠ [] := fun z => by
      obtain ⟨q, hq⟩ := List.exists_mem_of_ne_nil _ ne
      obtain ⟨r, hr, _⟩ := (hQ q).mp hq
      rw [z] at hr
      simp at hr
    have ee : some (pickM cs (hullM n Ps)) = some (hullM cs.length Qs) := by
      rw [← hull_some ne, e, ← pick_hull hc, hull_some nP]
      rfl
    have eM := Option.some.inj ee
    have hz : ∀ a < cs.length + 1, ∀ b < cs.length + 1, xc q a - xc q b ≤ getM (hullM n Ps) (pk cs a) (pk cs b) := fun a ha b hb => by
      have h1 := hq a ha b hb
      rw [← eM] at h1
      unfold pickM at h1
      rw [mkM_get ha hb] at h1
      exact h1
    obtain ⟨y, y1, y2, _⟩ := extend (hull_clo nP) hk hz
    have y0 : y 0 = 0 := y1 0 (by omega)
    have hm := ptOf_in f nP y0 y2
    refine (hQ q).mpr ⟨_, hm, xc_ext (n := cs.length) lq (lp _) fun a ha => ?_⟩
    rw [xc_part (fun c h => (hc c h).1) ha, ptOf_xc y0 (hk a ha), y1 a ha]
theorem xc_setN {n k a : Nat} {p : List Int} {v : Int} (l : p.length = n) (hk : k < n) : xc (p.set k v) a = if a = k + 1 then v else xc p a := xc_set (by omega)
/-- a point but for one column -/
theorem extend1 {n k : Nat} {Ps : List (List Int)} (f : Full n Ps) (ne : Ps ≠ []) {q : List Int} (h : ∀ a < n + 1, a ≠ k + 1 → ∀ b < n + 1, b ≠ k + 1 → xc q a - xc q b ≤ getM (hullM n Ps) a b) :
    ∃ y : Nat → Int, y 0 = 0 ∧ (∀ a < n + 1, a ≠ k + 1 → y a = xc q a) ∧ (∀ a < n + 1, ∀ b < n + 1, y a - y b ≤ getM (hullM n Ps) a b) ∧ ∀ a < n + 1, ∃ b < n + 1, b ≠ k + 1 ∧ y a = getM (hullM n Ps) a b + xc q b := by
  have hne : ∀ a, (if a = k + 1 then 0 else a) ≠ k + 1 := fun a => by split <;> omega
  have hlt : ∀ a < n + 1, (if a = k + 1 then 0 else a) < n + 1 := fun a ha => by split <;> omega
  obtain ⟨y, y1, y2, y3⟩ := extend (m := n) (κ := fun a => if a = k + 1 then 0 else a) (z := fun a => xc q (if a = k + 1 then 0 else a)) (hull_clo ne) hlt fun a ha b hb => h _ (hlt a ha) (hne a) _ (hlt b hb) (hne b)
  refine ⟨y, ?_, fun a ha na => ?_, y2, fun a ha => ?_⟩
  · have := y1 0 (by omega)
    rw [if_neg (by omega)] at this
    exact this
  · have := y1 a ha
    rw [if_neg na] at this
    exact this
  · obtain ⟨b, hb, e⟩ := y3 a ha
    exact ⟨_, hlt b hb, hne b, e⟩
/-! ### the grid (as in Law18e.inc) -/
def valsR (lo hi : Int) : List Int := (List.range (hi + 1 - lo).toNat).map fun (k : Nat) => lo + (k : Int)
def gstep (r : List Int) (Qs : List (List Int)) : List (List Int) := Qs.flatMap fun p => (valsR (r.getD 0 0) (r.getD 1 0)).map fun v => p ++ [v]
def gridL (Rs : List (List Int)) : List (List Int) := Rs.foldl (fun Qs r => gstep r Qs) [[]]
theorem gridL_app {Rs : List (List Int)} {r : List Int} : gridL (Rs ++ [r]) = gstep r (gridL Rs) := by
  unfold gridL
  rw [List.foldl_append]
  rfl
theorem mem_valsR {lo hi v : Int} : v ∈ valsR lo hi ↔ lo ≤ v ∧ v ≤ hi := by
  unfold valsR
  rw [List.mem_map]
  constructor
  · rintro ⟨k, hk, rfl⟩
    rw [List.mem_range] at hk
    omega
  · rintro ⟨h1, h2⟩
    exact ⟨(v - lo).toNat, List.mem_range.mpr (by omega), by omega⟩
theorem valsR_len {lo hi : Int} : (valsR lo hi).length = (hi + 1 - lo).toNat := by simp [valsR]
theorem valsR_get {lo hi : Int} {k : Nat} (h : k < (hi + 1 - lo).toNat) : (valsR lo hi)[k]? = some (lo + (k : Int)) := map_get (range_at h)
def InR (Rs : List (List Int)) (p : List Int) : Prop := p.length = Rs.length ∧ ∀ k < Rs.length, (Rs.getD k []).getD 0 0 ≤ p.getD k 0 ∧ p.getD k 0 ≤ (Rs.getD k []).getD 1 0
theorem getD_app1 {α : Type} {xs ys : List α} {k : Nat} {d : α} (h : k < xs.length) : (xs ++ ys).getD k d = xs.getD k d := by
  rw [List.getD_eq_getElem?_getD, List.getElem?_append_left h, ← List.getD_eq_getElem?_getD]
theorem getD_app2 {α : Type} {xs : List α} {y d : α} : (xs ++ [y]).getD xs.length d = y := by
  rw [List.getD_eq_getElem?_getD, List.getElem?_append_right (Nat.le_refl _), Nat.sub_self]
  rfl
theorem take_snoc {α : Type} {xs : List α} {i : Nat} {x : α} (e : xs[i]? = some x) : xs.take (i + 1) = xs.take i ++ [x] := by rw [List.take_succ, e]; rfl
theorem mem_grid {Rs : List (List Int)} : ∀ {i : Nat}, i ≤ Rs.length → ∀ p, p ∈ gridL (Rs.take i) ↔ InR (Rs.take i) p
  | 0, _, p => by
    rw [List.take_zero]
    unfold InR
    show p ∈ [[]] ↔ _
    rw [List.mem_singleton]
    constructor
    · rintro rfl
      exact ⟨rfl, fun k h => by simp at h⟩
    · rintro ⟨h, _⟩
      exact List.length_eq_zero_iff.mp h
  | i + 1, hi, p => by
    have e : Rs[i]? = some (Rs[i]'(by omega)) := List.getElem?_eq_getElem _
    rw [take_snoc e, gridL_app]
    generalize Rs[i]'(by omega) = r
    have li : (Rs.take i).length = i := by rw [List.length_take]; omega
    unfold gstep
    rw [List.mem_flatMap]
    constructor
    · rintro ⟨q, hq, hp⟩
      obtain ⟨v, hv, rfl⟩ := List.mem_map.mp hp
      obtain ⟨lq, iq⟩ := (mem_grid (by omega) q).mp hq
      have hv' := mem_valsR.mp hv
      refine ⟨by simp [lq], fun k hk => ?_⟩
      rw [List.length_append, li] at hk
      by_cases h : k < i
      · rw [getD_app1 (by omega), getD_app1 (by omega)]
        exact iq k (by omega)
      · have ek : k = i := by simp at hk; omega
        subst ek
        have e1 : (List.take k Rs ++ [r]).getD k [] = r := by
          have := getD_app2 (xs := Rs.take k) (y := r) (d := [])
          rwa [li] at this
        have e2 : (q ++ [v]).getD k 0 = v := by
          have := getD_app2 (xs := q) (y := v) (d := (0 : Int))
          rwa [lq, li] at this
        rw [e1, e2]
        exact hv'
    · rintro ⟨lp, ip⟩
      rw [List.length_append, li] at lp ip
      have ne : p ≠ [] := fun z => by rw [z] at lp; simp at lp
      obtain ⟨q, v, rfl⟩ : ∃ q v, p = q ++ [v] := ⟨p.dropLast, p.getLast ne, (List.dropLast_concat_getLast ne).symm⟩
      have lq : q.length = i := by simpa using lp
      refine ⟨q, (mem_grid (by omega) q).mpr ⟨by rw [lq, li], fun k hk => ?_⟩, List.mem_map.mpr ⟨v, mem_valsR.mpr ?_, rfl⟩⟩
      · rw [li] at hk
        have := ip k (by simp; omega)
        rwa [getD_app1 (by omega), getD_app1 (by omega)] at this
      · have := ip i (by simp)
        have e1 : (List.take i Rs ++ [r]).getD i [] = r := by
          have := getD_app2 (xs := Rs.take i) (y := r) (d := [])
          rwa [li] at this
        have e2 : (q ++ [v]).getD i 0 = v := by
          have := getD_app2 (xs := q) (y := v) (d := (0 : Int))
          rwa [lq] at this
        rw [e1, e2] at this
        exact this
theorem gstep_len {r : List Int} {m : Nat} (h : (valsR (r.getD 0 0) (r.getD 1 0)).length ≤ m) : ∀ Qs : List (List Int), (gstep r Qs).length ≤ Qs.length * m := by
  intro Qs
  unfold gstep
  induction Qs with
  | nil => simp
  | cons q Qs ih =>
    rw [List.flatMap_cons, List.length_append, List.length_cons, Nat.add_mul, List.length_map]
    omega
/-! ### columns freed, shifted, added: all points -/
theorem full_nil {n : Nat} : Full n [] := ⟨fun r hr => by simp at hr, fun ne => absurd rfl ne⟩
theorem free_le {n k : Nat} {r : List Int} {lo hi v : Int} {M : List (List Int)} (l : r.length = n) (hk : k < n) (h1 : lo ≤ v) (h2 : v ≤ hi) (ha : LeF (n + 1) (dfn (r.set k lo)) (getM M)) (hb : LeF (n + 1) (dfn (r.set k hi)) (getM M)) : LeF (n + 1) (dfn (r.set k v)) (getM M) := fun a ia b ib => by
  have g1 := ha a ia b ib
  have g2 := hb a ia b ib
  unfold dfn at *
  rw [dif_xc, xc_setN l hk, xc_setN l hk] at *
  split at g1 <;> rename_i e1 <;> split at g1 <;> rename_i e2
  · rw [if_pos e1, if_pos e2] at *
    omega
  · rw [if_pos e1, if_neg e2] at *
    omega
  · rw [if_neg e1, if_pos e2] at *
    omega
  · rw [if_neg e1, if_neg e2] at *
    omega
theorem set_eq {n k : Nat} {p q : List Int} {y : Nat → Int} (lq : q.length = n) (hk : k < n) (e : p = ptOf n y) (y0 : y 0 = 0) (h : ∀ a < n + 1, a ≠ k + 1 → y a = xc q a) : q = p.set k (xc q (k + 1)) := by
  have lp : p.length = n := by rw [e]; exact mkR_len
  refine xc_ext (n := n) lq (by rw [List.length_set]; exact lp) fun a ha => ?_
  rw [xc_setN lp hk]
  split
  · rename_i z
    rw [z]
  · rename_i z
    rw [e, ptOf_xc y0 ha, h a ha z]
theorem full_free {n k : Nat} {lo hi : Int} {Ps Qs : List (List Int)} (f : Full n Ps) (hk : k < n) (hQ : ∀ q, q ∈ Qs ↔ ∃ r ∈ Ps, ∃ v, lo ≤ v ∧ v ≤ hi ∧ q = r.set k v) : chB freeF (n + 1) (k + 1) lo hi (hull n Ps) = hull n Qs ∧ Full n Qs := by
  have lQ : ∀ q ∈ Qs, q.length = n := fun q hq => by
    obtain ⟨r, hr, v, _, _, rfl⟩ := (hQ q).mp hq
    rw [List.length_set]
    exact f.len r hr
  by_cases ne : Ps = []
  · have e : Qs = [] := List.eq_nil_iff_forall_not_mem.mpr fun q hq => by
      obtain ⟨r, hr, _⟩ := (hQ q).mp hq
      rw [ne] at hr
      simp at hr
    rw [ne, e]
    exact ⟨rfl, full_nil⟩
  by_cases lh : lo ≤ hi
  · have eB := free_hull (lo := lo) (hi := hi) hk f.len lh
    have nm := moved_ne (k := k) (u := fun _ => lo) (v := fun _ => hi) ne
    have le : ∀ q ∈ Qs, LeF (n + 1) (dfn q) (getM (hullM n (movedL k (fun _ => lo) (fun _ => hi) Ps))) := fun q hq => by
      obtain ⟨r, hr, v, v1, v2, rfl⟩ := (hQ q).mp hq
      exact free_le (f.len r hr) hk v1 v2 (fun a ha b hb => hull_le ha hb (mem_moved.mpr ⟨r, hr, .inl rfl⟩)) fun a ha b hb => hull_le ha hb (mem_moved.mpr ⟨r, hr, .inr rfl⟩)
    have eH := hull_between (Qs := Qs) (fun q hq => by
      obtain ⟨r, hr, e | e⟩ := mem_moved.mp hq
      · exact (hQ q).mpr ⟨r, hr, lo, Int.le_refl _, lh, e⟩
      · exact (hQ q).mpr ⟨r, hr, hi, lh, Int.le_refl _, e⟩) nm le
    rw [eH] at eB
    refine ⟨eB, lQ, fun nQ q lq hq => ?_⟩
    rw [hull_some ne, hull_some nQ] at eB
    have eM : mkM (n + 1) (freeF (k + 1) lo hi (getM (hullM n Ps))) = hullM n Qs := by
      have : (if lo > hi then none else some (mkM (n + 1) (freeF (k + 1) lo hi (getM (hullM n Ps))))) = some (hullM n Qs) := eB
      rw [if_neg (by omega)] at this
      exact Option.some.inj this
    have en : ∀ a < n + 1, ∀ b < n + 1, xc q a - xc q b ≤ freeF (k + 1) lo hi (getM (hullM n Ps)) a b := fun a ha b hb => by
      have h1 := hq a ha b hb
      rw [← eM, mkM_get ha hb] at h1
      exact h1
    obtain ⟨y, y0, y1, y2, _⟩ := extend1 (k := k) f ne (q := q) fun a ha na b hb nb => by
      have := en a ha b hb
      unfold freeF wcF at this
      rwa [if_neg na, if_neg nb] at this
    have d0 := (hull_clo (n := n) ne).d 0 (by omega)
    have up := en (k + 1) (by omega) 0 (by omega)
    have dn := en 0 (by omega) (k + 1) (by omega)
    unfold freeF wcF at up dn
    rw [if_pos rfl, if_neg (by omega)] at up
    rw [if_neg (by omega), if_pos rfl] at dn
    have up' : xc q (k + 1) - xc q 0 ≤ hi + getM (hullM n Ps) 0 0 := up
    have dn' : xc q 0 - xc q (k + 1) ≤ getM (hullM n Ps) 0 0 - lo := dn
    rw [d0, xc_zero] at up' dn'
    exact (hQ q).mpr ⟨_, ptOf_in f ne y0 y2, xc q (k + 1), by omega, by omega, set_eq lq hk rfl y0 y1⟩
  · have e : Qs = [] := List.eq_nil_iff_forall_not_mem.mpr fun q hq => by
      obtain ⟨r, hr, v, v1, v2, _⟩ := (hQ q).mp hq
      omega
    rw [e, hull_some ne]
    exact ⟨if_pos (by omega), full_nil⟩
theorem xc_getD {p : List Int} {k : Nat} : p.getD k 0 = xc p (k + 1) := rfl
theorem full_shift {n k : Nat} {lo hi : Int} {Ps Qs : List (List Int)} (f : Full n Ps) (hk : k < n) (hQ : ∀ q, q ∈ Qs ↔ ∃ r ∈ Ps, ∃ v, lo ≤ v ∧ v ≤ hi ∧ q = r.set k (r.getD k 0 + v)) : chB shiftF (n + 1) (k + 1) lo hi (hull n Ps) = hull n Qs ∧ Full n Qs := by
  have lQ : ∀ q ∈ Qs, q.length = n := fun q hq => by
    obtain ⟨r, hr, v, _, _, rfl⟩ := (hQ q).mp hq
    rw [List.length_set]
    exact f.len r hr
  by_cases ne : Ps = []
  · have e : Qs = [] := List.eq_nil_iff_forall_not_mem.mpr fun q hq => by
      obtain ⟨r, hr, _⟩ := (hQ q).mp hq
      rw [ne] at hr
      simp at hr
    rw [ne, e]
    exact ⟨rfl, full_nil⟩
  by_cases lh : lo ≤ hi
  · have eB := shift_hull (lo := lo) (hi := hi) hk f.len lh
    have nm := moved_ne (k := k) (u := fun r => r.getD k 0 + lo) (v := fun r => r.getD k 0 + hi) ne
    have le : ∀ q ∈ Qs, LeF (n + 1) (dfn q) (getM (hullM n (movedL k (fun r => r.getD k 0 + lo) (fun r => r.getD k 0 + hi) Ps))) := fun q hq => by
      obtain ⟨r, hr, v, v1, v2, rfl⟩ := (hQ q).mp hq
      exact free_le (f.len r hr) hk (Int.add_le_add_left v1 _) (Int.add_le_add_left v2 _) (fun a ha b hb => hull_le ha hb (mem_moved.mpr ⟨r, hr, .inl rfl⟩)) fun a ha b hb => hull_le ha hb (mem_moved.mpr ⟨r, hr, .inr rfl⟩)
    have eH := hull_between (Qs := Qs) (fun q hq => by
      obtain ⟨r, hr, e | e⟩ := mem_moved.mp hq
      · exact (hQ q).mpr ⟨r, hr, lo, Int.le_refl _, lh, e⟩
      · exact (hQ q).mpr ⟨r, hr, hi, lh, Int.le_refl _, e⟩) nm le
    rw [eH] at eB
    refine ⟨eB, lQ, fun nQ q lq hq => ?_⟩
    rw [hull_some ne, hull_some nQ] at eB
    have eM : mkM (n + 1) (shiftF (k + 1) lo hi (getM (hullM n Ps))) = hullM n Qs := by
      have : (if lo > hi then none else some (mkM (n + 1) (shiftF (k + 1) lo hi (getM (hullM n Ps))))) = some (hullM n Qs) := eB
      rw [if_neg (by omega)] at this
      exact Option.some.inj this
    have en : ∀ a < n + 1, ∀ b < n + 1, xc q a - xc q b ≤ shiftF (k + 1) lo hi (getM (hullM n Ps)) a b := fun a ha b hb => by
      have h1 := hq a ha b hb
      rw [← eM, mkM_get ha hb] at h1
      exact h1
    have up : ∀ b < n + 1, b ≠ k + 1 → xc q (k + 1) - xc q b ≤ getM (hullM n Ps) (k + 1) b + hi := fun b hb nb => by
      have := en (k + 1) (by omega) b hb
      unfold shiftF wcF at this
      rwa [if_pos rfl, if_neg nb] at this
    have dn : ∀ a < n + 1, a ≠ k + 1 → xc q a - xc q (k + 1) ≤ getM (hullM n Ps) a (k + 1) - lo := fun a ha na => by
      have := en a ha (k + 1) (by omega)
      unfold shiftF wcF at this
      rwa [if_neg na, if_pos rfl] at this
    obtain ⟨y, y0, y1, y2, y3⟩ := extend1 (k := k) f ne (q := q) fun a ha na b hb nb => by
      have := en a ha b hb
      unfold shiftF wcF at this
      rwa [if_neg na, if_neg nb] at this
    obtain ⟨b0, hb0, nb0, eb0⟩ := y3 (k + 1) (by omega)
    have u0 := up b0 hb0 nb0
    generalize hv : min (y (k + 1)) (xc q (k + 1) - lo) = w
    obtain ⟨yf, hyf⟩ : ∃ yf : Nat → Int, ∀ a, yf a = if a = k + 1 then w else y a := ⟨_, fun _ => rfl⟩
    have yy : ∀ a < n + 1, ∀ b < n + 1, yf a - yf b ≤ getM (hullM n Ps) a b := fun a ha b hb => by
      have g := y2 a ha b hb
      rw [hyf, hyf]
      by_cases ea : a = k + 1
      · rw [if_pos ea]
        by_cases eb : b = k + 1
        · rw [if_pos eb]
          have := (hull_clo (n := n) ne).d (k + 1) (by omega)
          rw [ea, eb]
          omega
        · rw [if_neg eb]
          rw [ea] at g ⊢
          omega
      · rw [if_neg ea]
        by_cases eb : b = k + 1
        · rw [if_pos eb]
          rw [eb] at g ⊢
          have h1 := dn a ha ea
          have h2 := y1 a ha ea
          omega
        · rw [if_neg eb]
          exact g
    have z0 : yf 0 = 0 := by rw [hyf, if_neg (by omega)]; exact y0
    have hm := ptOf_in f ne z0 yy
    have ew : (ptOf n yf).getD k 0 = w := by
      rw [xc_getD, ptOf_xc z0 (by omega), hyf]
      exact if_pos rfl
    refine (hQ q).mpr ⟨_, hm, xc q (k + 1) - w, by omega, by omega, ?_⟩
    rw [ew, show w + (xc q (k + 1) - w) = xc q (k + 1) by omega]
    exact set_eq lq hk rfl z0 fun a ha na => by
      rw [hyf, if_neg na]
      exact y1 a ha na
  · have e : Qs = [] := List.eq_nil_iff_forall_not_mem.mpr fun q hq => by
      obtain ⟨r, hr, v, v1, v2, _⟩ := (hQ q).mp hq
      omega
    rw [e, hull_some ne]
    exact ⟨if_pos (by omega), full_nil⟩
/-- columns added: a point of the box, and any numbers of the ranges -/
theorem ends_in {Rs : List (List Int)} {cs : List Int} (hR : ∀ r ∈ Rs, IsPr r) (h : EndC Rs cs) : InR Rs cs := by
  refine ⟨h.1, fun j hj => ?_⟩
  obtain ⟨lo, hi, e2, le⟩ := hR _ (List.getElem_mem hj)
  have e3 : Rs.getD j [] = [lo, hi] := by rw [List.getD_eq_getElem?_getD, List.getElem?_eq_getElem hj, e2]; rfl
  have g := h.2 j hj
  rw [e3] at g ⊢
  have g' : cs.getD j 0 = lo ∨ cs.getD j 0 = hi := g
  show lo ≤ _ ∧ _ ≤ hi
  omega
theorem full_add {n : Nat} {Ps Qs Rs : List (List Int)} (f : Full n Ps) (hR : ∀ r ∈ Rs, IsPr r) (hQ : ∀ q, q ∈ Qs ↔ ∃ r ∈ Ps, ∃ cs, InR Rs cs ∧ q = r ++ cs) : addB (n + 1) Rs (hull n Ps) = hull (n + Rs.length) Qs ∧ Full (n + Rs.length) Qs := by
  have lQ : ∀ q ∈ Qs, q.length = n + Rs.length := fun q hq => by
    obtain ⟨r, hr, cs, hc, rfl⟩ := (hQ q).mp hq
    rw [List.length_append, f.len r hr, hc.1]
  have eA := add_hull f.len hR
  by_cases ne : Ps = []
  · have e : Qs = [] := List.eq_nil_iff_forall_not_mem.mpr fun q hq => by
      obtain ⟨r, hr, _⟩ := (hQ q).mp hq
      rw [ne] at hr
      simp at hr
    rw [ne, e]
    exact ⟨rfl, full_nil⟩
  have nm : endsL Ps Rs ≠ [] := fun e => by
    obtain ⟨r, hr⟩ := List.exists_mem_of_ne_nil _ ne
    have : r ++ chooseC Rs (fun _ => 0) ∈ endsL Ps Rs := mem_ends.mpr ⟨r, hr, _, rfl, choose_end fun _ => .inl rfl⟩
    rw [e] at this
    simp at this
  -- the entries
  have eE : ∃ u, rangeB Rs = some u := by
    rw [hull_some ne, hull_some nm] at eA
    cases h : rangeB Rs with
    | none =>
      have : (rangeB Rs).map (fun _ => mkM (n + 1 + Rs.length) (addF (n + 1) (getM (hullM n Ps)) (wid Rs))) = some (hullM (n + Rs.length) (endsL Ps Rs)) := eA
      rw [h] at this
      cases this
    | some u => exact ⟨u, rfl⟩
  obtain ⟨u, eu⟩ := eE
  have eM : mkM (n + 1 + Rs.length) (addF (n + 1) (getM (hullM n Ps)) (wid Rs)) = hullM (n + Rs.length) (endsL Ps Rs) := by
    rw [hull_some ne, hull_some nm] at eA
    have : (rangeB Rs).map (fun _ => mkM (n + 1 + Rs.length) (addF (n + 1) (getM (hullM n Ps)) (wid Rs))) = some (hullM (n + Rs.length) (endsL Ps Rs)) := eA
    rw [eu] at this
    exact Option.some.inj this
  have en : ∀ a < n + Rs.length + 1, ∀ b < n + Rs.length + 1, getM (hullM (n + Rs.length) (endsL Ps Rs)) a b = addF (n + 1) (getM (hullM n Ps)) (wid Rs) a b := fun a ha b hb => by
    rw [← eM, mkM_get (by omega) (by omega)]
  have d0 := (hull_clo (n := n) ne).d 0 (by omega)
  have w0 : ∀ j, wid Rs j j = 0 := fun j => if_pos rfl
  have le : ∀ q ∈ Qs, LeF (n + Rs.length + 1) (dfn q) (getM (hullM (n + Rs.length) (endsL Ps Rs))) := fun q hq a ha b hb => by
    obtain ⟨r, hr, cs, hc, rfl⟩ := (hQ q).mp hq
    have lr := f.len r hr
    rw [en a ha b hb]
    unfold dfn addF
    rw [dif_xc, xc_app lr, xc_app lr]
    by_cases ea : a < n + 1
    · rw [if_pos ea, if_pos ea]
      by_cases eb : b < n + 1
      · rw [if_pos eb, if_pos eb]
        exact hull_le ea eb hr
      · rw [if_neg eb, if_neg eb]
        obtain ⟨j, rfl⟩ : ∃ j, b = n + 1 + j := ⟨b - n - 1, by omega⟩
        rw [show n + 1 + j - (n + 1) + 1 = j + 1 by omega, show n + 1 + j - n - 1 = j by omega, wid_0]
        have h1 := hull_le ea (show 0 < n + 1 by omega) hr
        rw [dif_xc, xc_zero] at h1
        have h2 := (hc.2 j (by omega)).1
        omega
    · rw [if_neg ea, if_neg ea]
      obtain ⟨i, rfl⟩ : ∃ i, a = n + 1 + i := ⟨a - n - 1, by omega⟩
      have h3 := (hc.2 i (by omega)).2
      rw [show n + 1 + i - (n + 1) + 1 = i + 1 by omega, show n + 1 + i - n - 1 = i by omega]
      by_cases eb : b < n + 1
      · rw [if_pos eb, if_pos eb, wid_r]
        have h1 := hull_le (show 0 < n + 1 by omega) eb hr
        rw [dif_xc, xc_zero] at h1
        omega
      · rw [if_neg eb, if_neg eb]
        obtain ⟨j, rfl⟩ : ∃ j, b = n + 1 + j := ⟨b - n - 1, by omega⟩
        rw [show n + 1 + j - (n + 1) + 1 = j + 1 by omega, show n + 1 + j - n - 1 = j by omega]
        by_cases e : i = j
        · subst e
          rw [w0]
          omega
        · rw [wid_succ e]
          have h2 := (hc.2 j (by omega)).1
          omega
  have eH := hull_between (Qs := Qs) (fun q hq => by
    obtain ⟨r, hr, cs, e, hc⟩ := mem_ends.mp hq
    exact (hQ q).mpr ⟨r, hr, cs, ends_in hR hc, e⟩) nm le
  rw [eH] at eA
  refine ⟨eA, lQ, fun nQ q lq hq => ?_⟩
  have eHM : hullM (n + Rs.length) (endsL Ps Rs) = hullM (n + Rs.length) Qs := by
    rw [hull_some nm, hull_some nQ] at eH
    exact Option.some.inj eH
  rw [← eHM] at hq
  have lt : (q.take n).length = n := by rw [List.length_take]; omega
  have ex : ∀ a < n + 1, xc (q.take n) a = xc q a := fun a ha => by
    cases a with
    | zero => rfl
    | succ k => rw [xc_succ, xc_succ, List.getD_eq_getElem?_getD, List.getD_eq_getElem?_getD, List.getElem?_take, if_pos (by omega)]
  have hr : q.take n ∈ Ps := f.al ne _ lt fun a ha b hb => by
    have := hq a (by omega) b (by omega)
    rw [en a (by omega) b (by omega)] at this
    unfold addF dfn at this
    rw [if_pos ha, if_pos hb, dif_xc] at this
    show dif a b _ ≤ _
    rw [dif_xc, ex a ha, ex b hb]
    exact this
  refine (hQ q).mpr ⟨_, hr, q.drop n, ⟨by rw [List.length_drop]; omega, fun j hj => ?_⟩, (List.take_append_drop n q).symm⟩
  have e : (q.drop n).getD j 0 = xc q (n + 1 + j) := by
    rw [show n + 1 + j = (n + j) + 1 by omega, xc_succ, List.getD_eq_getElem?_getD, List.getD_eq_getElem?_getD, List.getElem?_drop]
  have up := hq (n + 1 + j) (by omega) 0 (by omega)
  have dn := hq 0 (by omega) (n + 1 + j) (by omega)
  rw [en _ (by omega) _ (by omega)] at up dn
  unfold addF dfn at up dn
  rw [if_neg (by omega), if_pos (by omega), dif_xc, xc_zero, d0, show n + 1 + j - (n + 1) + 1 = j + 1 by omega, wid_r] at up
  rw [if_pos (by omega), if_neg (by omega), dif_xc, xc_zero, d0, show n + 1 + j - (n + 1) + 1 = j + 1 by omega, wid_0] at dn
  rw [e]
  omega
/-! ### points that are tracked tuples (keys of a dict) -/
def TA (H : Hp) (as : List Addr) (Ps : List (List Int)) : Prop := as.length = Ps.length ∧ ∀ (i : Nat) (a : Addr) (r : List Int), as[i]? = some a → Ps[i]? = some r → H a = some (.tup (r.map V.int))
def TPts (H : Hp) (p : Addr) (Ps : List (List Int)) : Prop := ∃ as : List Addr, H p = some (.lst (as.map V.ref)) ∧ TA H as Ps
theorem TA.same {H H' : Hp} {as : List Addr} {Ps : List (List Int)} (s : Same H H') (h : TA H as Ps) : TA H' as Ps := ⟨h.1, fun i a r e1 e2 => s _ _ (h.2 i a r e1 e2)⟩
theorem TA.pa {K : PySem.W.Frag} {H : Hp} {as : List Addr} {Ps : List (List Int)} (h : TA H as Ps) : PA K H as Ps := ⟨h.1, fun i a r e1 e2 => SqT.of (h.2 i a r e1 e2)⟩
theorem TPts.same {H H' : Hp} {p : Addr} {Ps : List (List Int)} (s : Same H H') (h : TPts H p Ps) : TPts H' p Ps := by
  obtain ⟨as, e, h⟩ := h
  exact ⟨as, s _ _ e, h.same s⟩
theorem TPts.pts {K : PySem.W.Frag} {H : Hp} {p : Addr} {Ps : List (List Int)} (h : TPts H p Ps) : Pts K H p Ps := by
  obtain ⟨as, e, h⟩ := h
  exact h.pa.pts e
theorem TPts.pa {H : Hp} {p : Addr} {Ps : List (List Int)} (h : TPts H p Ps) : ∃ as, H p = some (.lst (as.map V.ref)) ∧ TA H as Ps := h
theorem TPts.nil {H : Hp} {p : Addr} (e : H p = some (.lst [])) : TPts H p [] := ⟨[], e, rfl, fun i a r e1 => by simp at e1⟩
theorem TPts.push {G F : Hp} {L z : Addr} {as : List Addr} {Ps : List (List Int)} {r : List Int} (h : TA G as Ps) (s : Same G F) (e : F L = some (.lst (as.map V.ref))) (hz : F z = some (.tup (r.map V.int))) : TPts (upd F L (.lst (as.map V.ref ++ [.ref z]))) L (Ps ++ [r]) := by
  have ne : ∀ {x : Addr} {xs : List V}, F x = some (.tup xs) → x ≠ L := fun h q => by rw [q, e] at h; cases h
  refine ⟨as ++ [z], by rw [List.map_append]; exact upd_same, by rw [List.length_append, List.length_append, h.1]; rfl, fun i a q e1 e2 => ?_⟩
  by_cases hi : i < as.length
  · rw [List.getElem?_append_left hi] at e1
    rw [List.getElem?_append_left (by rw [← h.1]; exact hi)] at e2
    have := s _ _ (h.2 i a q e1 e2)
    rw [upd_ne (ne this)]
    exact this
  · have e0 : i - as.length = 0 := by
      rw [List.getElem?_append_right (by omega)] at e1
      have := (List.getElem?_eq_some_iff.mp e1).1
      simp at this
      omega
    rw [List.getElem?_append_right (by omega), e0] at e1
    rw [List.getElem?_append_right (by rw [← h.1]; omega), ← h.1, e0] at e2
    cases e1
    cases e2
    rw [upd_ne (ne hz)]
    exact hz
theorem catT {K : PySem.W.Frag} {H : Hp} {t a : Addr} {xs ys : List V} {Q : VK} (h1 : H t = some (.tup xs)) (h2 : H a = some (.tup ys)) (hz : xs.length + ys.length ≤ 1000) (q : ∀ z H', Same H H' → H' z = some (.tup (xs ++ ys)) → Q (.ref z) H') : rCatA K (.ref t) (.ref a) H Q := by
  refine ⟨t, a, xs, ys, rfl, rfl, SqT.of h1, SqT.of h2, Nat.le_of_lt (small1000 hz), fun e => ?_, fun _ e => ?_, fun _ _ p hp => ?_⟩
  · subst e
    exact q a H (Same.refl H) h2
  · subst e
    exact q t H (Same.refl H) (by rw [List.append_nil]; exact h1)
  · exact q p _ (Same.new hp _) upd_same
/-- few enough to be listed, with greater numbers -/
structure SmallW (n : Nat) (M : List (List Int)) : Prop where
  lo : ∀ c < n + 1, -1000000000000 ≤ getM M 0 c ∧ getM M 0 c ≤ 1000000000000
  hi : ∀ c < n + 1, -1000000000000 ≤ getM M c 0 ∧ getM M c 0 ≤ 1000000000000
  pts : ∀ c ≤ n, (ptsL M c).length ≤ 1000000
def spPointsT (K : PySem.W.Frag) : Sp := fun vs H Q _ => ∃ (va : V) (B : Option (List (List Int))) (n : Nat), vs = [va] ∧ n ≤ 900 ∧ BoxAt K H va B ∧ BSz (n + 1) B ∧ (∀ M, B = some M → SmallW n M) ∧ ∀ q H', Same H H' → TPts H' q (ptsB n B) → Q (.ref q) H'
section
variable {P : Program} {w : World} {K : PySem.W.Frag} {mg : Str → Option Value} {base : Heap}
theorem ok_l_pointsT (T : Txt w K mg) : FnOk P w K mg base CX0 2 T.a_l_points T.d_l_points p_l_points (spPointsT K) := by
  have g_l_fits := ok_l_fits (P := P) (w := w) (base := base) T
  refine T.F_l_points.ok sc_l_points (fun vs H Q E h => ?_) (fun cdv A outer s H vs Q E hr h => ?_)
  · obtain ⟨va, B, n, rfl, _⟩ := h
    rfl
  obtain ⟨va, B, n, rfl, hn, hB, zB, sm, q⟩ := h
  refine ⟨_, (pss_cons (ps_if (PW.pt (pw_or (pt_cmpR op_isN (pv 0) pe_non (nomark _)) (pw_or1 (pt_cmpR op_lt (pe_callB (cr_min rfl) rfl T.z_min bb_min (pa_cons (pe_lc (own := [("_law_i", 1)]) (g := gName 1) (tt := tYes) rfl sc_l_points.nd (pi_range1 rfl T.z_range (pa_cons (pe_callB call_len_seq rfl T.z_len PySem.boot_len (pa_cons (pv 0) pa_nil)) pa_nil)) (blkOk_by (own := [("_law_i", 1)]) (N := n_l_points) (sc := defScope s_l_points) (by decide +kernel)) (fun _ _ _ _ _ => (pg_name (i := 1) sc_l_points.nd rfl (Or.inl rfl))) (fun _ _ _ _ _ => pts_nil) (fun _ _ _ _ _ => (pe_ix (show IxR _ (rIxT K) from ix_tup) (pe_ix (show IxR _ (rIxT K) from ix_tup) (pv 0) (pv 1) (fun _ _ => rfl)) (pv 1) (fun _ _ => rfl)))) pa_nil)) pe_int (nomark _))))) (pss_one (ps_ret (pe_lst pa_nil))) pss_nil)
      (pss_cons (ps_set (i := 2) sc_l_points.nd rfl (Or.inl rfl) (pe_lst (pa_cons (pe_tup pa_nil) pa_nil)))
      (pss_cons (ps_for PassesOwn.never rfl (pi_range2 rfl T.z_range (pa_cons pe_int (pa_cons (pe_callB call_len_seq rfl T.z_len PySem.boot_len (pa_cons (pv 0) pa_nil)) pa_nil))) (pg_name (i := 3) sc_l_points.nd rfl (Or.inl rfl))
        (pss_cons (ps_set (i := 4) sc_l_points.nd rfl (Or.inl rfl) (pe_lst pa_nil))
      (pss_cons (ps_for PassesOwn.never rfl (pi_list (pv 2)) (pg_name (i := 5) sc_l_points.nd rfl (Or.inl rfl))
        (pss_one (ps_for PassesOwn.never rfl (pi_range2 rfl T.z_range (pa_cons (pe_op op_sub pe_int (pe_ix ix_tup (pe_ix ix_tup (pv 0) pe_int (fun _ _ => rfl)) (pv 3) (fun _ _ => rfl))) (pa_cons (pe_op op_add (pe_ix ix_tup (pe_ix ix_tup (pv 0) (pv 3) (fun _ _ => rfl)) pe_int (fun _ _ => rfl)) pe_int) pa_nil))) (pg_name (i := 6) sc_l_points.nd rfl (Or.inl rfl))
        (pss_one (ps_if (pt_val (pe_call g_l_fits (hr.mono (by first | decide | omega)) rfl T.m_l_fits T.F_l_fits.kp T.b_l_fits .nil pass0 (pa_cons (pv 0) (pa_cons (pv 5) (pa_cons (pv 3) (pa_cons (pv 6) pa_nil)))))) (pss_one (ps_expr (pe_bm PySem.F.plainAttrs_list PySem.F.slot_list_append PySem.F.type_list_append mt_append (pv 4) (pa_cons (pe_op op_catA (pv 5) (pe_tup (pa_cons (pv 6) pa_nil))) pa_nil)))) pss_nil)))))
      (pss_one (ps_set (i := 2) sc_l_points.nd rfl (Or.inl rfl) (pe_callTy call_list_of rfl T.z_list bt_list (pa_cons (pv 4) pa_nil)))))))
      (pss_one (ps_ret (pv 2)))))), ?_⟩
  cases B with
  | none =>
    obtain rfl : va = .non := hB
    refine ⟨_, rfl, rfl, _, rfl, ifT rfl (ifT rfl ?_)⟩
    exact ⟨(by show 0 ≤ sizeLine; decide), fun p hp => q p _ (Same.new hp _) ⟨[], upd_same, rfl, fun i a r e => by simp at e⟩⟩
  | some M =>
  obtain ⟨pa, rfl, hM⟩ := hB
  have sM := zB M rfl
  have S := sm M rfl
  refine ⟨_, rfl, rfl, _, rfl, ifF rfl ?_⟩
  obtain ⟨vs, hv, lv, _⟩ := hM.row
  have lv1 : vs.length = n + 1 := by rw [lv, sM.1]
  refine ⟨_, rfl, pa, _, rfl, .inr hv, _, rfl, by omega, by omega, fun D hD => ?_⟩
  rw [lv1]
  refine lc_it walk_range (LcP (Same H) (RInt (mkR (n + 1) fun i => getM M i i)) D) (lcp_start hD) (fun _ _ _ _ => trivial) ?_ ?_
  · rintro j x F F' hj PF ⟨rfl, rfl⟩
    have hj' : j < n + 1 := by omega
    obtain ⟨r, e, l, g⟩ := sM.at2 hj' hj'
    obtain ⟨vs1, a1, x1, x2, x3⟩ := (hM.same PF.1).getT e
    refine ⟨rfl, tyes ?_⟩
    refine ⟨_, rfl, _, rfl, pa, _, _, _, rfl, rfl, x1, by rw [Int.zero_add]; exact x2, _, rfl, a1, _, _, _, rfl, rfl, x3, by rw [Int.zero_add]; exact atI_nat (map_get g), ?_⟩
    exact lcp_same PF hD (Same.refl _) (lt_line (by omega)) RInt.mono ⟨_, mkR_at hj', rfl⟩
  intro F PF
  refine ⟨D, _, rfl, SqL.of (lcp_ints (K := K) PF (by rw [mkR_len]; omega)), by rw [mkR_len]; omega, fun m hm hx => ?_⟩
  obtain ⟨i0, hi0, em⟩ := List.mem_map.mp hm
  rw [List.mem_range] at hi0
  have sF := PF.1
  refine ⟨_, _, rfl, rfl, _, rfl, ite2 (fun h => ?_) (fun h => ?_)⟩
  · have h' : m < 0 := of_decide_eq_true h
    have e : ptsB n (some M) = [] := if_neg fun z => by
      have := z i0 hi0
      omega
    rw [e] at q
    exact ⟨(by show 0 ≤ sizeLine; decide), fun p hp => q p _ (sF.trans (Same.new hp _)) ⟨[], upd_same, rfl, fun i a r e => by simp at e⟩⟩
  have h' : ¬ m < 0 := of_decide_eq_false (Bool.eq_false_iff.mpr h)
  have eB : ptsB n (some M) = ptsL M n := if_pos fun i hi => by
    have := hx (getM M i i) (List.mem_map.mpr ⟨i, List.mem_range.mpr hi, rfl⟩)
    omega
  rw [eB] at q
  refine ⟨(by show 0 ≤ sizeLine; decide), fun t0 ht0 => ?_⟩
  refine ⟨(by show 1 ≤ sizeLine; decide), fun D0 hD0 => ?_⟩
  have s0 : Same H (upd (upd F t0 (.tup [])) D0 (.lst [.ref t0])) := sF.trans ((Same.new ht0 _).trans (Same.new hD0 _))
  have p0 : TPts (upd (upd F t0 (.tup [])) D0 (.lst [.ref t0])) D0 (ptsL M 0) := ⟨[t0], upd_same, rfl, fun i a r e1 e2 => by
    cases i with
    | zero =>
      cases e1
      cases e2
      exact Same.new hD0 _ _ _ upd_same
    | succ i => simp at e1⟩
  generalize upd (upd F t0 (.tup [])) D0 (.lst [.ref t0]) = H0 at s0 p0
  refine ⟨_, rfl, pa, _, rfl, .inr (Same.tup s0 hv), 1, _, rfl, ⟨by decide, by decide, by omega, by omega⟩, for_range (lo := 1) (fun i σ G => ∃ (D' : Addr) (c l x y : Option V), σ = [some (.ref pa), none, some (.ref D'), c, l, x, y] ∧ Same H G ∧ TPts G D' (ptsL M i)) ⟨D0, none, none, none, none, rfl, s0, p0⟩ ?_ ?_⟩
  · rintro i σ G hi ⟨D', c, l, x, y, rfl, sG, pG⟩
    rw [lv1] at hi
    have hi' : i < n := by omega
    obtain ⟨as, k1, pa1⟩ := pG.pa
    refine ⟨(by show 0 ≤ sizeLine; decide), fun L hL => ?_⟩
    have nDL : D' ≠ L := ne_of_none k1 hL
    have sL : Same G (upd G L (.lst [])) := Same.new hL _
    have ec : (1 + (i : Int)) = ((i + 1 : Nat) : Int) := by omega
    obtain ⟨r0, e0, l0, g0⟩ := sM.at2 (i := 0) (j := i + 1) (by omega) (by omega)
    obtain ⟨rc, e1, l1, g1⟩ := sM.at2 (i := i + 1) (j := 0) (by omega) (by omega)
    obtain ⟨vs0, a0, x1, x2, x3⟩ := hM.getT e0
    obtain ⟨vs1, a1, y1, y2, y3⟩ := hM.getT e1
    have la := pa1.1
    have hbig : (stepL M (i + 1) (ptsL M i)).length ≤ 1000000 := S.pts (i + 1) (by omega)
    refine ⟨_, rfl, D', rfl, ⟨_, SqL.of (sL _ _ k1)⟩, ?_⟩
    refine for_it (walk_list (xs := as.map V.ref)) (fun j σ F => (∃ x y : Option V, σ = [some (.ref pa), none, some (.ref D'), some (.int (1 + (i : Int))), some (.ref L), x, y]) ∧ Same G F ∧ TPts F L (stepL M (i + 1) ((ptsL M i).take j))) ⟨⟨x, y, rfl⟩, sL, [], upd_same, rfl, fun i a r e => by simp at e⟩ (fun j σ F _ P => SqL.of (P.2.1 _ _ k1)) ?_ ?_
    · rintro j v σ F F' hj ⟨⟨x, y, rfl⟩, sF, pF⟩ ⟨rfl, ev⟩
      rw [List.length_map, la] at hj
      have ep : (ptsL M i)[j]? = some (ptsL M i)[j] := List.getElem?_eq_getElem hj
      have ip := mem_pts.mp (List.mem_of_getElem? ep)
      generalize (ptsL M i)[j] = pt at ep ip
      have ea : as[j]? = some (as[j]'(by omega)) := List.getElem?_eq_getElem _
      have htp := pa1.2 j _ _ ea ep
      have ev' : V.ref (as[j]'(by omega)) = v := by
        have := map_get (f := V.ref) ea
        rw [this] at ev
        exact Option.some.inj ev
      subst ev'
      generalize as[j]'(by omega) = tp at htp
      have sHF := sG.trans sF
      have lo := S.lo (i + 1) (by omega)
      have hi2 := S.hi (i + 1) (by omega)
      have f0 : atI (r0.map V.int) (1 + (i : Int)) = some (.int (getM M 0 (i + 1))) := by rw [ec]; exact atI_nat (map_get g0)
      have f1 : atI vs1 (1 + (i : Int)) = some (.ref a1) := by rw [ec]; exact y2
      refine ⟨_, rfl, pa, _, ((0 : Nat) : Int), _, rfl, rfl, Same.tup sHF x1, x2, _, rfl, a0, _, _, _, rfl, rfl, Same.tup sHF x3, f0, _, _, rfl, rfl, ?_⟩
      refine ⟨_, rfl, _, rfl, pa, _, _, _, rfl, rfl, Same.tup sHF y1, f1, a1, _, ((0 : Nat) : Int), _, rfl, rfl, Same.tup sHF y3, atI_nat (map_get g1), _, _, rfl, rfl, ?_⟩
      refine ⟨_, _, rfl, ⟨by omega, by omega, by omega, by omega⟩, for_range (lo := 0 - getM M 0 (i + 1)) (fun k σ F1 => (∃ y : Option V, σ = [some (.ref pa), none, some (.ref D'), some (.int (1 + (i : Int))), some (.ref L), some (.ref tp), y]) ∧ Same G F1 ∧ TPts F1 L (stepL M (i + 1) ((ptsL M i).take j) ++ stepV M (i + 1) pt ((valsL M (i + 1)).take k))) ⟨⟨y, rfl⟩, sF, ?_⟩ ?_ ?_⟩
      · rw [List.take_zero]
        show TPts _ L (_ ++ [])
        rw [List.append_nil]
        exact pF
      · rintro k σ F1 hk ⟨⟨y, rfl⟩, sF1, pF1⟩
        have evk := vals_get (M := M) (c := i + 1) hk
        have sHF1 := sG.trans sF1
        have htp1 := sF1 _ _ htp
        refine ⟨_, rfl, _, rfl, _, rfl, _, rfl, pa, tp, M, pt, n, i + 1, 0 - getM M 0 (i + 1) + (k : Int), ?_, hn, hM.same sHF1, sM, by omega, by rw [ip.1]; omega, SqT.of htp1, _, rfl, ?_⟩
        · show [V.ref pa, V.ref tp, V.int (1 + (i : Int)), _] = _
          rw [ec]
        have eS := stepV_succ (M := M) (c := i + 1) (p := pt) evk
        refine ite2 (fun h => ?_) (fun h => ?_)
        · have h' : fitP M (i + 1) pt (0 - getM M 0 (i + 1) + (k : Int)) := of_decide_eq_true h
          rw [if_pos h'] at eS
          obtain ⟨bs, b1, b2, b3⟩ := id pF1
          have lb : bs.length ≤ 1000000 := by
            rw [b2]
            exact Nat.le_trans (part_len ep) hbig
          refine ⟨_, rfl, .inl ⟨rfl, _, SqL.of b1⟩, ?_⟩
          refine ⟨_, rfl, _, rfl, (by show 1 ≤ sizeLine; decide), fun t1 ht1 => ?_⟩
          have sT := Same.new ht1 (.tup [V.int (0 - getM M 0 (i + 1) + (k : Int))])
          refine catT (sT _ _ htp1) upd_same (by rw [List.length_map, ip.1]; show i + 1 ≤ 1000; omega) fun z F2 s2 hz => ?_
          have sF2 := sT.trans s2
          refine ⟨L, _, _, rfl, rfl, sF2 _ _ b1, ?_, ⟨_, rfl⟩, ?_, ?_⟩
          · rw [List.length_map, sizeLine_eq]
            omega
          · intro b o e
            rw [upd_ne (ne_of_none e hL)]
            exact sF2 _ _ (sF1 _ _ e)
          · rw [eS, ← List.append_assoc]
            exact TPts.push ⟨b2, b3⟩ sF2 (sF2 _ _ b1) (by rw [hz, List.map_append]; rfl)
        · have h' : ¬ fitP M (i + 1) pt (0 - getM M 0 (i + 1) + (k : Int)) := of_decide_eq_false (Bool.eq_false_iff.mpr h)
          rw [if_neg h', List.append_nil] at eS
          refine ⟨⟨_, rfl⟩, sF1, ?_⟩
          rw [eS]
          exact pF1
      · rintro σ F1 ⟨⟨y, rfl⟩, sF1, pF1⟩
        rw [← vals_len, List.take_length, ← stepL_succ ep] at pF1
        exact ⟨⟨_, _, rfl⟩, sF1, pF1⟩
    · rintro σ F ⟨⟨x, y, rfl⟩, sF, pF⟩
      rw [List.length_map, la, List.take_length] at pF
      obtain ⟨bs, b1, b2, b3⟩ := pF
      refine ⟨_, rfl, L, _, rfl, .inl (SqL.of b1), fun D2 hD2 => ?_⟩
      exact ⟨D2, _, _, _, _, rfl, (sG.trans sF).trans (Same.new hD2 _), bs, upd_same, b2, fun i a r e1 e2 => Same.new hD2 _ _ _ (b3 i a r e1 e2)⟩
  · rintro σ G ⟨D', c, l, x, y, rfl, sG, pG⟩
    have en : ((vs.length : Int) - 1).toNat = n := by omega
    rw [en] at pG
    exact ⟨_, rfl, q D' G sG pG⟩
end
/-! ### law k22: each point once -/
def keyP (r : List Int) : List Key := r.map Sum.inl
theorem keyP_kV {r : List Int} : (keyP r).map kV = r.map V.int := by
  unfold keyP
  rw [List.map_map]
  rfl
theorem keyP_inj {r s : List Int} (h : keyP r = keyP s) : r = s := (List.map_inj_right fun a b z => Sum.inl.inj z).mp h
def spDist : Sp := fun vs H Q _ => ∃ (p : Addr) (Ps : List (List Int)), vs = [.ref p] ∧ TPts H p Ps ∧ Ps.length ≤ 1000000 ∧ ∀ q H' Qs, Same H H' → TPts H' q Qs → (∀ r, r ∈ Qs ↔ r ∈ Ps) → Qs.length ≤ Ps.length → Q (.ref q) H'
section
variable {P : Program} {w : World} {K : PySem.W.Frag} {mg : Str → Option Value} {base : Heap}
theorem ok_l_distinct (T : Txt w K mg) : FnOk P w K mg base CX0 1 T.a_l_distinct T.d_l_distinct p_l_distinct spDist := by
  refine T.F_l_distinct.ok sc_l_distinct (fun vs H Q E h => ?_) (fun cdv A outer s H vs Q E hr h => ?_)
  · obtain ⟨p, Ps, rfl, _⟩ := h
    rfl
  obtain ⟨p, Ps, rfl, ⟨as, ep, hA⟩, hl, q⟩ := h
  refine ⟨_, (pss_cons (ps_set (i := 1) sc_l_distinct.nd rfl (Or.inl rfl) (pe_lst pa_nil))
      (pss_cons (ps_set (i := 2) sc_l_distinct.nd rfl (Or.inl rfl) pe_dnewT)
      (pss_cons (ps_for PassesOwn.never rfl (pi_list (pv 0)) (pg_name (i := 3) sc_l_distinct.nd rfl (Or.inl rfl))
        (pss_one (ps_if (pt_cmp (pc_dnotin (hu_of hr) (pv 3) (pv 2))) (pss_cons (ps_dput (hu_of hr) (pv 2) (pv 3) pe_bl rfl)
      (pss_one (ps_expr (pe_bm PySem.F.plainAttrs_list PySem.F.slot_list_append PySem.F.type_list_append mt_append (pv 1) (pa_cons (pv 3) pa_nil))))) pss_nil)))
      (pss_one (ps_ret (pv 1)))))), ?_⟩
  have la := hA.1
  refine ⟨(by show 0 ≤ sizeLine; decide), fun L hL => ?_⟩
  intro D hD
  have nLD : L ≠ D := ne_of_none upd_same hD
  have s0 : Same H (upd (upd H L (.lst [])) D (.dT [])) := (Same.new hL _).trans (Same.new hD _)
  have hD0 : H D = none := (Same.new hL _).free hD
  refine ⟨_, rfl, p, rfl, ⟨_, SqL.of (s0 _ _ ep)⟩, ?_⟩
  refine for_it (walk_list (xs := as.map V.ref)) (fun i σ G => (∃ x : Option V, σ = [some (.ref p), some (.ref L), some (.ref D), x]) ∧ Same H G ∧ ∃ (bs : List Addr) (Qs : List (List Int)) (kvs : List (List Key × V)), G L = some (.lst (bs.map V.ref)) ∧ TA G bs Qs ∧ G D = some (.dT kvs) ∧ Qs.length ≤ i ∧ kvs.length = Qs.length ∧ (∀ r, r ∈ Qs ↔ r ∈ Ps.take i) ∧ ∀ k, (valV kvs k).isSome = true ↔ ∃ r ∈ Qs, keyP r = k)
    ⟨⟨none, rfl⟩, s0, [], [], [], by rw [upd_ne nLD]; exact upd_same, ⟨rfl, fun i a r e => by simp at e⟩, upd_same, Nat.le_refl _, rfl, fun r => by simp, fun k => by simp [valV_nil]⟩ (fun j σ F _ P => SqL.of (P.2.1 _ _ ep)) ?_ ?_
  · rintro i v σ F0 G hi ⟨⟨x, rfl⟩, sG, bs, Qs, kvs, eL, hB, eD, lQ, lk, mQ, mK⟩ ⟨rfl, ev⟩
    rw [List.length_map, la] at hi
    have er : Ps[i]? = some Ps[i] := List.getElem?_eq_getElem hi
    generalize Ps[i] = r at er
    have ea : as[i]? = some (as[i]'(by omega)) := List.getElem?_eq_getElem _
    generalize as[i]'(by omega) = t at ea
    rw [map_get ea] at ev
    obtain rfl := Option.some.inj ev
    have ht := sG _ _ (hA.2 i t r ea er)
    have htk : G t = some (.tup ((keyP r).map kV)) := by rw [keyP_kV]; exact ht
    have tk : Ps.take (i + 1) = Ps.take i ++ [r] := by
      rw [List.take_add_one, er]
      rfl
    refine ⟨_, rfl, _, rfl, D, _, rfl, DGet.t eD htk, _, rfl, ite2 (fun h => ?_) (fun h => ?_)⟩
    · have hn : valV kvs (keyP r) = none := by
        cases e : valV kvs (keyP r) with
        | none => rfl
        | some v => rw [e] at h; cases h
      have nr : r ∉ Qs := fun z => by
        have := (mK (keyP r)).mpr ⟨r, z, rfl⟩
        rw [hn] at this
        cases this
      have nLD' : L ≠ D := fun z => by rw [z, eD] at eL; cases eL
      refine ⟨_, rfl, _, rfl, D, _, rfl, DPut.t eD htk (lt_line (by omega)), ?_⟩
      rw [putK_new _ hn]
      have keepT : ∀ {G : Hp} {a : Addr} {xs : List V} {o o' : HO} {q : Addr}, G a = some (.tup xs) → G q = some o → (∀ xs, o ≠ .tup xs) → (upd G q o') a = some (.tup xs) := fun {G a xs o o' q} e1 e2 n => by
        have ne : a ≠ q := fun z => by
          rw [z, e2] at e1
          exact n _ (Option.some.inj e1)
        rw [upd_ne ne]
        exact e1
      refine ⟨_, rfl, .inl ⟨rfl, _, SqL.of (by rw [upd_ne nLD']; exact eL)⟩, _, rfl, ?_⟩
      refine ⟨L, _, _, rfl, rfl, by rw [upd_ne nLD']; exact eL, lt_line (by rw [List.length_map, hB.1]; omega), ⟨_, rfl⟩, ?_, ?_⟩
      · intro b o e
        have n1 : b ≠ L := ne_of_none e hL
        have n2 : b ≠ D := ne_of_none e hD0
        rw [upd_ne n1, upd_ne n2]
        exact sG _ _ e
      · have hB2 : TA (upd G D (.dT (kvs ++ [(keyP r, V.bl true)]))) bs Qs := ⟨hB.1, fun i a q e1 e2 => keepT (hB.2 i a q e1 e2) eD (fun _ z => nomatch z)⟩
        have pu := TPts.push (r := r) hB2 (Same.refl _) (by rw [upd_ne nLD']; exact eL) (z := t) (keepT ht eD fun _ z => nomatch z)
        obtain ⟨cs, c1, c2⟩ := pu
        have ec : bs.map V.ref ++ [V.ref t] = cs.map V.ref := by
          rw [upd_same] at c1
          exact HO.lst.inj (Option.some.inj c1)
        refine ⟨cs, Qs ++ [r], _, c1, c2, by rw [upd_ne nLD'.symm]; exact upd_same, by rw [List.length_append]; show Qs.length + 1 ≤ i + 1; omega, by rw [List.length_append, List.length_append, lk]; rfl, fun q => ?_, fun k => ?_⟩
        · rw [tk, List.mem_append, List.mem_append, mQ q]
        · rw [valV_snoc _ _ _ _ hn]
          by_cases e : k = keyP r
          · rw [if_pos e]
            exact ⟨fun _ => ⟨r, by simp, e.symm⟩, fun _ => rfl⟩
          · rw [if_neg e, mK k]
            constructor
            · rintro ⟨q, hq, eq⟩
              exact ⟨q, List.mem_append_left _ hq, eq⟩
            · rintro ⟨q, hq, eq⟩
              rcases List.mem_append.mp hq with h1 | h1
              · exact ⟨q, h1, eq⟩
              · rw [List.mem_singleton.mp h1] at eq
                exact absurd eq.symm e
    · have hs : (valV kvs (keyP r)).isSome = true := by
        cases e : valV kvs (keyP r) with
        | none => rw [e] at h; exact absurd rfl h
        | some v => rfl
      obtain ⟨q, hq, eq⟩ := (mK _).mp hs
      have e := keyP_inj eq
      subst e
      refine ⟨⟨_, rfl⟩, sG, bs, Qs, kvs, eL, hB, eD, by omega, lk, fun r => ?_, mK⟩
      rw [tk, List.mem_append, ← mQ r]
      exact ⟨.inl, fun z => z.elim id fun z => by rw [List.mem_singleton.mp z]; exact hq⟩
  · rintro σ G ⟨⟨x, rfl⟩, sG, bs, Qs, kvs, eL, hB, eD, lQ, lk, mQ, mK⟩
    rw [List.length_map, la, List.take_length] at mQ
    rw [List.length_map, la] at lQ
    exact ⟨_, rfl, q L G Qs sG ⟨bs, eL, hB⟩ mQ lQ⟩
end
theorem TPts.row {H : Hp} {p : Addr} {Ps : List (List Int)} (h : TPts H p Ps) : ∃ vs : List V, H p = some (.lst vs) ∧ vs.length = Ps.length ∧ ∀ (i : Nat) (v : V), vs[i]? = some v → ∃ (a : Addr) (r : List Int), v = .ref a ∧ Ps[i]? = some r ∧ H a = some (.tup (r.map V.int)) := by
  obtain ⟨as, e, l, h⟩ := h
  refine ⟨as.map V.ref, e, by rw [List.length_map]; exact l, fun i v ev => ?_⟩
  have hi := (List.getElem?_eq_some_iff.mp ev).1
  rw [List.length_map] at hi
  have ea : as[i]? = some as[i] := List.getElem?_eq_getElem hi
  have er : Ps[i]? = some (Ps[i]'(by omega)) := List.getElem?_eq_getElem _
  rw [map_get ea] at ev
  exact ⟨_, _, (Option.some.inj ev).symm, er, h i _ _ ea er⟩
def PR (listed : Bool) (r : List Int) : Prop := ∃ lo hi : Int, r = [lo, hi] ∧ lo ≤ hi ∧ -1000000000000000000 ≤ lo ∧ lo ≤ 1000000000000000000 ∧ (listed = true → hi ≤ lo + 3)
def spGridT (K : PySem.W.Frag) : Sp := fun vs H Q _ => ∃ (q : Addr) (Rs : List (List Int)), vs = [.ref q] ∧ Mx false true K H q Rs ∧ (∀ r ∈ Rs, PR true r) ∧ Rs.length ≤ 3 ∧ ∀ x H', Same H H' → TPts H' x (gridL Rs) → Q (.ref x) H'
theorem grid_len {Rs : List (List Int)} (h : ∀ r ∈ Rs, PR true r) : ∀ i ≤ Rs.length, (gridL (Rs.take i)).length ≤ 4 ^ i
  | 0, _ => by simp [gridL]
  | i + 1, hi => by
    have e : Rs[i]? = some (Rs[i]'(by omega)) := List.getElem?_eq_getElem _
    obtain ⟨lo, hi2, e2, h1, _, _, h3⟩ := h _ (List.getElem_mem (by omega : i < Rs.length))
    have h4 := h3 rfl
    rw [take_snoc e, gridL_app, Nat.pow_succ]
    have ih := grid_len h i (by omega)
    refine Nat.le_trans (gstep_len (m := 4) ?_ _) (Nat.mul_le_mul_right 4 ih)
    rw [e2, valsR_len]
    show (hi2 + 1 - lo).toNat ≤ 4
    omega
section
variable {P : Program} {w : World} {K : PySem.W.Frag} {mg : Str → Option Value} {base : Heap}
theorem ok_l_gridT (T : Txt w K mg) : FnOk P w K mg base CX0 1 T.a_l_grid T.d_l_grid p_l_grid (spGridT K) := by
  refine T.F_l_grid.ok sc_l_grid (fun vs H Q E h => ?_) (fun cdv A outer s H vs Q E hr h => ?_)
  · obtain ⟨q, Rs, rfl, _⟩ := h
    rfl
  obtain ⟨q, Rs, rfl, hR, hPR, lR, k⟩ := h
  refine ⟨_, (pss_cons (ps_set (i := 1) sc_l_grid.nd rfl (Or.inl rfl) (pe_lst (pa_cons (pe_tup pa_nil) pa_nil)))
      (pss_cons (ps_for PassesOwn.never rfl (pi_list (pv 0)) (pg_name (i := 2) sc_l_grid.nd rfl (Or.inl rfl))
        (pss_cons (ps_set (i := 3) sc_l_grid.nd rfl (Or.inl rfl) (pe_lst pa_nil))
      (pss_cons (ps_for PassesOwn.never rfl (pi_list (pv 1)) (pg_name (i := 4) sc_l_grid.nd rfl (Or.inl rfl))
        (pss_one (ps_for PassesOwn.never rfl (pi_range2 rfl T.z_range (pa_cons (pe_ix ix_tup (pv 2) pe_int (fun _ _ => rfl)) (pa_cons (pe_op op_add (pe_ix ix_tup (pv 2) pe_int (fun _ _ => rfl)) pe_int) pa_nil))) (pg_name (i := 5) sc_l_grid.nd rfl (Or.inl rfl))
        (pss_one (ps_expr (pe_bm PySem.F.plainAttrs_list PySem.F.slot_list_append PySem.F.type_list_append mt_append (pv 3) (pa_cons (pe_op op_catA (pv 4) (pe_tup (pa_cons (pv 5) pa_nil))) pa_nil)))))))
      (pss_one (ps_set (i := 1) sc_l_grid.nd rfl (Or.inl rfl) (pe_callTy call_list_of rfl T.z_list bt_list (pa_cons (pv 3) pa_nil)))))))
      (pss_one (ps_ret (pv 1))))), ?_⟩
  obtain ⟨vs, hv, lv, hrow⟩ := hR.row
  refine ⟨(by show 0 ≤ sizeLine; decide), fun t0 ht0 => ?_⟩
  refine ⟨(by show 1 ≤ sizeLine; decide), fun D0 hD0 => ?_⟩
  have s0 : Same H (upd (upd H t0 (.tup [])) D0 (.lst [.ref t0])) := (Same.new ht0 _).trans (Same.new hD0 _)
  have p0 : TPts (upd (upd H t0 (.tup [])) D0 (.lst [.ref t0])) D0 (gridL (Rs.take 0)) := ⟨[t0], upd_same, rfl, fun i a r e1 e2 => by
    cases i with
    | zero =>
      cases e1
      cases e2
      exact Same.new hD0 _ _ _ upd_same
    | succ i => simp at e1⟩
  generalize upd (upd H t0 (.tup [])) D0 (.lst [.ref t0]) = H0 at s0 p0
  refine ⟨_, rfl, q, rfl, ⟨vs, s0.seq hv⟩, ?_⟩
  refine for_it (walk_list (xs := vs)) (fun i σ G => ∃ (x : Addr) (u v z w : Option V), σ = [some (.ref q), some (.ref x), u, v, z, w] ∧ Same H G ∧ TPts G x (gridL (Rs.take i))) ⟨D0, none, none, none, none, rfl, s0, p0⟩ (fun i σ G _ P => by
    obtain ⟨x, u, v, z, w, _, s, _⟩ := P
    exact s.seq hv) ?_ ?_
  · rintro i y σ G G' hi ⟨x, u, v, z, w, rfl, sG, hX⟩ ⟨rfl, ey⟩
    rw [lv] at hi
    obtain ⟨b, r, rfl, er, hb⟩ := hrow i y ey
    obtain ⟨lo, hi2, rfl, hle, lo1, lo2, h3⟩ := hPR r (List.mem_of_getElem? er)
    have hi3 := h3 rfl
    have lX : ∀ p ∈ gridL (Rs.take i), p.length = i := fun p hp => by
      have := ((mem_grid (by omega) p).mp hp).1
      rw [this, List.length_take]
      omega
    have gl := grid_len hPR i (by omega)
    have gl2 : (gridL (Rs.take i)).length ≤ 64 := Nat.le_trans gl (Nat.le_trans (Nat.pow_le_pow_right (by decide) (by omega : i ≤ 3)) (by decide))
    have eT := take_snoc er
    generalize hE : gridL (Rs.take i) = Es at hX lX gl2
    refine ⟨(by show 0 ≤ sizeLine; decide), fun L hL => ?_⟩
    have sL : Same G' (upd G' L (.lst [])) := Same.new hL _
    obtain ⟨ws, hw, lw, wrow⟩ := hX.row
    refine ⟨_, rfl, x, rfl, ⟨ws, SqL.of (sL _ _ hw)⟩, ?_⟩
    have glen := gstep_len (r := [lo, hi2]) (m := 4) (by rw [valsR_len]; show (hi2 + 1 - lo).toNat ≤ 4; omega)
    have gs : ∀ {j : Nat} {p : List Int}, Es[j]? = some p → gstep [lo, hi2] (Es.take (j + 1)) = gstep [lo, hi2] (Es.take j) ++ (valsR lo hi2).map fun v => p ++ [v] := fun {j p} e => by
      unfold gstep
      rw [take_snoc e, List.flatMap_append]
      simp
    refine for_it (walk_list (xs := ws)) (fun j σ F => (∃ z w : Option V, σ = [some (.ref q), some (.ref x), some (.ref b), some (.ref L), z, w]) ∧ Same G' F ∧ TPts F L (gstep [lo, hi2] (Es.take j))) ⟨⟨z, w, rfl⟩, sL, [], upd_same, rfl, fun i a r e => by simp at e⟩ (fun j σ F _ P => SqL.of (P.2.1 _ _ hw)) ?_ ?_
    · rintro j y σ F F' hj ⟨⟨z, w, rfl⟩, sF, pF⟩ ⟨rfl, ey⟩
      rw [lw] at hj
      obtain ⟨t, pt, rfl, ep, ht⟩ := wrow j y ey
      have lpt := lX pt (List.mem_of_getElem? ep)
      have hbF : ∀ {F1 : Hp}, Same G' F1 → SqT K F1 b [.int lo, .int hi2] := fun s => Same.tup (sG.trans s) hb
      refine ⟨_, rfl, b, _, 0, _, rfl, rfl, hbF sF, rfl, _, rfl, b, _, 1, _, rfl, rfl, hbF sF, rfl, _, _, rfl, rfl, ?_⟩
      refine ⟨_, _, rfl, ⟨by omega, by omega, by omega, by omega⟩, for_range (lo := lo) (fun k σ F1 => (∃ y : Option V, σ = [some (.ref q), some (.ref x), some (.ref b), some (.ref L), some (.ref t), y]) ∧ Same G' F1 ∧ TPts F1 L (gstep [lo, hi2] (Es.take j) ++ ((valsR lo hi2).take k).map fun v => pt ++ [v])) ⟨⟨w, rfl⟩, sF, ?_⟩ ?_ ?_⟩
      · rw [List.take_zero]
        show TPts _ L (_ ++ [])
        rw [List.append_nil]
        exact pF
      · rintro k σ F1 hk ⟨⟨y, rfl⟩, sF1, pF1⟩
        have evk := valsR_get hk
        obtain ⟨bs, b1, b2, b3⟩ := id pF1
        have lb : bs.length ≤ 1000 := by
          rw [b2, List.length_append, List.length_map, List.length_take]
          have := glen (Es.take j)
          rw [List.length_take] at this
          omega
        refine ⟨_, rfl, .inl ⟨rfl, _, SqL.of b1⟩, ?_⟩
        refine ⟨_, rfl, _, rfl, (by show 1 ≤ sizeLine; decide), fun t1 ht1 => ?_⟩
        have sT := Same.new ht1 (.tup [V.int (lo + (k : Int))])
        refine catT ((sF1.trans sT) _ _ ht) upd_same (by rw [List.length_map]; show pt.length + 1 ≤ 1000; omega) fun z F2 s2 hz => ?_
        have sF2 := sT.trans s2
        refine ⟨L, _, _, rfl, rfl, sF2 _ _ b1, lt_line (by rw [List.length_map]; omega), ⟨_, rfl⟩, ?_, ?_⟩
        · intro c o e
          rw [upd_ne (ne_of_none e hL)]
          exact sF2 _ _ (sF1 _ _ e)
        · have p2 := TPts.push (r := pt ++ [lo + (k : Int)]) ⟨b2, b3⟩ sF2 (sF2 _ _ b1) (by rw [hz, List.map_append]; rfl)
          rw [take_snoc evk, List.map_append, ← List.append_assoc]
          exact p2
      · rintro σ F1 ⟨⟨y, rfl⟩, sF1, pF1⟩
        rw [← valsR_len, List.take_length, ← gs ep] at pF1
        exact ⟨⟨_, _, rfl⟩, sF1, pF1⟩
    · rintro σ F ⟨⟨z, w, rfl⟩, sF, pF⟩
      rw [lw, List.take_length] at pF
      obtain ⟨as, e1, e2⟩ := pF
      refine ⟨_, rfl, L, _, rfl, .inl (SqL.of e1), fun l hl => ?_⟩
      have sl := Same.new hl (.lst (as.map V.ref))
      refine ⟨l, _, _, _, _, rfl, sG.trans (sF.trans sl), ?_⟩
      rw [eT, gridL_app, hE]
      exact ⟨as, upd_same, e2.same sl⟩
  · rintro σ G ⟨x, u, v, z, w, rfl, sG, hX⟩
    rw [lv, List.take_length] at hX
    exact ⟨_, rfl, k x G sG hX⟩
end
/-! ### draws (as in Law18a.inc) -/
theorem ixMem {ns : List Int} {r : Int} (h0 : 0 ≤ r) (h : r < (ns.length : Int)) : ∃ u : Int, u ∈ ns ∧ atI (ns.map V.int) r = some (.int u) := by
  have e := atI_int (xs := ns.map V.int) h0 (by rw [List.length_map]; omega)
  rw [List.getElem_map] at e
  exact ⟨_, List.getElem_mem _, e⟩
theorem ints_ofQ {q : Int → Prop} {acc : List V} (h : ∀ (j : Nat) (y : V), acc[j]? = some y → ∃ k : Int, y = .int k ∧ q k) : ∃ ns : List Int, acc = ns.map V.int ∧ ∀ k ∈ ns, q k := by
  induction acc with
  | nil => exact ⟨[], rfl, fun k hk => by simp at hk⟩
  | cons y acc ih =>
    obtain ⟨k, rfl, hk⟩ := h 0 y rfl
    obtain ⟨ns, rfl, hn⟩ := ih fun j y e => h (j + 1) y (by simpa using e)
    exact ⟨k :: ns, rfl, fun z hz => by
      rcases List.mem_cons.mp hz with rfl | hz
      · exact hk
      · exact hn z hz⟩
theorem stepL_cap {M : List (List Int)} {c m : Nat} {Ps : List (List Int)} (h : (valsL M c).length ≤ m) : (stepL M c Ps).length ≤ Ps.length * m := by
  unfold stepL
  induction Ps with
  | nil => simp
  | cons p Ps ih =>
    rw [List.flatMap_cons, List.length_append, List.length_cons, Nat.add_mul]
    have h1 : (stepV M c p (valsL M c)).length ≤ m := by
      unfold stepV
      rw [List.length_map]
      exact Nat.le_trans (List.length_filter_le _ _) h
    omega
theorem ptsL_cap {M : List (List Int)} {m n : Nat} (h : ∀ c ≤ n, (valsL M c).length ≤ m) : ∀ c ≤ n, (ptsL M c).length ≤ m ^ c
  | 0, _ => by simp [ptsL]
  | c + 1, hc => by
    have ih := ptsL_cap h c (by omega)
    have := stepL_cap (Ps := ptsL M c) (h (c + 1) hc)
    rw [Nat.pow_succ]
    exact Nat.le_trans this (Nat.mul_le_mul_right m ih)
def spPickW : Sp := fun vs H Q _ => ∃ (a : Addr) (n : Int), vs = [.ref a, .int n] ∧ Src H a ∧ n < 1000000000000000000000000000000 ∧ ∀ (r : Int) (H' : Hp), Stp a H H' → 0 ≤ r → (r < n ∨ r = 0) → Q (.int r) H'
section
variable {P : Program} {w : World} {K : PySem.W.Frag} {mg : Str → Option Value} {base : Heap}
theorem ok_l_pickW (T : Txt w K mg) : FnOk P w K mg base CX0 1 T.a_l_pick T.d_l_pick p_l_pick spPickW := by
  refine T.F_l_pick.ok sc_l_pick (fun vs H Q E h => ?_) (fun cdv A outer s H vs Q E hr h => ?_)
  · obtain ⟨a, n, rfl, _⟩ := h
    rfl
  obtain ⟨a, n, rfl, ⟨c, m, k, hS⟩, hn, q⟩ := h
  refine ⟨_, (pss_cons (ps_set (i := 2) sc_l_pick.nd rfl (Or.inl rfl) (pe_ix ix_list (pv 0) pe_int (fun _ _ => rfl)))
      (pss_cons (ps_asg (pe_op op_add (pv 2) pe_int) (pg_sub (pv 0) pe_int set_list))
      (pss_cons (ps_if (pt_cmpR op_lt (pv 1) pe_int (nomark _)) (pss_one (ps_ret pe_int)) pss_nil)
      (pss_cons (ps_if (PW.pt (pw_and (pt_cmpR op_ge (pe_ix ix_list (pv 0) pe_int (fun _ _ => rfl)) (pe_op op_pow pe_int pe_int) (nomark _)) (pw_and1 (pt_cmpR op_gt (pe_ix ix_list (pv 0) pe_int (fun _ _ => rfl)) pe_int (nomark _))))) (pss_cons (ps_set (i := 3) sc_l_pick.nd rfl (Or.inl rfl) (pe_op op_modN (pe_callTy call_int1 rfl T.z_int bt_int (pa_cons (pe_ix ix_list (pv 0) pe_int (fun _ _ => rfl)) pa_nil)) (pv 1)))
      (pss_cons (ps_asg (pe_op op_fdivW (pe_ix ix_list (pv 0) pe_int (fun _ _ => rfl)) (pv 1)) (pg_sub (pv 0) pe_int set_list))
      (pss_one (ps_ret (pv 3))))) pss_nil)
      (pss_cons (ps_set (i := 4) sc_l_pick.nd rfl (Or.inl rfl) (pe_op op_modN (pe_callTy call_int1 rfl T.z_int bt_int (pa_cons (pe_op op_add (pe_op op_add (pe_ix ix_list (pv 0) pe_int (fun _ _ => rfl)) (pe_op op_mul pe_int (pv 2))) pe_int) pa_nil)) pe_int))
      (pss_cons (ps_set (i := 4) sc_l_pick.nd rfl (Or.inl rfl) (pe_op op_modN (pe_callTy call_int1 rfl T.z_int bt_int (pa_cons (pe_op op_mul (pv 4) (pe_op op_add (pv 4) pe_int)) pa_nil)) pe_int))
      (pss_cons (ps_set (i := 4) sc_l_pick.nd rfl (Or.inl rfl) (pe_op op_modN (pe_callTy call_int1 rfl T.z_int bt_int (pa_cons (pe_op op_add (pe_op op_mul (pv 4) (pe_op op_add (pv 4) pe_int)) (pe_op op_mul pe_int (pv 2))) pa_nil)) pe_int))
      (pss_one (ps_ret (pe_op op_modN (pe_callTy call_int1 rfl T.z_int bt_int (pa_cons (pe_op op_fdivN (pv 4) pe_int) pa_nil)) (pv 1))))))))))), ?_⟩
  refine ⟨_, rfl, a, _, 2, _, rfl, rfl, SqL.of hS, rfl, ?_⟩
  refine ⟨_, rfl, k, 1, rfl, rfl, _, rfl, a, _, 2, 2, rfl, rfl, hS, rfl, ?_⟩
  have h1 : (upd H a (.lst [.int c, .int m, .int (k + 1)])) a = some (.lst [.int c, .int m, .int (k + 1)]) := upd_same
  have st : Stp a H (upd H a (.lst [.int c, .int m, .int (k + 1)])) := ⟨⟨c, m, k + 1, upd_same⟩, fun b o hb e => by rw [upd_ne hb]; exact e⟩
  refine ⟨_, rfl, n, 2, rfl, rfl, _, rfl, ?_⟩
  refine ite2 (fun _ => ?_) (fun c2 => ?_)
  · exact q 0 _ st (Int.le_refl 0) (.inr rfl)
  have hn2 : ¬ n < 2 := of_decide_eq_false (Bool.eq_false_iff.mpr c2)
  refine ⟨_, rfl, a, _, 0, _, rfl, rfl, SqL.of h1, rfl, 10, 18, rfl, rfl, ⟨by decide, by decide, by decide⟩, _, _, rfl, rfl, _, rfl, ?_⟩
  refine ite2 (fun _ => ⟨_, rfl, a, _, 1, _, rfl, rfl, SqL.of h1, rfl, _, _, rfl, rfl, _, rfl, ite2 (fun _ => ?first) (fun _ => ?second)⟩) (fun _ => iteF ?third)
  case first =>
    refine ⟨_, rfl, a, _, 1, _, rfl, rfl, SqL.of h1, rfl, .inl ⟨_, rfl, ?_⟩⟩
    refine ⟨_, rfl, _, _, rfl, rfl, by omega, ?_⟩
    refine ⟨_, rfl, a, _, 1, _, rfl, rfl, SqL.of h1, rfl, _, rfl, m, n, rfl, rfl, wide_div (b := 100) (by omega) (by
      have e : (2 : Nat) ^ 100 = 1267650600228229401496703205376 := by decide
      rw [e]
      omega) (by decide) (by decide), _, rfl, a, _, 1, 1, rfl, rfl, h1, rfl, ?_⟩
    refine ⟨_, rfl, ?_⟩
    have b := fmod_bd (x := m) (m := n) (by omega)
    refine q _ _ ⟨⟨c, m / n, k + 1, upd_same⟩, fun b o hb e => ?_⟩ b.1 (.inl b.2)
    rw [upd_ne hb]
    exact st.k b o hb e
  all_goals
    refine ⟨_, rfl, a, _, 0, _, rfl, rfl, SqL.of h1, rfl, _, rfl, 7919, k, rfl, rfl, .inl ⟨by decide, by decide⟩, _, _, rfl, rfl, _, _, rfl, rfl, .inl ⟨_, rfl, ?_⟩⟩
    refine ⟨_, _, rfl, rfl, (by intro z; cases z), ?_⟩
    refine ⟨_, rfl, _, rfl, _, _, rfl, rfl, _, _, rfl, rfl, .inl (fm64 (by decide) (by decide)), .inl ⟨_, rfl, ?_⟩⟩
    refine ⟨_, _, rfl, rfl, (by intro z; cases z), ?_⟩
    refine ⟨_, rfl, _, rfl, _, _, rfl, rfl, _, _, rfl, rfl, .inl (fm64 (by decide) (by decide)), _, rfl, 31, k, rfl, rfl, .inl ⟨by decide, by decide⟩, _, _, rfl, rfl, .inl ⟨_, rfl, ?_⟩⟩
    refine ⟨_, _, rfl, rfl, (by intro z; cases z), ?_⟩
    refine ⟨_, rfl, _, _, rfl, rfl, ⟨by decide, by decide⟩, .inl ⟨_, rfl, ?_⟩⟩
    refine ⟨_, rfl, _, _, rfl, rfl, (by omega), ?_⟩
    exact q _ _ st (fmod_bd (by omega)).1 (.inl (fmod_bd (by omega)).2)
end
def InM (n : Nat) (M : List (List Int)) (r : List Int) : Prop := ∀ i < n + 1, ∀ j < n + 1, dif i j r ≤ getM M i j
theorem Mx.get {K : PySem.W.Frag} {H : Hp} {p : Addr} {M : List (List Int)} {i : Nat} {r : List Int} (h : Mx true true K H p M) (e : M[i]? = some r) : ∃ (vs : List V) (a : Addr), SqT K H p vs ∧ atI vs (i : Int) = some (.ref a) ∧ SqT K H a (r.map V.int) := h.getT e
/-! ### points at addresses; a point in a matrix -/
theorem Mx.get0 {K : PySem.W.Frag} {H : Hp} {p : Addr} {M : List (List Int)} {i : Nat} {r : List Int} (h : Mx true true K H p M) (e : M[i]? = some r) : ∃ (vs : List V) (a : Addr), SqT K H p vs ∧ atI vs (0 + (i : Int)) = some (.ref a) ∧ SqT K H a (r.map V.int) := by
  rw [Int.zero_add]
  exact h.get e
def spBelongs (K : PySem.W.Frag) : Sp := fun vs H Q _ => ∃ (p t : Addr) (M : List (List Int)) (r : List Int), vs = [.ref p, .ref t] ∧ r.length ≤ 900 ∧ Mx true true K H p M ∧ Sz (r.length + 1) M ∧ SqT K H t (r.map V.int) ∧ ∀ b H', Same H H' → (b = true ↔ InM r.length M r) → Q (.bl b) H'
section
variable {P : Program} {w : World} {K : PySem.W.Frag} {mg : Str → Option Value} {base : Heap}
theorem ok_l_belongs (T : Txt w K mg) : FnOk P w K mg base CX0 1 T.a_l_belongs T.d_l_belongs p_l_belongs (spBelongs K) := by
  refine T.F_l_belongs.ok sc_l_belongs (fun vs H Q E h => ?_) (fun cdv A outer s H vs Q E hr h => ?_)
  · obtain ⟨p, t, M, r, rfl, _⟩ := h
    rfl
  obtain ⟨p, t, M, r, rfl, hn, hM, sM, ht, q⟩ := h
  refine ⟨_, (pss_cons (ps_set (i := 2) sc_l_belongs.nd rfl (Or.inl rfl) (pe_op op_catT (pe_tup (pa_cons pe_int pa_nil)) (pv 1)))
      (pss_cons (ps_for PassesOwn.never rfl (pi_range1 rfl T.z_range (pa_cons (pe_callB call_len_seq rfl T.z_len PySem.boot_len (pa_cons (pv 2) pa_nil)) pa_nil)) (pg_name (i := 3) sc_l_belongs.nd rfl (Or.inl rfl))
        (pss_one (ps_for PassesOwn.never rfl (pi_range1 rfl T.z_range (pa_cons (pe_callB call_len_seq rfl T.z_len PySem.boot_len (pa_cons (pv 2) pa_nil)) pa_nil)) (pg_name (i := 4) sc_l_belongs.nd rfl (Or.inl rfl))
        (pss_one (ps_if (pt_cmpR op_gt (pe_op op_sub (pe_ix ix_tup (pv 2) (pv 3) (fun _ _ => rfl)) (pe_ix ix_tup (pv 2) (pv 4) (fun _ _ => rfl))) (pe_ix ix_tup (pe_ix ix_tup (pv 0) (pv 3) (fun _ _ => rfl)) (pv 4) (fun _ _ => rfl)) (nomark _)) (pss_one (ps_ret pe_bl)) pss_nil)))))
      (pss_one (ps_ret pe_bl)))), ?_⟩
  generalize hn' : r.length = n at *
  refine ⟨(by show 1 ≤ sizeLine; decide), fun t1 ht1 => ?_⟩
  refine ⟨_, rfl, cat0 (SqT.of upd_same) (Same.tup (Same.new ht1 _) ht) (by omega) fun z F sa hz => ?_⟩
  have sF : Same H F := (Same.new ht1 _).trans sa
  have hMF := hM.same sF
  have l0 : ((0 :: r).map V.int).length = n + 1 := by simp [hn']
  refine ⟨_, rfl, z, _, rfl, .inr hz, _, rfl, by omega, by omega, for_range (lo := 0) (fun i σ G => G = F ∧ (∃ b c : Option V, σ = [some (.ref p), some (.ref t), some (.ref z), b, c]) ∧ ∀ i' < i, ∀ j < n + 1, dif i' j r ≤ getM M i' j) ⟨rfl, ⟨none, none, rfl⟩, fun i' h => by omega⟩ ?_ ?_⟩
  · rintro i σ G hi ⟨rfl, ⟨b, c, rfl⟩, hA⟩
    rw [l0] at hi
    refine ⟨_, rfl, z, _, rfl, .inr hz, _, rfl, by omega, by omega, for_range (lo := 0) (fun j σ G' => G' = G ∧ (∃ c : Option V, σ = [some (.ref p), some (.ref t), some (.ref z), some (.int (0 + (i : Int))), c]) ∧ ∀ j' < j, dif i j' r ≤ getM M i j') ⟨rfl, ⟨c, rfl⟩, fun i' h => by omega⟩ ?_ ?_⟩
    · rintro j σ G' hj ⟨rfl, ⟨c', rfl⟩, hB⟩
      rw [l0] at hj
      obtain ⟨ri, ei, li, gi⟩ := sM.at2 (i := i) (j := j) (by omega) (by omega)
      obtain ⟨vs, a, k1, k2, k3⟩ := hMF.get0 ei
      refine ⟨_, rfl, _, rfl, z, _, _, _, rfl, rfl, hz, atI_row (by simp; omega), ?_⟩
      refine ⟨_, rfl, _, rfl, z, _, _, _, rfl, rfl, hz, atI_row (by simp; omega), _, _, rfl, rfl, ?_⟩
      refine ⟨_, rfl, _, rfl, p, _, _, _, rfl, rfl, k1, k2, _, rfl, a, _, _, _, rfl, rfl, k3, atI_row (by omega), _, _, rfl, rfl, _, rfl, ?_⟩
      have eg : ri.getD j 0 = getM M i j := by rw [List.getD_eq_getElem?_getD, gi]; rfl
      rw [eg]
      refine ite2 (fun h => ?_) (fun h => ?_)
      · have h' : dif i j r > getM M i j := of_decide_eq_true h
        refine q _ _ sF ⟨fun z => Bool.noConfusion z, fun z => ?_⟩
        have := z i (by omega) j (by omega)
        omega
      · have h' : ¬ dif i j r > getM M i j := of_decide_eq_false (Bool.eq_false_iff.mpr h)
        refine ⟨rfl, ⟨_, rfl⟩, split_lt.mpr ⟨hB, by omega⟩⟩
    · rintro σ G' ⟨rfl, ⟨c', rfl⟩, hB⟩
      rw [l0] at hB
      exact ⟨rfl, ⟨_, _, rfl⟩, split_lt.mpr ⟨hA, fun j hj => hB j (by omega)⟩⟩
  · rintro σ G ⟨rfl, ⟨b, c, rfl⟩, hA⟩
    rw [l0] at hA
    exact q _ _ sF ⟨fun _ i hi j hj => hA i (by omega) j hj, fun _ => rfl⟩
end
/-! ### law k22: the first points (counting as in Law18b.inc) -/
def Wth (w : Int) (r : List Int) : Prop := ∀ k ∈ r, -w ≤ k ∧ k ≤ w
theorem wth_xc {w : Int} {r : List Int} {a : Nat} (h : Wth w r) (w0 : 0 ≤ w) : -w ≤ xc r a ∧ xc r a ≤ w := by
  cases a with
  | zero => exact ⟨by show -w ≤ (0 : Int); omega, w0⟩
  | succ a =>
    rw [xc_succ, List.getD_eq_getElem?_getD]
    cases e : r[a]? with
    | none => exact ⟨by show -w ≤ (0 : Int); omega, w0⟩
    | some k => exact h k (List.mem_of_getElem? e)
theorem hull_bd {n a b : Nat} {w : Int} {Ps : List (List Int)} (ne : Ps ≠ []) (h : ∀ r ∈ Ps, Wth w r) (w0 : 0 ≤ w) (ha : a < n + 1) (hb : b < n + 1) : -(2 * w) ≤ getM (hullM n Ps) a b ∧ getM (hullM n Ps) a b ≤ 2 * w := by
  obtain ⟨r, hr, e⟩ := hull_at ne ha hb
  have h1 := wth_xc (a := a) (h r hr) w0
  have h2 := wth_xc (a := b) (h r hr) w0
  rw [← e, dif_xc]
  omega
theorem filter_one {P : Int → Bool} {w : Int} (h : ∀ v, P v = true → v = w) : ∀ {xs : List Int}, xs.Nodup → (xs.filter P).length ≤ 1
  | [], _ => by simp
  | x :: xs, nd => by
    have nd2 := List.nodup_cons.mp nd
    by_cases hx : P x = true
    · rw [List.filter_cons_of_pos hx]
      have e : xs.filter P = [] := List.filter_eq_nil_iff.mpr fun y hy py => by
        have e1 := h x hx
        have e2 := h y py
        exact nd2.1 (by rw [e1, ← e2]; exact hy)
      rw [e]
      simp
    · rw [List.filter_cons_of_neg hx]
      exact filter_one h nd2.2
theorem vals_nodup {M : List (List Int)} {c : Nat} : (valsL M c).Nodup := by
  unfold valsL
  refine List.pairwise_map.mpr ?_
  refine List.pairwise_lt_range.imp ?_
  intro a b h z
  omega
theorem stepL_capP {M : List (List Int)} {c m : Nat} : ∀ {Ps : List (List Int)}, (∀ p ∈ Ps, (stepV M c p (valsL M c)).length ≤ m) → (stepL M c Ps).length ≤ Ps.length * m
  | [], _ => by simp [stepL]
  | p :: Ps, h => by
    show ((p :: Ps).flatMap fun p => stepV M c p (valsL M c)).length ≤ _
    rw [List.flatMap_cons, List.length_append, List.length_cons, Nat.add_mul]
    have h1 := h p List.mem_cons_self
    have h2 := stepL_capP (M := M) (c := c) (m := m) (Ps := Ps) fun q hq => h q (List.mem_cons_of_mem _ hq)
    unfold stepL at h2
    omega
open Classical in
noncomputable def ind (p : Prop) : Nat := if p then 1 else 0
theorem ind_mono {p q : Prop} (h : p → q) : ind p ≤ ind q := by
  unfold ind
  split
  · rw [if_pos (h (by assumption))]
    exact Nat.le_refl _
  · omega
theorem ind_0 {p : Prop} (h : ¬ p) : ind p = 0 := if_neg h
theorem ind_1 {p : Prop} (h : p) : ind p = 1 := if_pos h
theorem ind_le {p : Prop} : ind p ≤ 1 := by
  unfold ind
  split <;> omega
/-- whether a difference was met among the first columns -/
def Met (d : Nat → Int) (c : Nat) (v : Int) : Prop := ∃ k, 1 ≤ k ∧ k ≤ c ∧ d k = v
theorem Met.up {d : Nat → Int} {c : Nat} {v : Int} (h : Met d c v) : Met d (c + 1) v := by
  obtain ⟨k, h1, h2, h3⟩ := h
  exact ⟨k, h1, by omega, h3⟩
noncomputable def cnt (d : Nat → Int) (c : Nat) : Nat := ind (Met d c (-2)) + ind (Met d c (-1)) + ind (Met d c 1) + ind (Met d c 2)
theorem cnt_up {d : Nat → Int} {c : Nat} : cnt d c ≤ cnt d (c + 1) := by
  unfold cnt
  have h1 := ind_mono (Met.up (d := d) (c := c) (v := -2))
  have h2 := ind_mono (Met.up (d := d) (c := c) (v := -1))
  have h3 := ind_mono (Met.up (d := d) (c := c) (v := 1))
  have h4 := ind_mono (Met.up (d := d) (c := c) (v := 2))
  omega
theorem cnt_new {d : Nat → Int} {c : Nat} (h : ¬ Met d c (d (c + 1))) (h0 : d (c + 1) ≠ 0) (hb : -2 ≤ d (c + 1) ∧ d (c + 1) ≤ 2) : cnt d c + 1 ≤ cnt d (c + 1) := by
  unfold cnt
  have h1 := ind_mono (Met.up (d := d) (c := c) (v := -2))
  have h2 := ind_mono (Met.up (d := d) (c := c) (v := -1))
  have h3 := ind_mono (Met.up (d := d) (c := c) (v := 1))
  have h4 := ind_mono (Met.up (d := d) (c := c) (v := 2))
  have m : Met d (c + 1) (d (c + 1)) := ⟨c + 1, by omega, by omega, rfl⟩
  have e : d (c + 1) = -2 ∨ d (c + 1) = -1 ∨ d (c + 1) = 1 ∨ d (c + 1) = 2 := by omega
  rcases e with e | e | e | e <;> rw [e] at h m <;> have a := ind_0 h <;> have b := ind_1 m <;> omega
theorem two_cap {n : Nat} {p q : List Int} (hd : ∀ k, -2 ≤ xc q k - xc p k ∧ xc q k - xc p k ≤ 2) : ∀ c ≤ n, (ptsL (hullM n [p, q]) c).length ≤ 3 ^ cnt (fun k => xc q k - xc p k) c
  | 0, _ => by
    show ([[]] : List (List Int)).length ≤ _
    exact Nat.one_le_pow _ _ (by decide)
  | c + 1, hc => by
    have ih := two_cap (n := n) hd c (by omega)
    have ne : ([p, q] : List (List Int)) ≠ [] := by simp
    have both : ∀ {a b : Nat}, a < n + 1 → b < n + 1 → getM (hullM n [p, q]) a b = max (xc p a - xc p b) (xc q a - xc q b) := fun {a b} ha hb => by
      rw [getM_hull ha hb]
      rfl
    have x0 : ∀ r : List Int, xc r 0 = 0 := fun _ => rfl
    have ml : (valsL (hullM n [p, q]) (c + 1)).length ≤ 3 := by
      rw [vals_len, both (by omega) (by omega), both (by omega) (by omega), x0, x0]
      have := hd (c + 1)
      omega
    show (stepL (hullM n [p, q]) (c + 1) (ptsL (hullM n [p, q]) c)).length ≤ _
    have one : (xc q (c + 1) - xc p (c + 1) = 0 ∨ Met (fun k => xc q k - xc p k) c (xc q (c + 1) - xc p (c + 1))) → (stepL (hullM n [p, q]) (c + 1) (ptsL (hullM n [p, q]) c)).length ≤ (ptsL (hullM n [p, q]) c).length * 1 := by
      intro h
      refine stepL_capP fun r hr => ?_
      unfold stepV
      rw [List.length_map]
      rcases h with h | ⟨k, k1, kc, h⟩
      · refine Nat.le_trans (List.length_filter_le _ _) ?_
        rw [vals_len, both (by omega) (by omega), both (by omega) (by omega), x0, x0]
        omega
      · obtain ⟨lr, _⟩ := mem_pts.mp hr
        have h' : xc q k - xc p k = xc q (c + 1) - xc p (c + 1) := h
        refine filter_one (w := r.getD (k - 1) 0 + (xc p (c + 1) - xc p k)) (fun v hv => ?_) vals_nodup
        have hf : fitP (hullM n [p, q]) (c + 1) r v := of_decide_eq_true hv
        have := hf (k - 1) (by omega)
        rw [show k - 1 + 1 = k by omega, both (by omega) (by omega), both (by omega) (by omega)] at this
        omega
    by_cases h : xc q (c + 1) - xc p (c + 1) = 0 ∨ Met (fun k => xc q k - xc p k) c (xc q (c + 1) - xc p (c + 1))
    · have h1 := one h
      have h2 : 3 ^ cnt (fun k => xc q k - xc p k) c ≤ 3 ^ cnt (fun k => xc q k - xc p k) (c + 1) := Nat.pow_le_pow_right (by decide) cnt_up
      omega
    · have h0 : ¬ xc q (c + 1) - xc p (c + 1) = 0 := fun z => h (.inl z)
      have hm : ¬ Met (fun k => xc q k - xc p k) c (xc q (c + 1) - xc p (c + 1)) := fun z => h (.inr z)
      have bd := hd (c + 1)
      have h1 := cnt_new (d := fun k => xc q k - xc p k) hm h0 bd
      have h2 : 3 ^ (cnt (fun k => xc q k - xc p k) c + 1) ≤ 3 ^ cnt (fun k => xc q k - xc p k) (c + 1) := Nat.pow_le_pow_right (by decide) h1
      have h3 := stepL_cap (Ps := ptsL (hullM n [p, q]) c) ml
      rw [Nat.pow_succ] at h2
      have h4 := Nat.mul_le_mul_right 3 ih
      omega
theorem cnt_4 {d : Nat → Int} {c : Nat} : cnt d c ≤ 4 := by
  unfold cnt
  have h1 := ind_le (p := Met d c (-2))
  have h2 := ind_le (p := Met d c (-1))
  have h3 := ind_le (p := Met d c 1)
  have h4 := ind_le (p := Met d c 2)
  omega
/-- points near a told one -/
def Nr (m : Int) (c r : List Int) : Prop := r.length = c.length ∧ ∀ k, -m ≤ xc r k - xc c k ∧ xc r k - xc c k ≤ m
structure StartP (n : Nat) (Ps : List (List Int)) : Prop where
  ne : Ps ≠ []
  c : Ps.length ≤ 5
  l : ∀ r ∈ Ps, r.length = n
  w : ∀ r ∈ Ps, Wth 2000000000 r
  s : SmallW n (hullM n Ps)
  c3 : (ptsL (hullM n Ps) n).length ≤ 3000
theorem near_wth {m : Int} {c r : List Int} (h : Nr m c r) (hc : Wth 1000000000 c) (hm : m ≤ 100) : Wth 2000000000 r := fun k hk => by
  obtain ⟨i, hi, e⟩ := List.getElem_of_mem hk
  have h1 := h.2 (i + 1)
  have h2 := wth_xc (a := i + 1) hc (by decide)
  have h3 : xc r (i + 1) = k := by rw [xc_succ, List.getD_eq_getElem?_getD, List.getElem?_eq_getElem hi, e]; rfl
  omega
theorem start_few {n : Nat} {c : List Int} {Ps : List (List Int)} (hn : n ≤ 3) (lc : c.length = n) (hc : Wth 1000000000 c) (ne : Ps ≠ []) (l : Ps.length ≤ 5) (h : ∀ r ∈ Ps, Nr 2 c r) : StartP n Ps := by
  have w := fun r hr => near_wth (h r hr) hc (by decide)
  have cap : ∀ a ≤ n, (ptsL (hullM n Ps) a).length ≤ 3000 := fun a ha => by
    have cap := ptsL_cap (M := hullM n Ps) (m := 5) (n := n) (fun a ha => by
      rw [vals_len]
      obtain ⟨r, hr, e⟩ := hull_at (n := n) ne (a := a) (b := 0) (by omega) (by omega)
      obtain ⟨s, hs, e2⟩ := hull_at (n := n) ne (a := 0) (b := a) (by omega) (by omega)
      have h1 := (h r hr).2 a
      have h2 := (h s hs).2 a
      rw [dif_xc, xc_zero] at e e2
      omega) a ha
    have : 5 ^ a ≤ 5 ^ 3 := Nat.pow_le_pow_right (by decide) (by omega)
    exact Nat.le_trans cap (Nat.le_trans this (by decide))
  refine ⟨ne, l, fun r hr => by rw [(h r hr).1, lc], w, ⟨fun a ha => ?_, fun a ha => ?_, fun a ha => Nat.le_trans (cap a ha) (by decide)⟩, cap n (Nat.le_refl _)⟩
  · have := hull_bd (n := n) ne w (by decide) (by omega) ha (a := 0)
    omega
  · have := hull_bd (n := n) ne w (by decide) ha (by omega) (b := 0)
    omega
theorem start_two {n : Nat} {c r : List Int} (lc : c.length = n) (hc : Wth 1000000000 c) (h : Nr 1 c r) : StartP n [c, r] := by
  have hcc : Nr 1 c c := ⟨rfl, fun k => by omega⟩
  have all : ∀ s ∈ [c, r], Nr 1 c s := fun s hs => by
    rcases List.mem_cons.mp hs with e | e
    · rw [e]; exact hcc
    · rw [List.mem_singleton.mp e]; exact h
  have ne : ([c, r] : List (List Int)) ≠ [] := by simp
  have w := fun s hs => near_wth (all s hs) hc (by decide)
  have cap : ∀ a ≤ n, (ptsL (hullM n [c, r]) a).length ≤ 3000 := fun a ha => by
    have cap := two_cap (n := n) (p := c) (q := r) (fun k => by have := h.2 k; omega) a ha
    have : 3 ^ cnt (fun k => xc r k - xc c k) a ≤ 3 ^ 4 := Nat.pow_le_pow_right (by decide) cnt_4
    exact Nat.le_trans cap (Nat.le_trans this (by decide))
  refine ⟨ne, by simp, fun s hs => by rw [(all s hs).1, lc], w, ⟨fun a ha => ?_, fun a ha => ?_, fun a ha => Nat.le_trans (cap a ha) (by decide)⟩, cap n (Nat.le_refl _)⟩
  · have := hull_bd (n := n) ne w (by decide) (by omega) ha (a := 0)
    omega
  · have := hull_bd (n := n) ne w (by decide) ha (by omega) (b := 0)
    omega
theorem start_wth {n : Nat} {Ps : List (List Int)} (h : StartP n Ps) : ∀ r ∈ ptsL (hullM n Ps) n, Wth 3000000000 r := fun r hr x hx => by
  obtain ⟨lr, ir⟩ := mem_pts.mp hr
  obtain ⟨k, hk, e⟩ := List.getElem_of_mem hx
  have ex : xc r (k + 1) = x := by rw [xc_succ, List.getD_eq_getElem?_getD, List.getElem?_eq_getElem hk, e]; rfl
  have h1 := ir (k + 1) (by omega) 0 (by omega) (by omega)
  have h2 := ir 0 (by omega) (k + 1) (by omega) (by omega)
  obtain ⟨s, hs, e1⟩ := hull_at (n := n) h.ne (a := k + 1) (b := 0) (by omega) (by omega)
  obtain ⟨t, ht, e2⟩ := hull_at (n := n) h.ne (a := 0) (b := k + 1) (by omega) (by omega)
  have w1 := wth_xc (a := k + 1) (h.w s hs) (by decide)
  have w2 := wth_xc (a := k + 1) (h.w t ht) (by decide)
  rw [dif_xc, xc_zero] at h1 h2 e1 e2
  omega
/-! ### law k22: the first points, drawn -/
def RNear (m : Int) (c : List Int) : Nat → V → Hp → Prop := fun j y _ => ∃ x k : Int, c[j]? = some x ∧ y = .int k ∧ -m ≤ k - x ∧ k - x ≤ m
theorem near_of {m : Int} {c : List Int} {acc : List V} {H : Hp} (m0 : 0 ≤ m) (l : acc.length = c.length) (h : ∀ (j : Nat) (y : V), acc[j]? = some y → RNear m c j y H) : ∃ r, acc = r.map V.int ∧ Nr m c r := by
  obtain ⟨r, rfl, hr⟩ := ints_ofQ (q := fun _ => True) (acc := acc) fun j y e => by
    obtain ⟨x, k, _, e2, _⟩ := h j y e
    exact ⟨k, e2, trivial⟩
  rw [List.length_map] at l
  refine ⟨r, rfl, l, fun a => ?_⟩
  cases a with
  | zero =>
    show -m ≤ (0 : Int) - 0 ∧ (0 : Int) - 0 ≤ m
    omega
  | succ j =>
    rw [xc_succ, xc_succ, List.getD_eq_getElem?_getD, List.getD_eq_getElem?_getD]
    by_cases hj : j < r.length
    · obtain ⟨x, k, e1, e2, b1, b2⟩ := h j (.int r[j]) (map_get (List.getElem?_eq_getElem hj))
      cases e2
      rw [e1, List.getElem?_eq_getElem hj]
      exact ⟨b1, b2⟩
    · rw [List.getElem?_eq_none (by omega), List.getElem?_eq_none (by omega)]
      show -m ≤ (0 : Int) - 0 ∧ (0 : Int) - 0 ≤ m
      omega
theorem TA.stp {a : Addr} {H H' : Hp} {as : List Addr} {Ps : List (List Int)} (s : Stp a H H') (hs : Src H a) (h : TA H as Ps) : TA H' as Ps := ⟨h.1, fun i b r e1 e2 => s.k _ _ (fun z => by
  obtain ⟨x, y, z2, e⟩ := hs
  have := h.2 i b r e1 e2
  rw [z, e] at this
  cases this) (h.2 i b r e1 e2)⟩
theorem TPts.stp {a p : Addr} {H H' : Hp} {Ps : List (List Int)} (s : Stp a H H') (hs : Src H a) (ne : p ≠ a) (h : TPts H p Ps) : TPts H' p Ps := by
  obtain ⟨as, e, h⟩ := h
  exact ⟨as, s.k _ _ ne e, h.stp s hs⟩
def spStart (K : PySem.W.Frag) : Sp := fun vs H Q _ => ∃ (a : Addr) (n : Nat), vs = [.ref a, .int n] ∧ Src H a ∧ n ≤ 12 ∧ ∀ p H' Ps, Stp a H H' → Pts K H' p Ps → StartP n Ps → Q (.ref p) H'
section
variable {P : Program} {w : World} {K : PySem.W.Frag} {mg : Str → Option Value} {base : Heap}
theorem ok_l_start (T : Txt w K mg) : FnOk P w K mg base CX0 2 T.a_l_start T.d_l_start p_l_start (spStart K) := by
  have g_l_pick := ok_l_pick (P := P) (w := w) (base := base) T
  refine T.F_l_start.ok sc_l_start (fun vs H Q E h => ?_) (fun cdv A outer s H vs Q E hr h => ?_)
  · obtain ⟨a, n, rfl, _⟩ := h
    rfl
  obtain ⟨a, n, rfl, hS, hn, q⟩ := h
  refine ⟨_, (pss_cons (ps_setLc (i := 2) (own := [("_law_k", 3)]) (g := gName 3) (tt := tYes) rfl sc_l_start.nd rfl rfl (sw_true rfl rfl rfl (by decide +kernel)) (pi_range1 rfl T.z_range (pa_cons (pv 1) pa_nil)) (blkOk_by (own := [("_law_k", 3)]) (N := n_l_start) (sc := defScope s_l_start) (by decide +kernel)) (fun _ _ _ _ _ => (pg_name (i := 3) sc_l_start.nd rfl (Or.inl rfl))) (fun _ _ _ _ _ => pts_nil) (fun _ _ _ _ _ => (pe_ix (show IxR _ (rIxL K) from ix_list) (pe_lst (pa_cons pe_int (pa_cons pe_int (pa_cons pe_int (pa_cons (pe_op op_pow pe_int pe_int) (pa_cons (pe_op op_sub pe_int (pe_op op_pow pe_int pe_int)) pa_nil)))))) (pe_call g_l_pick (hr.mono (by first | decide | omega)) rfl T.m_l_pick T.F_l_pick.kp T.b_l_pick .nil pass0 (pa_cons (pv 0) (pa_cons pe_int pa_nil))) (fun _ _ => rfl))))
      (pss_cons (ps_if (pt_cmpR op_gt (pv 1) pe_int (nomark _)) (pss_one (ps_ret (pe_lst (pa_cons (pe_callTy call_tuple_of rfl T.z_tuple bt_tuple (pa_cons (pv 2) pa_nil)) (pa_cons (pe_callTy call_tuple_of rfl T.z_tuple bt_tuple (pa_cons (pe_lc (own := [("_law_value", 4)]) (g := gName 4) (tt := tYes) rfl sc_l_start.nd (pi_list (pv 2)) (blkOk_by (own := [("_law_value", 4)]) (N := n_l_start) (sc := defScope s_l_start) (by decide +kernel)) (fun _ _ _ _ _ => (pg_name (i := 4) sc_l_start.nd rfl (Or.inl rfl))) (fun _ _ _ _ _ => pts_nil) (fun _ _ _ _ _ => (pe_op op_sub (pe_op op_add (pv 4) (pe_call g_l_pick (hr.mono (by first | decide | omega)) rfl T.m_l_pick T.F_l_pick.kp T.b_l_pick .nil pass0 (pa_cons (pv 0) (pa_cons pe_int pa_nil)))) pe_int))) pa_nil)) pa_nil))))) pss_nil)
      (pss_cons (ps_set (i := 5) sc_l_start.nd rfl (Or.inl rfl) (pe_lst pa_nil))
      (pss_cons (ps_for PassesOwn.never rfl (pi_range1 rfl T.z_range (pa_cons (pe_op op_add pe_int (pe_call g_l_pick (hr.mono (by first | decide | omega)) rfl T.m_l_pick T.F_l_pick.kp T.b_l_pick .nil pass0 (pa_cons (pv 0) (pa_cons (pe_op op_add (pv 1) pe_int) pa_nil)))) pa_nil)) (pg_name (i := 3) sc_l_start.nd rfl (Or.inl rfl))
        (pss_one (ps_expr (pe_bm PySem.F.plainAttrs_list PySem.F.slot_list_append PySem.F.type_list_append mt_append (pv 5) (pa_cons (pe_callTy call_tuple_of rfl T.z_tuple bt_tuple (pa_cons (pe_lc (own := [("_law_value", 4)]) (g := gName 4) (tt := tYes) rfl sc_l_start.nd (pi_list (pv 2)) (blkOk_by (own := [("_law_value", 4)]) (N := n_l_start) (sc := defScope s_l_start) (by decide +kernel)) (fun _ _ _ _ _ => (pg_name (i := 4) sc_l_start.nd rfl (Or.inl rfl))) (fun _ _ _ _ _ => pts_nil) (fun _ _ _ _ _ => (pe_op op_sub (pe_op op_add (pv 4) (pe_call g_l_pick (hr.mono (by first | decide | omega)) rfl T.m_l_pick T.F_l_pick.kp T.b_l_pick .nil pass0 (pa_cons (pv 0) (pa_cons pe_int pa_nil)))) pe_int))) pa_nil)) pa_nil)))))
      (pss_one (ps_ret (pv 5))))))), ?_⟩
  refine ⟨_, rfl, _, rfl, by omega, by omega, fun D hD => ?_⟩
  have aD : a ≠ D := hS.ne hD
  refine lc_it walk_range (LcP (fun F => Stp a H F) (fun _ y _ => ∃ k : Int, y = .int k ∧ -1000000000 ≤ k ∧ k ≤ 1000000000) D) ⟨(Stp.refl hS).new hD, [], upd_same, rfl, fun j y e => by simp at e⟩ (fun _ _ _ _ => trivial) ?_ ?_
  · rintro j x F F' hj PF ⟨rfl, rfl⟩
    refine ⟨rfl, tyes ?_⟩
    refine ⟨10, 9, rfl, rfl, ⟨by decide, by decide, by decide⟩, 10, 9, rfl, rfl, ⟨by decide, by decide, by decide⟩, _, _, rfl, rfl, (by show 5 ≤ sizeLine; decide), fun l hl => ?_⟩
    refine ⟨_, rfl, a, 5, rfl, (PF.1.new hl).s, by decide, fun r F2 st r0 r1 => ?_⟩
    have hlF : F2 l = some (.lst ([0, 0, 50, 10 ^ 9, 0 - 10 ^ 9].map V.int)) := st.k _ _ (PF.1.s.ne hl).symm upd_same
    obtain ⟨u, mu, eu⟩ := ixMem (ns := [0, 0, 50, 10 ^ 9, 0 - 10 ^ 9]) (r := r) r0 (by show r < 5; omega)
    refine ⟨l, _, r, _, rfl, rfl, SqL.of hlF, eu, ?_⟩
    have e9 : (10 : Int) ^ 9 = 1000000000 := by decide
    have bu : -1000000000 ≤ u ∧ u ≤ 1000000000 := by
      rw [e9] at mu
      simp only [List.mem_cons, List.not_mem_nil, or_false] at mu
      rcases mu with rfl | rfl | rfl | rfl | rfl <;> omega
    have s2 := (PF.1.new (o := .lst ([0, 0, 50, 10 ^ 9, 0 - 10 ^ 9].map V.int)) hl).trans st
    have nl : D ≠ l := by
      obtain ⟨_, acc, e, _⟩ := PF
      exact ne_of_none e hl
    exact lcp_step PF (fun o e => st.k _ _ aD.symm (by rw [upd_ne nl]; exact e)) (lt_line (by omega)) (fun o => s2.put hS hD) (fun _ _ _ h => h) fun _ => ⟨_, rfl, bu.1, bu.2⟩
  intro F PF
  obtain ⟨sF, acc, eD, lc, hc⟩ := PF
  obtain ⟨c, rfl, wc⟩ := ints_ofQ hc
  rw [List.length_map] at lc
  have lc' : c.length = n := by omega
  have wth : Wth 1000000000 c := fun k hk => wc k hk
  refine ⟨_, rfl, _, _, rfl, rfl, _, rfl, ite2 (fun h => ?_) (fun h => ?_)⟩
  · refine ⟨_, rfl, D, _, rfl, .inl ⟨SqL.of eD, fun t1 ht1 => ?_⟩⟩
    have s1 := sF.new (o := .tup (c.map V.int)) ht1
    have eD1 : (upd F t1 (.tup (c.map V.int))) D = some (.lst (c.map V.int)) := by rw [upd_ne (ne_of_none eD ht1)]; exact eD
    have et1 : (upd F t1 (.tup (c.map V.int))) t1 = some (.tup (c.map V.int)) := upd_same
    generalize upd F t1 (.tup (c.map V.int)) = F1 at s1 eD1 et1
    refine ⟨_, rfl, D, rfl, ⟨_, SqL.of eD1⟩, fun D2 hD2 => ?_⟩
    have nD2 : a ≠ D2 := s1.s.ne hD2
    refine lc_it (walk_list (xs := c.map V.int)) (LcP (fun G => Stp a F1 G) (RNear 1 c) D2) ⟨(Stp.refl s1.s).new hD2, [], upd_same, rfl, fun j y e => by simp at e⟩ (fun i G _ P => SqL.of (P.1.k _ _ aD.symm eD1)) ?_ ?_
    · rintro j x G G' hj PG ⟨rfl, ex⟩
      obtain ⟨k, ek, rfl⟩ := get_int ex
      rw [List.length_map] at hj
      refine ⟨rfl, tyes ?_⟩
      refine ⟨_, rfl, _, rfl, a, 3, rfl, PG.1.s, by decide, fun d G2 st d0 d1 => ?_⟩
      refine ⟨_, _, rfl, rfl, _, _, rfl, rfl, ?_⟩
      exact lcp_step PG (fun o e => st.k _ _ nD2.symm e) (lt_line (by omega)) (fun o => (PG.1.trans st).put s1.s hD2) (fun _ _ _ h => h) fun _ => ⟨k, _, ek, rfl, by omega, by omega⟩
    · intro G PG
      obtain ⟨sG, acc, e2, l2, h2⟩ := PG
      obtain ⟨r, rfl, nr⟩ := near_of (m := 1) (c := c) (by decide) (by rw [l2, List.length_map]) h2
      refine ⟨D2, _, rfl, .inl ⟨SqL.of e2, fun t2 ht2 => ?_⟩⟩
      refine ⟨(by show 2 ≤ sizeLine; decide), fun L hL => ?_⟩
      have n21 : t1 ≠ a := fun z => by
        obtain ⟨x, y, z2, e⟩ := s1.s
        rw [← z, et1] at e
        cases e
      have g1 := Same.new hL (.lst [V.ref t1, V.ref t2])
      have a1 := g1 _ _ (Same.new ht2 (.tup (r.map V.int)) _ _ (sG.k _ _ n21 et1))
      have a2 := g1 _ _ (show (upd G t2 (.tup (r.map V.int))) t2 = some (.tup (r.map V.int)) from upd_same)
      refine q L _ [c, r] (((s1.trans sG).new ht2).new hL) ⟨[t1, t2], upd_same, rfl, fun i x y e1 e2 => ?_⟩ (start_two lc' wth nr)
      match i, e1, e2 with
      | 0, e1, e2 =>
        cases e1
        cases e2
        exact SqT.of a1
      | 1, e1, e2 =>
        cases e1
        cases e2
        exact SqT.of a2
      | i + 2, e1, _ => simp at e1
  · have h3 : n ≤ 3 := by
      have : ¬ (n : Int) > 3 := of_decide_eq_false (Bool.eq_false_iff.mpr h)
      omega
    refine ⟨(by show 0 ≤ sizeLine; decide), fun L hL => ?_⟩
    have aL : a ≠ L := sF.s.ne hL
    have hL0 : H L = none := sF.free hL
    have eDL : (upd F L (.lst [])) D = some (.lst (c.map V.int)) := by rw [upd_ne (ne_of_none eD hL)]; exact eD
    refine ⟨_, rfl, _, rfl, _, _, rfl, rfl, a, _, rfl, (sF.new hL).s, by omega, fun m H2 st2 m0 m1 => ?_⟩
    have s2 := (sF.new (o := .lst []) hL).trans st2
    have e2 := st2.k _ _ aD.symm eDL
    refine ⟨_, _, rfl, rfl, _, rfl, by omega, by omega, for_range (lo := 0) (fun i σ G => (∃ x y : Option V, σ = [some (.ref a), some (.int n), some (.ref D), x, y, some (.ref L)]) ∧ Stp a H G ∧ G D = some (.lst (c.map V.int)) ∧ ∃ Ps : List (List Int), TPts G L Ps ∧ Ps.length = i ∧ ∀ r ∈ Ps, Nr 2 c r)
      ⟨⟨none, none, rfl⟩, s2, e2, [], TPts.nil (st2.k _ _ aL.symm upd_same), rfl, fun r hr => by simp at hr⟩ ?_ ?_⟩
    · rintro i σ G hi ⟨⟨x, y, rfl⟩, sG, eG, Ps, tP, lP, nP⟩
      obtain ⟨as, eL, hA⟩ := id tP
      refine ⟨_, rfl, .inl ⟨rfl, _, SqL.of eL⟩, ?_⟩
      refine ⟨_, rfl, D, rfl, ⟨_, SqL.of eG⟩, fun D2 hD2 => ?_⟩
      have nD2 : a ≠ D2 := sG.s.ne hD2
      refine lc_it (walk_list (xs := c.map V.int)) (LcP (fun G2 => Stp a G G2) (RNear 2 c) D2) ⟨(Stp.refl sG.s).new hD2, [], upd_same, rfl, fun j y e => by simp at e⟩ (fun i G _ P => SqL.of (P.1.k _ _ aD.symm eG)) ?_ ?_
      · rintro j x F1 F2 hj PG ⟨rfl, ex⟩
        obtain ⟨k, ek, rfl⟩ := get_int ex
        rw [List.length_map] at hj
        refine ⟨rfl, tyes ?_⟩
        refine ⟨_, rfl, _, rfl, a, 5, rfl, PG.1.s, by decide, fun d G2 st d0 d1 => ?_⟩
        refine ⟨_, _, rfl, rfl, _, _, rfl, rfl, ?_⟩
        exact lcp_step PG (fun o e => st.k _ _ nD2.symm e) (lt_line (by omega)) (fun o => (PG.1.trans st).put sG.s hD2) (fun _ _ _ h => h) fun _ => ⟨k, _, ek, rfl, by omega, by omega⟩
      · intro G1 PG
        obtain ⟨sG1, acc, e2, l2, h2⟩ := PG
        obtain ⟨r, rfl, nr⟩ := near_of (m := 2) (c := c) (by decide) (by rw [l2, List.length_map]) h2
        refine ⟨D2, _, rfl, .inl ⟨SqL.of e2, fun t2 ht2 => ?_⟩⟩
        have sT := sG1.new (o := .tup (r.map V.int)) ht2
        have eL2 := sT.k _ _ aL.symm eL
        refine ⟨L, _, _, rfl, rfl, eL2, lt_line (by rw [List.length_map, hA.1]; omega), ⟨_, _, rfl⟩, (sG.trans sT).put hS hL0, ?_, Ps ++ [r], TPts.push (hA.stp sT sG.s) (Same.refl _) eL2 upd_same, by rw [List.length_append, lP]; rfl, fun q hq => ?_⟩
        · have nDL : D ≠ L := fun z => by rw [z] at eDL; rw [upd_same] at eDL; exact absurd hL (by rw [← z, eD]; intro z; cases z)
          rw [upd_ne nDL]
          exact sT.k _ _ aD.symm eG
        · rcases List.mem_append.mp hq with h1 | h1
          · exact nP q h1
          · rw [List.mem_singleton.mp h1]; exact nr
    · rintro σ G ⟨⟨x, y, rfl⟩, sG, eG, Ps, tP, lP, nP⟩
      exact ⟨_, rfl, q L G Ps sG tP.pts (start_few h3 lc' wth (fun z => by rw [z] at lP; simp at lP; omega) (by omega) nP)⟩
end
/-! ### law k22: parts, columns, moved points -/
theorem slT_loT {K : PySem.W.Frag} {H : Hp} {a : Addr} {r : List Int} {c : Int} {Q : VK} (k : Nat) (ec : c = (k : Int)) (h : SqT K H a (r.map V.int)) (h0 : 0 < k) (hk : k ≤ r.length) (q : ∀ p H', Same H H' → H' p = some (.tup ((r.drop k).map V.int)) → Q (.ref p) H') : rSlT K (.ref a) (some c) none H Q := by
  subst ec
  have ec : cutV (r.map V.int) (some (k : Int)) none = (r.drop k).map V.int := by
    rw [cut_lo (by omega) (by rw [List.length_map]; omega), List.map_drop, Int.toNat_natCast]
  refine ⟨a, _, rfl, h, ?_, fun p hp => ?_⟩
  · rintro ⟨z, _⟩
    have e1 : HT.sIx (r.map V.int).length 0 (some (k : Int)) = min k (r.map V.int).length := HT.sIx_nat _ _ k
    rw [e1, List.length_map] at z
    omega
  · refine q p _ (Same.new hp _) ?_
    rw [← ec]
    exact upd_same
theorem slT_hiT {K : PySem.W.Frag} {H : Hp} {a : Addr} {r : List Int} {c : Int} {Q : VK} (k : Nat) (ec : c = (k : Int)) (h : SqT K H a (r.map V.int)) (hk : k < r.length) (q : ∀ p H', Same H H' → H' p = some (.tup ((r.take k).map V.int)) → Q (.ref p) H') : rSlT K (.ref a) none (some c) H Q := by
  subst ec
  have ec : cutV (r.map V.int) none (some (k : Int)) = (r.take k).map V.int := by
    rw [cut_hi (by omega) (by rw [List.length_map]; omega), List.map_take, Int.toNat_natCast]
  refine ⟨a, _, rfl, h, ?_, fun p hp => ?_⟩
  · rintro ⟨_, z⟩
    have e1 : HT.sIx (r.map V.int).length (r.map V.int).length (some (k : Int)) = min k (r.map V.int).length := HT.sIx_nat _ _ k
    rw [e1, List.length_map] at z
    omega
  · refine q p _ (Same.new hp _) ?_
    rw [← ec]
    exact upd_same
theorem put_tup {r : List Int} {k : Nat} {c : Int} (hk : k < r.length) : r.take k ++ [c] ++ r.drop (k + 1) = r.set k c := by
  rw [List.set_eq_take_append_cons_drop, if_pos hk, List.append_assoc]
  rfl
def movP (free : Bool) (k : Nat) (r : List Int) (v : Int) : List Int := r.set k (if free = true then v else r.getD k 0 + v)
def movL (free : Bool) (k : Nat) (lo hi : Int) (Ps : List (List Int)) : List (List Int) := Ps.flatMap fun r => (valsR lo hi).map (movP free k r)
theorem movL_len {free : Bool} {k m : Nat} {lo hi : Int} (h : (hi + 1 - lo).toNat ≤ m) : ∀ Ps : List (List Int), (movL free k lo hi Ps).length ≤ Ps.length * m
  | [] => by simp [movL]
  | p :: Ps => by
    have ih := movL_len (free := free) (k := k) h Ps
    unfold movL at ih ⊢
    rw [List.flatMap_cons, List.length_append, List.length_map, valsR_len, List.length_cons, Nat.add_mul]
    omega
theorem mem_movL {free : Bool} {k : Nat} {lo hi : Int} {Ps : List (List Int)} {q : List Int} : q ∈ movL free k lo hi Ps ↔ ∃ r ∈ Ps, ∃ v, lo ≤ v ∧ v ≤ hi ∧ q = movP free k r v := by
  unfold movL
  rw [List.mem_flatMap]
  constructor
  · rintro ⟨r, hr, h⟩
    obtain ⟨v, hv, e⟩ := List.mem_map.mp h
    have := mem_valsR.mp hv
    exact ⟨r, hr, v, this.1, this.2, e.symm⟩
  · rintro ⟨r, hr, v, h1, h2, e⟩
    exact ⟨r, hr, List.mem_map.mpr ⟨v, mem_valsR.mpr ⟨h1, h2⟩, e.symm⟩⟩
def spMovd (K : PySem.W.Frag) : Sp := fun vs H Q _ => ∃ (p : Addr) (Ps : List (List Int)) (n k : Nat) (lo hi : Int) (free : Bool), vs = [.ref p, .int ((k + 1 : Nat) : Int), .int lo, .int hi, .bl free] ∧ TPts H p Ps ∧ (∀ r ∈ Ps, r.length = n) ∧ k < n ∧ n ≤ 900 ∧ Ps.length ≤ 3000 ∧ hi ≤ lo + 20 ∧ -1000000000000 ≤ lo ∧ lo ≤ 1000000000000 ∧ -1000000000000 ≤ hi ∧
  ∀ q H', Same H H' → TPts H' q (movL free k lo hi Ps) → Q (.ref q) H'
section
variable {P : Program} {w : World} {K : PySem.W.Frag} {mg : Str → Option Value} {base : Heap}
theorem ok_l_moved_points (T : Txt w K mg) : FnOk P w K mg base CX0 1 T.a_l_moved_points T.d_l_moved_points p_l_moved_points (spMovd K) := by
  refine T.F_l_moved_points.ok sc_l_moved_points (fun vs H Q E h => ?_) (fun cdv A outer s H vs Q E hr h => ?_)
  · obtain ⟨p, Ps, n, k, lo, hi, free, rfl, _⟩ := h
    rfl
  obtain ⟨p, Ps, n, k, lo, hi, free, rfl, hP, fl, hk, hn, lP, h20, lo1, lo2, hi1, q⟩ := h
  refine ⟨_, (pss_cons (ps_set (i := 5) sc_l_moved_points.nd rfl (Or.inl rfl) (pe_lst pa_nil))
      (pss_cons (ps_for PassesOwn.never rfl (pi_list (pv 0)) (pg_name (i := 6) sc_l_moved_points.nd rfl (Or.inl rfl))
        (pss_one (ps_for PassesOwn.never rfl (pi_range2 rfl T.z_range (pa_cons (pv 2) (pa_cons (pe_op op_add (pv 3) pe_int) pa_nil))) (pg_name (i := 7) sc_l_moved_points.nd rfl (Or.inl rfl))
        (pss_one (ps_if (pt_val (pv 4)) (pss_one (ps_expr (pe_bm PySem.F.plainAttrs_list PySem.F.slot_list_append PySem.F.type_list_append mt_append (pv 5) (pa_cons (pe_op op_catA (pe_op op_catA (pe_slice sl_tup (pv 6) po_none (po_some (pe_op op_sub (pv 1) pe_int))) (pe_tup (pa_cons (pv 7) pa_nil))) (pe_slice sl_tup (pv 6) (po_some (pv 1)) po_none)) pa_nil)))) (pss_one (ps_expr (pe_bm PySem.F.plainAttrs_list PySem.F.slot_list_append PySem.F.type_list_append mt_append (pv 5) (pa_cons (pe_op op_catA (pe_op op_catA (pe_slice sl_tup (pv 6) po_none (po_some (pe_op op_sub (pv 1) pe_int))) (pe_tup (pa_cons (pe_op op_add (pe_ix ix_tup (pv 6) (pe_op op_sub (pv 1) pe_int) (fun _ _ => rfl)) (pv 7)) pa_nil))) (pe_slice sl_tup (pv 6) (po_some (pv 1)) po_none)) pa_nil)))))))))
      (pss_one (ps_ret (pv 5))))), ?_⟩
  refine ⟨(by show 0 ≤ sizeLine; decide), fun L hL => ?_⟩
  have sL : Same H (upd H L (.lst [])) := Same.new hL _
  obtain ⟨vs, hv, lv, hrow⟩ := hP.row
  refine ⟨_, rfl, p, rfl, ⟨vs, SqL.of (sL _ _ hv)⟩, ?_⟩
  refine for_it (walk_list (xs := vs)) (fun j σ F => (∃ y z : Option V, σ = [some (.ref p), some (.int ((k + 1 : Nat) : Int)), some (.int lo), some (.int hi), some (.bl free), some (.ref L), y, z]) ∧ Same H F ∧ TPts F L (movL free k lo hi (Ps.take j))) ⟨⟨none, none, rfl⟩, sL, TPts.nil upd_same⟩ (fun j σ F _ P => SqL.of (P.2.1 _ _ hv)) ?_ ?_
  · rintro j y σ F0 F hj ⟨⟨y0, z, rfl⟩, sF, pF⟩ ⟨rfl, ey⟩
    rw [lv] at hj
    obtain ⟨t, r, rfl, ep, ht⟩ := hrow j y ey
    have lr := fl r (List.mem_of_getElem? ep)
    have gs : movL free k lo hi (Ps.take (j + 1)) = movL free k lo hi (Ps.take j) ++ (valsR lo hi).map (movP free k r) := by
      unfold movL
      rw [take_snoc ep, List.flatMap_append]
      simp
    have capA := movL_len (free := free) (k := k) (m := 21) (lo := lo) (hi := hi) (by omega) (Ps.take j)
    rw [List.length_take] at capA
    refine ⟨_, rfl, _, rfl, _, _, rfl, rfl, ?_⟩
    refine ⟨_, _, rfl, ⟨by omega, by omega, by omega, by omega⟩, for_range (lo := lo) (fun i σ F1 => (∃ z : Option V, σ = [some (.ref p), some (.int ((k + 1 : Nat) : Int)), some (.int lo), some (.int hi), some (.bl free), some (.ref L), some (.ref t), z]) ∧ Same H F1 ∧ TPts F1 L (movL free k lo hi (Ps.take j) ++ ((valsR lo hi).take i).map (movP free k r))) ⟨⟨z, rfl⟩, sF, by rw [List.take_zero, List.map_nil, List.append_nil]; exact pF⟩ ?_ ?_⟩
    · rintro i σ G hi2 ⟨⟨z, rfl⟩, sG, pG⟩
      have evk := valsR_get hi2
      obtain ⟨bs, b1, b2⟩ := id pG
      have lb : bs.length ≤ 100000 := by
        rw [b2.1, List.length_append, List.length_map, List.length_take, valsR_len]
        omega
      have tk : (valsR lo hi).take (i + 1) = (valsR lo hi).take i ++ [lo + (i : Int)] := take_snoc evk
      have htG : ∀ {G1 : Hp}, Same G G1 → SqT K G1 t (r.map V.int) := fun s => SqT.of (s _ _ (sG _ _ ht))
      have fin : ∀ (v : Int) (z2 : Addr) (F5 : Hp) (R : Prop), Same G F5 → F5 z2 = some (.tup ((r.set k v).map V.int)) → movP free k r (lo + (i : Int)) = r.set k v → (∀ F6 : Hp, F6 = upd F5 L (.lst (bs.map V.ref ++ [.ref z2])) → Same H F6 → TPts F6 L (movL free k lo hi (Ps.take j) ++ ((valsR lo hi).take (i + 1)).map (movP free k r)) → R) → R := fun v z2 F5 R s5 h5 e q => by
        refine q _ rfl (fun c u e => ?_) ?_
        · rw [upd_ne (ne_of_none e hL)]
          exact s5 _ _ (sG _ _ e)
        · rw [tk, List.map_append, ← List.append_assoc]
          show TPts _ L (_ ++ [movP free k r (lo + (i : Int))])
          rw [e]
          exact TPts.push b2 s5 (s5 _ _ b1) h5
      have atk : atI (r.map V.int) (((k + 1 : Nat) : Int) - 1) = some (.int (r.getD k 0)) := by
        have h := atI_row (r := r) (i := k) (by omega)
        rw [Int.zero_add] at h
        have e : (((k + 1 : Nat) : Int) - 1) = (k : Int) := by omega
        rwa [e]
      refine ⟨_, rfl, _, rfl, ite2 (fun hf => ?_) (fun hf => ?_)⟩
      · refine ⟨_, rfl, .inl ⟨rfl, _, SqL.of b1⟩, ?_⟩
        refine ⟨_, rfl, _, rfl, _, _, rfl, rfl, _, rfl, ?_⟩
        refine slT_hiT (c := ((k + 1 : Nat) : Int) - 1) k (by omega) (htG (Same.refl _)) (by omega) fun q1 F1 t1 h1 => ?_
        refine ⟨_, rfl, (by show 1 ≤ sizeLine; decide), fun x1 hx1 => ?_⟩
        have sx := Same.new hx1 (.tup [V.int (lo + (i : Int))])
        refine catT (sx _ _ h1) upd_same (by rw [List.length_map, List.length_take]; show min k r.length + 1 ≤ 1000; omega) fun z1 F3 s3 hz1 => ?_
        refine ⟨_, rfl, _, rfl, _, rfl, ?_⟩
        dsimp only [tNoPart]
        refine slT_loT (k + 1) rfl (htG ((t1.trans sx).trans s3)) (by omega) (by omega) fun w F4 s4 hw => ?_
        refine catT (s4 _ _ hz1) hw (by rw [List.length_append, List.length_map, List.length_map, List.length_take, List.length_drop]; show min k r.length + 1 + _ ≤ 1000; omega) fun z2 F5 s5 hz2 => ?_
        have sA := (((t1.trans sx).trans s3).trans s4).trans s5
        refine ⟨L, _, _, rfl, rfl, sA _ _ b1, lt_line (by rw [List.length_map]; omega), ?_⟩
        refine fin (lo + (i : Int)) z2 F5 _ sA ?_ ?_ fun F6 e6 S6 P6 => ?_
        · rw [hz2, ← put_tup (r := r) (k := k) (c := lo + (i : Int)) (by omega), List.map_append, List.map_append]
          rfl
        · unfold movP
          rw [if_pos hf]
        · subst e6
          exact ⟨⟨_, rfl⟩, S6, P6⟩
      · refine ⟨_, rfl, .inl ⟨rfl, _, SqL.of b1⟩, ?_⟩
        refine ⟨_, rfl, _, rfl, _, _, rfl, rfl, _, rfl, ?_⟩
        refine slT_hiT (c := ((k + 1 : Nat) : Int) - 1) k (by omega) (htG (Same.refl _)) (by omega) fun q1 F1 t1 h1 => ?_
        refine ⟨_, rfl, _, rfl, _, _, rfl, rfl, t, _, _, _, rfl, rfl, htG t1, atk, _, rfl, _, _, rfl, rfl, (by show 1 ≤ sizeLine; decide), fun x1 hx1 => ?_⟩
        have sx := Same.new hx1 (.tup [V.int (r.getD k 0 + (lo + (i : Int)))])
        refine catT (sx _ _ h1) upd_same (by rw [List.length_map, List.length_take]; show min k r.length + 1 ≤ 1000; omega) fun z1 F3 s3 hz1 => ?_
        refine ⟨_, rfl, _, rfl, _, rfl, ?_⟩
        dsimp only [tNoPart]
        refine slT_loT (k + 1) rfl (htG ((t1.trans sx).trans s3)) (by omega) (by omega) fun w F4 s4 hw => ?_
        refine catT (s4 _ _ hz1) hw (by rw [List.length_append, List.length_map, List.length_map, List.length_take, List.length_drop]; show min k r.length + 1 + _ ≤ 1000; omega) fun z2 F5 s5 hz2 => ?_
        have sA := (((t1.trans sx).trans s3).trans s4).trans s5
        refine ⟨L, _, _, rfl, rfl, sA _ _ b1, lt_line (by rw [List.length_map]; omega), ?_⟩
        refine fin (r.getD k 0 + (lo + (i : Int))) z2 F5 _ sA ?_ ?_ fun F6 e6 S6 P6 => ?_
        · rw [hz2, ← put_tup (r := r) (k := k) (c := r.getD k 0 + (lo + (i : Int))) (by omega), List.map_append, List.map_append]
          rfl
        · unfold movP
          rw [if_neg hf]
        · subst e6
          exact ⟨⟨_, rfl⟩, S6, P6⟩
    · rintro σ G ⟨⟨z, rfl⟩, sG, pG⟩
      rw [← valsR_len, List.take_length, ← gs] at pG
      exact ⟨⟨_, _, rfl⟩, sG, pG⟩
  · rintro σ F ⟨⟨y, z, rfl⟩, sF, pF⟩
    rw [lv, List.take_length] at pF
    exact ⟨_, rfl, q L F sF pF⟩
end
/-! ### law k22: parts, columns, a box near a point -/
def spPartT (K : PySem.W.Frag) : Sp := fun vs H Q _ => ∃ (t p : Addr) (r : List Int) (cs : List Nat), vs = [.ref t, .ref p] ∧ SqT K H t (r.map V.int) ∧ SqT K H p (natsV cs) ∧ (∀ c ∈ cs, 1 ≤ c ∧ c ≤ r.length) ∧ cs.length ≤ 100 ∧
  ∀ q H', Same H H' → H' q = some (.tup ((partL r cs).map V.int)) → Q (.ref q) H'
def spCols22 : Sp := fun vs H Q _ => ∃ (a : Addr) (n u : Nat), vs = [.ref a, .int n, .int u] ∧ Src H a ∧ n ≤ 20 ∧ u ≤ 9 ∧ ∀ q H' cs, Stp a H H' → H q = none → H' q = some (.tup (natsV cs)) → (∀ c ∈ cs, 1 ≤ c ∧ c ≤ n) → cs.length ≤ 9 → Q (.ref q) H'
def spNearB (K : PySem.W.Frag) : Sp := fun vs H Q _ => ∃ (a t : Addr) (r : List Int), vs = [.ref a, .ref t] ∧ Src H a ∧ H t = some (.tup (r.map V.int)) ∧ r.length ≤ 20 ∧ ∀ v H' B, Stp a H H' → BoxAt K H' v B → BSz (r.length + 1) B → Q v H'
def spFew (K : PySem.W.Frag) : Sp := fun vs H Q _ => ∃ (p : Addr) (xs : List V) (n : Nat), vs = [.ref p, .int n] ∧ SqL K H p xs ∧ n ≤ 900 ∧ Q (.bl (decide ((xs.length : Int) * (n + 1) * (n + 1) ≤ 3000))) H
theorem nats_of {q : Nat → Prop} {acc : List V} (h : ∀ (j : Nat) (y : V), acc[j]? = some y → ∃ k : Nat, y = .int k ∧ q k) : ∃ ns : List Nat, acc = natsV ns ∧ ∀ k ∈ ns, q k := by
  induction acc with
  | nil => exact ⟨[], rfl, fun k hk => by simp at hk⟩
  | cons y acc ih =>
    obtain ⟨k, rfl, hk⟩ := h 0 y rfl
    obtain ⟨ns, rfl, hn⟩ := ih fun j y e => h (j + 1) y (by simpa using e)
    exact ⟨k :: ns, rfl, fun z hz => by
      rcases List.mem_cons.mp hz with rfl | hz
      · exact hk
      · exact hn z hz⟩
section
variable {P : Program} {w : World} {K : PySem.W.Frag} {mg : Str → Option Value} {base : Heap}
theorem ok_l_partT (T : Txt w K mg) : FnOk P w K mg base CX0 1 T.a_l_part T.d_l_part p_l_part (spPartT K) := by
  refine T.F_l_part.ok sc_l_part (fun vs H Q E h => ?_) (fun cdv A outer s H vs Q E hr h => ?_)
  · obtain ⟨t, p, r, cs, rfl, _⟩ := h
    rfl
  obtain ⟨t, p, r, cs, rfl, ht, hp, hc, lc, q⟩ := h
  refine ⟨_, (pss_one (ps_ret (pe_callTy call_tuple_of rfl T.z_tuple bt_tuple (pa_cons (pe_lc (own := [("_law_c", 2)]) (g := gName 2) (tt := tYes) rfl sc_l_part.nd (pi_tup (pv 1)) (blkOk_by (own := [("_law_c", 2)]) (N := n_l_part) (sc := defScope s_l_part) (by decide +kernel)) (fun _ _ _ _ _ => (pg_name (i := 2) sc_l_part.nd rfl (Or.inl rfl))) (fun _ _ _ _ _ => pts_nil) (fun _ _ _ _ _ => (pe_ix (show IxR _ (rIxT K) from ix_tup) (pv 0) (pe_op op_sub (pv 2) pe_int) (fun _ _ => rfl)))) pa_nil)))), ?_⟩
  have ln : (natsV cs).length = cs.length := by simp [natsV]
  refine ⟨_, rfl, p, rfl, ⟨_, hp⟩, fun D hD => ?_⟩
  refine lc_it (walk_tup (xs := natsV cs)) (LcP (Same H) (RInt (partL r cs)) D) (lcp_start hD) (fun i G _ P => Same.tup P.1 hp) ?_ ?_
  · rintro i x G G' hi P ⟨rfl, ex⟩
    rw [ln] at hi
    have ec : cs[i]? = some cs[i] := List.getElem?_eq_getElem hi
    have hci := hc _ (List.getElem_mem hi)
    generalize cs[i] = c at ec hci
    have ex' : x = .int (c : Int) := by
      unfold natsV at ex
      rw [map_get ec] at ex
      exact (Option.some.inj ex).symm
    subst ex'
    refine ⟨rfl, tyes ?_⟩
    have at0 : atI (r.map V.int) ((c : Int) - 1) = some (.int (r.getD (c - 1) 0)) := by
      have h := atI_row (r := r) (i := c - 1) (by omega)
      rw [Int.zero_add] at h
      have e : (((c - 1 : Nat)) : Int) = (c : Int) - 1 := by omega
      rwa [e] at h
    refine ⟨_, rfl, _, rfl, _, _, rfl, rfl, t, _, _, _, rfl, rfl, Same.tup P.1 ht, at0, ?_⟩
    exact lcp_same P hD (Same.refl _) (lt_line (by omega)) RInt.mono ⟨_, map_get ec, rfl⟩
  · intro G P
    refine ⟨D, _, rfl, .inl ⟨SqL.of (lcp_ints (K := K) P (by rw [ln]; simp [partL])), fun l hl => ?_⟩⟩
    exact q l _ (P.1.trans (Same.new hl _)) upd_same
theorem ok_l_columns22 (T : Txt w K mg) : FnOk P w K mg base CX0 2 T.a_l_columns T.d_l_columns p_l_columns spCols22 := by
  have g_l_pick := ok_l_pick (P := P) (w := w) (base := base) T
  refine T.F_l_columns.ok sc_l_columns (fun vs H Q E h => ?_) (fun cdv A outer s H vs Q E hr h => ?_)
  · obtain ⟨a, n, u, rfl, _⟩ := h
    rfl
  obtain ⟨a, n, u, rfl, hS, hn, hu, q⟩ := h
  refine ⟨_, (pss_cons (ps_set (i := 3) sc_l_columns.nd rfl (Or.inl rfl) (pe_lst pa_nil))
      (C8.pss_cut (ps_if (pt_cmpR op_gt (pv 1) pe_int (nomark _)) (pss_one (ps_setLc (i := 3) (own := [("_law_k", 4)]) (g := gName 4) (tt := tYes) rfl sc_l_columns.nd rfl rfl (sw_true rfl rfl rfl (by decide +kernel)) (pi_range1 rfl T.z_range (pa_cons (pe_call g_l_pick (hr.mono (by first | decide | omega)) rfl T.m_l_pick T.F_l_pick.kp T.b_l_pick .nil pass0 (pa_cons (pv 0) (pa_cons (pe_op op_add (pv 2) pe_int) pa_nil))) pa_nil)) (blkOk_by (own := [("_law_k", 4)]) (N := n_l_columns) (sc := defScope s_l_columns) (by decide +kernel)) (fun _ _ _ _ _ => (pg_name (i := 4) sc_l_columns.nd rfl (Or.inl rfl))) (fun _ _ _ _ _ => pts_nil) (fun _ _ _ _ _ => (pe_op op_add pe_int (pe_call g_l_pick (hr.mono (by first | decide | omega)) rfl T.m_l_pick T.F_l_pick.kp T.b_l_pick .nil pass0 (pa_cons (pv 0) (pa_cons (pv 1) pa_nil))))))) pss_nil)
      (pss_one (ps_ret (pe_callTy call_tuple_of rfl T.z_tuple bt_tuple (pa_cons (pv 3) pa_nil)))))), ?_⟩
  refine ⟨(by show 0 ≤ sizeLine; decide), fun p hp => ?_⟩
  have s0 : Stp a H (upd H p (.lst [])) := (Stp.refl hS).new hp
  refine ⟨fun σ G => ∃ (c : Addr) (z : Option V) (cs : List Nat), σ = [some (.ref a), some (.int n), some (.int u), some (.ref c), z] ∧ Stp a H G ∧ G c = some (.lst (natsV cs)) ∧ (∀ c ∈ cs, 1 ≤ c ∧ c ≤ n) ∧ cs.length ≤ 9, ?_, ?_⟩
  · refine ⟨_, rfl, _, _, rfl, rfl, _, rfl, ite2 (fun h0 => ?_) (fun h0 => ?_)⟩
    · have h0' : 0 < n := by
        have : (n : Int) > 0 := of_decide_eq_true h0
        omega
      refine ⟨_, rfl, _, rfl, _, _, rfl, rfl, a, _, rfl, s0.s, by omega, fun m H1 st1 m0 m1 => ?_⟩
      obtain ⟨m, rfl⟩ : ∃ k : Nat, m = (k : Int) := ⟨m.toNat, by omega⟩
      have s1 := s0.trans st1
      refine ⟨_, rfl, by omega, by omega, fun D hD => ?_⟩
      have nD : a ≠ D := s1.s.ne hD
      refine lc_it walk_range (LcP (fun F => Stp a H1 F) (fun _ y _ => ∃ k : Nat, y = .int k ∧ 1 ≤ k ∧ k ≤ n) D) ⟨(Stp.refl s1.s).new hD, [], upd_same, rfl, fun j y e => by simp at e⟩ (fun _ _ _ _ => trivial) ?_ ?_
      · rintro j x F F' hj PF ⟨rfl, rfl⟩
        refine ⟨rfl, tyes ?_⟩
        refine ⟨_, rfl, _, rfl, a, n, rfl, PF.1.s, by omega, fun d F2 st3 d0 d1 => ?_⟩
        refine ⟨_, _, rfl, rfl, ?_⟩
        exact lcp_step PF (fun o e => st3.k _ _ nD.symm e) (lt_line (by omega)) (fun o => (PF.1.trans st3).put s1.s hD) (fun _ _ _ h => h) fun _ => ⟨(1 + d).toNat, congrArg V.int (by omega), by omega, by omega⟩
      · intro F PF
        obtain ⟨sF, acc, h1, h2, h3⟩ := PF
        obtain ⟨cs, rfl, hcs⟩ := nats_of h3
        refine ⟨D, none, cs, rfl, s1.trans sF, h1, hcs, ?_⟩
        have e : (natsV cs).length = cs.length := by simp [natsV]
        omega
    · exact ⟨p, none, [], rfl, s0, upd_same, fun c h => by simp at h, by simp⟩
  · rintro σ G ⟨c, z, cs, rfl, sG, hc, hcs, lcs⟩
    refine ⟨_, rfl, c, _, rfl, .inl ⟨SqL.of hc, fun l hl => ?_⟩⟩
    exact q l _ cs (sG.new hl) (sG.free hl) upd_same hcs lcs
theorem ok_l_few (T : Txt w K mg) : FnOk P w K mg base CX0 1 T.a_l_few T.d_l_few p_l_few (spFew K) := by
  refine T.F_l_few.ok sc_l_few (fun vs H Q E h => ?_) (fun cdv A outer s H vs Q E hr h => ?_)
  · obtain ⟨p, xs, n, rfl, _⟩ := h
    rfl
  obtain ⟨p, xs, n, rfl, hp, hn, q⟩ := h
  refine ⟨_, (pss_one (ps_ret (pe_cmpR op_le (pe_op op_mul (pe_op op_mul (pe_callB call_len_seq rfl T.z_len PySem.boot_len (pa_cons (pv 0) pa_nil)) (pe_op op_add (pv 1) pe_int)) (pe_op op_add (pv 1) pe_int)) pe_int (nomark _)))), ?_⟩
  exact ⟨_, rfl, p, _, rfl, .inl hp, _, rfl, _, _, rfl, rfl, _, _, rfl, rfl, .inr ⟨by omega, by omega⟩, _, rfl, _, _, rfl, rfl, _, _, rfl, rfl, .inr ⟨by omega, by omega⟩, _, _, rfl, rfl, q⟩
theorem ok_l_near_box (T : Txt w K mg) : FnOk P w K mg base CX0 2 T.a_l_near_box T.d_l_near_box p_l_near_box (spNearB K) := by
  have g_l_pick := ok_l_pick (P := P) (w := w) (base := base) T
  have g_l_hull := ok_l_hull (P := P) (w := w) (K := K) (base := base) T
  refine T.F_l_near_box.ok sc_l_near_box (fun vs H Q E h => ?_) (fun cdv A outer s H vs Q E hr h => ?_)
  · obtain ⟨a, t, r, rfl, _⟩ := h
    rfl
  obtain ⟨a, t, r, rfl, hS, ht, lr, q⟩ := h
  refine ⟨_, (pss_cons (ps_if (pt_cmpR op_eq (pe_call g_l_pick (hr.mono (by first | decide | omega)) rfl T.m_l_pick T.F_l_pick.kp T.b_l_pick .nil pass0 (pa_cons (pv 0) (pa_cons pe_int pa_nil))) pe_int (nomark _)) (pss_one (ps_ret pe_non)) pss_nil)
      (pss_cons (ps_set (i := 2) sc_l_near_box.nd rfl (Or.inl rfl) (pe_lst pa_nil))
      (C8.pss_cut (ps_if (pt_cmpR op_gt (pe_call g_l_pick (hr.mono (by first | decide | omega)) rfl T.m_l_pick T.F_l_pick.kp T.b_l_pick .nil pass0 (pa_cons (pv 0) (pa_cons pe_int pa_nil))) pe_int (nomark _)) (pss_one (ps_expr (pe_bm PySem.F.plainAttrs_list PySem.F.slot_list_append PySem.F.type_list_append mt_append (pv 2) (pa_cons (pv 1) pa_nil)))) pss_nil)
      (pss_cons (ps_for PassesOwn.never rfl (pi_range1 rfl T.z_range (pa_cons (pe_op op_add pe_int (pe_call g_l_pick (hr.mono (by first | decide | omega)) rfl T.m_l_pick T.F_l_pick.kp T.b_l_pick .nil pass0 (pa_cons (pv 0) (pa_cons pe_int pa_nil)))) pa_nil)) (pg_name (i := 3) sc_l_near_box.nd rfl (Or.inl rfl))
        (pss_one (ps_expr (pe_bm PySem.F.plainAttrs_list PySem.F.slot_list_append PySem.F.type_list_append mt_append (pv 2) (pa_cons (pe_callTy call_tuple_of rfl T.z_tuple bt_tuple (pa_cons (pe_lc (own := [("_law_value", 4)]) (g := gName 4) (tt := tYes) rfl sc_l_near_box.nd (pi_tup (pv 1)) (blkOk_by (own := [("_law_value", 4)]) (N := n_l_near_box) (sc := defScope s_l_near_box) (by decide +kernel)) (fun _ _ _ _ _ => (pg_name (i := 4) sc_l_near_box.nd rfl (Or.inl rfl))) (fun _ _ _ _ _ => pts_nil) (fun _ _ _ _ _ => (pe_op op_sub (pe_op op_add (pv 4) (pe_call g_l_pick (hr.mono (by first | decide | omega)) rfl T.m_l_pick T.F_l_pick.kp T.b_l_pick .nil pass0 (pa_cons (pv 0) (pa_cons pe_int pa_nil)))) pe_int))) pa_nil)) pa_nil)))))
      (pss_one (ps_ret (pe_call g_l_hull (hr.mono (by first | decide | omega)) rfl T.m_l_hull T.F_l_hull.kp T.b_l_hull .nil pass0 (pa_cons (pv 2) (pa_cons (pe_callB call_len_seq rfl T.z_len PySem.boot_len (pa_cons (pv 1) pa_nil)) pa_nil))))))))), ?_⟩
  have nat : t ≠ a := fun z => by
    obtain ⟨x, y, z2, e⟩ := hS
    rw [z, e] at ht
    cases ht
  refine ⟨_, rfl, a, 16, rfl, hS, by decide, fun d H1 st1 _ _ => ⟨rfl, _, rfl, ite2 (fun _ => ?_) (fun _ => ?_)⟩⟩
  · exact q .non H1 none st1 rfl fun M e => by cases e
  refine ⟨(by show 0 ≤ sizeLine; decide), fun L hL => ?_⟩
  have aL : a ≠ L := st1.s.ne hL
  have hL0 : H L = none := st1.free hL
  have s1 := st1.new (o := .lst []) hL
  refine ⟨fun σ G => ∃ (x y : Option V) (Ps : List (List Int)), σ = [some (.ref a), some (.ref t), some (.ref L), x, y] ∧ Stp a H G ∧ TPts G L Ps ∧ Ps.length ≤ 1 ∧ (∀ s ∈ Ps, s.length = r.length), ?_, ?_⟩
  · refine ⟨_, rfl, a, 6, rfl, s1.s, by decide, fun d2 H2 st2 _ _ => ⟨_, _, rfl, rfl, _, rfl, ite2 (fun _ => ?_) (fun _ => ?_)⟩⟩
    · have s2 := s1.trans st2
      have eL := st2.k _ _ aL.symm (upd_same (H := H1) (a := L) (o := .lst []))
      refine ⟨_, rfl, .inl ⟨rfl, _, SqL.of eL⟩, _, rfl, ?_⟩
      refine ⟨L, _, _, rfl, rfl, eL, lt_line (by show 0 ≤ 10000000; decide), ?_⟩
      exact ⟨_, _, [r], rfl, s2.put hS hL0, TPts.push (as := []) (Ps := []) (r := r) ⟨rfl, fun i a r e => by simp at e⟩ (Same.refl _) eL (s2.k _ _ nat ht), by simp, fun s hs => by rw [List.mem_singleton.mp hs]⟩
    · exact ⟨_, _, [], rfl, s1.trans st2, TPts.nil (st2.k _ _ aL.symm upd_same), by simp, fun s hs => by simp at hs⟩
  rintro σ G ⟨x, y, Ps, rfl, sG, tP, lP, fP⟩
  refine ⟨_, rfl, a, 3, rfl, sG.s, by decide, fun m H2 st2 m0 m1 => ?_⟩
  refine ⟨_, _, rfl, rfl, _, rfl, by omega, by omega, for_range (lo := 0) (fun i σ G => (∃ x y : Option V, σ = [some (.ref a), some (.ref t), some (.ref L), x, y]) ∧ Stp a H G ∧ ∃ Ps : List (List Int), TPts G L Ps ∧ Ps.length ≤ 1 + i ∧ (∀ s ∈ Ps, s.length = r.length)) ⟨⟨x, y, rfl⟩, sG.trans st2, Ps, tP.stp st2 sG.s aL.symm, by omega, fP⟩ ?_ ?_⟩
  · rintro i σ G hi ⟨⟨x, y, rfl⟩, sG, Ps, tP, lP, fP⟩
    obtain ⟨as, eL, hA⟩ := id tP
    have htG := sG.k _ _ nat ht
    refine ⟨_, rfl, .inl ⟨rfl, _, SqL.of eL⟩, ?_⟩
    refine ⟨_, rfl, t, rfl, ⟨_, SqT.of htG⟩, fun D2 hD2 => ?_⟩
    have nD2 : a ≠ D2 := sG.s.ne hD2
    refine lc_it (walk_tup (xs := r.map V.int)) (LcP (fun G2 => Stp a G G2) (RNear 2 r) D2) ⟨(Stp.refl sG.s).new hD2, [], upd_same, rfl, fun j y e => by simp at e⟩ (fun i G _ P => SqT.of (P.1.k _ _ nat htG)) ?_ ?_
    · rintro j x F1 F2 hj PG ⟨rfl, ex⟩
      obtain ⟨k, ek, rfl⟩ := get_int ex
      rw [List.length_map] at hj
      refine ⟨rfl, tyes ?_⟩
      refine ⟨_, rfl, _, rfl, a, 5, rfl, PG.1.s, by decide, fun d G2 st d0 d1 => ?_⟩
      refine ⟨_, _, rfl, rfl, _, _, rfl, rfl, ?_⟩
      exact lcp_step PG (fun o e => st.k _ _ nD2.symm e) (lt_line (by omega)) (fun o => (PG.1.trans st).put sG.s hD2) (fun _ _ _ h => h) fun _ => ⟨k, _, ek, rfl, by omega, by omega⟩
    · intro G1 PG
      obtain ⟨sG1, acc, e2, l2, h2⟩ := PG
      obtain ⟨s, rfl, nr⟩ := near_of (m := 2) (c := r) (by decide) (by rw [l2, List.length_map]) h2
      refine ⟨D2, _, rfl, .inl ⟨SqL.of e2, fun t2 ht2 => ?_⟩⟩
      have sT := sG1.new (o := .tup (s.map V.int)) ht2
      have eL2 := sT.k _ _ aL.symm eL
      refine ⟨L, _, _, rfl, rfl, eL2, lt_line (by rw [List.length_map, hA.1]; omega), ⟨_, _, rfl⟩, (sG.trans sT).put hS hL0, Ps ++ [s], TPts.push (hA.stp sT sG.s) (Same.refl _) eL2 upd_same, by rw [List.length_append]; show Ps.length + 1 ≤ _; omega, fun q hq => ?_⟩
      rcases List.mem_append.mp hq with h1 | h1
      · exact fP q h1
      · rw [List.mem_singleton.mp h1]; exact nr.1
  · rintro σ G ⟨⟨x, y, rfl⟩, sG, Ps, tP, lP, fP⟩
    have htG := sG.k _ _ nat ht
    refine ⟨_, rfl, _, rfl, t, _, rfl, .inr (SqT.of htG), L, r.length, Ps, (by rw [List.length_map]; rfl), by omega, tP.pts.mx, fP, by omega, fun v H' s b => ?_⟩
    exact q v H' _ (sG.same s) b (hull_sz _ _)
end
/-! ### law k22: what a bound, a meeting, a tie leave -/
theorem hull_nil {n : Nat} : hull n [] = none := if_pos rfl
/-- the points that are left: those below E -/
theorem cut_points {n : Nat} {Ps Qs : List (List Int)} {T : (Nat → Nat → Int) → Prop} {E : Nat → Nat → Int} {R : Option (List (List Int))} (f : Full n Ps) (ne : Ps ≠ []) (hE : ∀ C, LeF (n + 1) C E ↔ LeF (n + 1) C (getM (hullM n Ps)) ∧ T C) (hB : Best (n + 1) E R) (hQ : ∀ q, q ∈ Qs ↔ q ∈ Ps ∧ T (dfn q)) : R = hull n Qs ∧ Full n Qs :=
  cut_full (fun r => by
    rw [hQ, f.mem ne, hE]
    exact ⟨fun ⟨⟨a, b⟩, c⟩ => ⟨a, b, c⟩, fun ⟨a, b, c⟩ => ⟨⟨a, b⟩, c⟩⟩) hB
theorem none_points {n : Nat} {Ps Qs : List (List Int)} {T : List Int → Prop} (e : Ps = []) (hQ : ∀ q, q ∈ Qs ↔ q ∈ Ps ∧ T q) : none = hull n Qs ∧ Full n Qs := by
  have eq : Qs = [] := List.eq_nil_iff_forall_not_mem.mpr fun q hq => by
    have := ((hQ q).mp hq).1
    rw [e] at this
    simp at this
  rw [eq]
  exact ⟨hull_nil.symm, full_nil⟩
theorem bound_points {n i j : Nat} {c : Int} {Ps Qs : List (List Int)} (f : Full n Ps) (hi : i < n + 1) (hj : j < n + 1) (hQ : ∀ q, q ∈ Qs ↔ q ∈ Ps ∧ dif i j q ≤ c) : bndB (n + 1) i j c (hull n Ps) = hull n Qs ∧ Full n Qs := by
  by_cases ne : Ps = []
  · have := none_points (n := n) ne hQ
    rw [ne]
    exact this
  · have hs := hull_some (n := n) ne
    have b := bnd_best (c := c) (Best.self (hullM_sz n Ps) (hull_clo ne)) hi hj
    rw [hs]
    exact cut_points (T := fun C => C i j ≤ c) f ne (fun C => cutF_le hi hj) b hQ
theorem minF_le {n : Nat} {C f g : Nat → Nat → Int} : LeF n C (minF f g) ↔ LeF n C f ∧ LeF n C g := by
  constructor
  · intro h
    refine ⟨fun a ha b hb => ?_, fun a ha b hb => ?_⟩
    · have : C a b ≤ min (f a b) (g a b) := h a ha b hb
      omega
    · have : C a b ≤ min (f a b) (g a b) := h a ha b hb
      omega
  · rintro ⟨h1, h2⟩ a ha b hb
    have := h1 a ha b hb
    have := h2 a ha b hb
    show C a b ≤ min (f a b) (g a b)
    omega
theorem meet_points {n : Nat} {Ps Qs : List (List Int)} {N : List (List Int)} {R : Option (List (List Int))} (f : Full n Ps) (hQ : ∀ q, q ∈ Qs ↔ q ∈ Ps ∧ InM n N q) (m : MeetB (n + 1) (hull n Ps) (some N) R ∨ MeetB (n + 1) (some N) (hull n Ps) R) : R = hull n Qs ∧ Full n Qs := by
  by_cases ne : Ps = []
  · have := none_points (n := n) ne hQ
    rw [ne, hull_nil] at m
    have e : R = none := m.elim (fun z => z) fun z => z
    rw [e]
    exact this
  · rw [hull_some ne] at m
    rcases m with m | m
    · exact cut_points (T := fun C => LeF (n + 1) C (getM N)) f ne (fun C => minF_le) m hQ
    · exact cut_points (T := fun C => LeF (n + 1) C (getM N)) f ne (fun C => minF_le.trans And.comm) m hQ
theorem part_in {cs : List Nat} {N : List (List Int)} {q : List Int} (hc : ∀ c ∈ cs, 1 ≤ c) : InM cs.length N (partL q cs) ↔ ∀ a < cs.length + 1, ∀ b < cs.length + 1, dif (pk cs a) (pk cs b) q ≤ getM N a b := by
  unfold InM
  constructor
  · intro h a ha b hb
    have := h a ha b hb
    rwa [dif_xc, xc_part hc ha, xc_part hc hb] at this
  · intro h a ha b hb
    rw [dif_xc, xc_part hc ha, xc_part hc hb]
    exact h a ha b hb
theorem tie_points {n : Nat} {cs : List Nat} {Ps Qs : List (List Int)} {N : List (List Int)} {R : Option (List (List Int))} (f : Full n Ps) (hc : ∀ c ∈ cs, 1 ≤ c) (hQ : ∀ q, q ∈ Qs ↔ q ∈ Ps ∧ InM cs.length N (partL q cs)) (m : TieB (n + 1) cs (hull n Ps) (some N) R) : R = hull n Qs ∧ Full n Qs := by
  by_cases ne : Ps = []
  · have := none_points (n := n) ne hQ
    rw [ne, hull_nil] at m
    have e : R = none := m
    rw [e]
    exact this
  · rw [hull_some ne] at m
    obtain ⟨D, hB, hD⟩ := m
    exact cut_points (T := fun C => ∀ a < cs.length + 1, ∀ b < cs.length + 1, C (pk cs a) (pk cs b) ≤ getM N a b) f ne hD hB fun q => by
      rw [hQ, part_in hc]
      exact Iff.rfl
/-- None is met, or tied to -/
theorem no_points {n : Nat} {R : Option (List (List Int))} {A : Option (List (List Int))} (m : MeetB (n + 1) A none R ∨ MeetB (n + 1) none A R ∨ ∃ cs, TieB (n + 1) cs A none R) : R = hull n [] ∧ Full n [] := by
  have e : R = none := by
    rcases m with m | m | ⟨cs, m⟩
    · cases A <;> exact m
    · cases A <;> exact m
    · cases A <;> exact m
  rw [e]
  exact ⟨hull_nil.symm, full_nil⟩
/-! ### law k22: the state, a cut -/
def stK (v1 v2 v3 v4 : V) : List (Key × V) := [(Sum.inr "points", v1), (Sum.inr "size", v2), (Sum.inr "due", v3), (Sum.inr "box", v4)]
theorem rd1 (a b c d : V) : some a = valV (stK a b c d) (Sum.inr "points") := by kernel_rfl
theorem rd2 (a b c d : V) : some b = valV (stK a b c d) (Sum.inr "size") := by kernel_rfl
theorem rd3 (a b c d : V) : some c = valV (stK a b c d) (Sum.inr "due") := by kernel_rfl
theorem rd4 (a b c d : V) : some d = valV (stK a b c d) (Sum.inr "box") := by kernel_rfl
theorem wr1 (a b c d v : V) : putK (stK a b c d) (Sum.inr "points") v = stK v b c d := by kernel_rfl
theorem wr2 (a b c d v : V) : putK (stK a b c d) (Sum.inr "size") v = stK a v c d := by kernel_rfl
theorem wr3 (a b c d v : V) : putK (stK a b c d) (Sum.inr "due") v = stK a b v d := by kernel_rfl
theorem wr4 (a b c d v : V) : putK (stK a b c d) (Sum.inr "box") v = stK a b c v := by kernel_rfl
/-- tuples stand as they were -/
def Keeps (K : PySem.W.Frag) (H H' : Hp) : Prop := ∀ p xs, SqT K H p xs → SqT K H' p xs
theorem Keeps.of_same {K : PySem.W.Frag} {H H' : Hp} (s : Same H H') : Keeps K H H' := fun _ _ h => Same.tup s h
theorem Keeps.of_stp {K : PySem.W.Frag} {a : Addr} {H H' : Hp} (s : Stp a H H') (h : Src H a) : Keeps K H H' := fun _ _ q => s.rd q h
theorem Keeps.dk {K : PySem.W.Frag} {H : Hp} {d : Addr} {kvs : List (Key × V)} {o : HO} (e : H d = some (.dK kvs)) : Keeps K H (upd H d o) := fun p xs q => by
  have ne : ∀ {u : HO}, H p = some u → (∀ kvs, u ≠ .dK kvs) → p ≠ d := fun e2 n z => by
    rw [z, e] at e2
    exact n _ (Option.some.inj e2).symm
  rcases q with (q | ⟨o', q⟩) | q
  · exact .inl (.inl (by rw [upd_ne (ne q (fun _ z => nomatch z))]; exact q))
  · exact .inl (.inr ⟨o', by rw [upd_ne (ne q (fun _ z => nomatch z))]; exact q⟩)
  · exact .inr q
theorem BoxAt.keep {K : PySem.W.Frag} {H H' : Hp} {v : V} {B : Option (List (List Int))} (k : Keeps K H H') (h : BoxAt K H v B) : BoxAt K H' v B := by
  cases B with
  | none => exact h
  | some M =>
    obtain ⟨p, e, as, h1, h2, h3⟩ := h
    exact ⟨p, e, as, k _ _ h1, h2, fun i a r e1 e2 => k _ _ (h3 i a r e1 e2)⟩
theorem TPts.dk {H : Hp} {p d : Addr} {kvs : List (Key × V)} {o : HO} {Ps : List (List Int)} (e : H d = some (.dK kvs)) (h : TPts H p Ps) : TPts (upd H d o) p Ps := by
  obtain ⟨as, e1, h1, h2⟩ := h
  refine ⟨as, by rw [upd_ne (fun z => by rw [z, e] at e1; cases e1)]; exact e1, h1, fun i a r a1 a2 => ?_⟩
  have := h2 i a r a1 a2
  rw [upd_ne (fun z => by rw [z, e] at this; cases this)]
  exact this
/-- the state: the points, their number of columns, their box -/
def StAt (K : PySem.W.Frag) (H : Hp) (d : Addr) (n : Nat) (Ps : List (List Int)) : Prop := ∃ (p : Addr) (vd vb : V), H d = some (.dK (stK (.ref p) (.int n) vd vb)) ∧ TPts H p Ps ∧ BoxAt K H vb (hull n Ps)
/-- what holds of the points -/
structure Okp (k : Nat) (n : Nat) (Ps : List (List Int)) : Prop where
  f : Full n Ps
  l : Ps.length ≤ 3000
  w : ∀ r ∈ Ps, Wth (3000000000 + 1000 * (k : Int)) r
  n : n ≤ 20
theorem rep_ints {n : Nat} : (List.replicate n [V.int 0]).flatten = (List.replicate n (0 : Int)).map V.int := by
  induction n with
  | zero => rfl
  | succ n ih => rw [List.replicate_succ, List.replicate_succ, List.flatten_cons, ih, List.map_cons]; rfl
theorem mod_at {n i r : Nat} (hi : i < n + 1) (hr : r < n) : ((i : Int) + 1 + (r : Int)).fmod ((n : Int) + 1) = (((i + 1 + r) % (n + 1) : Nat) : Int) ∧ (i + 1 + r) % (n + 1) < n + 1 ∧ (i + 1 + r) % (n + 1) ≠ i := by
  refine ⟨?_, Nat.mod_lt _ (by omega), ?_⟩
  · rw [Int.fmod_eq_emod_of_nonneg _ (by omega)]
    have e1 : (i : Int) + 1 + (r : Int) = ((i + 1 + r : Nat) : Int) := by omega
    have e2 : (n : Int) + 1 = ((n + 1 : Nat) : Int) := by omega
    rw [e1, e2]
    first | exact (Int.natCast_emod _ _).symm | rfl
  · by_cases h : i + 1 + r < n + 1
    · rw [Nat.mod_eq_of_lt h]
      omega
    · rw [Nat.mod_eq_sub_mod (by omega), Nat.mod_eq_of_lt (by omega)]
      omega
theorem flt_yes {T : List Int → Bool} {Ps : List (List Int)} {i : Nat} {r : List Int} (e : Ps[i]? = some r) (h : T r = true) : (Ps.take (i + 1)).filter T = (Ps.take i).filter T ++ [r] := by
  rw [take_snoc e, List.filter_append, List.filter_cons_of_pos h]
  rfl
theorem flt_no {T : List Int → Bool} {Ps : List (List Int)} {i : Nat} {r : List Int} (e : Ps[i]? = some r) (h : ¬ T r = true) : (Ps.take (i + 1)).filter T = (Ps.take i).filter T := by
  rw [take_snoc e, List.filter_append, List.filter_cons_of_neg h, List.filter_nil, List.append_nil]
theorem xc_at {r : List Int} {n i : Nat} (l : r.length = n) (hi : i < n + 1) : atI ((0 :: r).map V.int) (i : Int) = some (.int (xc r i)) := atI_nat (map_get (by
  unfold xc
  rw [List.getD_eq_getElem?_getD, List.getElem?_eq_getElem (by rw [List.length_cons]; omega)]
  rfl))
theorem part_all {n : Nat} {q : List Int} (l : q.length = n) : partL q ((List.range n).map (· + 1)) = q := by
  have e : partL q ((List.range n).map (· + 1)) = (List.range n).map fun k => q.getD k 0 := by
    unfold partL
    rw [List.map_map]
    rfl
  rw [e]
  refine List.ext_getElem (by rw [List.length_map, List.length_range, l]) fun k h1 h2 => ?_
  rw [List.getElem_map, List.getElem_range, List.getD_eq_getElem?_getD, List.getElem?_eq_getElem h2]
  rfl
open Classical in
noncomputable def inT (cs : List Nat) (N : Option (List (List Int))) (q : List Int) : Bool := match N with
  | none => true
  | some M => decide (InM cs.length M (partL q cs))
open Classical in
theorem inT_iff {cs : List Nat} {M : List (List Int)} {q : List Int} : inT cs (some M) q = true ↔ InM cs.length M (partL q cs) := by
  unfold inT
  exact decide_eq_true_iff
/-- what the box has become -/
def Left (n : Nat) (cs : List Nat) (Ps : List (List Int)) (R : Option (List (List Int))) : Option (List (List Int)) → Prop
  | none => R = hull n [] ∧ Full n []
  | some M => ∀ Qs : List (List Int), (∀ q, q ∈ Qs ↔ q ∈ Ps ∧ InM cs.length M (partL q cs)) → R = hull n Qs ∧ Full n Qs
theorem left_meet {n : Nat} {cs : List Nat} {Ps : List (List Int)} {R N : Option (List (List Int))} (f : Full n Ps) (e : cs = (List.range n).map (· + 1)) (m : MeetB (n + 1) (hull n Ps) N R ∨ MeetB (n + 1) N (hull n Ps) R) : Left n cs Ps R N := by
  have lc : cs.length = n := by rw [e, List.length_map, List.length_range]
  cases N with
  | none => exact no_points (m.elim .inl fun z => .inr (.inl z))
  | some M =>
    intro Qs hQ
    refine meet_points f (fun q => ?_) m
    rw [hQ, lc]
    constructor
    · rintro ⟨h1, h2⟩
      rw [e, part_all (f.len q h1)] at h2
      exact ⟨h1, h2⟩
    · rintro ⟨h1, h2⟩
      refine ⟨h1, ?_⟩
      rw [e, part_all (f.len q h1)]
      exact h2
theorem left_tie {n : Nat} {cs : List Nat} {Ps : List (List Int)} {R N : Option (List (List Int))} (f : Full n Ps) (hc : ∀ c ∈ cs, 1 ≤ c) (m : TieB (n + 1) cs (hull n Ps) N R) : Left n cs Ps R N := by
  cases N with
  | none => exact no_points (.inr (.inr ⟨cs, m⟩))
  | some M =>
    intro Qs hQ
    exact tie_points f hc hQ m
def spCut (K : PySem.W.Frag) : Sp := fun vs H Q _ => ∃ (a d p : Addr) (vd vb : V) (n k : Nat) (Ps : List (List Int)), vs = [.ref a, .ref d] ∧ Src H a ∧ a ≠ d ∧ H d = some (.dK (stK (.ref p) (.int n) vd vb)) ∧ TPts H p Ps ∧ BoxAt K H vd (hull n Ps) ∧ BoxAt K H vb (hull n Ps) ∧ Okp k n Ps ∧ k ≤ 100 ∧
  ∀ H' Ps', StAt K H' d n Ps' → Okp k n Ps' → (∀ b o, b ≠ a → b ≠ d → H b = some o → H' b = some o) → Q .non H'
section
variable {P : Program} {w : World} {K : PySem.W.Frag} {mg : Str → Option Value} {base : Heap}
theorem ok_l_cut (T : Txt w K mg) : FnOk P w K mg base CX0 4 T.a_l_cut T.d_l_cut p_l_cut (spCut K) := by
  have g_l_pick := ok_l_pickW (P := P) (w := w) (base := base) T
  have g_l_columns := ok_l_columns22 (P := P) (w := w) (base := base) T
  have g_l_near_box := ok_l_near_box (P := P) (w := w) (K := K) (base := base) T
  have g_l_part := ok_l_partT (P := P) (w := w) (K := K) (base := base) T
  have g_bound := ok_bound (P := P) (w := w) (K := K) (base := base) T
  have g_meet_boxes := ok_meet_boxes (P := P) (w := w) (K := K) (base := base) T
  have g_tie_boxes := ok_tie_boxes (P := P) (w := w) (K := K) (base := base) T
  have g_l_belongs := ok_l_belongs (P := P) (w := w) (K := K) (base := base) T
  refine T.F_l_cut.ok sc_l_cut (fun vs H Q E h => ?_) (fun cdv A outer s H vs Q E hr h => ?_)
  · obtain ⟨a, d, p, vd, vb, n, k, Ps, rfl, _⟩ := h
    rfl
  obtain ⟨a, d, p, vd, vb, n, k, Ps, rfl, hS, nad, hd, hP, hD, hB, ok, hk, q⟩ := h
  refine ⟨_, (pss_cons (ps_set (i := 2) sc_l_cut.nd rfl (Or.inl rfl) (pe_dget (hu_of hr) (pv 1) pe_str (fun _ _ => rfl)))
      (pss_cons (ps_set (i := 3) sc_l_cut.nd rfl (Or.inl rfl) (pe_dget (hu_of hr) (pv 1) pe_str (fun _ _ => rfl)))
      (pss_cons (ps_set (i := 4) sc_l_cut.nd rfl (Or.inl rfl) (pe_dget (hu_of hr) (pv 1) pe_str (fun _ _ => rfl)))
      (pss_cons (ps_set (i := 5) sc_l_cut.nd rfl (Or.inl rfl) (pe_callTy call_tuple_of rfl T.z_tuple bt_tuple (pa_cons (pe_op op_rep (pe_lst (pa_cons pe_int pa_nil)) (pv 3)) pa_nil)))
      (C8.pss_cut (ps_if (pt_cmpR (op_neL0 hr.units0) (pv 2) (pe_lst pa_nil) (nomark _)) (pss_one (ps_set (i := 5) sc_l_cut.nd rfl (Or.inl rfl) (pe_ix ix_list (pv 2) (pe_call g_l_pick (hr.mono (by first | decide | omega)) rfl T.m_l_pick T.F_l_pick.kp T.b_l_pick .nil pass0 (pa_cons (pv 0) (pa_cons (pe_callB call_len_seq rfl T.z_len PySem.boot_len (pa_cons (pv 2) pa_nil)) pa_nil))) (fun _ _ => rfl)))) pss_nil)
      (pss_cons (ps_set (i := 6) sc_l_cut.nd rfl (Or.inl rfl) (pe_call g_l_pick (hr.mono (by first | decide | omega)) rfl T.m_l_pick T.F_l_pick.kp T.b_l_pick .nil pass0 (pa_cons (pv 0) (pa_cons pe_int pa_nil))))
      (pss_cons (ps_set (i := 7) sc_l_cut.nd rfl (Or.inr rfl) (pe_tupRg rfl rfl T.z_tuple (prg_2 rfl T.z_range pe_int (pe_op op_add (pv 3) pe_int))))
      (C8.pss_cut (ps_if (pt_cmpR op_eq (pv 6) pe_int (nomark _)) (pss_one (ps_set (i := 7) sc_l_cut.nd rfl (Or.inr rfl) (pe_call g_l_columns (hr.mono (by first | decide | omega)) rfl T.m_l_columns T.F_l_columns.kp T.b_l_columns .nil pass0 (pa_cons (pv 0) (pa_cons (pv 3) (pa_cons (pe_ix ix_list (pe_lst (pa_cons pe_int (pa_cons pe_int (pa_cons pe_int pa_nil)))) (pe_call g_l_pick (hr.mono (by first | decide | omega)) rfl T.m_l_pick T.F_l_pick.kp T.b_l_pick .nil pass0 (pa_cons (pv 0) (pa_cons pe_int pa_nil))) (fun _ _ => rfl)) pa_nil)))))) pss_nil)
      (pss_cons (ps_set (i := 8) sc_l_cut.nd rfl (Or.inr rfl) (pe_call g_l_near_box (hr.mono (by first | decide | omega)) rfl T.m_l_near_box T.F_l_near_box.kp T.b_l_near_box .nil pass0 (pa_cons (pv 0) (pa_cons (pe_call g_l_part (hr.mono (by first | decide | omega)) rfl T.m_l_part T.F_l_part.kp T.b_l_part .nil pass0 (pa_cons (pv 5) (pa_cons (pv 7) pa_nil))) pa_nil))))
      (pss_cons (ps_if (PW.pt (pw_and (pt_cmpR op_eq (pv 6) pe_int (nomark _)) (pw_and1 (pt_cmpR op_gt (pv 3) pe_int (nomark _))))) (pss_cons (ps_set (i := 9) sc_l_cut.nd rfl (Or.inr rfl) (pe_call g_l_pick (hr.mono (by first | decide | omega)) rfl T.m_l_pick T.F_l_pick.kp T.b_l_pick .nil pass0 (pa_cons (pv 0) (pa_cons (pe_op op_add (pv 3) pe_int) pa_nil))))
      (pss_cons (ps_set (i := 10) sc_l_cut.nd rfl (Or.inr rfl) (pe_op op_modN (pe_callTy call_int1 rfl T.z_int bt_int (pa_cons (pe_op op_add (pe_op op_add (pv 9) pe_int) (pe_call g_l_pick (hr.mono (by first | decide | omega)) rfl T.m_l_pick T.F_l_pick.kp T.b_l_pick .nil pass0 (pa_cons (pv 0) (pa_cons (pv 3) pa_nil)))) pa_nil)) (pe_op op_add (pv 3) pe_int)))
      (pss_cons (ps_set (i := 11) sc_l_cut.nd rfl (Or.inr rfl) (pe_op op_sub (pe_call g_l_pick (hr.mono (by first | decide | omega)) rfl T.m_l_pick T.F_l_pick.kp T.b_l_pick .nil pass0 (pa_cons (pv 0) (pa_cons pe_int pa_nil))) pe_int))
      (C8.pss_cut (ps_if (pt_cmpR (op_neL0 hr.units0) (pv 2) (pe_lst pa_nil) (nomark _)) (pss_cons (ps_set (i := 12) sc_l_cut.nd rfl (Or.inl rfl) (pe_op op_sub (pe_op op_sub pe_int (pe_ix ix_tup (pe_ix ix_tup (pe_dget (hu_of hr) (pv 1) pe_str (fun _ _ => rfl)) (pv 10) (fun _ _ => rfl)) (pv 9) (fun _ _ => rfl))) pe_int))
      (pss_one (ps_set (i := 11) sc_l_cut.nd rfl (Or.inr rfl) (pe_op op_add (pv 12) (pe_call g_l_pick (hr.mono (by first | decide | omega)) rfl T.m_l_pick T.F_l_pick.kp T.b_l_pick .nil pass0 (pa_cons (pv 0) (pa_cons (pe_op op_add (pe_op op_sub (pe_ix ix_tup (pe_ix ix_tup (pe_dget (hu_of hr) (pv 1) pe_str (fun _ _ => rfl)) (pv 9) (fun _ _ => rfl)) (pv 10) (fun _ _ => rfl)) (pv 12)) pe_int) pa_nil))))))) pss_nil)
      (pss_cons (ps_dput (hu_of hr) (pv 1) pe_str (pe_call g_bound (hr.mono (by first | decide | omega)) rfl T.m_bound T.F_bound.kp T.b_bound .nil pass0 (pa_cons (pv 4) (pa_cons (pv 9) (pa_cons (pv 10) (pa_cons (pv 11) pa_nil))))) rfl)
      (pss_cons (ps_dput (hu_of hr) (pv 1) pe_str (pe_lc (own := [("_law_point", 13)]) (g := gName 13) rfl sc_l_cut.nd (pi_list (pv 2)) (blkOk_by (own := [("_law_point", 13)]) (N := n_l_cut) (sc := defScope s_l_cut) (by decide +kernel)) (fun _ _ _ _ _ => (pg_name (i := 13) sc_l_cut.nd rfl (Or.inl rfl))) (fun _ _ _ _ _ => (pts_one (pt_cmpR op_le (pe_op op_sub (pe_ix (show IxR _ (rIxT K) from ix_tup) (pe_op (show OpR _ _ (rCatT K) from op_catT) (pe_tup (pa_cons pe_int pa_nil)) (pv 13)) (pv 9) (fun _ _ => rfl)) (pe_ix (show IxR _ (rIxT K) from ix_tup) (pe_op (show OpR _ _ (rCatT K) from op_catT) (pe_tup (pa_cons pe_int pa_nil)) (pv 13)) (pv 10) (fun _ _ => rfl))) (pv 11) (nomark _)))) (fun _ _ _ _ _ => (pv 13))) rfl)
      (pss_one (ps_ret pe_non)))))))) pss_nil)
      (C8.pss_cut (ps_if (pt_cmpR op_eq (pv 6) pe_int (nomark _)) (pss_one (ps_dput (hu_of hr) (pv 1) pe_str (pe_call g_tie_boxes (hr.mono (by first | decide | omega)) rfl T.m_tie_boxes T.F_tie_boxes.kp T.b_tie_boxes .nil pass0 (pa_cons (pv 4) (pa_cons (pv 8) (pa_cons (pv 7) pa_nil)))) rfl)) (pss_one (ps_if (pt_cmpR op_eq (pe_call g_l_pick (hr.mono (by first | decide | omega)) rfl T.m_l_pick T.F_l_pick.kp T.b_l_pick .nil pass0 (pa_cons (pv 0) (pa_cons pe_int pa_nil))) pe_int (nomark _)) (pss_one (ps_dput (hu_of hr) (pv 1) pe_str (pe_call g_meet_boxes (hr.mono (by first | decide | omega)) rfl T.m_meet_boxes T.F_meet_boxes.kp T.b_meet_boxes .nil pass0 (pa_cons (pv 4) (pa_cons (pv 8) pa_nil))) rfl)) (pss_one (ps_dput (hu_of hr) (pv 1) pe_str (pe_call g_meet_boxes (hr.mono (by first | decide | omega)) rfl T.m_meet_boxes T.F_meet_boxes.kp T.b_meet_boxes .nil pass0 (pa_cons (pv 8) (pa_cons (pv 4) pa_nil))) rfl)))))
      (C8.pss_cut (ps_if (pt_cmpR op_isN (pv 8) pe_non (nomark _)) (pss_one (ps_dput (hu_of hr) (pv 1) pe_str (pe_lst pa_nil) rfl)) pss_nil)
      (pss_cons (ps_dput (hu_of hr) (pv 1) pe_str (pe_lc (own := [("_law_point", 13)]) (g := gName 13) rfl sc_l_cut.nd (pi_list (pe_dget (hu_of hr) (pv 1) pe_str (fun _ _ => rfl))) (blkOk_by (own := [("_law_point", 13)]) (N := n_l_cut) (sc := defScope s_l_cut) (by decide +kernel)) (fun _ _ _ _ _ => (pg_name (i := 13) sc_l_cut.nd rfl (Or.inl rfl))) (fun _ _ _ _ _ => (pts_one (pt_val (pe_call g_l_belongs (hr.mono (by first | decide | omega)) rfl T.m_l_belongs T.F_l_belongs.kp T.b_l_belongs .nil pass0 (pa_cons (pv 8) (pa_cons (pe_call g_l_part (hr.mono (by first | decide | omega)) rfl T.m_l_part T.F_l_part.kp T.b_l_part .nil pass0 (pa_cons (pv 13) (pa_cons (pv 7) pa_nil))) pa_nil)))))) (fun _ _ _ _ _ => (pv 13))) rfl)
      (pss_one (ps_ret pe_non))))))))))))))), ?_⟩
  obtain ⟨as, eP, hA⟩ := id hP
  have la := hA.1
  refine ⟨_, rfl, d, _, rfl, .inl ⟨_, _, .inl hd, rfl, rd1 _ _ _ _⟩, ?_⟩
  refine ⟨_, rfl, d, _, rfl, .inl ⟨_, _, .inl hd, rfl, rd2 _ _ _ _⟩, ?_⟩
  refine ⟨_, rfl, d, _, rfl, .inl ⟨_, _, .inl hd, rfl, rd4 _ _ _ _⟩, ?_⟩
  refine ⟨(by show 1 ≤ sizeLine; decide), fun l0 hl0 => ?_⟩
  have hn20 := ok.n
  refine ⟨_, rfl, l0, n, _, rfl, rfl, upd_same, by omega, by omega, (by rw [sizeLine_eq]; show 1 * (n : Int).toNat ≤ _; have := ok.n; omega), fun l1 hl1 => ?_⟩
  refine ⟨l1, _, rfl, .inl ⟨SqL.of upd_same, fun t0 ht0 => ?_⟩⟩
  rw [Int.toNat_natCast, rep_ints] at ht0 ⊢
  have s1 : Stp a H (upd (upd (upd H l0 (.lst [.int 0])) l1 (.lst ((List.replicate n (0 : Int)).map V.int))) t0 (.tup ((List.replicate n (0 : Int)).map V.int))) := (((Stp.refl hS).new hl0).new hl1).new ht0
  have e1 : (upd (upd (upd H l0 (.lst [.int 0])) l1 (.lst ((List.replicate n (0 : Int)).map V.int))) t0 (.tup ((List.replicate n (0 : Int)).map V.int))) t0 = some (.tup ((List.replicate n (0 : Int)).map V.int)) := upd_same
  generalize (upd (upd (upd H l0 (.lst [.int 0])) l1 (.lst ((List.replicate n (0 : Int)).map V.int))) t0 (.tup ((List.replicate n (0 : Int)).map V.int))) = H1 at s1 e1
  have ap : p ≠ a := fun z => by
    obtain ⟨x, y, z2, e⟩ := hS
    rw [z, e] at eP
    cases as with
    | nil => cases eP
    | cons b bs => cases eP
  refine ⟨fun σ G => ∃ (t : Addr) (r : List Int), σ = [some (.ref a), some (.ref d), some (.ref p), some (.int n), some vb, some (.ref t), none, none, none, none, none, none, none, none] ∧ Stp a H G ∧ G t = some (.tup (r.map V.int)) ∧ r.length = n, ?_, ?_⟩
  · refine ⟨_, rfl, (by show 0 ≤ sizeLine; decide), fun le hle => ?_⟩
    have eP1 := s1.k _ _ ap eP
    refine ⟨p, le, _, rfl, rfl, SqL.of (by rw [upd_ne (ne_of_none eP1 hle)]; exact eP1), SqL.of upd_same, _, rfl, ite2 (fun h => ?_) (fun h => ?_)⟩
    · have s2 := s1.new (o := .lst []) hle
      have eP2 := s2.k _ _ ap eP
      refine ⟨_, rfl, _, rfl, _, rfl, p, _, rfl, .inl (SqL.of eP2), a, _, rfl, s2.s, by rw [List.length_map, la]; have := ok.l; omega, fun r G st r0 r1 => ?_⟩
      rw [List.length_map] at r1
      have np : as ≠ [] := fun z => by rw [z] at h; exact absurd h (by decide)
      have np' : 0 < as.length := List.length_pos_iff.mpr np
      obtain ⟨k0, rfl⟩ : ∃ k : Nat, r = (k : Int) := ⟨r.toNat, by omega⟩
      have ea : as[k0]? = some (as[k0]'(by omega)) := List.getElem?_eq_getElem _
      have er : Ps[k0]? = some (Ps[k0]'(by omega)) := List.getElem?_eq_getElem _
      have s3 := s2.trans st
      have hT := (hA.stp s3 hS).2 k0 _ _ ea er
      exact ⟨p, _, (k0 : Int), _, rfl, rfl, SqL.of (s3.k _ _ ap eP), atI_nat (map_get ea), _, _, rfl, s3, hT, ok.f.len _ (List.getElem_mem _)⟩
    · exact ⟨t0, _, rfl, s1.new hle, (Same.new hle _) _ _ e1, by rw [List.length_replicate]⟩
  rintro σ G ⟨t, r, rfl, sG, ht, lr⟩
  have ta : t ≠ a := fun z => by
    obtain ⟨x, y, z2, e⟩ := sG.s
    rw [z, e] at ht
    cases ht
  refine ⟨_, rfl, a, 3, rfl, sG.s, by decide, fun ch G1 st1 ch0 ch1 => ?_⟩
  have sG1 := sG.trans st1
  refine ⟨_, rfl, _, _, rfl, rfl, _, _, rfl, rfl, ⟨by omega, by omega, by omega, by omega, by omega⟩, fun t7 ht7 => ?_⟩
  have e7 : rgV 1 ((n : Int) + 1) = natsV ((List.range n).map (· + 1)) := by
    unfold rgV natsV
    rw [show ((n : Int) + 1 - 1).toNat = n by omega, List.map_map]
    refine List.map_congr_left fun i _ => ?_
    show V.int _ = V.int _
    congr 1
    show (1 : Int) + (i : Int) = ((i + 1 : Nat) : Int)
    omega
  rw [e7]
  have sG2 := sG1.new (o := .tup (natsV ((List.range n).map (· + 1)))) ht7
  have ht2 := (Same.new ht7 (.tup (natsV ((List.range n).map (· + 1))))) _ _ (st1.k _ _ ta ht)
  refine ⟨fun σ G => ∃ (t7 : Addr) (cs : List Nat), σ = [some (.ref a), some (.ref d), some (.ref p), some (.int n), some vb, some (.ref t), some (.int ch), some (.ref t7), none, none, none, none, none, none] ∧ Stp a H G ∧ G t = some (.tup (r.map V.int)) ∧ G t7 = some (.tup (natsV cs)) ∧ (∀ c ∈ cs, 1 ≤ c ∧ c ≤ n) ∧ cs.length ≤ 20 ∧ (ch ≠ 1 → cs = (List.range n).map (· + 1)), ?_, ?_⟩
  · refine ⟨_, rfl, rfl, _, rfl, ite2 (fun h => ?_) (fun h => ?_)⟩
    · refine ⟨_, rfl, _, rfl, (by show 3 ≤ sizeLine; decide), fun l3 hl3 => ?_⟩
      refine ⟨_, rfl, a, 3, rfl, (sG2.new hl3).s, by decide, fun u G3 st3 u0 u1 => ?_⟩
      have hl3G : G3 l3 = some (.lst ([3, 3, 9].map V.int)) := st3.k _ _ (sG2.s.ne hl3).symm upd_same
      obtain ⟨v, mv, ev⟩ := ixMem (ns := [3, 3, 9]) (r := u) u0 (by show u < 3; omega)
      refine ⟨l3, _, u, _, rfl, rfl, SqL.of hl3G, ev, ?_⟩
      have hv : v = 3 ∨ v = 9 := by
        simp only [List.mem_cons, List.not_mem_nil, or_false] at mv
        omega
      have s3 := (sG2.new (o := .lst ([3, 3, 9].map V.int)) hl3).trans st3
      refine ⟨a, n, v.toNat, (by rw [show ((v.toNat : Nat) : Int) = v by omega]; rfl), s3.s, hn20, by omega, fun q7 G4 cs st4 hq7 e4 hc lc => ?_⟩
      refine ⟨q7, cs, rfl, s3.trans st4, (((Stp.refl sG2.s).new hl3).trans (st3.trans st4)).k _ _ ta ht2, e4, hc, by omega, fun z => ?_⟩
      exact absurd (V.int.inj (of_decide_eq_true h)) z
    · exact ⟨t7, _, rfl, sG2, ht2, upd_same, fun c hc => by
        obtain ⟨k, hk, rfl⟩ := List.mem_map.mp hc
        rw [List.mem_range] at hk
        omega, by rw [List.length_map, List.length_range]; exact hn20, fun _ => rfl⟩
  clear ht2 sG2 e7 ht7 st1 sG1 ht sG
  rintro σ G ⟨t7, cs, rfl, sG, ht, h7, hc, lcs, hcs⟩
  refine ⟨_, rfl, _, rfl, _, rfl, t, t7, r, cs, rfl, SqT.of ht, SqT.of h7, (by rw [lr]; exact hc), by omega, fun q8 G8 s8 h8 => ?_⟩
  have lp : (partL r cs).length = cs.length := List.length_map _
  have t7a : t7 ≠ a := fun z => by
    obtain ⟨x, y, z2, e⟩ := sG.s
    rw [z, e] at h7
    cases h7
  refine ⟨a, q8, partL r cs, rfl, (sG.same s8).s, h8, by omega, fun vo G9 N st9 bo zo => ?_⟩
  rw [lp] at zo
  have s9 := (sG.same s8).trans st9
  have h79 := st9.k _ _ t7a (s8 _ _ h7)
  have hd9 := s9.k _ _ nad.symm hd
  have hP9 := hP.stp s9 hS ap
  have kG9 := Keeps.of_stp (K := K) s9 hS
  have hD9 := hD.keep kG9
  have hB9 := hB.keep kG9
  have hk' : (k : Int) ≤ 100 := by omega
  have done : ∀ {G : Hp} {p' : Addr} {vb' : V} {Ps' : List (List Int)}, (∀ b o, b ≠ a → b ≠ d → H b = some o → G b = some o) → G d = some (.dK (stK (.ref p') (.int n) vd vb')) → TPts G p' Ps' → BoxAt K G vb' (hull n Ps') → Full n Ps' → (∀ r ∈ Ps', r ∈ Ps) → Ps'.length ≤ Ps.length → Q .non G := fun kp e tp bx f sub le =>
    q _ _ ⟨_, _, _, e, tp, bx⟩ ⟨f, Nat.le_trans le ok.l, fun r hr => ok.w r (sub r hr), ok.n⟩ kp
  refine ⟨_, rfl, rfl, _, rfl, ite2 (fun h0 => ⟨_, rfl, _, _, rfl, rfl, _, rfl, ite2 (fun hn0 => ?A) (fun hn0 => ?B)⟩) (fun h0 => ifF rfl ?C)⟩
  case A =>
    · have n0 : 0 < n := by
        have : (n : Int) > 0 := of_decide_eq_true hn0
        omega
      refine ⟨_, rfl, _, rfl, _, _, rfl, rfl, a, _, rfl, s9.s, by omega, fun i0 GA stA i00 i01 => ?_⟩
      obtain ⟨i, rfl⟩ : ∃ m : Nat, i0 = (m : Int) := ⟨i0.toNat, by omega⟩
      have hi : i < n + 1 := by omega
      refine ⟨_, rfl, _, _, rfl, rfl, _, rfl, _, rfl, a, n, rfl, stA.s, by omega, fun r0 GB stB r00 r01 => ?_⟩
      obtain ⟨rr, rfl⟩ : ∃ m : Nat, r0 = (m : Int) := ⟨r0.toNat, by omega⟩
      obtain ⟨me, mj, mne⟩ := mod_at hi (show rr < n by omega)
      refine ⟨_, _, rfl, rfl, .inl ⟨_, rfl, ?_⟩⟩
      refine ⟨_, rfl, _, _, rfl, rfl, _, _, rfl, rfl, (by omega), ?_⟩
      dsimp only
      rw [me]
      generalize (i + 1 + rr) % (n + 1) = j at mj mne
      refine ⟨_, rfl, a, 5, rfl, stB.s, by decide, fun c0 GC stC c00 c01 => ?_⟩
      refine ⟨_, _, rfl, rfl, ?_⟩
      have sC := ((s9.trans stA).trans stB).trans stC
      refine ⟨fun σ G => ∃ (c : Int) (x : Option V), σ = [some (.ref a), some (.ref d), some (.ref p), some (.int n), some vb, some (.ref t), some (.int ch), some (.ref t7), some vo, some (.int (i : Int)), some (.int (j : Int)), some (.int c), x, none] ∧ Stp a H G, ?_, ?_⟩
      · refine ⟨_, rfl, (by show 0 ≤ sizeLine; decide), fun le hle => ?_⟩
        have sE := sC.new (o := .lst []) hle
        refine ⟨p, le, _, rfl, rfl, SqL.of (sE.k _ _ ap eP), SqL.of upd_same, _, rfl, ite2 (fun h => ?_) (fun h => ?_)⟩
        · have np : as ≠ [] := fun z => by rw [z] at h; exact absurd h (by decide)
          have ne : Ps ≠ [] := fun z => by rw [z] at la; exact np (List.length_eq_zero_iff.mp la)
          have kE := Keeps.of_stp (K := K) sE hS
          have hDE := hD.keep kE
          rw [hull_some ne] at hDE
          obtain ⟨pd, rfl, mD⟩ := hDE
          have dE := sE.k _ _ nad.symm hd
          obtain ⟨vs1, a1, r1, x1, x2, x3, x4⟩ := mD.get3 (hullM_sz n Ps) mj hi
          obtain ⟨vs2, a2, r2, y1, y2, y3, y4⟩ := mD.get3 (hullM_sz n Ps) hi mj
          have b1 := hull_bd (n := n) ne ok.w (by omega) mj hi
          have b2 := hull_bd (n := n) ne ok.w (by omega) hi mj
          refine ⟨_, rfl, d, _, rfl, .inl ⟨_, _, .inl dE, rfl, rd3 _ _ _ _⟩, _, rfl, pd, _, _, _, rfl, rfl, x1, x2, _, rfl, a1, _, _, _, rfl, rfl, x3, x4, _, _, rfl, rfl, _, _, rfl, rfl, ?_⟩
          refine ⟨_, rfl, _, rfl, _, rfl, d, _, rfl, .inl ⟨_, _, .inl dE, rfl, rd3 _ _ _ _⟩, _, rfl, pd, _, _, _, rfl, rfl, y1, y2, _, rfl, a2, _, _, _, rfl, rfl, y3, y4, _, rfl, _, _, rfl, rfl, _, _, rfl, rfl, a, _, rfl, sE.s, by omega, fun u GF stF u0 u1 => ?_⟩
          exact ⟨_, _, rfl, rfl, _, _, rfl, sE.trans stF⟩
        · exact ⟨_, _, rfl, sE⟩
      rintro σ GD ⟨c, x, rfl, sD⟩
      have kD := Keeps.of_stp (K := K) sD hS
      have clB : ∀ M, hull n Ps = some M → Clo (n + 1) (getM M) := fun M e => by
        by_cases ne : Ps = []
        · rw [ne] at e; cases e
        · rw [hull_some ne] at e
          cases e
          exact hull_clo ne
      refine ⟨_, rfl, _, rfl, _, rfl, _, rfl, vb, hull n Ps, n + 1, i, j, c, rfl, hB.keep kD, hull_sz n Ps, clB, hi, mj, by omega, fun v1 GE sE b1 => ?_⟩
      have sDE := sD.same sE
      have dE := sDE.k _ _ nad.symm hd
      refine ⟨_, rfl, d, _, rfl, DPut.k (k := Sum.inr "box") dE (lt_line (by show 4 ≤ 10000000; decide)), ?_⟩
      rw [wr4]
      have dF : (upd GE d (.dK (stK (.ref p) (.int n) vd v1))) d = some (.dK (stK (.ref p) (.int n) vd v1)) := upd_same
      have kF := Keeps.dk (K := K) (o := .dK (stK (.ref p) (.int n) vd v1)) dE
      have pF := (hP.stp sDE hS ap).dk (o := .dK (stK (.ref p) (.int n) vd v1)) dE
      have bF := b1.keep kF
      have keptF : ∀ b o, b ≠ a → b ≠ d → H b = some o → (upd GE d (.dK (stK (.ref p) (.int n) vd v1))) b = some o := fun b o n1 n2 e => by rw [upd_ne n2]; exact sDE.k _ _ n1 e
      generalize upd GE d (.dK (stK (.ref p) (.int n) vd v1)) = GF at dF kF pF bF keptF
      obtain ⟨as2, eP2, hA2⟩ := id pF
      refine ⟨_, rfl, p, rfl, ⟨_, SqL.of eP2⟩, fun D hD2 => ?_⟩
      refine lc_it (walk_list (xs := as2.map V.ref)) (fun i2 G => Same GF G ∧ TPts G D ((Ps.take i2).filter fun q => decide (dif i j q ≤ c))) ⟨Same.new hD2 _, TPts.nil upd_same⟩ (fun i2 G _ P => SqL.of (P.1 _ _ eP2)) ?_ ?_
      · rintro i2 y F0 F hi2 ⟨sF, pF2⟩ ⟨rfl, ex⟩
        have la2 := hA2.1
        rw [List.length_map, la2] at hi2
        have er : Ps[i2]? = some Ps[i2] := List.getElem?_eq_getElem hi2
        have lq := ok.f.len _ (List.getElem_mem hi2)
        generalize Ps[i2] = q0 at er lq
        have ea : as2[i2]? = some (as2[i2]'(by omega)) := List.getElem?_eq_getElem _
        generalize as2[i2]'(by omega) = tq at ea
        rw [map_get ea] at ex
        obtain rfl := Option.some.inj ex
        have htq := sF _ _ (hA2.2 i2 tq q0 ea er)
        refine ⟨rfl, ?_⟩
        refine ⟨(by show 1 ≤ sizeLine; decide), fun t1 ht1 => ?_⟩
        have sT := Same.new ht1 (.tup [.int 0])
        refine ⟨_, rfl, cat0 (SqT.of upd_same) (SqT.of (sT _ _ htq)) (by omega) fun z1 F2 sa hz1 => ?_⟩
        refine ⟨_, rfl, z1, _, _, _, rfl, rfl, hz1, xc_at lq hi, ?_⟩
        refine ⟨(by show 1 ≤ sizeLine; decide), fun t2 ht2 => ?_⟩
        have sT2 := (sT.trans sa).trans (Same.new ht2 (.tup [.int 0]))
        refine ⟨_, rfl, cat0 (SqT.of upd_same) (SqT.of (sT2 _ _ htq)) (by omega) fun z2 F3 sb hz2 => ?_⟩
        refine ⟨_, rfl, z2, _, _, _, rfl, rfl, hz2, xc_at lq mj, _, _, rfl, rfl, _, rfl, _, _, rfl, rfl, _, rfl, ?_⟩
        have sF3 := sT2.trans sb
        obtain ⟨bs, b1', b2'⟩ := id (pF2.same sF3)
        refine ite2 (fun h => ?_) (fun h => ?_)
        · have hT : decide (dif i j q0 ≤ c) = true := h
          refine ⟨_, rfl, _, b1', lt_line (by rw [List.length_map, b2'.1]; have := List.length_filter_le (fun q => decide (dif i j q ≤ c)) (Ps.take i2); rw [List.length_take] at this; have := ok.l; omega), fun b o e => ?_, ?_⟩
          · rw [upd_ne (ne_of_none e hD2)]
            exact sF3 _ _ (sF _ _ e)
          · rw [flt_yes er hT]
            exact TPts.push b2' (Same.refl _) b1' (sF3 _ _ htq)
        · have hT : ¬ decide (dif i j q0 ≤ c) = true := h
          rw [flt_no er hT]
          exact ⟨sF.trans sF3, pF2.same sF3⟩
      · rintro G6 ⟨s6, p6⟩
        rw [List.length_map, hA2.1, List.take_length] at p6
        have d6 := s6 _ _ dF
        refine ⟨_, rfl, d, _, rfl, DPut.k (k := Sum.inr "points") d6 (lt_line (by show 4 ≤ 10000000; decide)), ?_⟩
        rw [wr1]
        have bp := bound_points (c := c) (Qs := Ps.filter fun q => decide (dif i j q ≤ c)) ok.f hi mj fun q => by
          rw [List.mem_filter]
          exact ⟨fun ⟨h1, h2⟩ => ⟨h1, of_decide_eq_true h2⟩, fun ⟨h1, h2⟩ => ⟨h1, decide_eq_true h2⟩⟩
        rw [bp.1] at bF
        refine done (fun b o n1 n2 e => ?_) upd_same (p6.dk d6) ((bF.same s6).keep (Keeps.dk d6)) bp.2 (fun r hr => (List.mem_filter.mp hr).1) (List.length_filter_le _ _)
        rw [upd_ne n2]
        exact s6 _ _ (keptF b o n1 n2 e)
  all_goals
    refine ⟨fun σ G => ∃ (vb' : V) (R : Option (List (List Int))), σ = [some (.ref a), some (.ref d), some (.ref p), some (.int n), some vb, some (.ref t), some (.int ch), some (.ref t7), some vo, none, none, none, none, none] ∧ (∀ b o, b ≠ a → b ≠ d → H b = some o → G b = some o) ∧ G d = some (.dK (stK (.ref p) (.int n) vd vb')) ∧ TPts G p Ps ∧ BoxAt K G vb' R ∧ BoxAt K G vo N ∧ SqT K G t7 (natsV cs) ∧ Left n cs Ps R N, ?_, ?_⟩
    · have fin : ∀ {G : Hp} {v : V} {R : Option (List (List Int))}, Stp a G9 G → BoxAt K G v R → Left n cs Ps R N → ∃ (b : Addr) (H4 : Hp), V.ref d = .ref b ∧ DPut G b (kV (Sum.inr "box")) v H4 ∧ ∃ (vb' : V) (R : Option (List (List Int))), [some (V.ref a), some (.ref d), some (.ref p), some (.int n), some vb, some (.ref t), some (.int ch), some (.ref t7), some vo, none, none, none, none, none] = [some (.ref a), some (.ref d), some (.ref p), some (.int n), some vb, some (.ref t), some (.int ch), some (.ref t7), some vo, none, none, none, none, none] ∧ (∀ b o, b ≠ a → b ≠ d → H b = some o → H4 b = some o) ∧ H4 d = some (.dK (stK (.ref p) (.int n) vd vb')) ∧ TPts H4 p Ps ∧ BoxAt K H4 vb' R ∧ BoxAt K H4 vo N ∧ SqT K H4 t7 (natsV cs) ∧ Left n cs Ps R N := fun {G v R} st b L => by
        have dG := st.k _ _ nad.symm hd9
        have kG := Keeps.of_stp (K := K) st s9.s
        have kd := Keeps.dk (K := K) (o := .dK (stK (.ref p) (.int n) vd v)) dG
        refine ⟨d, _, rfl, DPut.k (k := Sum.inr "box") dG (lt_line (by show 4 ≤ 10000000; decide)), v, R, rfl, ?_⟩
        rw [wr4]
        exact ⟨fun b o n1 n2 e => by rw [upd_ne n2]; exact st.k _ _ n1 (s9.k _ _ n1 e), upd_same, (hP9.stp st s9.s ap).dk dG, b.keep kd, (bo.keep kG).keep kd, kd _ _ (kG _ _ (SqT.of h79)), L⟩
      refine ⟨_, rfl, rfl, _, rfl, ite2 (fun h1 => ?_) (fun h1 => ?_)⟩
      · refine ⟨_, rfl, _, rfl, _, rfl, a, vb, vo, hull n Ps, N, t7, cs, n + 1, rfl, s9.s, hB9, bo, hull_sz n Ps, zo, SqT.of h79, fun c h => by have := hc c h; omega, by omega, by omega, by omega, fun v H' R s b m => ?_⟩
        exact ⟨_, rfl, fin (Stp.of_same s9.s s) b (left_tie ok.f (fun c h => (hc c h).1) m)⟩
      · have ncs := hcs fun z => h1 (decide_eq_true (congrArg V.int z))
        have zn : BSz (n + 1) N := by
          rw [ncs, List.length_map, List.length_range] at zo
          exact zo
        refine ⟨_, rfl, a, 2, rfl, s9.s, by decide, fun u GA stA _ _ => ⟨rfl, _, rfl, ite2 (fun _ => ?_) (fun _ => ?_)⟩⟩
        · refine ⟨_, rfl, _, rfl, vb, vo, hull n Ps, N, n + 1, rfl, hB9.keep (Keeps.of_stp stA s9.s), bo.keep (Keeps.of_stp stA s9.s), hull_sz n Ps, zn, by omega, fun v H' R s b m => ?_⟩
          exact ⟨_, rfl, fin (stA.same s) b (left_meet ok.f ncs (.inl m))⟩
        · refine ⟨_, rfl, _, rfl, vo, vb, N, hull n Ps, n + 1, rfl, bo.keep (Keeps.of_stp stA s9.s), hB9.keep (Keeps.of_stp stA s9.s), zn, hull_sz n Ps, by omega, fun v H' R s b m => ?_⟩
          exact ⟨_, rfl, fin (stA.same s) b (left_meet ok.f ncs (.inr m))⟩
    rintro σ GM ⟨vb', R, rfl, kpM, dM, pM, bM, oM, h7M, LM⟩
    refine ⟨fun σ G => ∃ (p' : Addr) (Ps1 : List (List Int)), σ = [some (.ref a), some (.ref d), some (.ref p), some (.int n), some vb, some (.ref t), some (.int ch), some (.ref t7), some vo, none, none, none, none, none] ∧ (∀ b o, b ≠ a → b ≠ d → H b = some o → G b = some o) ∧ G d = some (.dK (stK (.ref p') (.int n) vd vb')) ∧ TPts G p' Ps1 ∧ BoxAt K G vb' R ∧ BoxAt K G vo N ∧ SqT K G t7 (natsV cs) ∧ ((N = none ∧ Ps1 = []) ∨ (N ≠ none ∧ Ps1 = Ps)), ?_, ?_⟩
    · cases N with
      | none =>
        obtain rfl : vo = .non := oM
        refine ⟨_, rfl, rfl, _, rfl, ifT (by decide) ⟨(by show 0 ≤ sizeLine; decide), fun l hl => ?_⟩⟩
        have sl := Same.new hl (.lst [])
        have dl := sl _ _ dM
        have kd := Keeps.dk (K := K) (o := .dK (stK (.ref l) (.int n) vd vb')) dl
        refine ⟨_, rfl, d, _, rfl, DPut.k (k := Sum.inr "points") dl (lt_line (by show 4 ≤ 10000000; decide)), ?_⟩
        rw [wr1]
        exact ⟨l, [], rfl, fun b o n1 n2 e => by rw [upd_ne n2]; exact sl _ _ (kpM b o n1 n2 e), upd_same, (TPts.nil upd_same).dk dl, (bM.same sl).keep kd, rfl, kd _ _ (Same.tup sl h7M), .inl ⟨rfl, rfl⟩⟩
      | some M =>
        obtain ⟨pm, rfl, mM⟩ := id oM
        refine ⟨_, rfl, rfl, _, rfl, ifF (by rw [decide_eq_false (fun z => by cases z)]) ?_⟩
        exact ⟨p, Ps, rfl, kpM, dM, pM, bM, oM, h7M, .inr ⟨(fun z => nomatch z), rfl⟩⟩
    rintro σ GN ⟨p', Ps1, rfl, kpN, dN, pN, bN, oN, h7N, alt⟩
    obtain ⟨as2, eP2, hA2⟩ := id pN
    have lP1 : Ps1.length ≤ Ps.length := by
      rcases alt with ⟨_, e⟩ | ⟨_, e⟩
      · rw [e]; exact Nat.zero_le _
      · rw [e]; exact Nat.le_refl _
    have sub1 : ∀ q ∈ Ps1, q ∈ Ps := fun q hq => by
      rcases alt with ⟨_, e⟩ | ⟨_, e⟩
      · rw [e] at hq; simp at hq
      · rw [e] at hq; exact hq
    refine ⟨_, rfl, d, _, rfl, .inl ⟨_, _, .inl dN, rfl, rd1 _ _ _ _⟩, p', rfl, ⟨_, SqL.of eP2⟩, fun D hD2 => ?_⟩
    refine lc_it (walk_list (xs := as2.map V.ref)) (fun i2 G => Same GN G ∧ TPts G D ((Ps1.take i2).filter (inT cs N))) ⟨Same.new hD2 _, TPts.nil upd_same⟩ (fun i2 G _ P => SqL.of (P.1 _ _ eP2)) ?_ ?_
    · rintro i2 y F0 F hi2 ⟨sF, pF2⟩ ⟨rfl, ex⟩
      have la2 := hA2.1
      rw [List.length_map, la2] at hi2
      have er : Ps1[i2]? = some Ps1[i2] := List.getElem?_eq_getElem hi2
      have mq := sub1 _ (List.getElem_mem hi2)
      have lq := ok.f.len _ mq
      generalize Ps1[i2] = q0 at er lq mq
      have ea : as2[i2]? = some (as2[i2]'(by omega)) := List.getElem?_eq_getElem _
      generalize as2[i2]'(by omega) = tq at ea
      rw [map_get ea] at ex
      obtain rfl := Option.some.inj ex
      have htq := sF _ _ (hA2.2 i2 tq q0 ea er)
      obtain ⟨M, rfl⟩ : ∃ M, N = some M := by
        rcases alt with ⟨_, e⟩ | ⟨e, _⟩
        · rw [e] at hi2; exact absurd hi2 (by simp)
        · cases N with
          | none => exact absurd rfl e
          | some M => exact ⟨M, rfl⟩
      obtain ⟨pm, rfl, mM⟩ := id oN
      refine ⟨rfl, ?_⟩
      refine ⟨_, rfl, _, rfl, _, rfl, tq, t7, q0, cs, rfl, SqT.of htq, Same.tup sF h7N, (by rw [lq]; exact hc), by omega, fun q2 G2 s2 e2 => ?_⟩
      have lp2 : (partL q0 cs).length = cs.length := List.length_map _
      refine ⟨pm, q2, M, partL q0 cs, rfl, by omega, mM.same (sF.trans s2), (by rw [lp2]; exact zo M rfl), SqT.of e2, fun b G3 s3 hb => ?_⟩
      rw [lp2] at hb
      have sF3 := s2.trans s3
      obtain ⟨bs, b1', b2'⟩ := id (pF2.same sF3)
      refine ⟨_, rfl, ite2 (fun h => ?_) (fun h => ?_)⟩
      · have hT : inT cs (some M) q0 = true := inT_iff.mpr (hb.mp h)
        refine ⟨_, rfl, _, b1', lt_line (by rw [List.length_map, b2'.1]; have := List.length_filter_le (inT cs (some M)) (Ps1.take i2); rw [List.length_take] at this; have := ok.l; omega), fun b o e => ?_, ?_⟩
        · rw [upd_ne (ne_of_none e hD2)]
          exact sF3 _ _ (sF _ _ e)
        · rw [flt_yes er hT]
          exact TPts.push b2' (Same.refl _) b1' (sF3 _ _ htq)
      · have hT : ¬ inT cs (some M) q0 = true := fun z => h (hb.mpr (inT_iff.mp z))
        rw [flt_no er hT]
        exact ⟨sF.trans sF3, pF2.same sF3⟩
    · rintro G6 ⟨s6, p6⟩
      rw [List.length_map, hA2.1, List.take_length] at p6
      have d6 := s6 _ _ dN
      refine ⟨_, rfl, d, _, rfl, DPut.k (k := Sum.inr "points") d6 (lt_line (by show 4 ≤ 10000000; decide)), ?_⟩
      rw [wr1]
      have bp : R = hull n (Ps1.filter (inT cs N)) ∧ Full n (Ps1.filter (inT cs N)) := by
        cases N with
        | none =>
          have e : Ps1 = [] := alt.elim (fun z => z.2) fun z => absurd rfl z.1
          rw [e]
          exact LM
        | some M =>
          have e : Ps1 = Ps := alt.elim (fun z => by cases z.1) fun z => z.2
          refine LM _ fun q => ?_
          rw [e, List.mem_filter]
          exact ⟨fun ⟨h1, h2⟩ => ⟨h1, inT_iff.mp h2⟩, fun ⟨h1, h2⟩ => ⟨h1, inT_iff.mpr h2⟩⟩
      rw [bp.1] at bN
      refine done (fun b o n1 n2 e => ?_) upd_same (p6.dk d6) ((bN.same s6).keep (Keeps.dk d6)) bp.2 (fun r hr => sub1 r (List.mem_filter.mp hr).1) (Nat.le_trans (List.length_filter_le _ _) lP1)
      rw [upd_ne n2]
      exact s6 _ _ (kpN b o n1 n2 e)
end
/-! ### law k22: a change of columns -/
/-- what was found, and what is asked then -/
def Plan (n kk : Nat) (cs : List Nat) (Ps Rs : List (List Int)) (ch lo hi : Int) (m : Nat) (Fs : List (List Int)) : Prop :=
  (ch = 0 ∧ m = cs.length ∧ Fs = Ps.map fun r => partL r cs) ∨ (ch = 1 ∧ kk < n ∧ Ps ≠ [] ∧ m = n ∧ Fs = movL true kk lo hi Ps) ∨ (ch = 1 ∧ (n = 0 ∨ Ps = []) ∧ m = n ∧ Fs = Ps) ∨
  (ch = 2 ∧ kk < n ∧ m = n ∧ Fs = movL false kk lo hi Ps) ∨ (ch = 2 ∧ n = 0 ∧ m = n ∧ Fs = Ps) ∨ (ch = 3 ∧ m = n + Rs.length ∧ Fs = Ps.flatMap fun r => (gridL Rs).map fun q => r ++ q)
theorem wth_part {w : Int} {r : List Int} {cs : List Nat} (h : Wth w r) (w0 : 0 ≤ w) : Wth w (partL r cs) := fun x hx => by
  obtain ⟨c, _, rfl⟩ := List.mem_map.mp hx
  rw [List.getD_eq_getElem?_getD]
  cases e : r[c - 1]? with
  | none => exact ⟨by show -w ≤ (0 : Int); omega, w0⟩
  | some k => exact h k (List.mem_of_getElem? e)
theorem wth_up {w w' : Int} {r : List Int} (h : Wth w r) (hw : w ≤ w') : Wth w' r := fun x hx => by have := h x hx; omega
theorem wth_put {w : Int} {r : List Int} {k : Nat} {v : Int} (h : Wth w r) (h1 : -w ≤ v) (h2 : v ≤ w) : Wth w (r.set k v) := fun x hx => by
  rcases List.mem_or_eq_of_mem_set hx with h3 | h3
  · exact h x h3
  · rw [h3]; exact ⟨h1, h2⟩
theorem src_ne {H : Hp} {a p : Addr} {as : List Addr} (h : Src H a) (e : H p = some (.lst (as.map V.ref))) : p ≠ a := fun z => by
  obtain ⟨x, y, w, e2⟩ := h
  rw [z, e2] at e
  cases as with
  | nil => cases e
  | cons b bs => cases e
theorem flat_len {m : Nat} {Gs : List (List Int)} (h : Gs.length ≤ m) : ∀ Ps : List (List Int), (Ps.flatMap fun r => Gs.map fun q => r ++ q).length ≤ Ps.length * m
  | [] => by simp
  | r :: Ps => by
    have ih := flat_len h Ps
    rw [List.flatMap_cons, List.length_append, List.length_map, List.length_cons, Nat.succ_mul]
    omega
theorem Pts.keep {K : PySem.W.Frag} {H H' : Hp} {p : Addr} {Ps : List (List Int)} (k : Keeps K H H') (e : ∀ xs, H p = some (.lst xs) → H' p = some (.lst xs)) (h : Pts K H p Ps) : Pts K H' p Ps := by
  obtain ⟨as, e1, l, h⟩ := h
  exact ⟨as, e _ e1, l, fun i a r e1 e2 => k _ _ (h i a r e1 e2)⟩
/-- behind the two writes -/
structure Aft (K : PySem.W.Frag) (H : Hp) (a d q2 t6 lq : Addr) (m n : Nat) (vd vb : V) (cs : List Nat) (Ps Qs Rs : List (List Int)) (G : Hp) (v : V) : Prop where
  kp : ∀ b o, b ≠ a → b ≠ d → H b = some o → G b = some o
  d : G d = some (.dK (stK (.ref q2) (.int m) vd v))
  t : TPts G q2 Qs
  c : SqT K G t6 (natsV cs)
  r : Pts K G lq Rs
  b : BoxAt K G vb (hull n Ps)
theorem Aft.put {K : PySem.W.Frag} {H : Hp} {a d q2 t6 lq : Addr} {m n : Nat} {vd vb : V} {cs : List Nat} {Ps Qs Rs : List (List Int)} {G : Hp} {v : V} (h : Aft K H a d q2 t6 lq m n vd vb cs Ps Qs Rs G v) (hd : (H d).isSome = true) {G4 : Hp} (s : Same G G4) {v2 : V} {B : Option (List (List Int))} (hB : BoxAt K G4 v2 B) :
    ∃ H5, DPut G4 d (kV (Sum.inr "box")) v2 H5 ∧ Aft K H a d q2 t6 lq m n vd vb cs Ps Qs Rs H5 v2 ∧ BoxAt K H5 v2 B := by
  have d4 := s _ _ h.d
  have kd := Keeps.dk (K := K) (o := .dK (stK (.ref q2) (.int m) vd v2)) d4
  refine ⟨_, DPut.k (k := Sum.inr "box") d4 (lt_line (by show 4 ≤ 10000000; decide)), ?_⟩
  rw [wr4]
  refine ⟨⟨fun b o n1 n2 e => by rw [upd_ne n2]; exact s _ _ (h.kp b o n1 n2 e), upd_same, (h.t.same s).dk d4, kd _ _ (Same.tup s h.c), Pts.keep kd (fun xs e => ?_) (h.r.same s), (h.b.same s).keep kd⟩, hB.keep kd⟩
  rw [upd_ne (fun z => by rw [z, d4] at e; cases e)]
  exact e
theorem xget_wth {w : Int} {r : List Int} {k : Nat} (h : Wth w r) (hk : k < r.length) : -w ≤ r.getD k 0 ∧ r.getD k 0 ≤ w := by
  rw [List.getD_eq_getElem?_getD, List.getElem?_eq_getElem hk]
  exact h _ (List.getElem_mem hk)
theorem plan_full {n kk m : Nat} {cs : List Nat} {Ps Rs Fs Qs : List (List Int)} {ch lo hi : Int} (pl : Plan n kk cs Ps Rs ch lo hi m Fs) (f : Full n Ps) (hc : ∀ c ∈ cs, 1 ≤ c ∧ c ≤ n) (hR : ∀ r ∈ Rs, IsPr r) (hkk : 0 < n → kk < n) (hQ : ∀ q, q ∈ Qs ↔ q ∈ Fs) :
    Full m Qs ∧ (ch = 0 → (hull n Ps).map (pickM cs) = hull m Qs) ∧ (ch = 1 → 0 < m → kk < n ∧ chB freeF (n + 1) (kk + 1) lo hi (hull n Ps) = hull m Qs) ∧ (ch = 1 → ¬ 0 < m → hull n Ps = hull m Qs) ∧
      (ch = 2 → 0 < m → kk < n ∧ chB shiftF (n + 1) (kk + 1) lo hi (hull n Ps) = hull m Qs) ∧ (ch = 2 → ¬ 0 < m → hull n Ps = hull m Qs) ∧ (ch = 3 → addB (n + 1) Rs (hull n Ps) = hull m Qs) ∧ (ch = 1 ∨ ch = 2 → m = n) := by
  have same : Fs = Ps → m = n → Full m Qs ∧ hull n Ps = hull m Qs := fun e1 e2 => by
    rw [e1] at hQ
    have e : hull n Ps = hull n Qs := hull_congr fun q => (hQ q).symm
    rw [e2]
    refine ⟨⟨fun r hr => f.len r ((hQ r).mp hr), fun ne p lp hp => (hQ p).mpr ?_⟩, e⟩
    have nP : Ps ≠ [] := fun z => by
      obtain ⟨q, hq⟩ := List.exists_mem_of_ne_nil _ ne
      have := (hQ q).mp hq
      rw [z] at this
      simp at this
    rw [hull_some nP, hull_some ne] at e
    rw [← Option.some.inj e] at hp
    exact f.al nP p lp hp
  rcases pl with ⟨c, m1, e⟩ | ⟨c, hk, nP, m1, e⟩ | ⟨c, zz, m1, e⟩ | ⟨c, hk, m1, e⟩ | ⟨c, n0, m1, e⟩ | ⟨c, m1, e⟩
  · have h := full_pick (Qs := Qs) f hc fun q => by
      rw [hQ, e, List.mem_map]
      exact ⟨fun ⟨r, hr, e⟩ => ⟨r, hr, e.symm⟩, fun ⟨r, hr, e⟩ => ⟨r, hr, e.symm⟩⟩
    rw [m1]
    exact ⟨h.2, fun _ => h.1, fun z => by omega, fun z => by omega, fun z => by omega, fun z => by omega, fun z => by omega, fun z => by omega⟩
  · have h := full_free (lo := lo) (hi := hi) (Qs := Qs) f hk fun q => by
      rw [hQ, e, mem_movL]
      exact Iff.rfl
    rw [m1]
    exact ⟨h.2, fun z => by omega, fun _ _ => ⟨hk, h.1⟩, fun _ z => by omega, fun z => by omega, fun z => by omega, fun z => by omega, fun _ => rfl⟩
  · have h := same e m1
    rcases zz with n0 | zP
    · exact ⟨h.1, fun z => by omega, fun _ z => by omega, fun _ _ => h.2, fun z => by omega, fun z => by omega, fun z => by omega, fun _ => m1⟩
    · have eQ : Qs = [] := List.eq_nil_iff_forall_not_mem.mpr fun q hq => by
        have := (hQ q).mp hq
        rw [e, zP] at this
        simp at this
      refine ⟨h.1, fun z => by omega, fun _ z => ⟨hkk (by omega), ?_⟩, fun _ _ => h.2, fun z => by omega, fun z => by omega, fun z => by omega, fun _ => m1⟩
      rw [zP, eQ]
      rfl
  · have h := full_shift (lo := lo) (hi := hi) (Qs := Qs) f hk fun q => by
      rw [hQ, e, mem_movL]
      exact Iff.rfl
    rw [m1]
    exact ⟨h.2, fun z => by omega, fun z => by omega, fun z => by omega, fun _ _ => ⟨hk, h.1⟩, fun _ z => by omega, fun z => by omega, fun _ => rfl⟩
  · have h := same e m1
    exact ⟨h.1, fun z => by omega, fun z => by omega, fun z => by omega, fun _ z => by omega, fun _ _ => h.2, fun z => by omega, fun _ => m1⟩
  · have h := full_add (Qs := Qs) f hR fun q => by
      rw [hQ, e, List.mem_flatMap]
      have g := fun p => mem_grid (Rs := Rs) (Nat.le_refl _) p
      rw [List.take_length] at g
      constructor
      · rintro ⟨r, hr, h⟩
        obtain ⟨p, hp, e⟩ := List.mem_map.mp h
        exact ⟨r, hr, p, (g p).mp hp, e.symm⟩
      · rintro ⟨r, hr, p, hp, e⟩
        exact ⟨r, hr, List.mem_map.mpr ⟨p, (g p).mpr hp, e.symm⟩⟩
    rw [m1]
    exact ⟨h.2, fun z => by omega, fun z => by omega, fun z => by omega, fun z => by omega, fun z => by omega, fun _ => h.1, fun z => by omega⟩
def spChg (K : PySem.W.Frag) : Sp := fun vs H Q _ => ∃ (a d p : Addr) (vd vb : V) (n k : Nat) (Ps : List (List Int)), vs = [.ref a, .ref d] ∧ Src H a ∧ a ≠ d ∧ H d = some (.dK (stK (.ref p) (.int n) vd vb)) ∧ TPts H p Ps ∧ BoxAt K H vb (hull n Ps) ∧ Okp k n Ps ∧ k ≤ 100 ∧
  ∀ H' n' Ps', StAt K H' d n' Ps' → Okp (k + 1) n' Ps' → (∀ b o, b ≠ a → b ≠ d → H b = some o → H' b = some o) → Q .non H'
section
variable {P : Program} {w : World} {K : PySem.W.Frag} {mg : Str → Option Value} {base : Heap}
theorem ok_l_change (T : Txt w K mg) : FnOk P w K mg base CX0 4 T.a_l_change T.d_l_change p_l_change (spChg K) := by
  have g_l_pick := ok_l_pickW (P := P) (w := w) (base := base) T
  have g_l_columns := ok_l_columns22 (P := P) (w := w) (base := base) T
  have g_l_part := ok_l_partT (P := P) (w := w) (K := K) (base := base) T
  have g_l_moved_points := ok_l_moved_points (P := P) (w := w) (K := K) (base := base) T
  have g_l_grid := ok_l_gridT (P := P) (w := w) (K := K) (base := base) T
  have g_l_distinct := ok_l_distinct (P := P) (w := w) (base := base) T
  have g_l_few := ok_l_few (P := P) (w := w) (K := K) (base := base) T
  have g_pick_columns := ok_pick_columns (P := P) (w := w) (K := K) (base := base) T
  have g_free_column := ok_free_column (P := P) (w := w) (K := K) (base := base) T
  have g_shift_column := ok_shift_column (P := P) (w := w) (K := K) (base := base) T
  have g_add_columns := ok_add_columns (P := P) (w := w) (K := K) (base := base) T
  refine T.F_l_change.ok sc_l_change (fun vs H Q E h => ?_) (fun cdv A outer s H vs Q E hr h => ?_)
  · obtain ⟨a, d, p, vd, vb, n, k, Ps, rfl, _⟩ := h
    rfl
  obtain ⟨a, d, p, vd, vb, n, k, Ps, rfl, hS, nad, hd, hP, hB, ok, hk, q⟩ := h
  refine ⟨_, (pss_cons (ps_set (i := 2) sc_l_change.nd rfl (Or.inl rfl) (pe_dget (hu_of hr) (pv 1) pe_str (fun _ _ => rfl)))
      (pss_cons (ps_set (i := 3) sc_l_change.nd rfl (Or.inl rfl) (pe_dget (hu_of hr) (pv 1) pe_str (fun _ _ => rfl)))
      (pss_cons (ps_set (i := 4) sc_l_change.nd rfl (Or.inl rfl) (pe_dget (hu_of hr) (pv 1) pe_str (fun _ _ => rfl)))
      (pss_cons (ps_set (i := 5) sc_l_change.nd rfl (Or.inl rfl) (pe_call g_l_pick (hr.mono (by first | decide | omega)) rfl T.m_l_pick T.F_l_pick.kp T.b_l_pick .nil pass0 (pa_cons (pv 0) (pa_cons pe_int pa_nil))))
      (pss_cons (ps_set (i := 6) sc_l_change.nd rfl (Or.inr rfl) (pe_call g_l_columns (hr.mono (by first | decide | omega)) rfl T.m_l_columns T.F_l_columns.kp T.b_l_columns .nil pass0 (pa_cons (pv 0) (pa_cons (pv 3) (pa_cons (pe_ix ix_list (pe_lst (pa_cons pe_int (pa_cons pe_int (pa_cons pe_int pa_nil)))) (pe_call g_l_pick (hr.mono (by first | decide | omega)) rfl T.m_l_pick T.F_l_pick.kp T.b_l_pick .nil pass0 (pa_cons (pv 0) (pa_cons pe_int pa_nil))) (fun _ _ => rfl)) pa_nil)))))
      (pss_cons (ps_set (i := 7) sc_l_change.nd rfl (Or.inl rfl) (pe_op op_add pe_int (pe_call g_l_pick (hr.mono (by first | decide | omega)) rfl T.m_l_pick T.F_l_pick.kp T.b_l_pick .nil pass0 (pa_cons (pv 0) (pa_cons (pv 3) pa_nil)))))
      (pss_cons (ps_set (i := 8) sc_l_change.nd rfl (Or.inl rfl) (pe_op op_sub (pe_call g_l_pick (hr.mono (by first | decide | omega)) rfl T.m_l_pick T.F_l_pick.kp T.b_l_pick .nil pass0 (pa_cons (pv 0) (pa_cons pe_int pa_nil))) pe_int))
      (pss_cons (ps_set (i := 9) sc_l_change.nd rfl (Or.inl rfl) (pe_op op_add (pv 8) (pe_call g_l_pick (hr.mono (by first | decide | omega)) rfl T.m_l_pick T.F_l_pick.kp T.b_l_pick .nil pass0 (pa_cons (pv 0) (pa_cons pe_int pa_nil)))))
      (pss_cons (ps_set (i := 10) sc_l_change.nd rfl (Or.inl rfl) (pv 2))
      (C8.pss_cut (ps_set (i := 11) sc_l_change.nd rfl (Or.inl rfl) (pe_slice sl_list (pe_lst (pa_cons (pe_tup (pa_cons (pv 8) (pa_cons (pv 9) pa_nil))) (pa_cons (pe_tup (pa_cons (pv 9) (pa_cons (pe_op op_add (pv 9) pe_int) pa_nil))) pa_nil))) po_none (po_some (pe_op op_add pe_int (pe_call g_l_pick (hr.mono (by first | decide | omega)) rfl T.m_l_pick T.F_l_pick.kp T.b_l_pick .nil pass0 (pa_cons (pv 0) (pa_cons pe_int pa_nil)))))))
      (C8.pss_cut (ps_if (pt_cmpR op_eq (pv 5) pe_int (nomark _)) (pss_cons (ps_set (i := 3) sc_l_change.nd rfl (Or.inl rfl) (pe_callB call_len_seq rfl T.z_len PySem.boot_len (pa_cons (pv 6) pa_nil)))
      (pss_one (ps_setLc (i := 10) (own := [("_law_point", 12)]) (g := gName 12) (tt := tYes) rfl sc_l_change.nd rfl rfl (sw_true rfl rfl rfl (by decide +kernel)) (pi_list (pv 2)) (blkOk_by (own := [("_law_point", 12)]) (N := n_l_change) (sc := defScope s_l_change) (by decide +kernel)) (fun _ _ _ _ _ => (pg_name (i := 12) sc_l_change.nd rfl (Or.inl rfl))) (fun _ _ _ _ _ => pts_nil) (fun _ _ _ _ _ => (pe_call g_l_part (hr.mono (by first | decide | omega)) rfl T.m_l_part T.F_l_part.kp T.b_l_part .nil pass0 (pa_cons (pv 12) (pa_cons (pv 6) pa_nil))))))) pss_nil)
      (C8.pss_cut (ps_if (PW.pt (pw_and (pt_cmpR op_eq (pv 5) pe_int (nomark _)) (pw_and (pt_cmpR op_gt (pv 3) pe_int (nomark _)) (pw_and1 (pt_cmpR (op_neL0 hr.units0) (pv 2) (pe_lst pa_nil) (nomark _)))))) (pss_cons (ps_set (i := 8) sc_l_change.nd rfl (Or.inl rfl) (pe_op op_add (pv 8) (pe_ix ix_tup (pe_ix ix_list (pv 2) pe_int (fun _ _ => rfl)) (pe_op op_sub (pv 7) pe_int) (fun _ _ => rfl))))
      (pss_cons (ps_set (i := 9) sc_l_change.nd rfl (Or.inl rfl) (pe_op op_sub (pe_op op_add (pv 8) (pe_call g_l_pick (hr.mono (by first | decide | omega)) rfl T.m_l_pick T.F_l_pick.kp T.b_l_pick .nil pass0 (pa_cons (pv 0) (pa_cons pe_int pa_nil)))) (pe_callTy call_int1 rfl T.z_int bt_int (pa_cons (pe_cmpR op_eq (pe_call g_l_pick (hr.mono (by first | decide | omega)) rfl T.m_l_pick T.F_l_pick.kp T.b_l_pick .nil pass0 (pa_cons (pv 0) (pa_cons pe_int pa_nil))) pe_int (nomark _)) pa_nil))))
      (pss_one (ps_set (i := 10) sc_l_change.nd rfl (Or.inl rfl) (pe_call g_l_moved_points (hr.mono (by first | decide | omega)) rfl T.m_l_moved_points T.F_l_moved_points.kp T.b_l_moved_points .nil pass0 (pa_cons (pv 2) (pa_cons (pv 7) (pa_cons (pv 8) (pa_cons (pv 9) (pa_cons pe_bl pa_nil)))))))))) pss_nil)
      (C8.pss_cut (ps_if (PW.pt (pw_and (pt_cmpR op_eq (pv 5) pe_int (nomark _)) (pw_and1 (pt_cmpR op_gt (pv 3) pe_int (nomark _))))) (pss_one (ps_set (i := 10) sc_l_change.nd rfl (Or.inl rfl) (pe_call g_l_moved_points (hr.mono (by first | decide | omega)) rfl T.m_l_moved_points T.F_l_moved_points.kp T.b_l_moved_points .nil pass0 (pa_cons (pv 2) (pa_cons (pv 7) (pa_cons (pv 8) (pa_cons (pv 9) (pa_cons pe_bl pa_nil)))))))) pss_nil)
      (C8.pss_cut (ps_if (pt_cmpR op_eq (pv 5) pe_int (nomark _)) (pss_cons (ps_set (i := 3) sc_l_change.nd rfl (Or.inl rfl) (pe_op op_add (pv 3) (pe_callB call_len_seq rfl T.z_len PySem.boot_len (pa_cons (pv 11) pa_nil))))
      (pss_cons (ps_set (i := 13) sc_l_change.nd rfl (Or.inl rfl) (pe_call g_l_grid (hr.mono (by first | decide | omega)) rfl T.m_l_grid T.F_l_grid.kp T.b_l_grid .nil pass0 (pa_cons (pv 11) pa_nil)))
      (pss_cons (ps_set (i := 10) sc_l_change.nd rfl (Or.inl rfl) (pe_lst pa_nil))
      (pss_one (ps_for PassesOwn.never rfl (pi_list (pe_callTy call_list_of rfl T.z_list bt_list (pa_cons (pv 2) pa_nil))) (pg_name (i := 12) sc_l_change.nd rfl (Or.inl rfl))
        (pss_one (ps_for PassesOwn.never rfl (pi_list (pv 13)) (pg_name (i := 14) sc_l_change.nd rfl (Or.inl rfl))
        (pss_one (ps_expr (pe_bm PySem.F.plainAttrs_list PySem.F.slot_list_append PySem.F.type_list_append mt_append (pv 10) (pa_cons (pe_op op_catA (pv 12) (pv 14)) pa_nil))))))))))) pss_nil)
      (pss_cons (ps_set (i := 10) sc_l_change.nd rfl (Or.inl rfl) (pe_call g_l_distinct (hr.mono (by first | decide | omega)) rfl T.m_l_distinct T.F_l_distinct.kp T.b_l_distinct .nil pass0 (pa_cons (pv 10) pa_nil)))
      (pss_cons (ps_if (PW.pt (pw_or (pt_not (pt_val (pe_call g_l_few (hr.mono (by first | decide | omega)) rfl T.m_l_few T.F_l_few.kp T.b_l_few .nil pass0 (pa_cons (pv 10) (pa_cons (pv 3) pa_nil))))) (pw_or1 (pt_cmpR op_gt (pv 3) pe_int (nomark _))))) (pss_one (ps_ret pe_non)) pss_nil)
      (pss_cons (ps_dput (hu_of hr) (pv 1) pe_str (pv 10) rfl)
      (pss_cons (ps_dput (hu_of hr) (pv 1) pe_str (pv 3) rfl)
      (C8.pss_cut (ps_if (pt_cmpR op_eq (pv 5) pe_int (nomark _)) (pss_one (ps_dput (hu_of hr) (pv 1) pe_str (pe_call g_pick_columns (hr.mono (by first | decide | omega)) rfl T.m_pick_columns T.F_pick_columns.kp T.b_pick_columns .nil pass0 (pa_cons (pv 4) (pa_cons (pv 6) pa_nil))) rfl)) pss_nil)
      (C8.pss_cut (ps_if (PW.pt (pw_and (pt_cmpR op_eq (pv 5) pe_int (nomark _)) (pw_and1 (pt_cmpR op_gt (pv 3) pe_int (nomark _))))) (pss_one (ps_dput (hu_of hr) (pv 1) pe_str (pe_call g_free_column (hr.mono (by first | decide | omega)) rfl T.m_free_column T.F_free_column.kp T.b_free_column .nil pass0 (pa_cons (pv 4) (pa_cons (pv 7) (pa_cons (pv 8) (pa_cons (pv 9) pa_nil))))) rfl)) pss_nil)
      (C8.pss_cut (ps_if (PW.pt (pw_and (pt_cmpR op_eq (pv 5) pe_int (nomark _)) (pw_and1 (pt_cmpR op_gt (pv 3) pe_int (nomark _))))) (pss_one (ps_dput (hu_of hr) (pv 1) pe_str (pe_call g_shift_column (hr.mono (by first | decide | omega)) rfl T.m_shift_column T.F_shift_column.kp T.b_shift_column .nil pass0 (pa_cons (pv 4) (pa_cons (pv 7) (pa_cons (pv 8) (pa_cons (pv 9) pa_nil))))) rfl)) pss_nil)
      (C8.pss_cut (ps_if (pt_cmpR op_eq (pv 5) pe_int (nomark _)) (pss_one (ps_dput (hu_of hr) (pv 1) pe_str (pe_call g_add_columns (hr.mono (by first | decide | omega)) rfl T.m_add_columns T.F_add_columns.kp T.b_add_columns .nil pass0 (pa_cons (pv 4) (pa_cons (pe_callTy call_tuple_of rfl T.z_tuple bt_tuple (pa_cons (pv 11) pa_nil)) pa_nil))) rfl)) pss_nil)
      (pss_one (ps_ret pe_non)))))))))))))))))))))))), ?_⟩
  obtain ⟨as, eP, hA⟩ := id hP
  have la := hA.1
  have hn20 := ok.n
  refine ⟨_, rfl, d, _, rfl, .inl ⟨_, _, .inl hd, rfl, rd1 _ _ _ _⟩, ?_⟩
  refine ⟨_, rfl, d, _, rfl, .inl ⟨_, _, .inl hd, rfl, rd2 _ _ _ _⟩, ?_⟩
  refine ⟨_, rfl, d, _, rfl, .inl ⟨_, _, .inl hd, rfl, rd4 _ _ _ _⟩, ?_⟩
  refine ⟨_, rfl, a, 4, rfl, hS, by decide, fun ch G1 st1 ch0 ch1 => ?_⟩
  refine ⟨_, rfl, _, rfl, (by show 3 ≤ sizeLine; decide), fun l3 hl3 => ?_⟩
  refine ⟨_, rfl, a, 3, rfl, (st1.new hl3).s, by decide, fun u G3 st3 u0 u1 => ?_⟩
  have hl3G : G3 l3 = some (.lst ([4, 4, 7].map V.int)) := st3.k _ _ (st1.s.ne hl3).symm upd_same
  obtain ⟨v, mv, ev⟩ := ixMem (ns := [4, 4, 7]) (r := u) u0 (by show u < 3; omega)
  refine ⟨l3, _, u, _, rfl, rfl, SqL.of hl3G, ev, ?_⟩
  have hv : v = 4 ∨ v = 7 := by
    simp only [List.mem_cons, List.not_mem_nil, or_false] at mv
    omega
  have s3 := (st1.new (o := .lst ([4, 4, 7].map V.int)) hl3).trans st3
  refine ⟨a, n, v.toNat, (by rw [show ((v.toNat : Nat) : Int) = v by omega]; rfl), s3.s, hn20, by omega, fun t6 G4 cs st4 ht6 e6 hc lc => ?_⟩
  have s4 := s3.trans st4
  refine ⟨_, rfl, _, rfl, a, n, rfl, s4.s, by omega, fun i0 G5 st5 i00 i01 => ?_⟩
  obtain ⟨kk, rfl⟩ : ∃ m : Nat, i0 = (m : Int) := ⟨i0.toNat, by omega⟩
  refine ⟨_, _, rfl, rfl, ?_⟩
  have s5 := s4.trans st5
  refine ⟨_, rfl, a, 5, rfl, s5.s, by decide, fun lo0 G6 st6 lo00 lo01 => ⟨_, _, rfl, rfl, ?_⟩⟩
  have s6 := s5.trans st6
  refine ⟨_, rfl, _, rfl, a, 3, rfl, s6.s, by decide, fun hi0 G7 st7 hi00 hi01 => ⟨_, _, rfl, rfl, ?_⟩⟩
  have s7 := s6.trans st7
  dsimp only
  have blo : -2 ≤ lo0 - 2 ∧ lo0 - 2 ≤ 2 := by omega
  have bhi : lo0 - 2 ≤ lo0 - 2 + hi0 ∧ lo0 - 2 + hi0 ≤ lo0 - 2 + 2 := by omega
  generalize hhi : lo0 - 2 + hi0 = hi at bhi
  generalize lo0 - 2 = lo at blo bhi
  refine ⟨_, rfl, ?_⟩
  have ekk : (1 + (kk : Int)) = ((kk + 1 : Nat) : Int) := by omega
  refine ⟨fun σ G => ∃ (lq : Addr) (Rs : List (List Int)), σ = [some (.ref a), some (.ref d), some (.ref p), some (.int n), some vb, some (.int ch), some (.ref t6), some (.int ((kk + 1 : Nat) : Int)), some (.int lo), some (.int hi), some (.ref p), some (.ref lq), none, none, none] ∧ Stp a H G ∧ G t6 = some (.tup (natsV cs)) ∧ Pts K G lq Rs ∧ (∀ r ∈ Rs, PR true r ∧ IsPr r ∧ -10 ≤ r.getD 0 0 ∧ r.getD 1 0 ≤ 10) ∧ Rs.length ≤ 2, ?_, ?_⟩
  · refine ⟨_, rfl, _, rfl, (by show 2 ≤ sizeLine; decide), fun p1 hp1 => ?_⟩
    refine ⟨_, rfl, _, rfl, _, _, rfl, rfl, (by show 2 ≤ sizeLine; decide), fun p2 hp2 => ?_⟩
    refine ⟨(by show 2 ≤ sizeLine; decide), fun lp hlp => ?_⟩
    have s8 := ((s7.new (o := .tup [.int lo, .int hi]) hp1).new (o := .tup [.int hi, .int (hi + 1)]) hp2).new (o := .lst [.ref p1, .ref p2]) hlp
    refine ⟨_, rfl, a, 2, rfl, s8.s, by decide, fun w8 G8 st8 w0 w1 => ⟨_, _, rfl, rfl, _, rfl, ?_⟩⟩
    refine ⟨lp, _, rfl, SqL.of (st8.k _ _ (fun z => ((s7.new (o := .tup [.int lo, .int hi]) hp1).new (o := .tup [.int hi, .int (hi + 1)]) hp2).s.ne hlp z.symm) upd_same), fun lq hlq => ?_⟩
    have f1 := st8.k _ _ (fun z => (s7.s.ne hp1) z.symm) ((Same.new hlp (.lst [V.ref p1, V.ref p2])) _ _ ((Same.new hp2 (.tup [.int hi, .int (hi + 1)])) _ _ (upd_same (H := G7) (a := p1) (o := .tup [.int lo, .int hi]))))
    have f2 := st8.k _ _ (fun z => ((s7.new (o := .tup [.int lo, .int hi]) hp1).s.ne hp2) z.symm) ((Same.new hlp (.lst [V.ref p1, V.ref p2])) _ _ (upd_same (H := upd G7 p1 (.tup [.int lo, .int hi])) (a := p2) (o := .tup [.int hi, .int (hi + 1)])))
    obtain ⟨Rs, hRs, eR, lR⟩ : ∃ Rs : List (List Int), Pts K (upd G8 lq (.lst (cutV [V.ref p1, V.ref p2] none (some (1 + w8))))) lq Rs ∧ (∀ r ∈ Rs, PR true r ∧ IsPr r ∧ -10 ≤ r.getD 0 0 ∧ r.getD 1 0 ≤ 10) ∧ Rs.length ≤ 2 := by
      have sl := Same.new hlq (.lst (cutV [V.ref p1, V.ref p2] none (some (1 + w8))))
      have pr : ∀ r ∈ [[lo, hi], [hi, hi + 1]], PR true r ∧ IsPr r ∧ -10 ≤ r.getD 0 0 ∧ r.getD 1 0 ≤ 10 := fun r hr => by
        rcases List.mem_cons.mp hr with e | e
        · exact ⟨⟨lo, hi, e, by omega, by omega, by omega, fun _ => by omega⟩, ⟨lo, hi, e, by omega⟩, by rw [e]; show -10 ≤ lo ∧ hi ≤ 10; omega⟩
        · rw [List.mem_singleton] at e
          exact ⟨⟨hi, hi + 1, e, by omega, by omega, by omega, fun _ => by omega⟩, ⟨hi, hi + 1, e, by omega⟩, by rw [e]; show -10 ≤ hi ∧ hi + 1 ≤ 10; omega⟩
      rcases (show w8 = 0 ∨ w8 = 1 by omega) with rfl | rfl
      · refine ⟨[[lo, hi]], ⟨[p1], upd_same, rfl, fun i x r e1 e2 => ?_⟩, fun r hr => pr r (by rw [List.mem_singleton.mp hr]; simp), by simp⟩
        match i, e1, e2 with
        | 0, e1, e2 =>
          cases e1
          cases e2
          exact Same.tup sl (SqT.of f1)
        | i + 1, e1, _ => simp at e1
      · refine ⟨[[lo, hi], [hi, hi + 1]], ⟨[p1, p2], upd_same, rfl, fun i x r e1 e2 => ?_⟩, pr, by simp⟩
        match i, e1, e2 with
        | 0, e1, e2 =>
          cases e1
          cases e2
          exact Same.tup sl (SqT.of f1)
        | 1, e1, e2 =>
          cases e1
          cases e2
          exact Same.tup sl (SqT.of f2)
        | i + 2, e1, _ => simp at e1
    have s9 := (s8.trans st8).new (o := .lst (cutV [V.ref p1, V.ref p2] none (some (1 + w8)))) hlq
    have t6a : t6 ≠ a := fun z => (s3.s.ne ht6) z.symm
    have e69 : (upd G8 lq (.lst (cutV [V.ref p1, V.ref p2] none (some (1 + w8))))) t6 = some (.tup (natsV cs)) := (((((((Stp.refl st4.s).trans st5).trans st6).trans st7).new hp1).new hp2).new hlp |>.trans st8 |>.new hlq).k _ _ t6a e6
    generalize upd G8 lq (.lst (cutV [V.ref p1, V.ref p2] none (some (1 + w8)))) = G9 at hRs s9 e69
    rw [← ekk]
    exact ⟨lq, Rs, rfl, s9, e69, hRs, eR, lR⟩
  clear e6 st4 s4 st5 st6 s5 s6 st7 s7 s3 st3 st1 hl3G
  rintro σ G9 ⟨lq, Rs, rfl, s9, e69, hRs, eR, lR⟩
  have p9 := hP.stp s9 hS (fun z => by
    obtain ⟨x, y, z2, e⟩ := hS
    rw [z, e] at eP
    cases as with
    | nil => cases eP
    | cons b bs => cases eP)
  have hkI : (k : Int) ≤ 100 := by omega
  obtain ⟨Mid, hMid⟩ : ∃ Mid : Int → L2.St → Hp → Prop, Mid = fun j σ G => ∃ (q1 : Addr) (m : Nat) (Fs : List (List Int)) (lo' hi' : Int) (x12 x13 x14 : Option V), σ = [some (.ref a), some (.ref d), some (.ref p), some (.int m), some vb, some (.int ch), some (.ref t6), some (.int ((kk + 1 : Nat) : Int)), some (.int lo'), some (.int hi'), some (.ref q1), some (.ref lq), x12, x13, x14] ∧ Stp a H G ∧ TPts G q1 Fs ∧ SqT K G t6 (natsV cs) ∧ Pts K G lq Rs ∧ Fs.length ≤ 100000 ∧ (∀ r ∈ Fs, Wth (3000000000 + 1000 * ((k + 1 : Nat) : Int)) r) ∧ ((ch < j ∧ Plan n kk cs Ps Rs ch lo' hi' m Fs) ∨ (j ≤ ch ∧ p = q1 ∧ n = m ∧ Ps = Fs ∧ lo = lo' ∧ hi = hi')) := ⟨_, rfl⟩
  have w1 : ∀ r ∈ Ps, Wth (3000000000 + 1000 * ((k + 1 : Nat) : Int)) r := fun r hr => wth_up (ok.w r hr) (by omega)
  have l1 := ok.l
  refine ⟨Mid 1, ?_, ?_⟩
  · rw [hMid]
    refine ⟨_, rfl, rfl, _, rfl, ite2 (fun h => ?_) (fun h => ?_)⟩
    · have ec : ch = 0 := V.int.inj (of_decide_eq_true h)
      refine ⟨_, rfl, t6, _, rfl, .inr (SqT.of e69), ?_⟩
      obtain ⟨as9, eP9, hA9⟩ := id p9
      refine ⟨_, rfl, p, rfl, ⟨_, SqL.of eP9⟩, fun D hD => ?_⟩
      refine lc_it (walk_list (xs := as9.map V.ref)) (fun i G => Same G9 G ∧ TPts G D ((Ps.take i).map fun r => partL r cs)) ⟨Same.new hD _, TPts.nil upd_same⟩ (fun i G _ P => SqL.of (P.1 _ _ eP9)) ?_ ?_
      · rintro i2 y F0 F hi2 ⟨sF, pF2⟩ ⟨rfl, ex⟩
        rw [List.length_map, hA9.1] at hi2
        have er : Ps[i2]? = some Ps[i2] := List.getElem?_eq_getElem hi2
        have lq0 := ok.f.len _ (List.getElem_mem hi2)
        generalize Ps[i2] = q0 at er lq0
        have ea : as9[i2]? = some (as9[i2]'(by rw [hA9.1]; exact hi2)) := List.getElem?_eq_getElem _
        generalize as9[i2]'(by rw [hA9.1]; exact hi2) = tq at ea
        rw [map_get ea] at ex
        obtain rfl := Option.some.inj ex
        have htq := sF _ _ (hA9.2 i2 tq q0 ea er)
        refine ⟨rfl, tyes ?_⟩
        refine ⟨_, rfl, _, rfl, tq, t6, q0, cs, rfl, SqT.of htq, SqT.of (sF _ _ e69), (by rw [lq0]; exact hc), by omega, fun q2 G2 s2 e2 => ?_⟩
        obtain ⟨bs, b1', b2'⟩ := id (pF2.same s2)
        refine ⟨_, b1', lt_line (by rw [List.length_map, b2'.1, List.length_map, List.length_take]; omega), fun b o e => ?_, ?_⟩
        · rw [upd_ne (ne_of_none e hD)]
          exact s2 _ _ (sF _ _ e)
        · rw [take_snoc er, List.map_append]
          exact TPts.push b2' (Same.refl _) b1' e2
      · rintro G10 ⟨s10, p10⟩
        rw [List.length_map, hA9.1, List.take_length] at p10
        refine ⟨D, cs.length, _, lo, hi, _, none, none, (by rw [show (natsV cs).length = cs.length by simp [natsV]]; rfl), s9.same s10, p10, Same.tup s10 (SqT.of e69), hRs.same s10, by rw [List.length_map]; omega, fun r hr => ?_, .inl ⟨by omega, .inl ⟨ec, rfl, rfl⟩⟩⟩
        obtain ⟨r0, hr0, rfl⟩ := List.mem_map.mp hr
        exact wth_part (w1 r0 hr0) (by omega)
    · have ec : ch ≠ 0 := fun z => h (decide_eq_true (congrArg V.int z))
      exact ⟨p, n, Ps, lo, hi, none, none, none, rfl, s9, p9, SqT.of e69, hRs, by omega, w1, .inr ⟨by omega, rfl, rfl, rfl, rfl, rfl⟩⟩
  rw [hMid]
  rintro σ G ⟨q1, m, Fs, lo1, hi1, x12, x13, x14, rfl, sG, pG, t6G, rsG, lF, wF, alt⟩
  refine ⟨Mid 2, ?_, ?_⟩
  · rw [hMid]
    refine ⟨_, rfl, rfl, _, rfl, ite2 (fun h => ?_) (fun h => ifF rfl ?_)⟩
    · have ec : ch = 1 := V.int.inj (of_decide_eq_true h)
      rcases alt with ⟨z, _⟩ | ⟨_, rfl, rfl, rfl, rfl, rfl⟩
      · omega
      refine ⟨_, rfl, _, _, rfl, rfl, _, rfl, ite2 (fun hn0 => ?_) (fun hn0 => ifF rfl ?_)⟩
      · have n0 : 0 < n := by
          have : (n : Int) > 0 := of_decide_eq_true hn0
          omega
        obtain ⟨asG, eG, hG⟩ := id pG
        refine ⟨_, rfl, (by show 0 ≤ sizeLine; decide), fun le hle => ?_⟩
        have sN := Same.new hle (.lst [])
        have sE := sG.same sN
        have pE := pG.same sN
        have t6E := Same.tup sN t6G
        have rsE := rsG.same sN
        refine ⟨p, le, _, rfl, rfl, SqL.of (sN _ _ eG), SqL.of upd_same, _, rfl, ite2 (fun h3 => ?_) (fun h3 => ?_)⟩
        · have nP : Ps ≠ [] := fun z => by
            have := hG.1
            rw [z] at this
            rw [List.length_eq_zero_iff.mp this] at h3
            exact absurd h3 (by decide)
          have l0 := List.length_pos_iff.mpr nP
          have er : Ps[0]? = some (Ps[0]'l0) := List.getElem?_eq_getElem l0
          have mr := List.getElem_mem l0
          generalize Ps[0]'l0 = r0 at er mr
          have lr := ok.f.len _ mr
          have wr := xget_wth (ok.w _ mr) (k := kk) (by omega)
          have ea : asG[0]? = some (asG[0]'(by rw [hG.1]; exact l0)) := List.getElem?_eq_getElem _
          generalize asG[0]'(by rw [hG.1]; exact l0) = a0 at ea
          have htE : SqT K _ a0 (r0.map V.int) := SqT.of (sN _ _ (hG.2 0 a0 r0 ea er))
          have atk : atI (r0.map V.int) (((kk + 1 : Nat) : Int) - 1) = some (.int (r0.getD kk 0)) := by
            have h := atI_row (r := r0) (i := kk) (by omega)
            rw [Int.zero_add] at h
            have e : (((kk + 1 : Nat) : Int) - 1) = (kk : Int) := by omega
            rwa [e]
          have eE := sN _ _ eG
          generalize upd G le (.lst []) = G3 at sE pE t6E rsE htE eE
          refine ⟨_, rfl, _, rfl, p, _, _, _, rfl, rfl, SqL.of eE, atI_nat (j := 0) (map_get ea), _, rfl, _, _, rfl, rfl, a0, _, _, _, rfl, rfl, htE, atk, _, _, rfl, rfl, ?_⟩
          have b4 : (3000000000 + 1000 * (k : Int)) + 10 ≤ 3000000000 + 1000 * ((k + 1 : Nat) : Int) := by omega
          refine ⟨_, rfl, _, rfl, a, 4, rfl, sE.s, by decide, fun r4 G4 st4 r40 r41 => ⟨_, _, rfl, rfl, ?_⟩⟩
          refine ⟨_, rfl, a, 8, rfl, st4.s, by decide, fun r8 G5 st5 _ _ => ⟨rfl, .inr ⟨_, rfl, _, _, rfl, rfl, ?_⟩⟩⟩
          have be : 0 ≤ (if decide (V.int r8 = V.int 0) = true then (1 : Int) else 0) ∧ (if decide (V.int r8 = V.int 0) = true then (1 : Int) else 0) ≤ 1 := by split <;> omega
          generalize (if decide (V.int r8 = V.int 0) = true then (1 : Int) else 0) = e8 at be
          have s5 := (sE.trans st4).trans st5
          have st45 := st4.trans st5
          have p5 := pE.stp st45 sE.s (src_ne sE.s eE)
          have t65 := st45.rd t6E sE.s
          have rs5 := rsE.stp st45 sE.s (by obtain ⟨qs, eQ, _⟩ := id rsE; exact src_ne sE.s eQ)
          refine ⟨_, rfl, _, rfl, _, rfl, _, rfl, p, Ps, n, kk, lo + r0.getD kk 0, lo + r0.getD kk 0 + r4 - e8, true, rfl, p5, ok.f.len, by omega, by omega, ok.l, by omega, by omega, by omega, by omega, fun q2 G6 s6 t2 => ?_⟩
          refine ⟨q2, n, _, lo + r0.getD kk 0, lo + r0.getD kk 0 + r4 - e8, x12, x13, x14, rfl, s5.same s6, t2, Same.tup s6 t65, rs5.same s6, ?_, fun r hr => ?_, .inl ⟨by omega, .inr (.inl ⟨ec, by omega, nP, rfl, rfl⟩)⟩⟩
          · exact Nat.le_trans (movL_len (m := 5) (by omega) Ps) (by omega)
          · obtain ⟨r1, hr1, v1, v2, v3, rfl⟩ := mem_movL.mp hr
            exact wth_put (w1 r1 hr1) (by show _ ≤ v1; omega) (by show v1 ≤ _; omega)
        · refine ⟨p, n, Ps, lo, hi, x12, x13, x14, rfl, sE, pE, t6E, rsE, lF, wF, .inl ⟨by omega, .inr (.inr (.inl ⟨ec, .inr ?_, rfl, rfl⟩))⟩⟩
          have := hG.1
          cases asG with
          | nil => exact List.length_eq_zero_iff.mp this.symm
          | cons b bs => exact absurd (by rfl) h3
      · refine ⟨p, n, Ps, lo, hi, x12, x13, x14, rfl, sG, pG, t6G, rsG, lF, wF, .inl ⟨by omega, .inr (.inr (.inl ⟨ec, .inl ?_, rfl, rfl⟩))⟩⟩
        have : ¬ (n : Int) > 0 := fun z => hn0 (decide_eq_true z)
        omega
    · exact ⟨q1, m, Fs, lo1, hi1, x12, x13, x14, rfl, sG, pG, t6G, rsG, lF, wF, alt.elim (fun z => .inl ⟨by omega, z.2⟩) (fun z => .inr ⟨by have : ch ≠ 1 := fun z => h (decide_eq_true (congrArg V.int z)); omega, z.2⟩)⟩
  rw [hMid]
  rintro σ G ⟨q1, m, Fs, lo1, hi1, x12, x13, x14, rfl, sG, pG, t6G, rsG, lF, wF, alt⟩
  refine ⟨Mid 3, ?_, ?_⟩
  · rw [hMid]
    refine ⟨_, rfl, rfl, _, rfl, ite2 (fun h => ?_) (fun h => ifF rfl ?_)⟩
    · have ec : ch = 2 := V.int.inj (of_decide_eq_true h)
      rcases alt with ⟨z, pl⟩ | ⟨_, rfl, rfl, rfl, rfl, rfl⟩
      · omega
      refine ⟨_, rfl, _, _, rfl, rfl, _, rfl, ite2 (fun hn0 => ?_) (fun hn0 => ?_)⟩
      · have n0 : 0 < n := by
          have : (n : Int) > 0 := of_decide_eq_true hn0
          omega
        refine ⟨_, rfl, _, rfl, _, rfl, _, rfl, p, Ps, n, kk, lo, hi, false, rfl, pG, ok.f.len, by omega, by omega, ok.l, by omega, by omega, by omega, by omega, fun q2 G2 s2 t2 => ?_⟩
        refine ⟨q2, n, _, lo, hi, x12, x13, x14, rfl, sG.same s2, t2, Same.tup s2 t6G, rsG.same s2, ?_, fun r hr => ?_, .inl ⟨by omega, .inr (.inr (.inr (.inl ⟨ec, by omega, rfl, rfl⟩)))⟩⟩
        · exact Nat.le_trans (movL_len (m := 3) (by omega) Ps) (by have := ok.l; omega)
        · obtain ⟨r1, hr1, v1, v2, v3, rfl⟩ := mem_movL.mp hr
          have wr := xget_wth (ok.w _ hr1) (k := kk) (by rw [ok.f.len _ hr1]; omega)
          exact wth_put (w1 r1 hr1) (by show _ ≤ r1.getD kk 0 + v1; omega) (by show r1.getD kk 0 + v1 ≤ _; omega)
      · refine ⟨p, n, Ps, lo, hi, x12, x13, x14, rfl, sG, pG, t6G, rsG, lF, wF, .inl ⟨by omega, .inr (.inr (.inr (.inr (.inl ⟨ec, ?_, rfl, rfl⟩))))⟩⟩
        have : ¬ (n : Int) > 0 := fun z => hn0 (decide_eq_true z)
        omega
    · exact ⟨q1, m, Fs, lo1, hi1, x12, x13, x14, rfl, sG, pG, t6G, rsG, lF, wF, alt.elim (fun z => .inl ⟨by omega, z.2⟩) (fun z => .inr ⟨by have : ch ≠ 2 := fun z => h (decide_eq_true (congrArg V.int z)); omega, z.2⟩)⟩
  rw [hMid]
  rintro σ G ⟨q1, m, Fs, lo1, hi1, x12, x13, x14, rfl, sG, pG, t6G, rsG, lF, wF, alt⟩
  refine ⟨Mid 4, ?_, ?_⟩
  · rw [hMid]
    refine ⟨_, rfl, rfl, _, rfl, ite2 (fun h => ?_) (fun h => ?_)⟩
    · have ec : ch = 3 := V.int.inj (of_decide_eq_true h)
      rcases alt with ⟨z, pl⟩ | ⟨_, rfl, rfl, rfl, rfl, rfl⟩
      · omega
      obtain ⟨qs, eQ, lQs, hQs⟩ := id rsG
      refine ⟨_, rfl, _, rfl, lq, _, rfl, .inl (SqL.of eQ), _, _, rfl, rfl, ?_⟩
      refine ⟨_, rfl, lq, Rs, rfl, rsG.mx, fun r hr => (eR r hr).1, by omega, fun x G1 s1 tx => ?_⟩
      refine ⟨(by show 0 ≤ sizeLine; decide), fun L hL => ?_⟩
      have sL := s1.trans (Same.new hL (.lst []))
      obtain ⟨asG, eG, hG⟩ := id pG
      obtain ⟨ms, eM, hM⟩ := id tx
      refine ⟨_, rfl, p, _, rfl, .inl (SqL.of (sL _ _ eG)), fun l2 hl2 => ⟨l2, rfl, ⟨_, SqL.of upd_same⟩, ?_⟩⟩
      have gm := fun p => mem_grid (Rs := Rs) (Nat.le_refl _) p
      have gl := grid_len (fun r hr => (eR r hr).1) Rs.length (Nat.le_refl _)
      rw [List.take_length] at gm gl
      have gl16 : (gridL Rs).length ≤ 16 := Nat.le_trans gl (by rcases (show Rs.length = 0 ∨ Rs.length = 1 ∨ Rs.length = 2 by omega) with e | e | e <;> rw [e] <;> decide)
      have s12 := sL.trans (Same.new hl2 (.lst (asG.map V.ref)))
      have nL2 : L ≠ l2 := ne_of_none upd_same hl2
      have eL0 : (upd (upd G1 L (.lst [])) l2 (.lst (asG.map V.ref))) L = some (.lst []) := by rw [upd_ne nL2]; exact upd_same
      have e20 : (upd (upd G1 L (.lst [])) l2 (.lst (asG.map V.ref))) l2 = some (.lst (asG.map V.ref)) := upd_same
      have s10 : Same G1 (upd (upd G1 L (.lst [])) l2 (.lst (asG.map V.ref))) := (Same.new hL _).trans (Same.new hl2 _)
      generalize upd (upd G1 L (.lst [])) l2 (.lst (asG.map V.ref)) = G2 at s12 eL0 e20 s10
      refine for_it (walk_list (xs := asG.map V.ref)) (fun i σ F => (∃ y z : Option V, σ = [some (.ref a), some (.ref d), some (.ref p), some (.int ((n : Int) + (((qs.map V.ref).length : Nat) : Int))), some vb, some (.int ch), some (.ref t6), some (.int ((kk + 1 : Nat) : Int)), some (.int lo), some (.int hi), some (.ref L), some (.ref lq), y, some (.ref x), z]) ∧ Same G1 F ∧ F l2 = some (.lst (asG.map V.ref)) ∧ TPts F L ((Ps.take i).flatMap fun r => (gridL Rs).map fun q => r ++ q))
        ⟨⟨_, _, rfl⟩, s10, e20, TPts.nil eL0⟩ (fun j σ F _ P => SqL.of P.2.2.1) ?_ ?_
      · rintro i v σ F0 F hi2 ⟨⟨y, z, rfl⟩, sF, e2, pF⟩ ⟨rfl, ev⟩
        rw [List.length_map, hG.1] at hi2
        have er : Ps[i]? = some Ps[i] := List.getElem?_eq_getElem hi2
        have mr := List.getElem_mem hi2
        generalize Ps[i] = r at er mr
        have lr := ok.f.len _ mr
        have ea : asG[i]? = some (asG[i]'(by rw [hG.1]; exact hi2)) := List.getElem?_eq_getElem _
        generalize asG[i]'(by rw [hG.1]; exact hi2) = ta at ea
        rw [map_get ea] at ev
        obtain rfl := Option.some.inj ev
        have tk : (Ps.take (i + 1)).flatMap (fun r => (gridL Rs).map fun q => r ++ q) = (Ps.take i).flatMap (fun r => (gridL Rs).map fun q => r ++ q) ++ (gridL Rs).map fun q => r ++ q := by
          rw [take_snoc er, List.flatMap_append]
          simp
        have lacc : ((Ps.take i).flatMap fun r => (gridL Rs).map fun q => r ++ q).length ≤ 3000 * 16 := Nat.le_trans (flat_len gl16 _) (Nat.mul_le_mul_right 16 (by rw [List.length_take]; have := ok.l; omega))
        generalize (Ps.take i).flatMap (fun r => (gridL Rs).map fun q => r ++ q) = acc at pF tk lacc
        rw [tk]
        refine ⟨_, rfl, x, rfl, ⟨_, SqL.of (sF _ _ eM)⟩, ?_⟩
        refine for_it (walk_list (xs := ms.map V.ref)) (fun j σ F => (∃ z : Option V, σ = [some (.ref a), some (.ref d), some (.ref p), some (.int ((n : Int) + (((qs.map V.ref).length : Nat) : Int))), some vb, some (.int ch), some (.ref t6), some (.int ((kk + 1 : Nat) : Int)), some (.int lo), some (.int hi), some (.ref L), some (.ref lq), some (.ref ta), some (.ref x), z]) ∧ Same G1 F ∧ F l2 = some (.lst (asG.map V.ref)) ∧ TPts F L (acc ++ ((gridL Rs).take j).map fun q => r ++ q))
          ⟨⟨_, rfl⟩, sF, e2, by rw [List.take_zero, List.map_nil, List.append_nil]; exact pF⟩ (fun j σ F _ P => SqL.of (P.2.1 _ _ eM)) ?_ ?_
        · rintro j v σ F1 F2 hj ⟨⟨z, rfl⟩, sF2, e2', pF2⟩ ⟨rfl, ev⟩
          rw [List.length_map, hM.1] at hj
          have eq : (gridL Rs)[j]? = some (gridL Rs)[j] := List.getElem?_eq_getElem hj
          have mq := List.getElem_mem hj
          generalize (gridL Rs)[j] = qj at eq mq
          have lq' := ((gm qj).mp mq).1
          have em : ms[j]? = some (ms[j]'(by rw [hM.1]; exact hj)) := List.getElem?_eq_getElem _
          generalize ms[j]'(by rw [hM.1]; exact hj) = tm at em
          rw [map_get em] at ev
          obtain rfl := Option.some.inj ev
          obtain ⟨bs, b1, b2⟩ := id pF2
          refine ⟨_, rfl, .inl ⟨rfl, _, SqL.of b1⟩, ?_⟩
          refine ⟨_, rfl, _, rfl, catT (sF2 _ _ (s1 _ _ (hG.2 i ta r ea er))) (sF2 _ _ (hM.2 j tm qj em eq)) (by rw [List.length_map, List.length_map]; omega) fun z1 F3 s3 hz1 => ?_⟩
          refine ⟨L, _, _, rfl, rfl, s3 _ _ b1, lt_line (by rw [List.length_map, b2.1, List.length_append, List.length_map, List.length_take]; omega), ?_⟩
          refine ⟨⟨_, rfl⟩, fun b o e => ?_, ?_, ?_⟩
          · rw [upd_ne (ne_of_none e hL)]
            exact s3 _ _ (sF2 _ _ e)
          · rw [upd_ne nL2.symm]
            exact s3 _ _ e2'
          · rw [take_snoc eq, List.map_append, ← List.append_assoc]
            exact TPts.push b2 s3 (s3 _ _ b1) (by rw [hz1, List.map_append])
        · rintro σ F2 ⟨⟨z, rfl⟩, sF2, e2', pF2⟩
          rw [List.length_map, hM.1, List.take_length] at pF2
          exact ⟨⟨_, _, rfl⟩, sF2, e2', pF2⟩
      · rintro σ F ⟨⟨y, z, rfl⟩, sF, e2, pF⟩
        rw [List.length_map, hG.1, List.take_length] at pF
        have en : ((n : Int) + (((qs.map V.ref).length : Nat) : Int)) = ((n + Rs.length : Nat) : Int) := by
          rw [List.length_map, lQs]
          omega
        rw [en]
        have sGF := s1.trans sF
        refine ⟨L, n + Rs.length, _, lo, hi, y, some (.ref x), z, rfl, sG.same sGF, pF, Same.tup sGF t6G, rsG.same sGF, Nat.le_trans (flat_len gl16 _) (by omega), fun r hr => ?_, .inl ⟨by omega, .inr (.inr (.inr (.inr (.inr ⟨ec, rfl, rfl⟩))))⟩⟩
        obtain ⟨r1, hr1, hr2⟩ := List.mem_flatMap.mp hr
        obtain ⟨g1, hg1, rfl⟩ := List.mem_map.mp hr2
        intro v hv
        rcases List.mem_append.mp hv with h1 | h1
        · exact w1 r1 hr1 v h1
        · have gi := (gm g1).mp hg1
          obtain ⟨k1, hk1, rfl⟩ := List.getElem_of_mem h1
          have g2 := gi.2 k1 (by rw [← gi.1]; exact hk1)
          have hk2 : k1 < Rs.length := by rw [← gi.1]; exact hk1
          have g3 := eR (Rs.getD k1 []) (by rw [List.getD_eq_getElem?_getD, List.getElem?_eq_getElem hk2]; exact List.getElem_mem hk2)
          have g4 : g1.getD k1 0 = g1[k1] := by rw [List.getD_eq_getElem?_getD, List.getElem?_eq_getElem hk1]; rfl
          rw [g4] at g2
          omega
    · exact ⟨q1, m, Fs, lo1, hi1, x12, x13, x14, rfl, sG, pG, t6G, rsG, lF, wF, alt.elim (fun z => .inl ⟨by omega, z.2⟩) (fun z => .inr ⟨by have : ch ≠ 3 := fun z => h (decide_eq_true (congrArg V.int z)); omega, z.2⟩)⟩
  rw [hMid]
  rintro σ G ⟨q1, m, Fs, lo1, hi1, x12, x13, x14, rfl, sG, pG, t6G, rsG, lF, wF, alt⟩
  have pl : Plan n kk cs Ps Rs ch lo1 hi1 m Fs := alt.elim (fun z => z.2) fun z => by omega
  clear hMid
  refine ⟨_, rfl, q1, Fs, rfl, pG, by omega, fun q2 G2 Qs s2 t2 mQ lQ => ?_⟩
  have pf := plan_full (Qs := Qs) pl ok.f hc (fun r hr => (eR r hr).2.1) (fun z => by omega) mQ
  obtain ⟨as2, e2, h2⟩ := id t2
  have m22 : m ≤ 22 := by
    rcases pl with ⟨_, h, _⟩ | ⟨_, _, _, h, _⟩ | ⟨_, _, h, _⟩ | ⟨_, _, h, _⟩ | ⟨_, _, h, _⟩ | ⟨_, h, _⟩ <;> omega
  refine ⟨_, rfl, _, rfl, q2, _, m, rfl, SqL.of e2, by omega, ?_⟩
  have sG2 := sG.same s2
  have d2 := sG2.k _ _ nad.symm hd
  have B2 := hB.keep (Keeps.of_stp (K := K) sG2 hS)
  have back := q G2 n Ps ⟨p, vd, vb, d2, hP.stp sG2 hS (src_ne hS eP), B2⟩ ⟨ok.f, ok.l, w1, ok.n⟩ (fun b o n1 _ e => sG2.k _ _ n1 e)
  refine ⟨_, rfl, ite2 (fun hf => ifT rfl ?_) (fun hf => ⟨_, rfl, _, _, rfl, rfl, _, rfl, ite2 (fun h20 => ?_) (fun h20 => ?_)⟩)⟩
  · exact back
  · exact back
  have m20 : m ≤ 20 := by
    have : ¬ (20 : Int) < (m : Int) := fun z => h20 (decide_eq_true z)
    omega
  have l3 : Qs.length ≤ 3000 := by
    have h : decide ((((as2.map V.ref).length : Nat) : Int) * ((m : Int) + 1) * ((m : Int) + 1) ≤ 3000) = true := by
      cases e : decide ((((as2.map V.ref).length : Nat) : Int) * ((m : Int) + 1) * ((m : Int) + 1) ≤ 3000) with
      | true => rfl
      | false => exact absurd (by rw [e]; rfl) hf
    have h := of_decide_eq_true h
    rw [List.length_map, h2.1] at h
    have h4 : ((Qs.length * (m + 1) * (m + 1) : Nat) : Int) ≤ 3000 := by push_cast; exact h
    have h5 : Qs.length ≤ Qs.length * (m + 1) := Nat.le_mul_of_pos_right _ (Nat.succ_pos m)
    have h6 : Qs.length * (m + 1) ≤ Qs.length * (m + 1) * (m + 1) := Nat.le_mul_of_pos_right _ (Nat.succ_pos m)
    omega
  clear hf h20
  have kd1 := Keeps.dk (K := K) (o := .dK (stK (.ref q2) (.int n) vd vb)) d2
  refine ⟨_, rfl, _, rfl, d, _, rfl, DPut.k (k := Sum.inr "points") d2 (lt_line (by show 4 ≤ 10000000; decide)), ?_⟩
  rw [wr1]
  refine ⟨_, rfl, _, rfl, d, _, rfl, DPut.k (k := Sum.inr "size") upd_same (lt_line (by show 4 ≤ 10000000; decide)), ?_⟩
  rw [wr2]
  have d3 : (upd (upd G2 d (.dK (stK (.ref q2) (.int n) vd vb))) d (.dK (stK (.ref q2) (.int m) vd vb))) d = some (.dK (stK (.ref q2) (.int m) vd vb)) := upd_same
  have kd2 := Keeps.dk (K := K) (H := upd G2 d (.dK (stK (.ref q2) (.int n) vd vb))) (o := .dK (stK (.ref q2) (.int m) vd vb)) upd_same
  have af : Aft K H a d q2 t6 lq m n vd vb cs Ps Qs Rs (upd (upd G2 d (.dK (stK (.ref q2) (.int n) vd vb))) d (.dK (stK (.ref q2) (.int m) vd vb))) vb := by
    refine ⟨fun b o n1 n2 e => ?_, upd_same, (t2.dk d2).dk upd_same, kd2 _ _ (kd1 _ _ (Same.tup s2 t6G)), Pts.keep kd2 (fun xs e => ?_) (Pts.keep kd1 (fun xs e => ?_) (rsG.same s2)), (B2.keep kd1).keep kd2⟩
    · rw [upd_ne n2, upd_ne n2]
      exact sG2.k _ _ n1 e
    · rw [upd_ne (fun z => by rw [z, upd_same] at e; cases e)]
      exact e
    · rw [upd_ne (fun z => by rw [z, d2] at e; cases e)]
      exact e
  generalize upd (upd G2 d (.dK (stK (.ref q2) (.int n) vd vb))) d (.dK (stK (.ref q2) (.int m) vd vb)) = G3 at d3 af
  obtain ⟨Mid, hMid⟩ : ∃ Mid : Int → L2.St → Hp → Prop, Mid = fun j σ G => ∃ v : V, σ = [some (.ref a), some (.ref d), some (.ref p), some (.int m), some vb, some (.int ch), some (.ref t6), some (.int ((kk + 1 : Nat) : Int)), some (.int lo1), some (.int hi1), some (.ref q2), some (.ref lq), x12, x13, x14] ∧ Aft K H a d q2 t6 lq m n vd vb cs Ps Qs Rs G v ∧ ((ch < j ∧ BoxAt K G v (hull m Qs)) ∨ (j ≤ ch ∧ v = vb)) := ⟨_, rfl⟩
  have hdS : (H d).isSome = true := by rw [hd]; rfl
  refine ⟨Mid 1, ?_, ?_⟩
  · rw [hMid]
    refine ⟨_, rfl, rfl, _, rfl, ite2 (fun h => ?_) (fun h => ?_)⟩
    · have ec : ch = 0 := V.int.inj (of_decide_eq_true h)
      refine ⟨_, rfl, _, rfl, vb, hull n Ps, t6, cs, n + 1, rfl, af.b, hull_sz n Ps, af.c, (fun c h => by have := hc c h; omega), by omega, by omega, by omega, fun v G4 s4 b4 => ?_⟩
      rw [pf.2.1 ec] at b4
      obtain ⟨H5, p5, a5, b5⟩ := af.put hdS s4 b4
      exact ⟨_, rfl, d, H5, rfl, p5, v, rfl, a5, .inl ⟨by omega, b5⟩⟩
    · exact ⟨vb, rfl, af, .inr ⟨by have : ch ≠ 0 := fun z => h (decide_eq_true (congrArg V.int z)); omega, rfl⟩⟩
  clear af d3
  rw [hMid]
  rintro σ G3 ⟨v, rfl, af, alt⟩
  refine ⟨Mid 2, ?_, ?_⟩
  · rw [hMid]
    refine ⟨_, rfl, rfl, _, rfl, ite2 (fun h => ?_) (fun h => ifF rfl ?_)⟩
    · have ec : ch = 1 := V.int.inj (of_decide_eq_true h)
      refine ⟨_, rfl, _, _, rfl, rfl, _, rfl, ite2 (fun hn0 => ?_) (fun hn0 => ?_)⟩
      · have n0 : 0 < m := by
          have : (m : Int) > 0 := of_decide_eq_true hn0
          omega
        have pb := pf.2.2.1 ec n0
        refine ⟨_, rfl, _, rfl, _, rfl, _, rfl, vb, hull n Ps, kk + 1, n + 1, lo1, hi1, rfl, af.b, hull_sz n Ps, by omega, by omega, fun v G4 s4 b4 => ?_⟩
        rw [pb.2] at b4
        obtain ⟨H5, p5, a5, b5⟩ := af.put hdS s4 b4
        exact ⟨_, rfl, d, H5, rfl, p5, v, rfl, a5, .inl ⟨by omega, b5⟩⟩
      · have n0 : ¬ 0 < m := fun z => hn0 (decide_eq_true (by omega))
        have ev : v = vb := alt.elim (fun z => by omega) fun z => z.2
        refine ⟨v, rfl, af, .inl ⟨by omega, ?_⟩⟩
        rw [ev, ← pf.2.2.2.1 ec n0]
        exact af.b
    · exact ⟨v, rfl, af, alt.elim (fun z => .inl ⟨by omega, z.2⟩) fun z => .inr ⟨by have : ch ≠ 1 := fun z => h (decide_eq_true (congrArg V.int z)); omega, z.2⟩⟩
  clear af alt
  rw [hMid]
  rintro σ G3 ⟨v, rfl, af, alt⟩
  refine ⟨Mid 3, ?_, ?_⟩
  · rw [hMid]
    refine ⟨_, rfl, rfl, _, rfl, ite2 (fun h => ?_) (fun h => ifF rfl ?_)⟩
    · have ec : ch = 2 := V.int.inj (of_decide_eq_true h)
      refine ⟨_, rfl, _, _, rfl, rfl, _, rfl, ite2 (fun hn0 => ?_) (fun hn0 => ?_)⟩
      · have n0 : 0 < m := by
          have : (m : Int) > 0 := of_decide_eq_true hn0
          omega
        have pb := pf.2.2.2.2.1 ec n0
        refine ⟨_, rfl, _, rfl, _, rfl, _, rfl, vb, hull n Ps, kk + 1, n + 1, lo1, hi1, rfl, af.b, hull_sz n Ps, by omega, by omega, fun v G4 s4 b4 => ?_⟩
        rw [pb.2] at b4
        obtain ⟨H5, p5, a5, b5⟩ := af.put hdS s4 b4
        exact ⟨_, rfl, d, H5, rfl, p5, v, rfl, a5, .inl ⟨by omega, b5⟩⟩
      · have n0 : ¬ 0 < m := fun z => hn0 (decide_eq_true (by omega))
        have ev : v = vb := alt.elim (fun z => by omega) fun z => z.2
        refine ⟨v, rfl, af, .inl ⟨by omega, ?_⟩⟩
        rw [ev, ← pf.2.2.2.2.2.1 ec n0]
        exact af.b
    · exact ⟨v, rfl, af, alt.elim (fun z => .inl ⟨by omega, z.2⟩) fun z => .inr ⟨by have : ch ≠ 2 := fun z => h (decide_eq_true (congrArg V.int z)); omega, z.2⟩⟩
  clear af alt
  rw [hMid]
  rintro σ G3 ⟨v, rfl, af, alt⟩
  refine ⟨Mid 4, ?_, ?_⟩
  · rw [hMid]
    refine ⟨_, rfl, rfl, _, rfl, ite2 (fun h => ?_) (fun h => ?_)⟩
    · have ec : ch = 3 := V.int.inj (of_decide_eq_true h)
      obtain ⟨qs, eQ, lQs, hQs⟩ := id af.r
      refine ⟨_, rfl, _, rfl, lq, _, rfl, .inl ⟨SqL.of eQ, fun l hl => ?_⟩⟩
      have sl := Same.new hl (.tup (qs.map V.ref))
      refine ⟨vb, hull n Ps, l, Rs, n + 1, rfl, af.b.same sl, hull_sz n Ps, ⟨qs, SqT.of upd_same, lQs, fun i a r e1 e2 => Same.tup sl (hQs i a r e1 e2)⟩, (fun r hr => by obtain ⟨x, y, e, _⟩ := (eR r hr).2.1; rw [e]; rfl), by omega, by omega, by omega, fun v G4 s4 b4 => ?_⟩
      rw [pf.2.2.2.2.2.2.1 ec] at b4
      obtain ⟨H5, p5, a5, b5⟩ := af.put hdS (sl.trans s4) b4
      exact ⟨_, rfl, d, H5, rfl, p5, v, rfl, a5, .inl ⟨by omega, b5⟩⟩
    · exact ⟨v, rfl, af, alt.elim (fun z => .inl ⟨by omega, z.2⟩) fun z => .inr ⟨by have : ch ≠ 3 := fun z => h (decide_eq_true (congrArg V.int z)); omega, z.2⟩⟩
  clear af alt
  rw [hMid]
  rintro σ G3 ⟨v, rfl, af, alt⟩
  have bm : BoxAt K G3 v (hull m Qs) := alt.elim (fun z => z.2) fun z => by omega
  exact q G3 m Qs ⟨q2, vd, v, af.d, af.t, bm⟩ ⟨pf.1, l3, fun r hr => wF r ((mQ r).mp hr), m20⟩ af.kp
end
/-! ### law k22: the law -/
def spLaw (K : PySem.W.Frag) : Sp := fun vs H Q _ => ∃ (a : Addr) (ns : List Int), vs = [.ref a] ∧ SqL K H a (ns.map V.int) ∧ ns.length ≤ 63 ∧ ∀ H', Q (.bl true) H'
section
variable {P : Program} {w : World} {K : PySem.W.Frag} {mg : Str → Option Value} {base : Heap}
theorem ok_law0 (T : Txt w K mg) (g_l_change : FnOk P w K mg base CX0 4 T.a_l_change T.d_l_change p_l_change (spChg K)) : FnOk P w K mg base CX0 6 T.a_law T.d_law p_law (spLaw K) := by
  have g_l_cell := ok_l_cell (P := P) (w := w) (K := K) (base := base) T
  have g_l_source := ok_l_source (P := P) (w := w) (base := base) T
  have g_l_pick := ok_l_pick (P := P) (w := w) (base := base) T
  have g_l_start := ok_l_start (P := P) (w := w) (K := K) (base := base) T
  have g_l_hull := ok_l_hull (P := P) (w := w) (K := K) (base := base) T
  have g_l_points := ok_l_pointsT (P := P) (w := w) (K := K) (base := base) T
  have g_l_cut := ok_l_cut (P := P) (w := w) (K := K) (base := base) T
  have g_l_same := ok_l_same (P := P) (w := w) (K := K) (base := base) T 3
  have g_tie_boxes := ok_tie_boxes (P := P) (w := w) (K := K) (base := base) T
  refine T.F_law.ok sc_law (fun vs H Q E h => ?_) (fun cdv A outer s H vs Q E hr h => ?_)
  · obtain ⟨a, ns, rfl, _⟩ := h
    rfl
  obtain ⟨a, ns, rfl, hS, h63, q⟩ := h
  refine ⟨_, (pss_cons (ps_set (i := 1) sc_law.nd rfl (Or.inl rfl) (pe_call g_l_source (hr.mono (by first | decide | omega)) rfl T.m_l_source T.F_l_source.kp T.b_l_source .nil pass0 (pa_cons (pe_call g_l_cell (hr.mono (by first | decide | omega)) rfl T.m_l_cell T.F_l_cell.kp T.b_l_cell .nil pass0 (pa_cons (pv 0) (pa_cons pe_int pa_nil))) pa_nil)))
      (pss_cons (ps_set (i := 2) sc_law.nd rfl (Or.inl rfl) (pe_call g_l_pick (hr.mono (by first | decide | omega)) rfl T.m_l_pick T.F_l_pick.kp T.b_l_pick .nil pass0 (pa_cons (pv 1) (pa_cons pe_int pa_nil))))
      (C8.pss_cut (ps_if (pt_cmpR op_eq (pe_call g_l_pick (hr.mono (by first | decide | omega)) rfl T.m_l_pick T.F_l_pick.kp T.b_l_pick .nil pass0 (pa_cons (pv 1) (pa_cons pe_int pa_nil))) pe_int (nomark _)) (pss_one (ps_set (i := 2) sc_law.nd rfl (Or.inl rfl) (pe_op op_add pe_int (pe_call g_l_pick (hr.mono (by first | decide | omega)) rfl T.m_l_pick T.F_l_pick.kp T.b_l_pick .nil pass0 (pa_cons (pv 1) (pa_cons pe_int pa_nil)))))) pss_nil)
      (pss_cons (ps_set (i := 3) sc_law.nd rfl (Or.inl rfl) (pe_call g_l_hull (hr.mono (by first | decide | omega)) rfl T.m_l_hull T.F_l_hull.kp T.b_l_hull .nil pass0 (pa_cons (pe_call g_l_start (hr.mono (by first | decide | omega)) rfl T.m_l_start T.F_l_start.kp T.b_l_start .nil pass0 (pa_cons (pv 1) (pa_cons (pv 2) pa_nil))) (pa_cons (pv 2) pa_nil))))
      (pss_cons (ps_set (i := 4) sc_law.nd rfl (Or.inl rfl) (pe_disp (pps_cons pe_str (pe_call g_l_points (hr.mono (by first | decide | omega)) rfl T.m_l_points T.F_l_points.kp T.b_l_points .nil pass0 (pa_cons (pv 3) pa_nil)) (pps_cons pe_str (pv 2) (pps_cons pe_str (pv 3) (pps_cons pe_str (pv 3) pps_nil)))) (by rfl) (by rfl) (fun z => by cases z) (by decide)))
      (pss_cons (ps_for PassesOwn.never rfl (pi_range1 rfl T.z_range (pa_cons (pe_op op_add pe_int (pe_call g_l_pick (hr.mono (by first | decide | omega)) rfl T.m_l_pick T.F_l_pick.kp T.b_l_pick .nil pass0 (pa_cons (pv 1) (pa_cons pe_int pa_nil)))) pa_nil)) (pg_name (i := 5) sc_law.nd rfl (Or.inl rfl))
        (pss_cons (ps_set (i := 1) sc_law.nd rfl (Or.inl rfl) (pe_call g_l_source (hr.mono (by first | decide | omega)) rfl T.m_l_source T.F_l_source.kp T.b_l_source .nil pass0 (pa_cons (pe_op op_add (pe_call g_l_cell (hr.mono (by first | decide | omega)) rfl T.m_l_cell T.F_l_cell.kp T.b_l_cell .nil pass0 (pa_cons (pv 0) (pa_cons (pe_op op_add (pv 5) pe_int) pa_nil))) (pe_op op_mul pe_int (pv 5))) pa_nil)))
      (C8.pss_cut (ps_if (pt_cmpR op_eq (pe_call g_l_pick (hr.mono (by first | decide | omega)) rfl T.m_l_pick T.F_l_pick.kp T.b_l_pick .nil pass0 (pa_cons (pv 1) (pa_cons pe_int pa_nil))) pe_int (nomark _)) (pss_one (ps_expr (pe_call g_l_cut (hr.mono (by first | decide | omega)) rfl T.m_l_cut T.F_l_cut.kp T.b_l_cut .nil pass0 (pa_cons (pv 1) (pa_cons (pv 4) pa_nil))))) (pss_one (ps_expr (pe_call g_l_change (hr.mono (by first | decide | omega)) rfl T.m_l_change T.F_l_change.kp T.b_l_change .nil pass0 (pa_cons (pv 1) (pa_cons (pv 4) pa_nil))))))
      (pss_cons (ps_dput (hu_of hr) (pv 4) pe_str (pe_call g_l_hull (hr.mono (by first | decide | omega)) rfl T.m_l_hull T.F_l_hull.kp T.b_l_hull .nil pass0 (pa_cons (pe_dget (hu_of hr) (pv 4) pe_str (fun _ _ => rfl)) (pa_cons (pe_dget (hu_of hr) (pv 4) pe_str (fun _ _ => rfl)) pa_nil))) rfl)
      (pss_one (ps_if (pt_not (pt_val (pe_call g_l_same (hr.mono (by first | decide | omega)) rfl T.m_l_same T.F_l_same.kp T.b_l_same .nil pass0 (pa_cons (pe_dget (hu_of hr) (pv 4) pe_str (fun _ _ => rfl)) (pa_cons (pe_dget (hu_of hr) (pv 4) pe_str (fun _ _ => rfl)) pa_nil))))) (pss_one (ps_ret pe_bl)) pss_nil))))))
      (pss_one (ps_ret (pe_and (pe_cmpR op_isN (pe_call g_tie_boxes (hr.mono (by first | decide | omega)) rfl T.m_tie_boxes T.F_tie_boxes.kp T.b_tie_boxes .nil pass0 (pa_cons (pe_dget (hu_of hr) (pv 4) pe_str (fun _ _ => rfl)) (pa_cons pe_non (pa_cons (pe_tup pa_nil) pa_nil)))) pe_non (nomark _)) (pe_one (pe_cmpR op_isN (pe_call g_tie_boxes (hr.mono (by first | decide | omega)) rfl T.m_tie_boxes T.F_tie_boxes.kp T.b_tie_boxes .nil pass0 (pa_cons pe_non (pa_cons (pe_tup (pa_cons (pe_tup (pa_cons pe_int pa_nil)) pa_nil)) (pa_cons (pe_tup pa_nil) pa_nil)))) pe_non (nomark _)))))))))))), ?_⟩
  refine ⟨_, rfl, a, ns, 0, rfl, hS, by decide, fun c => ?_⟩
  refine ⟨c, rfl, fun p0 H1 hp0 s1 src => ?_⟩
  refine ⟨_, rfl, p0, 4, rfl, src, by decide, fun n0 H2 st2 n00 n01 => ?_⟩
  refine ⟨fun σ G => ∃ n : Nat, σ = [some (.ref a), some (.ref p0), some (.int n), none, none, none] ∧ Stp p0 H1 G ∧ n ≤ 12, ?_, ?_⟩
  · refine ⟨_, rfl, p0, 8, rfl, st2.s, by decide, fun r1 H3 st3 _ _ => ⟨rfl, _, rfl, ite2 (fun _ => ?_) (fun _ => ?_)⟩⟩
    · refine ⟨_, rfl, p0, 9, rfl, st3.s, by decide, fun r2 H4 st4 r20 r21 => ⟨_, _, rfl, rfl, ?_⟩⟩
      exact ⟨(4 + r2).toNat, by rw [show (((4 + r2).toNat : Nat) : Int) = 4 + r2 by omega]; rfl, (st2.trans st3).trans st4, by omega⟩
    · exact ⟨n0.toNat, by rw [show ((n0.toNat : Nat) : Int) = n0 by omega]; rfl, st2.trans st3, by omega⟩
  rintro σ G ⟨n, rfl, sG, n12⟩
  refine ⟨_, rfl, _, rfl, p0, n, rfl, sG.s, n12, fun ps G1 Ss st1 hSs sS => ?_⟩
  have sG1 := sG.trans st1
  refine ⟨_, rfl, ps, n, Ss, rfl, by omega, hSs.mx, sS.l, by have := sS.c; omega, fun vb G2 s2 b2 => ?_⟩
  have eH := hull_some (n := n) sS.ne
  have clo := hull_clo (n := n) sS.ne
  have pf := pts_full (hullM_sz n Ss) clo
  rw [eH] at b2
  intro d hd0
  have sd := Same.new hd0 (.dK [])
  refine ⟨_, rfl, vb, some (hullM n Ss), n, rfl, by omega, b2.same sd, (fun M e => by cases e; exact hullM_sz n Ss), (fun M e => by cases e; exact sS.s), fun pp G3 s3 tP => ?_⟩
  have dG3 := s3 _ _ (upd_same (H := G2) (a := d) (o := .dK []))
  refine ⟨_, rfl, _, rfl, _, rfl, dG3, stK (.ref pp) (.int n) vb vb, rfl, by show 4 ≤ 15; decide, ?_⟩
  rw [show mergeK [] (stK (.ref pp) (.int n) vb vb) = stK (.ref pp) (.int n) vb vb by kernel_rfl]
  have eB : ptsB n (some (hullM n Ss)) = ptsL (hullM n Ss) n := if_pos fun i hi => by
    rw [clo.d i hi]
    decide
  rw [eB] at tP
  have sH2 : Same H G2 := (Stp.fresh s1 hp0 sG1).trans s2
  have hd2 : H d = none := by
    cases e : H d with
    | none => rfl
    | some o => rw [sH2 _ _ e] at hd0; cases hd0
  have st0 : Same H (upd G3 d (.dK (stK (.ref pp) (.int n) vb vb))) := fun b o e => by
    rw [upd_ne (ne_of_none e hd2)]
    exact s3 _ _ (sd _ _ (sH2 _ _ e))
  have b3 : BoxAt K (upd G3 d (.dK (stK (.ref pp) (.int n) vb vb))) vb (hull n (ptsL (hullM n Ss) n)) := by
    rw [← pf.1]
    exact ((b2.same sd).same s3).keep (Keeps.dk dG3)
  have tP4 := tP.dk (o := .dK (stK (.ref pp) (.int n) vb vb)) dG3
  have ok0 : Okp 0 n (ptsL (hullM n Ss) n) := ⟨pf.2, sS.c3, fun r hr => start_wth sS r hr, by omega⟩
  have np0 : p0 ≠ d := fun z => by
    obtain ⟨x, y, w, e⟩ := sG1.s
    rw [z] at e
    have := s2 _ _ e
    rw [hd0] at this
    cases this
  have src4 : Src (upd G3 d (.dK (stK (.ref pp) (.int n) vb vb))) p0 := by
    obtain ⟨x, y, w, e⟩ := sG1.s
    exact ⟨x, y, w, by rw [upd_ne np0]; exact s3 _ _ (sd _ _ (s2 _ _ e))⟩
  have d4 : (upd G3 d (.dK (stK (.ref pp) (.int n) vb vb))) d = some (.dK (stK (.ref pp) (.int n) vb vb)) := upd_same
  generalize upd G3 d (.dK (stK (.ref pp) (.int n) vb vb)) = G4 at st0 b3 tP4 src4 d4
  refine ⟨_, rfl, p0, 5, rfl, src4, by decide, fun r5 G5 st5 r50 r51 => ?_⟩
  have s5 : Same H G5 := fun b o e => st5.k _ _ (ne_of_none e hp0) (st0 _ _ e)
  have dd5 := st5.k _ _ np0.symm d4
  have bb5 := b3.keep (Keeps.of_stp (K := K) st5 src4)
  have pp0 : pp ≠ p0 := fun z => by
    obtain ⟨x, y, w, e⟩ := src4
    obtain ⟨as, e2, _⟩ := tP4
    rw [z, e] at e2
    cases as with
    | nil => cases e2
    | cons b bs => cases e2
  have tP5 := tP4.stp st5 src4 pp0
  refine ⟨_, _, rfl, rfl, _, rfl, by omega, by omega, for_range (lo := 0) (fun i σ G => ∃ (sr q : Addr) (vd w : V) (m : Nat) (Ps : List (List Int)) (x5 : Option V), σ = [some (.ref a), some (.ref sr), some (.int n), some vb, some (.ref d), x5] ∧ Same H G ∧ G d = some (.dK (stK (.ref q) (.int m) vd w)) ∧ TPts G q Ps ∧ BoxAt K G vd (hull m Ps) ∧ BoxAt K G w (hull m Ps) ∧ Okp i m Ps ∧ Src G p0)
    ⟨p0, pp, vb, vb, n, _, none, rfl, s5, dd5, tP5, bb5, bb5, ok0, st5.s⟩ ?_ ?_⟩
  · rintro i σ G hi ⟨sr, q5, vd, w5, m, Ps, x5, rfl, sG6, dG, tG, bG, cG, ok, sp6⟩
    refine ⟨_, rfl, _, rfl, _, _, rfl, rfl, a, ns, _, rfl, sG6.seq hS, by omega, fun c2 => ?_⟩
    refine ⟨_, rfl, _, _, rfl, rfl, .inl ⟨by decide, by decide⟩, _, _, rfl, rfl, ?_⟩
    refine ⟨_, rfl, fun sr2 G7 hs7 s7 src7 => ?_⟩
    have d7 := s7 _ _ dG
    have nsd : sr2 ≠ d := fun z => by rw [z, dG] at hs7; cases hs7
    refine ⟨fun σ G => ∃ (q : Addr) (vd w : V) (m : Nat) (Ps : List (List Int)), σ = [some (.ref a), some (.ref sr2), some (.int n), some vb, some (.ref d), some (.int (0 + (i : Int)))] ∧ Same H G ∧ G d = some (.dK (stK (.ref q) (.int m) vd w)) ∧ TPts G q Ps ∧ BoxAt K G w (hull m Ps) ∧ Okp (i + 1) m Ps ∧ Src G p0, ?_, ?_⟩
    · have p0s : p0 ≠ sr2 := sp6.ne hs7
      have up : ∀ {m : Nat} {Ps : List (List Int)}, Okp i m Ps → Okp (i + 1) m Ps := fun o => ⟨o.f, o.l, fun r hr x hx => by
        have := o.w r hr x hx
        have e : ((i + 1 : Nat) : Int) = (i : Int) + 1 := by omega
        rw [e]
        omega, o.n⟩
      refine ⟨_, rfl, sr2, 2, rfl, src7, by decide, fun u G8 st8 _ _ => ⟨rfl, _, rfl, ite2 (fun _ => ?_) (fun _ => ?_)⟩⟩
      all_goals
        have k8 := Keeps.of_stp (K := K) st8 src7
        have q5s : q5 ≠ sr2 := fun z => by
          obtain ⟨as, e, _⟩ := tG
          rw [z, hs7] at e
          cases e
        have keep9 : ∀ {G9 : Hp}, (∀ b o, b ≠ sr2 → b ≠ d → G8 b = some o → G9 b = some o) → Same H G9 := fun kp b o e => kp b o (fun z => by
          have := sG6 _ _ e
          rw [z, hs7] at this
          cases this) (ne_of_none e hd2) (st8.k _ _ (fun z => by
          have := sG6 _ _ e
          rw [z, hs7] at this
          cases this) (s7 _ _ (sG6 _ _ e)))
      · have sp9 : ∀ {G9 : Hp}, (∀ b o, b ≠ sr2 → b ≠ d → G8 b = some o → G9 b = some o) → Src G9 p0 := fun kp => by
          obtain ⟨x, y, z, e⟩ := sp6
          exact ⟨x, y, z, kp _ _ p0s np0 (st8.k _ _ p0s (s7 _ _ e))⟩
        refine ⟨_, rfl, _, rfl, sr2, d, q5, vd, w5, m, i, Ps, rfl, st8.s, nsd, st8.k _ _ nsd.symm d7, (tG.same s7).stp st8 src7 q5s, (bG.same s7).keep k8, (cG.same s7).keep k8, ok, by omega, fun G9 Ps' st ok' kp => ?_⟩
        obtain ⟨q9, vd9, w9, e1, e2, e3⟩ := st
        exact ⟨q9, vd9, w9, m, Ps', rfl, keep9 kp, e1, e2, e3, up ok', sp9 kp⟩
      · have sp9 : ∀ {G9 : Hp}, (∀ b o, b ≠ sr2 → b ≠ d → G8 b = some o → G9 b = some o) → Src G9 p0 := fun kp => by
          obtain ⟨x, y, z, e⟩ := sp6
          exact ⟨x, y, z, kp _ _ p0s np0 (st8.k _ _ p0s (s7 _ _ e))⟩
        refine ⟨_, rfl, _, rfl, sr2, d, q5, vd, w5, m, i, Ps, rfl, st8.s, nsd, st8.k _ _ nsd.symm d7, (tG.same s7).stp st8 src7 q5s, (cG.same s7).keep k8, ok, by omega, fun G9 m' Ps' st ok' kp => ?_⟩
        obtain ⟨q9, vd9, w9, e1, e2, e3⟩ := st
        exact ⟨q9, vd9, w9, m', Ps', rfl, keep9 kp, e1, e2, e3, ok', sp9 kp⟩
    rintro σ G9 ⟨q9, vd9, w9, m9, Ps9, rfl, s9, d9, t9, c9, ok9, sp9⟩
    have m20 := ok9.n
    refine ⟨_, rfl, d, _, rfl, .inl ⟨_, _, .inl d9, rfl, rd1 _ _ _ _⟩, _, rfl, d, _, rfl, .inl ⟨_, _, .inl d9, rfl, rd2 _ _ _ _⟩, q9, m9, Ps9, rfl, by omega, t9.pts.mx, ok9.f.len, Nat.le_trans ok9.l (by decide), fun v10 GA sA bA => ?_⟩
    have dA := sA _ _ d9
    refine ⟨_, rfl, d, _, rfl, DPut.k (k := Sum.inr "due") dA (lt_line (by show 4 ≤ 10000000; decide)), ?_⟩
    rw [wr3]
    have kA := Keeps.dk (K := K) (o := .dK (stK (.ref q9) (.int m9) v10 w9)) dA
    have b1 := bA.keep kA
    have b2 := (c9.same sA).keep kA
    have dB : (upd GA d (.dK (stK (.ref q9) (.int m9) v10 w9))) d = some (.dK (stK (.ref q9) (.int m9) v10 w9)) := upd_same
    have tB := (t9.same sA).dk (o := .dK (stK (.ref q9) (.int m9) v10 w9)) dA
    have sB : Same H (upd GA d (.dK (stK (.ref q9) (.int m9) v10 w9))) := fun b o e => by rw [upd_ne (ne_of_none e hd2)]; exact sA _ _ (s9 _ _ e)
    have spB : Src (upd GA d (.dK (stK (.ref q9) (.int m9) v10 w9))) p0 := by
      obtain ⟨x, y, z, e⟩ := sp9
      exact ⟨x, y, z, by rw [upd_ne np0]; exact sA _ _ e⟩
    refine ⟨_, rfl, d, _, rfl, .inl ⟨_, _, .inl dB, rfl, rd4 _ _ _ _⟩, _, rfl, d, _, rfl, .inl ⟨_, _, .inl dB, rfl, rd3 _ _ _ _⟩, w9, v10, boxD (hull m9 Ps9), rfl, b2.dp, b1.dp, (hull_sz m9 Ps9).dok (by omega), _, rfl, ifF rfl ?_⟩
    exact ⟨sr2, q9, v10, w9, m9, Ps9, _, rfl, sB, dB, tB, b1, b2, ok9, spB⟩
  · rintro σ G9 ⟨sr, q9, vd9, w9, m9, Ps9, x5, rfl, s9, d9, t9, b9, c9, ok9, sp9⟩
    have m20 := ok9.n
    refine ⟨_, rfl, d, _, rfl, .inl ⟨_, _, .inl d9, rfl, rd4 _ _ _ _⟩, (by show 0 ≤ sizeLine; decide), fun t ht => ?_⟩
    have sT := Same.new ht (.tup [])
    refine ⟨p0, w9, .non, hull m9 Ps9, none, t, [], m9 + 1, rfl, (Stp.of_same sp9 sT).s, c9.same sT, rfl, hull_sz _ _, (fun M e => by cases e), SqT.of upd_same, (fun c h => by simp at h), by omega, by omega, by simp, fun v H' R s b m => ?_⟩
    have eR : R = none := by
      cases h : hull m9 Ps9 with
      | none => rw [h] at m; exact m
      | some M => rw [h] at m; exact m
    rw [eR] at b
    obtain rfl : v = .non := b
    refine ⟨rfl, _, rfl, ifT (by decide) ?_⟩
    refine ⟨(by show 1 ≤ sizeLine; decide), fun t1 ht1 => ⟨(by show 1 ≤ sizeLine; decide), fun t2 ht2 => ⟨(by show 0 ≤ sizeLine; decide), fun t3 ht3 => ?_⟩⟩⟩
    have sU := ((Same.new ht1 (.tup [V.int 0])).trans (Same.new ht2 (.tup [V.ref t1]))).trans (Same.new ht3 (.tup []))
    have e1 := (Same.new ht3 (.tup [])) _ _ ((Same.new ht2 (.tup [V.ref t1])) _ _ (upd_same (H := H') (a := t1) (o := .tup [V.int 0])))
    have e2 := (Same.new ht3 (.tup [])) _ _ (upd_same (H := upd H' t1 (.tup [V.int 0])) (a := t2) (o := .tup [V.ref t1]))
    refine ⟨p0, .non, .ref t2, none, some [[0]], t3, [], 1, rfl, (Stp.of_same (Stp.of_same (Stp.of_same sp9 sT).s s).s sU).s, rfl, ⟨t2, rfl, [t1], SqT.of e2, rfl, fun i a r a1 a2 => ?_⟩, (fun M e => by cases e), (fun M e => by cases e; exact ⟨rfl, fun r hr => by rw [List.mem_singleton.mp hr]; rfl⟩), SqT.of upd_same, (fun c h => by simp at h), by omega, by omega, by simp, fun v H2 R2 s2 b2 m2 => ?_⟩
    · match i, a1, a2 with
      | 0, a1, a2 =>
        cases a1
        cases a2
        exact SqT.of e1
      | i + 1, a1, _ => simp at a1
    · have eR2 : R2 = none := m2
      rw [eR2] at b2
      obtain rfl : v = .non := b2
      refine ⟨rfl, ?_⟩
      exact q _
end
section
variable {P : Program} {w : World} {K : PySem.W.Frag} {mg : Str → Option Value} {base : Heap}
theorem ok_law (T : Txt w K mg) : FnOk P w K mg base CX0 6 T.a_law T.d_law p_law (spLaw K) := ok_law0 T (ok_l_change T)
end
theorem all_mk {l : PySem.W.OpenLaw} {w : World} {K : PySem.W.Frag} {h : Heap} {mg : Str → Option Value} {fa : Addr} (X : K.In h) (G : h.Ns mainGlobals mg) (hfa : mg "law" = some (.ref fa))
    {f_close : Addr} {od_close an_close : Option Addr} {sl_close : Array (Option Value)} {oc_close kV_close dc_close pm_close cd_close ct_close : Value}
    (A_close : PySem.W.nsIn K mainGlobals "close" = some (some (.ref f_close))) (L_close : K.lookup f_close = some ⟨oc_close, od_close, .func (PySem.W.fnOf "close" "close" (defArgs s_close) (defBody s_close) (defScope s_close) .none kV_close dc_close pm_close an_close cd_close ct_close), sl_close⟩) (C_close : PySem.W.codeIn K cd_close "close" = true) (K_close : PySem.W.keepIn K (.ref f_close) = true)
    {f_has_contradiction : Addr} {od_has_contradiction an_has_contradiction : Option Addr} {sl_has_contradiction : Array (Option Value)} {oc_has_contradiction kV_has_contradiction dc_has_contradiction pm_has_contradiction cd_has_contradiction ct_has_contradiction : Value}
    (A_has_contradiction : PySem.W.nsIn K mainGlobals "has_contradiction" = some (some (.ref f_has_contradiction))) (L_has_contradiction : K.lookup f_has_contradiction = some ⟨oc_has_contradiction, od_has_contradiction, .func (PySem.W.fnOf "has_contradiction" "has_contradiction" (defArgs s_has_contradiction) (defBody s_has_contradiction) (defScope s_has_contradiction) .none kV_has_contradiction dc_has_contradiction pm_has_contradiction an_has_contradiction cd_has_contradiction ct_has_contradiction), sl_has_contradiction⟩) (C_has_contradiction : PySem.W.codeIn K cd_has_contradiction "has_contradiction" = true) (K_has_contradiction : PySem.W.keepIn K (.ref f_has_contradiction) = true)
    {f_shortened : Addr} {od_shortened an_shortened : Option Addr} {sl_shortened : Array (Option Value)} {oc_shortened kV_shortened dc_shortened pm_shortened cd_shortened ct_shortened : Value}
    (A_shortened : PySem.W.nsIn K mainGlobals "shortened" = some (some (.ref f_shortened))) (L_shortened : K.lookup f_shortened = some ⟨oc_shortened, od_shortened, .func (PySem.W.fnOf "shortened" "shortened" (defArgs s_shortened) (defBody s_shortened) (defScope s_shortened) .none kV_shortened dc_shortened pm_shortened an_shortened cd_shortened ct_shortened), sl_shortened⟩) (C_shortened : PySem.W.codeIn K cd_shortened "shortened" = true) (K_shortened : PySem.W.keepIn K (.ref f_shortened) = true)
    {f_frozen : Addr} {od_frozen an_frozen : Option Addr} {sl_frozen : Array (Option Value)} {oc_frozen kV_frozen dc_frozen pm_frozen cd_frozen ct_frozen : Value}
    (A_frozen : PySem.W.nsIn K mainGlobals "frozen" = some (some (.ref f_frozen))) (L_frozen : K.lookup f_frozen = some ⟨oc_frozen, od_frozen, .func (PySem.W.fnOf "frozen" "frozen" (defArgs s_frozen) (defBody s_frozen) (defScope s_frozen) .none kV_frozen dc_frozen pm_frozen an_frozen cd_frozen ct_frozen), sl_frozen⟩) (C_frozen : PySem.W.codeIn K cd_frozen "frozen" = true) (K_frozen : PySem.W.keepIn K (.ref f_frozen) = true)
    {f_range_box : Addr} {od_range_box an_range_box : Option Addr} {sl_range_box : Array (Option Value)} {oc_range_box kV_range_box dc_range_box pm_range_box cd_range_box ct_range_box : Value}
    (A_range_box : PySem.W.nsIn K mainGlobals "range_box" = some (some (.ref f_range_box))) (L_range_box : K.lookup f_range_box = some ⟨oc_range_box, od_range_box, .func (PySem.W.fnOf "range_box" "range_box" (defArgs s_range_box) (defBody s_range_box) (defScope s_range_box) .none kV_range_box dc_range_box pm_range_box an_range_box cd_range_box ct_range_box), sl_range_box⟩) (C_range_box : PySem.W.codeIn K cd_range_box "range_box" = true) (K_range_box : PySem.W.keepIn K (.ref f_range_box) = true)
    {f_bound : Addr} {od_bound an_bound : Option Addr} {sl_bound : Array (Option Value)} {oc_bound kV_bound dc_bound pm_bound cd_bound ct_bound : Value}
    (A_bound : PySem.W.nsIn K mainGlobals "bound" = some (some (.ref f_bound))) (L_bound : K.lookup f_bound = some ⟨oc_bound, od_bound, .func (PySem.W.fnOf "bound" "bound" (defArgs s_bound) (defBody s_bound) (defScope s_bound) .none kV_bound dc_bound pm_bound an_bound cd_bound ct_bound), sl_bound⟩) (C_bound : PySem.W.codeIn K cd_bound "bound" = true) (K_bound : PySem.W.keepIn K (.ref f_bound) = true)
    {f_meet_boxes : Addr} {od_meet_boxes an_meet_boxes : Option Addr} {sl_meet_boxes : Array (Option Value)} {oc_meet_boxes kV_meet_boxes dc_meet_boxes pm_meet_boxes cd_meet_boxes ct_meet_boxes : Value}
    (A_meet_boxes : PySem.W.nsIn K mainGlobals "meet_boxes" = some (some (.ref f_meet_boxes))) (L_meet_boxes : K.lookup f_meet_boxes = some ⟨oc_meet_boxes, od_meet_boxes, .func (PySem.W.fnOf "meet_boxes" "meet_boxes" (defArgs s_meet_boxes) (defBody s_meet_boxes) (defScope s_meet_boxes) .none kV_meet_boxes dc_meet_boxes pm_meet_boxes an_meet_boxes cd_meet_boxes ct_meet_boxes), sl_meet_boxes⟩) (C_meet_boxes : PySem.W.codeIn K cd_meet_boxes "meet_boxes" = true) (K_meet_boxes : PySem.W.keepIn K (.ref f_meet_boxes) = true)
    {f_add_columns : Addr} {od_add_columns an_add_columns : Option Addr} {sl_add_columns : Array (Option Value)} {oc_add_columns kV_add_columns dc_add_columns pm_add_columns cd_add_columns ct_add_columns : Value}
    (A_add_columns : PySem.W.nsIn K mainGlobals "add_columns" = some (some (.ref f_add_columns))) (L_add_columns : K.lookup f_add_columns = some ⟨oc_add_columns, od_add_columns, .func (PySem.W.fnOf "add_columns" "add_columns" (defArgs s_add_columns) (defBody s_add_columns) (defScope s_add_columns) .none kV_add_columns dc_add_columns pm_add_columns an_add_columns cd_add_columns ct_add_columns), sl_add_columns⟩) (C_add_columns : PySem.W.codeIn K cd_add_columns "add_columns" = true) (K_add_columns : PySem.W.keepIn K (.ref f_add_columns) = true)
    {f_limits_over : Addr} {od_limits_over an_limits_over : Option Addr} {sl_limits_over : Array (Option Value)} {oc_limits_over kV_limits_over dc_limits_over pm_limits_over cd_limits_over ct_limits_over : Value}
    (A_limits_over : PySem.W.nsIn K mainGlobals "limits_over" = some (some (.ref f_limits_over))) (L_limits_over : K.lookup f_limits_over = some ⟨oc_limits_over, od_limits_over, .func (PySem.W.fnOf "limits_over" "limits_over" (defArgs s_limits_over) (defBody s_limits_over) (defScope s_limits_over) .none kV_limits_over dc_limits_over pm_limits_over an_limits_over cd_limits_over ct_limits_over), sl_limits_over⟩) (C_limits_over : PySem.W.codeIn K cd_limits_over "limits_over" = true) (K_limits_over : PySem.W.keepIn K (.ref f_limits_over) = true)
    {f_pick_columns : Addr} {od_pick_columns an_pick_columns : Option Addr} {sl_pick_columns : Array (Option Value)} {oc_pick_columns kV_pick_columns dc_pick_columns pm_pick_columns cd_pick_columns ct_pick_columns : Value}
    (A_pick_columns : PySem.W.nsIn K mainGlobals "pick_columns" = some (some (.ref f_pick_columns))) (L_pick_columns : K.lookup f_pick_columns = some ⟨oc_pick_columns, od_pick_columns, .func (PySem.W.fnOf "pick_columns" "pick_columns" (defArgs s_pick_columns) (defBody s_pick_columns) (defScope s_pick_columns) .none kV_pick_columns dc_pick_columns pm_pick_columns an_pick_columns cd_pick_columns ct_pick_columns), sl_pick_columns⟩) (C_pick_columns : PySem.W.codeIn K cd_pick_columns "pick_columns" = true) (K_pick_columns : PySem.W.keepIn K (.ref f_pick_columns) = true)
    {f_with_column : Addr} {od_with_column an_with_column : Option Addr} {sl_with_column : Array (Option Value)} {oc_with_column kV_with_column dc_with_column pm_with_column cd_with_column ct_with_column : Value}
    (A_with_column : PySem.W.nsIn K mainGlobals "with_column" = some (some (.ref f_with_column))) (L_with_column : K.lookup f_with_column = some ⟨oc_with_column, od_with_column, .func (PySem.W.fnOf "with_column" "with_column" (defArgs s_with_column) (defBody s_with_column) (defScope s_with_column) .none kV_with_column dc_with_column pm_with_column an_with_column cd_with_column ct_with_column), sl_with_column⟩) (C_with_column : PySem.W.codeIn K cd_with_column "with_column" = true) (K_with_column : PySem.W.keepIn K (.ref f_with_column) = true)
    {f_free_column : Addr} {od_free_column an_free_column : Option Addr} {sl_free_column : Array (Option Value)} {oc_free_column kV_free_column dc_free_column pm_free_column cd_free_column ct_free_column : Value}
    (A_free_column : PySem.W.nsIn K mainGlobals "free_column" = some (some (.ref f_free_column))) (L_free_column : K.lookup f_free_column = some ⟨oc_free_column, od_free_column, .func (PySem.W.fnOf "free_column" "free_column" (defArgs s_free_column) (defBody s_free_column) (defScope s_free_column) .none kV_free_column dc_free_column pm_free_column an_free_column cd_free_column ct_free_column), sl_free_column⟩) (C_free_column : PySem.W.codeIn K cd_free_column "free_column" = true) (K_free_column : PySem.W.keepIn K (.ref f_free_column) = true)
    {f_shift_column : Addr} {od_shift_column an_shift_column : Option Addr} {sl_shift_column : Array (Option Value)} {oc_shift_column kV_shift_column dc_shift_column pm_shift_column cd_shift_column ct_shift_column : Value}
    (A_shift_column : PySem.W.nsIn K mainGlobals "shift_column" = some (some (.ref f_shift_column))) (L_shift_column : K.lookup f_shift_column = some ⟨oc_shift_column, od_shift_column, .func (PySem.W.fnOf "shift_column" "shift_column" (defArgs s_shift_column) (defBody s_shift_column) (defScope s_shift_column) .none kV_shift_column dc_shift_column pm_shift_column an_shift_column cd_shift_column ct_shift_column), sl_shift_column⟩) (C_shift_column : PySem.W.codeIn K cd_shift_column "shift_column" = true) (K_shift_column : PySem.W.keepIn K (.ref f_shift_column) = true)
    {f_tie_boxes : Addr} {od_tie_boxes an_tie_boxes : Option Addr} {sl_tie_boxes : Array (Option Value)} {oc_tie_boxes kV_tie_boxes dc_tie_boxes pm_tie_boxes cd_tie_boxes ct_tie_boxes : Value}
    (A_tie_boxes : PySem.W.nsIn K mainGlobals "tie_boxes" = some (some (.ref f_tie_boxes))) (L_tie_boxes : K.lookup f_tie_boxes = some ⟨oc_tie_boxes, od_tie_boxes, .func (PySem.W.fnOf "tie_boxes" "tie_boxes" (defArgs s_tie_boxes) (defBody s_tie_boxes) (defScope s_tie_boxes) .none kV_tie_boxes dc_tie_boxes pm_tie_boxes an_tie_boxes cd_tie_boxes ct_tie_boxes), sl_tie_boxes⟩) (C_tie_boxes : PySem.W.codeIn K cd_tie_boxes "tie_boxes" = true) (K_tie_boxes : PySem.W.keepIn K (.ref f_tie_boxes) = true)
    {f_l_cell : Addr} {od_l_cell an_l_cell : Option Addr} {sl_l_cell : Array (Option Value)} {oc_l_cell kV_l_cell dc_l_cell pm_l_cell cd_l_cell ct_l_cell : Value}
    (A_l_cell : PySem.W.nsIn K mainGlobals "_law_cell" = some (some (.ref f_l_cell))) (L_l_cell : K.lookup f_l_cell = some ⟨oc_l_cell, od_l_cell, .func (PySem.W.fnOf "_law_cell" "_law_cell" (defArgs s_l_cell) (defBody s_l_cell) (defScope s_l_cell) .none kV_l_cell dc_l_cell pm_l_cell an_l_cell cd_l_cell ct_l_cell), sl_l_cell⟩) (C_l_cell : PySem.W.codeIn K cd_l_cell "_law_cell" = true) (K_l_cell : PySem.W.keepIn K (.ref f_l_cell) = true)
    {f_l_source : Addr} {od_l_source an_l_source : Option Addr} {sl_l_source : Array (Option Value)} {oc_l_source kV_l_source dc_l_source pm_l_source cd_l_source ct_l_source : Value}
    (A_l_source : PySem.W.nsIn K mainGlobals "_law_source" = some (some (.ref f_l_source))) (L_l_source : K.lookup f_l_source = some ⟨oc_l_source, od_l_source, .func (PySem.W.fnOf "_law_source" "_law_source" (defArgs s_l_source) (defBody s_l_source) (defScope s_l_source) .none kV_l_source dc_l_source pm_l_source an_l_source cd_l_source ct_l_source), sl_l_source⟩) (C_l_source : PySem.W.codeIn K cd_l_source "_law_source" = true) (K_l_source : PySem.W.keepIn K (.ref f_l_source) = true)
    {f_l_pick : Addr} {od_l_pick an_l_pick : Option Addr} {sl_l_pick : Array (Option Value)} {oc_l_pick kV_l_pick dc_l_pick pm_l_pick cd_l_pick ct_l_pick : Value}
    (A_l_pick : PySem.W.nsIn K mainGlobals "_law_pick" = some (some (.ref f_l_pick))) (L_l_pick : K.lookup f_l_pick = some ⟨oc_l_pick, od_l_pick, .func (PySem.W.fnOf "_law_pick" "_law_pick" (defArgs s_l_pick) (defBody s_l_pick) (defScope s_l_pick) .none kV_l_pick dc_l_pick pm_l_pick an_l_pick cd_l_pick ct_l_pick), sl_l_pick⟩) (C_l_pick : PySem.W.codeIn K cd_l_pick "_law_pick" = true) (K_l_pick : PySem.W.keepIn K (.ref f_l_pick) = true)
    {f_l_hull : Addr} {od_l_hull an_l_hull : Option Addr} {sl_l_hull : Array (Option Value)} {oc_l_hull kV_l_hull dc_l_hull pm_l_hull cd_l_hull ct_l_hull : Value}
    (A_l_hull : PySem.W.nsIn K mainGlobals "_law_hull" = some (some (.ref f_l_hull))) (L_l_hull : K.lookup f_l_hull = some ⟨oc_l_hull, od_l_hull, .func (PySem.W.fnOf "_law_hull" "_law_hull" (defArgs s_l_hull) (defBody s_l_hull) (defScope s_l_hull) .none kV_l_hull dc_l_hull pm_l_hull an_l_hull cd_l_hull ct_l_hull), sl_l_hull⟩) (C_l_hull : PySem.W.codeIn K cd_l_hull "_law_hull" = true) (K_l_hull : PySem.W.keepIn K (.ref f_l_hull) = true)
    {f_l_belongs : Addr} {od_l_belongs an_l_belongs : Option Addr} {sl_l_belongs : Array (Option Value)} {oc_l_belongs kV_l_belongs dc_l_belongs pm_l_belongs cd_l_belongs ct_l_belongs : Value}
    (A_l_belongs : PySem.W.nsIn K mainGlobals "_law_belongs" = some (some (.ref f_l_belongs))) (L_l_belongs : K.lookup f_l_belongs = some ⟨oc_l_belongs, od_l_belongs, .func (PySem.W.fnOf "_law_belongs" "_law_belongs" (defArgs s_l_belongs) (defBody s_l_belongs) (defScope s_l_belongs) .none kV_l_belongs dc_l_belongs pm_l_belongs an_l_belongs cd_l_belongs ct_l_belongs), sl_l_belongs⟩) (C_l_belongs : PySem.W.codeIn K cd_l_belongs "_law_belongs" = true) (K_l_belongs : PySem.W.keepIn K (.ref f_l_belongs) = true)
    {f_l_grid : Addr} {od_l_grid an_l_grid : Option Addr} {sl_l_grid : Array (Option Value)} {oc_l_grid kV_l_grid dc_l_grid pm_l_grid cd_l_grid ct_l_grid : Value}
    (A_l_grid : PySem.W.nsIn K mainGlobals "_law_grid" = some (some (.ref f_l_grid))) (L_l_grid : K.lookup f_l_grid = some ⟨oc_l_grid, od_l_grid, .func (PySem.W.fnOf "_law_grid" "_law_grid" (defArgs s_l_grid) (defBody s_l_grid) (defScope s_l_grid) .none kV_l_grid dc_l_grid pm_l_grid an_l_grid cd_l_grid ct_l_grid), sl_l_grid⟩) (C_l_grid : PySem.W.codeIn K cd_l_grid "_law_grid" = true) (K_l_grid : PySem.W.keepIn K (.ref f_l_grid) = true)
    {f_l_same : Addr} {od_l_same an_l_same : Option Addr} {sl_l_same : Array (Option Value)} {oc_l_same kV_l_same dc_l_same pm_l_same cd_l_same ct_l_same : Value}
    (A_l_same : PySem.W.nsIn K mainGlobals "_law_same" = some (some (.ref f_l_same))) (L_l_same : K.lookup f_l_same = some ⟨oc_l_same, od_l_same, .func (PySem.W.fnOf "_law_same" "_law_same" (defArgs s_l_same) (defBody s_l_same) (defScope s_l_same) .none kV_l_same dc_l_same pm_l_same an_l_same cd_l_same ct_l_same), sl_l_same⟩) (C_l_same : PySem.W.codeIn K cd_l_same "_law_same" = true) (K_l_same : PySem.W.keepIn K (.ref f_l_same) = true)
    {f_l_points : Addr} {od_l_points an_l_points : Option Addr} {sl_l_points : Array (Option Value)} {oc_l_points kV_l_points dc_l_points pm_l_points cd_l_points ct_l_points : Value}
    (A_l_points : PySem.W.nsIn K mainGlobals "_law_points" = some (some (.ref f_l_points))) (L_l_points : K.lookup f_l_points = some ⟨oc_l_points, od_l_points, .func (PySem.W.fnOf "_law_points" "_law_points" (defArgs s_l_points) (defBody s_l_points) (defScope s_l_points) .none kV_l_points dc_l_points pm_l_points an_l_points cd_l_points ct_l_points), sl_l_points⟩) (C_l_points : PySem.W.codeIn K cd_l_points "_law_points" = true) (K_l_points : PySem.W.keepIn K (.ref f_l_points) = true)
    {f_l_fits : Addr} {od_l_fits an_l_fits : Option Addr} {sl_l_fits : Array (Option Value)} {oc_l_fits kV_l_fits dc_l_fits pm_l_fits cd_l_fits ct_l_fits : Value}
    (A_l_fits : PySem.W.nsIn K mainGlobals "_law_fits" = some (some (.ref f_l_fits))) (L_l_fits : K.lookup f_l_fits = some ⟨oc_l_fits, od_l_fits, .func (PySem.W.fnOf "_law_fits" "_law_fits" (defArgs s_l_fits) (defBody s_l_fits) (defScope s_l_fits) .none kV_l_fits dc_l_fits pm_l_fits an_l_fits cd_l_fits ct_l_fits), sl_l_fits⟩) (C_l_fits : PySem.W.codeIn K cd_l_fits "_law_fits" = true) (K_l_fits : PySem.W.keepIn K (.ref f_l_fits) = true)
    {f_l_start : Addr} {od_l_start an_l_start : Option Addr} {sl_l_start : Array (Option Value)} {oc_l_start kV_l_start dc_l_start pm_l_start cd_l_start ct_l_start : Value}
    (A_l_start : PySem.W.nsIn K mainGlobals "_law_start" = some (some (.ref f_l_start))) (L_l_start : K.lookup f_l_start = some ⟨oc_l_start, od_l_start, .func (PySem.W.fnOf "_law_start" "_law_start" (defArgs s_l_start) (defBody s_l_start) (defScope s_l_start) .none kV_l_start dc_l_start pm_l_start an_l_start cd_l_start ct_l_start), sl_l_start⟩) (C_l_start : PySem.W.codeIn K cd_l_start "_law_start" = true) (K_l_start : PySem.W.keepIn K (.ref f_l_start) = true)
    {f_l_distinct : Addr} {od_l_distinct an_l_distinct : Option Addr} {sl_l_distinct : Array (Option Value)} {oc_l_distinct kV_l_distinct dc_l_distinct pm_l_distinct cd_l_distinct ct_l_distinct : Value}
    (A_l_distinct : PySem.W.nsIn K mainGlobals "_law_distinct" = some (some (.ref f_l_distinct))) (L_l_distinct : K.lookup f_l_distinct = some ⟨oc_l_distinct, od_l_distinct, .func (PySem.W.fnOf "_law_distinct" "_law_distinct" (defArgs s_l_distinct) (defBody s_l_distinct) (defScope s_l_distinct) .none kV_l_distinct dc_l_distinct pm_l_distinct an_l_distinct cd_l_distinct ct_l_distinct), sl_l_distinct⟩) (C_l_distinct : PySem.W.codeIn K cd_l_distinct "_law_distinct" = true) (K_l_distinct : PySem.W.keepIn K (.ref f_l_distinct) = true)
    {f_l_part : Addr} {od_l_part an_l_part : Option Addr} {sl_l_part : Array (Option Value)} {oc_l_part kV_l_part dc_l_part pm_l_part cd_l_part ct_l_part : Value}
    (A_l_part : PySem.W.nsIn K mainGlobals "_law_part" = some (some (.ref f_l_part))) (L_l_part : K.lookup f_l_part = some ⟨oc_l_part, od_l_part, .func (PySem.W.fnOf "_law_part" "_law_part" (defArgs s_l_part) (defBody s_l_part) (defScope s_l_part) .none kV_l_part dc_l_part pm_l_part an_l_part cd_l_part ct_l_part), sl_l_part⟩) (C_l_part : PySem.W.codeIn K cd_l_part "_law_part" = true) (K_l_part : PySem.W.keepIn K (.ref f_l_part) = true)
    {f_l_columns : Addr} {od_l_columns an_l_columns : Option Addr} {sl_l_columns : Array (Option Value)} {oc_l_columns kV_l_columns dc_l_columns pm_l_columns cd_l_columns ct_l_columns : Value}
    (A_l_columns : PySem.W.nsIn K mainGlobals "_law_columns" = some (some (.ref f_l_columns))) (L_l_columns : K.lookup f_l_columns = some ⟨oc_l_columns, od_l_columns, .func (PySem.W.fnOf "_law_columns" "_law_columns" (defArgs s_l_columns) (defBody s_l_columns) (defScope s_l_columns) .none kV_l_columns dc_l_columns pm_l_columns an_l_columns cd_l_columns ct_l_columns), sl_l_columns⟩) (C_l_columns : PySem.W.codeIn K cd_l_columns "_law_columns" = true) (K_l_columns : PySem.W.keepIn K (.ref f_l_columns) = true)
    {f_l_near_box : Addr} {od_l_near_box an_l_near_box : Option Addr} {sl_l_near_box : Array (Option Value)} {oc_l_near_box kV_l_near_box dc_l_near_box pm_l_near_box cd_l_near_box ct_l_near_box : Value}
    (A_l_near_box : PySem.W.nsIn K mainGlobals "_law_near_box" = some (some (.ref f_l_near_box))) (L_l_near_box : K.lookup f_l_near_box = some ⟨oc_l_near_box, od_l_near_box, .func (PySem.W.fnOf "_law_near_box" "_law_near_box" (defArgs s_l_near_box) (defBody s_l_near_box) (defScope s_l_near_box) .none kV_l_near_box dc_l_near_box pm_l_near_box an_l_near_box cd_l_near_box ct_l_near_box), sl_l_near_box⟩) (C_l_near_box : PySem.W.codeIn K cd_l_near_box "_law_near_box" = true) (K_l_near_box : PySem.W.keepIn K (.ref f_l_near_box) = true)
    {f_l_cut : Addr} {od_l_cut an_l_cut : Option Addr} {sl_l_cut : Array (Option Value)} {oc_l_cut kV_l_cut dc_l_cut pm_l_cut cd_l_cut ct_l_cut : Value}
    (A_l_cut : PySem.W.nsIn K mainGlobals "_law_cut" = some (some (.ref f_l_cut))) (L_l_cut : K.lookup f_l_cut = some ⟨oc_l_cut, od_l_cut, .func (PySem.W.fnOf "_law_cut" "_law_cut" (defArgs s_l_cut) (defBody s_l_cut) (defScope s_l_cut) .none kV_l_cut dc_l_cut pm_l_cut an_l_cut cd_l_cut ct_l_cut), sl_l_cut⟩) (C_l_cut : PySem.W.codeIn K cd_l_cut "_law_cut" = true) (K_l_cut : PySem.W.keepIn K (.ref f_l_cut) = true)
    {f_l_moved_points : Addr} {od_l_moved_points an_l_moved_points : Option Addr} {sl_l_moved_points : Array (Option Value)} {oc_l_moved_points kV_l_moved_points dc_l_moved_points pm_l_moved_points cd_l_moved_points ct_l_moved_points : Value}
    (A_l_moved_points : PySem.W.nsIn K mainGlobals "_law_moved_points" = some (some (.ref f_l_moved_points))) (L_l_moved_points : K.lookup f_l_moved_points = some ⟨oc_l_moved_points, od_l_moved_points, .func (PySem.W.fnOf "_law_moved_points" "_law_moved_points" (defArgs s_l_moved_points) (defBody s_l_moved_points) (defScope s_l_moved_points) .none kV_l_moved_points dc_l_moved_points pm_l_moved_points an_l_moved_points cd_l_moved_points ct_l_moved_points), sl_l_moved_points⟩) (C_l_moved_points : PySem.W.codeIn K cd_l_moved_points "_law_moved_points" = true) (K_l_moved_points : PySem.W.keepIn K (.ref f_l_moved_points) = true)
    {f_l_few : Addr} {od_l_few an_l_few : Option Addr} {sl_l_few : Array (Option Value)} {oc_l_few kV_l_few dc_l_few pm_l_few cd_l_few ct_l_few : Value}
    (A_l_few : PySem.W.nsIn K mainGlobals "_law_few" = some (some (.ref f_l_few))) (L_l_few : K.lookup f_l_few = some ⟨oc_l_few, od_l_few, .func (PySem.W.fnOf "_law_few" "_law_few" (defArgs s_l_few) (defBody s_l_few) (defScope s_l_few) .none kV_l_few dc_l_few pm_l_few an_l_few cd_l_few ct_l_few), sl_l_few⟩) (C_l_few : PySem.W.codeIn K cd_l_few "_law_few" = true) (K_l_few : PySem.W.keepIn K (.ref f_l_few) = true)
    {f_l_change : Addr} {od_l_change an_l_change : Option Addr} {sl_l_change : Array (Option Value)} {oc_l_change kV_l_change dc_l_change pm_l_change cd_l_change ct_l_change : Value}
    (A_l_change : PySem.W.nsIn K mainGlobals "_law_change" = some (some (.ref f_l_change))) (L_l_change : K.lookup f_l_change = some ⟨oc_l_change, od_l_change, .func (PySem.W.fnOf "_law_change" "_law_change" (defArgs s_l_change) (defBody s_l_change) (defScope s_l_change) .none kV_l_change dc_l_change pm_l_change an_l_change cd_l_change ct_l_change), sl_l_change⟩) (C_l_change : PySem.W.codeIn K cd_l_change "_law_change" = true) (K_l_change : PySem.W.keepIn K (.ref f_l_change) = true)
    {f_law : Addr} {od_law an_law : Option Addr} {sl_law : Array (Option Value)} {oc_law kV_law dc_law pm_law cd_law ct_law : Value}
    (A_law : PySem.W.nsIn K mainGlobals "law" = some (some (.ref f_law))) (L_law : K.lookup f_law = some ⟨oc_law, od_law, .func (PySem.W.fnOf "law" "law" (defArgs s_law) (defBody s_law) (defScope s_law) .none kV_law dc_law pm_law an_law cd_law ct_law), sl_law⟩) (C_law : PySem.W.codeIn K cd_law "law" = true) (K_law : PySem.W.keepIn K (.ref f_law) = true)
    (Z_any : PySem.W.nsIn K mainGlobals "any" = some none)
    (Z_bool : PySem.W.nsIn K mainGlobals "bool" = some none)
    (Z_enumerate : PySem.W.nsIn K mainGlobals "enumerate" = some none)
    (Z_int : PySem.W.nsIn K mainGlobals "int" = some none)
    (Z_isinstance : PySem.W.nsIn K mainGlobals "isinstance" = some none)
    (Z_len : PySem.W.nsIn K mainGlobals "len" = some none)
    (Z_list : PySem.W.nsIn K mainGlobals "list" = some none)
    (Z_max : PySem.W.nsIn K mainGlobals "max" = some none)
    (Z_min : PySem.W.nsIn K mainGlobals "min" = some none)
    (Z_range : PySem.W.nsIn K mainGlobals "range" = some none)
    (Z_str : PySem.W.nsIn K mainGlobals "str" = some none)
    (Z_tuple : PySem.W.nsIn K mainGlobals "tuple" = some none)
    (Z_zip : PySem.W.nsIn K mainGlobals "zip" = some none) :
    ∃ fd : FuncData, (∀ (s : Shared) (v : Value), BindsTo s fd ⟨[v], []⟩ [("_law_script", v)]) ∧ ∀ base : Heap, K.In base → base.Ns mainGlobals mg → FnOk l.prog w K mg base CX0 6 fa fd ["_law_script"] (spLaw K) := by
  have e := hfa.symm.trans (PySem.W.mg_of X G A_law)
  cases e
  let T : Txt w K mg := {
    a_close := f_close, d_close := _, F_close := fun_mk (st := s_close) L_close C_close K_close, b_close := (fun_mk (st := s_close) L_close C_close K_close).binds (ps := p_close) (fun _ _ _ _ _ _ us hl => match us, hl with | [_], _ => rfl), m_close := PySem.W.mg_of X G A_close,
    a_has_contradiction := f_has_contradiction, d_has_contradiction := _, F_has_contradiction := fun_mk (st := s_has_contradiction) L_has_contradiction C_has_contradiction K_has_contradiction, b_has_contradiction := (fun_mk (st := s_has_contradiction) L_has_contradiction C_has_contradiction K_has_contradiction).binds (ps := p_has_contradiction) (fun _ _ _ _ _ _ us hl => match us, hl with | [_], _ => rfl), m_has_contradiction := PySem.W.mg_of X G A_has_contradiction,
    a_shortened := f_shortened, d_shortened := _, F_shortened := fun_mk (st := s_shortened) L_shortened C_shortened K_shortened, b_shortened := (fun_mk (st := s_shortened) L_shortened C_shortened K_shortened).binds (ps := p_shortened) (fun _ _ _ _ _ _ us hl => match us, hl with | [_, _], _ => rfl), m_shortened := PySem.W.mg_of X G A_shortened,
    a_frozen := f_frozen, d_frozen := _, F_frozen := fun_mk (st := s_frozen) L_frozen C_frozen K_frozen, b_frozen := (fun_mk (st := s_frozen) L_frozen C_frozen K_frozen).binds (ps := p_frozen) (fun _ _ _ _ _ _ us hl => match us, hl with | [_], _ => rfl), m_frozen := PySem.W.mg_of X G A_frozen,
    a_range_box := f_range_box, d_range_box := _, F_range_box := fun_mk (st := s_range_box) L_range_box C_range_box K_range_box, b_range_box := (fun_mk (st := s_range_box) L_range_box C_range_box K_range_box).binds (ps := p_range_box) (fun _ _ _ _ _ _ us hl => match us, hl with | [_], _ => rfl), m_range_box := PySem.W.mg_of X G A_range_box,
    a_bound := f_bound, d_bound := _, F_bound := fun_mk (st := s_bound) L_bound C_bound K_bound, b_bound := (fun_mk (st := s_bound) L_bound C_bound K_bound).binds (ps := p_bound) (fun _ _ _ _ _ _ us hl => match us, hl with | [_, _, _, _], _ => rfl), m_bound := PySem.W.mg_of X G A_bound,
    a_meet_boxes := f_meet_boxes, d_meet_boxes := _, F_meet_boxes := fun_mk (st := s_meet_boxes) L_meet_boxes C_meet_boxes K_meet_boxes, b_meet_boxes := (fun_mk (st := s_meet_boxes) L_meet_boxes C_meet_boxes K_meet_boxes).binds (ps := p_meet_boxes) (fun _ _ _ _ _ _ us hl => match us, hl with | [_, _], _ => rfl), m_meet_boxes := PySem.W.mg_of X G A_meet_boxes,
    a_add_columns := f_add_columns, d_add_columns := _, F_add_columns := fun_mk (st := s_add_columns) L_add_columns C_add_columns K_add_columns, b_add_columns := (fun_mk (st := s_add_columns) L_add_columns C_add_columns K_add_columns).binds (ps := p_add_columns) (fun _ _ _ _ _ _ us hl => match us, hl with | [_, _], _ => rfl), m_add_columns := PySem.W.mg_of X G A_add_columns,
    a_limits_over := f_limits_over, d_limits_over := _, F_limits_over := fun_mk (st := s_limits_over) L_limits_over C_limits_over K_limits_over, b_limits_over := (fun_mk (st := s_limits_over) L_limits_over C_limits_over K_limits_over).binds (ps := p_limits_over) (fun _ _ _ _ _ _ us hl => match us, hl with | [_, _], _ => rfl), m_limits_over := PySem.W.mg_of X G A_limits_over,
    a_pick_columns := f_pick_columns, d_pick_columns := _, F_pick_columns := fun_mk (st := s_pick_columns) L_pick_columns C_pick_columns K_pick_columns, b_pick_columns := (fun_mk (st := s_pick_columns) L_pick_columns C_pick_columns K_pick_columns).binds (ps := p_pick_columns) (fun _ _ _ _ _ _ us hl => match us, hl with | [_, _], _ => rfl), m_pick_columns := PySem.W.mg_of X G A_pick_columns,
    a_with_column := f_with_column, d_with_column := _, F_with_column := fun_mk (st := s_with_column) L_with_column C_with_column K_with_column, b_with_column := (fun_mk (st := s_with_column) L_with_column C_with_column K_with_column).binds (ps := p_with_column) (fun _ _ _ _ _ _ us hl => match us, hl with | [_, _, _, _], _ => rfl), m_with_column := PySem.W.mg_of X G A_with_column,
    a_free_column := f_free_column, d_free_column := _, F_free_column := fun_mk (st := s_free_column) L_free_column C_free_column K_free_column, b_free_column := (fun_mk (st := s_free_column) L_free_column C_free_column K_free_column).binds (ps := p_free_column) (fun _ _ _ _ _ _ us hl => match us, hl with | [_, _, _, _], _ => rfl), m_free_column := PySem.W.mg_of X G A_free_column,
    a_shift_column := f_shift_column, d_shift_column := _, F_shift_column := fun_mk (st := s_shift_column) L_shift_column C_shift_column K_shift_column, b_shift_column := (fun_mk (st := s_shift_column) L_shift_column C_shift_column K_shift_column).binds (ps := p_shift_column) (fun _ _ _ _ _ _ us hl => match us, hl with | [_, _, _, _], _ => rfl), m_shift_column := PySem.W.mg_of X G A_shift_column,
    a_tie_boxes := f_tie_boxes, d_tie_boxes := _, F_tie_boxes := fun_mk (st := s_tie_boxes) L_tie_boxes C_tie_boxes K_tie_boxes, b_tie_boxes := (fun_mk (st := s_tie_boxes) L_tie_boxes C_tie_boxes K_tie_boxes).binds (ps := p_tie_boxes) (fun _ _ _ _ _ _ us hl => match us, hl with | [_, _, _], _ => rfl), m_tie_boxes := PySem.W.mg_of X G A_tie_boxes,
    a_l_cell := f_l_cell, d_l_cell := _, F_l_cell := fun_mk (st := s_l_cell) L_l_cell C_l_cell K_l_cell, b_l_cell := (fun_mk (st := s_l_cell) L_l_cell C_l_cell K_l_cell).binds (ps := p_l_cell) (fun _ _ _ _ _ _ us hl => match us, hl with | [_, _], _ => rfl), m_l_cell := PySem.W.mg_of X G A_l_cell,
    a_l_source := f_l_source, d_l_source := _, F_l_source := fun_mk (st := s_l_source) L_l_source C_l_source K_l_source, b_l_source := (fun_mk (st := s_l_source) L_l_source C_l_source K_l_source).binds (ps := p_l_source) (fun _ _ _ _ _ _ us hl => match us, hl with | [_], _ => rfl), m_l_source := PySem.W.mg_of X G A_l_source,
    a_l_pick := f_l_pick, d_l_pick := _, F_l_pick := fun_mk (st := s_l_pick) L_l_pick C_l_pick K_l_pick, b_l_pick := (fun_mk (st := s_l_pick) L_l_pick C_l_pick K_l_pick).binds (ps := p_l_pick) (fun _ _ _ _ _ _ us hl => match us, hl with | [_, _], _ => rfl), m_l_pick := PySem.W.mg_of X G A_l_pick,
    a_l_hull := f_l_hull, d_l_hull := _, F_l_hull := fun_mk (st := s_l_hull) L_l_hull C_l_hull K_l_hull, b_l_hull := (fun_mk (st := s_l_hull) L_l_hull C_l_hull K_l_hull).binds (ps := p_l_hull) (fun _ _ _ _ _ _ us hl => match us, hl with | [_, _], _ => rfl), m_l_hull := PySem.W.mg_of X G A_l_hull,
    a_l_belongs := f_l_belongs, d_l_belongs := _, F_l_belongs := fun_mk (st := s_l_belongs) L_l_belongs C_l_belongs K_l_belongs, b_l_belongs := (fun_mk (st := s_l_belongs) L_l_belongs C_l_belongs K_l_belongs).binds (ps := p_l_belongs) (fun _ _ _ _ _ _ us hl => match us, hl with | [_, _], _ => rfl), m_l_belongs := PySem.W.mg_of X G A_l_belongs,
    a_l_grid := f_l_grid, d_l_grid := _, F_l_grid := fun_mk (st := s_l_grid) L_l_grid C_l_grid K_l_grid, b_l_grid := (fun_mk (st := s_l_grid) L_l_grid C_l_grid K_l_grid).binds (ps := p_l_grid) (fun _ _ _ _ _ _ us hl => match us, hl with | [_], _ => rfl), m_l_grid := PySem.W.mg_of X G A_l_grid,
    a_l_same := f_l_same, d_l_same := _, F_l_same := fun_mk (st := s_l_same) L_l_same C_l_same K_l_same, b_l_same := (fun_mk (st := s_l_same) L_l_same C_l_same K_l_same).binds (ps := p_l_same) (fun _ _ _ _ _ _ us hl => match us, hl with | [_, _], _ => rfl), m_l_same := PySem.W.mg_of X G A_l_same,
    a_l_points := f_l_points, d_l_points := _, F_l_points := fun_mk (st := s_l_points) L_l_points C_l_points K_l_points, b_l_points := (fun_mk (st := s_l_points) L_l_points C_l_points K_l_points).binds (ps := p_l_points) (fun _ _ _ _ _ _ us hl => match us, hl with | [_], _ => rfl), m_l_points := PySem.W.mg_of X G A_l_points,
    a_l_fits := f_l_fits, d_l_fits := _, F_l_fits := fun_mk (st := s_l_fits) L_l_fits C_l_fits K_l_fits, b_l_fits := (fun_mk (st := s_l_fits) L_l_fits C_l_fits K_l_fits).binds (ps := p_l_fits) (fun _ _ _ _ _ _ us hl => match us, hl with | [_, _, _, _], _ => rfl), m_l_fits := PySem.W.mg_of X G A_l_fits,
    a_l_start := f_l_start, d_l_start := _, F_l_start := fun_mk (st := s_l_start) L_l_start C_l_start K_l_start, b_l_start := (fun_mk (st := s_l_start) L_l_start C_l_start K_l_start).binds (ps := p_l_start) (fun _ _ _ _ _ _ us hl => match us, hl with | [_, _], _ => rfl), m_l_start := PySem.W.mg_of X G A_l_start,
    a_l_distinct := f_l_distinct, d_l_distinct := _, F_l_distinct := fun_mk (st := s_l_distinct) L_l_distinct C_l_distinct K_l_distinct, b_l_distinct := (fun_mk (st := s_l_distinct) L_l_distinct C_l_distinct K_l_distinct).binds (ps := p_l_distinct) (fun _ _ _ _ _ _ us hl => match us, hl with | [_], _ => rfl), m_l_distinct := PySem.W.mg_of X G A_l_distinct,
    a_l_part := f_l_part, d_l_part := _, F_l_part := fun_mk (st := s_l_part) L_l_part C_l_part K_l_part, b_l_part := (fun_mk (st := s_l_part) L_l_part C_l_part K_l_part).binds (ps := p_l_part) (fun _ _ _ _ _ _ us hl => match us, hl with | [_, _], _ => rfl), m_l_part := PySem.W.mg_of X G A_l_part,
    a_l_columns := f_l_columns, d_l_columns := _, F_l_columns := fun_mk (st := s_l_columns) L_l_columns C_l_columns K_l_columns, b_l_columns := (fun_mk (st := s_l_columns) L_l_columns C_l_columns K_l_columns).binds (ps := p_l_columns) (fun _ _ _ _ _ _ us hl => match us, hl with | [_, _, _], _ => rfl), m_l_columns := PySem.W.mg_of X G A_l_columns,
    a_l_near_box := f_l_near_box, d_l_near_box := _, F_l_near_box := fun_mk (st := s_l_near_box) L_l_near_box C_l_near_box K_l_near_box, b_l_near_box := (fun_mk (st := s_l_near_box) L_l_near_box C_l_near_box K_l_near_box).binds (ps := p_l_near_box) (fun _ _ _ _ _ _ us hl => match us, hl with | [_, _], _ => rfl), m_l_near_box := PySem.W.mg_of X G A_l_near_box,
    a_l_cut := f_l_cut, d_l_cut := _, F_l_cut := fun_mk (st := s_l_cut) L_l_cut C_l_cut K_l_cut, b_l_cut := (fun_mk (st := s_l_cut) L_l_cut C_l_cut K_l_cut).binds (ps := p_l_cut) (fun _ _ _ _ _ _ us hl => match us, hl with | [_, _], _ => rfl), m_l_cut := PySem.W.mg_of X G A_l_cut,
    a_l_moved_points := f_l_moved_points, d_l_moved_points := _, F_l_moved_points := fun_mk (st := s_l_moved_points) L_l_moved_points C_l_moved_points K_l_moved_points, b_l_moved_points := (fun_mk (st := s_l_moved_points) L_l_moved_points C_l_moved_points K_l_moved_points).binds (ps := p_l_moved_points) (fun _ _ _ _ _ _ us hl => match us, hl with | [_, _, _, _, _], _ => rfl), m_l_moved_points := PySem.W.mg_of X G A_l_moved_points,
    a_l_few := f_l_few, d_l_few := _, F_l_few := fun_mk (st := s_l_few) L_l_few C_l_few K_l_few, b_l_few := (fun_mk (st := s_l_few) L_l_few C_l_few K_l_few).binds (ps := p_l_few) (fun _ _ _ _ _ _ us hl => match us, hl with | [_, _], _ => rfl), m_l_few := PySem.W.mg_of X G A_l_few,
    a_l_change := f_l_change, d_l_change := _, F_l_change := fun_mk (st := s_l_change) L_l_change C_l_change K_l_change, b_l_change := (fun_mk (st := s_l_change) L_l_change C_l_change K_l_change).binds (ps := p_l_change) (fun _ _ _ _ _ _ us hl => match us, hl with | [_, _], _ => rfl), m_l_change := PySem.W.mg_of X G A_l_change,
    a_law := fa, d_law := _, F_law := fun_mk (st := s_law) L_law C_law K_law, b_law := (fun_mk (st := s_law) L_law C_law K_law).binds (ps := p_law) (fun _ _ _ _ _ _ us hl => match us, hl with | [_], _ => rfl), m_law := PySem.W.mg_of X G A_law,
    z_any := PySem.W.mg_none_of X G Z_any,
    z_bool := PySem.W.mg_none_of X G Z_bool,
    z_enumerate := PySem.W.mg_none_of X G Z_enumerate,
    z_int := PySem.W.mg_none_of X G Z_int,
    z_isinstance := PySem.W.mg_none_of X G Z_isinstance,
    z_len := PySem.W.mg_none_of X G Z_len,
    z_list := PySem.W.mg_none_of X G Z_list,
    z_max := PySem.W.mg_none_of X G Z_max,
    z_min := PySem.W.mg_none_of X G Z_min,
    z_range := PySem.W.mg_none_of X G Z_range,
    z_str := PySem.W.mg_none_of X G Z_str,
    z_tuple := PySem.W.mg_none_of X G Z_tuple,
    z_zip := PySem.W.mg_none_of X G Z_zip }
  refine ⟨PySem.W.fnOf "law" "law" (defArgs s_law) (defBody s_law) (defScope s_law) .none kV_law dc_law pm_law an_law cd_law ct_law, fun s v => .of_eq rfl, fun base _ _ => ok_law T⟩
theorem walk {l : PySem.W.OpenLaw} {q : Program} {loose : List Str} {XP : (Str → Option Value) → Heap → Prop} {YP : World → Heap → Prop} {d : DefRec} {K : Params → PySem.W.Frag} (hn : l.most = some 63) (hdf : d.params.defaults = [])
    (hY : ∀ (w : World) (h : Heap), YP w h → (K w.params).In h)
    (F : ∀ (w : World) (mg : Str → Option Value) (fa : Addr) (h : Heap), (K w.params).In h → h.Ns mainGlobals mg → mg d.name = some (.ref fa) →
      ∃ fd : FuncData, (∀ (s : Shared) (u : Value), BindsTo s fd ⟨[u], []⟩ [("_law_script", u)]) ∧ ∀ base : Heap, (K w.params).In base → base.Ns mainGlobals mg → FnOk l.prog w (K w.params) mg base CX0 6 fa fd ["_law_script"] (spLaw (K w.params))) :
    PySem.W.WalkO q loose XP YP l.row.toRowW d [] (fun f vs => PySem.call f vs) :=
  L2.walk_of (n := 63) (k := 6) (x := "_law_script") (CX := fun _ => CX0) (sp := fun w => spLaw (K w.params)) hn (by decide) hdf ⟨rfl, by decide, by decide⟩ hY F (fun _ _ a ns hl _ hS => ⟨a, ns, rfl, hS, hl, fun _ => rfl⟩) fun _ _ _ _ _ z => z
end Mine
open PySem PySem.W PyProof.Rows
set_option maxRecDepth 100000 in
set_option maxHeartbeats 0 in
theorem PySem.Challenge.cw_neverhappens_k22_whole_boxes_are_their_p_holds : PySem.Challenge.rw_neverhappens_k22_whole_boxes_are_their_p.Holds := by
  w_on; o_law; k_head; (case hw => w_witness2)
  k_fill
  refine Mine.walk (l := PySem.Challenge.rw_neverhappens_k22_whole_boxes_are_their_p) rfl rfl (fun w h Y => PySem.W.kIn_of Y) ?F
  case F =>
    intro w mg fa h KX G hmg
    refine' Mine.all_mk KX G hmg ?A_close ?L_close ?C_close ?K_close ?A_has_contradiction ?L_has_contradiction ?C_has_contradiction ?K_has_contradiction ?A_shortened ?L_shortened ?C_shortened ?K_shortened ?A_frozen ?L_frozen ?C_frozen ?K_frozen ?A_range_box ?L_range_box ?C_range_box ?K_range_box ?A_bound ?L_bound ?C_bound ?K_bound ?A_meet_boxes ?L_meet_boxes ?C_meet_boxes ?K_meet_boxes ?A_add_columns ?L_add_columns ?C_add_columns ?K_add_columns ?A_limits_over ?L_limits_over ?C_limits_over ?K_limits_over ?A_pick_columns ?L_pick_columns ?C_pick_columns ?K_pick_columns ?A_with_column ?L_with_column ?C_with_column ?K_with_column ?A_free_column ?L_free_column ?C_free_column ?K_free_column ?A_shift_column ?L_shift_column ?C_shift_column ?K_shift_column ?A_tie_boxes ?L_tie_boxes ?C_tie_boxes ?K_tie_boxes ?A_l_cell ?L_l_cell ?C_l_cell ?K_l_cell ?A_l_source ?L_l_source ?C_l_source ?K_l_source ?A_l_pick ?L_l_pick ?C_l_pick ?K_l_pick ?A_l_hull ?L_l_hull ?C_l_hull ?K_l_hull ?A_l_belongs ?L_l_belongs ?C_l_belongs ?K_l_belongs ?A_l_grid ?L_l_grid ?C_l_grid ?K_l_grid ?A_l_same ?L_l_same ?C_l_same ?K_l_same ?A_l_points ?L_l_points ?C_l_points ?K_l_points ?A_l_fits ?L_l_fits ?C_l_fits ?K_l_fits ?A_l_start ?L_l_start ?C_l_start ?K_l_start ?A_l_distinct ?L_l_distinct ?C_l_distinct ?K_l_distinct ?A_l_part ?L_l_part ?C_l_part ?K_l_part ?A_l_columns ?L_l_columns ?C_l_columns ?K_l_columns ?A_l_near_box ?L_l_near_box ?C_l_near_box ?K_l_near_box ?A_l_cut ?L_l_cut ?C_l_cut ?K_l_cut ?A_l_moved_points ?L_l_moved_points ?C_l_moved_points ?K_l_moved_points ?A_l_few ?L_l_few ?C_l_few ?K_l_few ?A_l_change ?L_l_change ?C_l_change ?K_l_change ?A_law ?L_law ?C_law ?K_law ?Z_any ?Z_bool ?Z_enumerate ?Z_int ?Z_isinstance ?Z_len ?Z_list ?Z_max ?Z_min ?Z_range ?Z_str ?Z_tuple ?Z_zip
    (case A_close => k_is)
    (case L_close => k_is)
    (case C_close => k_is)
    (case K_close => k_is)
    (case A_has_contradiction => k_is)
    (case L_has_contradiction => k_is)
    (case C_has_contradiction => k_is)
    (case K_has_contradiction => k_is)
    (case A_shortened => k_is)
    (case L_shortened => k_is)
    (case C_shortened => k_is)
    (case K_shortened => k_is)
    (case A_frozen => k_is)
    (case L_frozen => k_is)
    (case C_frozen => k_is)
    (case K_frozen => k_is)
    (case A_range_box => k_is)
    (case L_range_box => k_is)
    (case C_range_box => k_is)
    (case K_range_box => k_is)
    (case A_bound => k_is)
    (case L_bound => k_is)
    (case C_bound => k_is)
    (case K_bound => k_is)
    (case A_meet_boxes => k_is)
    (case L_meet_boxes => k_is)
    (case C_meet_boxes => k_is)
    (case K_meet_boxes => k_is)
    (case A_add_columns => k_is)
    (case L_add_columns => k_is)
    (case C_add_columns => k_is)
    (case K_add_columns => k_is)
    (case A_limits_over => k_is)
    (case L_limits_over => k_is)
    (case C_limits_over => k_is)
    (case K_limits_over => k_is)
    (case A_pick_columns => k_is)
    (case L_pick_columns => k_is)
    (case C_pick_columns => k_is)
    (case K_pick_columns => k_is)
    (case A_with_column => k_is)
    (case L_with_column => k_is)
    (case C_with_column => k_is)
    (case K_with_column => k_is)
    (case A_free_column => k_is)
    (case L_free_column => k_is)
    (case C_free_column => k_is)
    (case K_free_column => k_is)
    (case A_shift_column => k_is)
    (case L_shift_column => k_is)
    (case C_shift_column => k_is)
    (case K_shift_column => k_is)
    (case A_tie_boxes => k_is)
    (case L_tie_boxes => k_is)
    (case C_tie_boxes => k_is)
    (case K_tie_boxes => k_is)
    (case A_l_cell => k_is)
    (case L_l_cell => k_is)
    (case C_l_cell => k_is)
    (case K_l_cell => k_is)
    (case A_l_source => k_is)
    (case L_l_source => k_is)
    (case C_l_source => k_is)
    (case K_l_source => k_is)
    (case A_l_pick => k_is)
    (case L_l_pick => k_is)
    (case C_l_pick => k_is)
    (case K_l_pick => k_is)
    (case A_l_hull => k_is)
    (case L_l_hull => k_is)
    (case C_l_hull => k_is)
    (case K_l_hull => k_is)
    (case A_l_belongs => k_is)
    (case L_l_belongs => k_is)
    (case C_l_belongs => k_is)
    (case K_l_belongs => k_is)
    (case A_l_grid => k_is)
    (case L_l_grid => k_is)
    (case C_l_grid => k_is)
    (case K_l_grid => k_is)
    (case A_l_same => k_is)
    (case L_l_same => k_is)
    (case C_l_same => k_is)
    (case K_l_same => k_is)
    (case A_l_points => k_is)
    (case L_l_points => k_is)
    (case C_l_points => k_is)
    (case K_l_points => k_is)
    (case A_l_fits => k_is)
    (case L_l_fits => k_is)
    (case C_l_fits => k_is)
    (case K_l_fits => k_is)
    (case A_l_start => k_is)
    (case L_l_start => k_is)
    (case C_l_start => k_is)
    (case K_l_start => k_is)
    (case A_l_distinct => k_is)
    (case L_l_distinct => k_is)
    (case C_l_distinct => k_is)
    (case K_l_distinct => k_is)
    (case A_l_part => k_is)
    (case L_l_part => k_is)
    (case C_l_part => k_is)
    (case K_l_part => k_is)
    (case A_l_columns => k_is)
    (case L_l_columns => k_is)
    (case C_l_columns => k_is)
    (case K_l_columns => k_is)
    (case A_l_near_box => k_is)
    (case L_l_near_box => k_is)
    (case C_l_near_box => k_is)
    (case K_l_near_box => k_is)
    (case A_l_cut => k_is)
    (case L_l_cut => k_is)
    (case C_l_cut => k_is)
    (case K_l_cut => k_is)
    (case A_l_moved_points => k_is)
    (case L_l_moved_points => k_is)
    (case C_l_moved_points => k_is)
    (case K_l_moved_points => k_is)
    (case A_l_few => k_is)
    (case L_l_few => k_is)
    (case C_l_few => k_is)
    (case K_l_few => k_is)
    (case A_l_change => k_is)
    (case L_l_change => k_is)
    (case C_l_change => k_is)
    (case K_l_change => k_is)
    (case A_law => k_is)
    (case L_law => k_is)
    (case C_law => k_is)
    (case K_law => k_is)
    (case Z_any => k_is)
    (case Z_bool => k_is)
    (case Z_enumerate => k_is)
    (case Z_int => k_is)
    (case Z_isinstance => k_is)
    (case Z_len => k_is)
    (case Z_list => k_is)
    (case Z_max => k_is)
    (case Z_min => k_is)
    (case Z_range => k_is)
    (case Z_str => k_is)
    (case Z_tuple => k_is)
    (case Z_zip => k_is)
#print axioms PySem.Challenge.cw_neverhappens_k22_whole_boxes_are_their_p_holds
