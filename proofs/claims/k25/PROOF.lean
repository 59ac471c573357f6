import PyProof.Rows.All
import Wide.All
import OpenK.AllK
import Wide.FinOn
import HandS.ForMost
import HandS.IsInst
import HandS.FStr
import HandS.Codes
import HandS.Star
import HandS.Zip
import HandS.More
import HandS.Defaults
import HandS.Rev
import HandS.Walk
import HandS.TupAny
import HandS.TupMul
import HandS.Wide
import HandS.Style
import HandS.Iter
import HandS.Conv
import KE.KTurns
import KE.GoesMore
import HandS.Set
import HandS.SetFor
import HandS.Strs
import HandS.NoneIn
import PySem.Challenge.RW_neverhappens_k25_assign
set_option Elab.async false
set_option linter.all false
set_option maxRecDepth 100000
set_option maxHeartbeats 4000000
namespace ZG
open PySem PySem.Spec PyProof.Rows L2
/-! ### zip of two rows, each a list or a tuple; the target any -/
def ItAt (t : Bool) (h : Heap) (i l : Addr) (k : Nat) : Prop := match t with
  | true => h.IsTupleIter i l k
  | false => h.IsListIter i l k
def SeqIs (t : Bool) (h : Heap) (l : Addr) (xs : Array Value) : Prop := match t with
  | true => h.IsTuple l xs
  | false => h.IsList l xs
def Sq (t : Bool) (K : PySem.W.Frag) (H : Hp) (a : Addr) (xs : List V) : Prop := match t with
  | true => SqT K H a xs
  | false => SqL K H a xs
theorem ItAt.on {t : Bool} {h h' : Heap} {i l : Addr} {k : Nat} (x : ItAt t h i l k) (e : ∀ o, h.get? i = some o → h'.get? i = some o) : ItAt t h' i l k := by
  cases t
  · exact Heap.IsListIter.at x e
  · exact Heap.IsTupleIter.at x e
theorem ItAt.get {t : Bool} {h : Heap} {i l : Addr} {k : Nat} (x : ItAt t h i l k) : ∃ o fs, h.get? i = some o ∧ o.data = .fields fs := by
  cases t <;> (obtain ⟨o, e, _, d⟩ := x; exact ⟨o, _, e, d⟩)
theorem SeqIs.on {t : Bool} {h h' : Heap} {b l : Addr} {xs : Array Value} (x : SeqIs t h l xs) (hs : Heap.ExtBut b h h') (ne : l ≠ b) : SeqIs t h' l xs := by
  cases t
  · exact Heap.IsList.extBut x hs ne
  · exact Heap.IsTuple.extBut x hs ne
theorem SeqIs.push {t : Bool} {h : Heap} {l : Addr} {xs : Array Value} (x : SeqIs t h l xs) (o : Obj) : SeqIs t (h.push o) l xs := by
  cases t
  · exact Heap.IsList.push x o
  · exact Heap.IsTuple.push x o
theorem SeqIs.lt {t : Bool} {h : Heap} {l : Addr} {xs : Array Value} (x : SeqIs t h l xs) : l < h.objs.size := by
  cases t <;> (obtain ⟨o, e, _⟩ := x; exact Heap.lt_size e)
abbrev itObj (t : Bool) (l : Addr) : Obj := { cls := .type (if t then "tuple_iterator" else "list_iterator"), data := .fields #[.ref l, .int 0 0] }
theorem itAt_new (t : Bool) {h : Heap} {i l : Addr} (e : h.get? i = some (itObj t l)) : ItAt t h i l 0 := by
  cases t <;> exact ⟨_, e, rfl, rfl⟩
section
variable {prog : Program} {w : World} {A : Around} {E : Value → Shared → Prop} {s : Shared}
theorem nextIn_item {t : Bool} {i l : Addr} {k : Nat} {xs : Array Value} {x : Value} {Q : Value → Shared → Prop} (h1 : ItAt t s.heap i l k) (h2 : SeqIs t s.heap l xs) (hx : xs[k]? = some x)
    (q : ∀ h', ItAt t h' i l (k + 1) → Heap.SameBut i s.heap h' → Q x { s with heap := h' }) : wpAny (model prog w) A (Builtin.SmallTypes.nextOf (.ref i)) Q E s := by
  cases t
  · exact wpAny_nextOf_list_item h1 h2 hx q
  · exact RZ.nextOf_tuple_item h1 h2 hx q
theorem nextIn_end {t : Bool} {i l : Addr} {k : Nat} {xs : Array Value} {Q : Value → Shared → Prop} (hh : A.handled = none) (h1 : ItAt t s.heap i l k) (h2 : SeqIs t s.heap l xs) (hx : xs[k]? = none)
    (q : ∀ h' e, Heap.ExtBut i s.heap h' → (∃ o, h'.get? e = some o ∧ o.cls = .type "StopIteration") → E (.ref e) { s with heap := h' }) : wpAny (model prog w) A (Builtin.SmallTypes.nextOf (.ref i)) Q E s := by
  cases t
  · exact wpAny_nextOf_list_end hh h1 h2 hx q
  · exact RZ.nextOf_tuple_end hh h1 h2 hx q
/-- the zip at z: f0 tells which tuple it gave out -/
abbrev ZipSt (h : Heap) (z TI TO : Addr) (f0 : Value) (f : Bool) : Prop :=
  h.get? z = some { cls := .type "zip", dict := none, data := .fields #[f0, .bool f, .bool false, .ref TI, .ref TO], slots := #[] }
def Gave (f0 : Value) : Prop := f0 = .none ∨ ∃ T : Addr, f0 = rawInt T
theorem gave_free {z TI TO : Addr} {f0 : Value} {f : Bool} {Q : Bool → Shared → Prop} (hz : ZipSt s.heap z TI TO f0 f) (g : Gave f0) (q1 : Q true s)
    (q2 : ∀ h', ZipSt h' z TI TO f0 true → Heap.SameBut z s.heap h' → Q false { s with heap := h' }) : wpAny (model prog w) A (Builtin.SmallTypes.ownedTupleIsFree (.ref z)) Q E s := by
  unfold Builtin.SmallTypes.ownedTupleIsFree
  rcases g with rfl | ⟨T, rfl⟩
  · exact wpAny_bind (wpAny_field hz rfl (x := .none) rfl (wpAny_pure q1))
  refine wpAny_bind (wpAny_field hz rfl (x := rawInt T) rfl ?_)
  show wpAny _ _ (loadIfAlive ((T : Int).toNat) >>= _) _ _ _
  rw [Int.toNat_natCast]
  have k : ∀ {Q' : Option Obj → Shared → Prop}, Q' (s.heap.get? T) s → wpAny (model prog w) A (loadIfAlive T) Q' E s := fun h => fun _ _ _ => h
  refine wpAny_bind (k ?_)
  cases s.heap.get? T with
  | none =>
    simp only [Option.isNone_none, if_true]
    exact wpAny_pure q1
  | some oT =>
    simp only [Option.isNone_some, Bool.false_eq_true, if_false]
    refine wpAny_bind (wpAny_field hz rfl (x := .bool f) rfl ?_)
    cases f with
    | true =>
      rw [if_neg (show ¬ ((Value.bool true != Value.bool true) = true) from Bool.false_ne_true)]
      exact wpAny_pure (q2 s.heap hz (Heap.SameBut.refl _ _))
    | false =>
      rw [if_pos (show (Value.bool false != Value.bool true) = true from rfl)]
      exact wpAny_bind (wpAny_setField_rec hz (by simp) fun h₁ z1 s1 => wpAny_pure (q2 h₁ z1 s1))
/-- a zip that has an item left -/
theorem zipG_item {t1 t2 : Bool} {z TI TO i1 i2 l1 l2 : Addr} {f0 : Value} {f : Bool} {k1 k2 : Nat} {xs ys : Array Value} {x y a b : Value} {Q : Option Value → Shared → Prop} (D : ZipApart z TI TO i1 i2 l1 l2)
    (hz : ZipSt s.heap z TI TO f0 f) (g : Gave f0) (hTI : IsPair s.heap TI (.ref i1) (.ref i2)) (hTO : IsPair s.heap TO a b)
    (h1 : ItAt t1 s.heap i1 l1 k1) (h2 : ItAt t2 s.heap i2 l2 k2) (hl1 : SeqIs t1 s.heap l1 xs) (hl2 : SeqIs t2 s.heap l2 ys) (hx : xs[k1]? = some x) (hy : ys[k2]? = some y)
    (hQ : ∀ h' f0' f', ZipSt h' z TI TO f0' f' → Gave f0' → (∃ a b, IsPair h' TO a b) → ItAt t1 h' i1 l1 (k1 + 1) → ItAt t2 h' i2 l2 (k2 + 1) → IsPair h' s.heap.objs.size x y → h'.objs.size = s.heap.objs.size + 1 →
      (∀ c o, c ≠ z → c ≠ TO → c ≠ i1 → c ≠ i2 → s.heap.get? c = some o → h'.get? c = some o) → Q (some (.ref s.heap.objs.size)) { s with heap := h' }) :
    wpAny (model prog w) A (pyNext (.ref z)) Q E s := by
  have hT : s.TypeIs (.ref z) "zip" := ⟨_, hz, rfl⟩
  unfold pyNext
  refine wpAny_bind (wpAny_attempt (wpAny_callSpecial?_slot (name := Str.ofString "__next__") hT F.slot_zip_next (wpAny_call_entry F.slot_zip_next hT F.entry_zip_next ?_ (F.args_zip_next_1 _))))
  show wpAny _ _ (field (.ref z) 2 >>= _) _ _ _
  refine wpAny_bind (wpAny_field hz rfl (x := .bool false) rfl ?_)
  show wpAny _ _ (field (.ref z) 3 >>= _) _ _ _
  refine wpAny_bind (wpAny_field hz rfl (x := .ref TI) rfl ?_)
  refine wpAny_bind (wpAny_seqItems hTI rfl ?_)
  refine wpAny_bind (gave_free (z := z) hz g ?free fun u1 z1 s1 => ?held)
  case free =>
    simp only [if_true]
    refine wpAny_bind (wpAny_rule ?_)
    refine wpAny_bind (wpAny_field hz rfl (x := .ref TO) rfl ?_)
    refine wpAny_bind (wpAny_setField_rec hz (by simp) fun u1 z1 s1 => ?_)
    replace z1 : ZipSt u1 z TI TO .ellipsis f := z1
    refine wpAny_bind ?_
    simp only [List.zipIdx_cons, List.zipIdx_nil, List.forIn_cons, List.forIn_nil]
    refine wpAny_bind (wpAny_bind (wpAny_onRaise ?_))
    show wpAny _ _ (Builtin.SmallTypes.nextOf (.ref i1) >>= _) _ _ _
    refine wpAny_bind (nextIn_item (h1.on fun o e => s1.extBut _ _ D.i1z e) (hl1.on s1.extBut D.l1z) hx fun u2 a2 s2 => wpAny_pure ?_)
    have p2 : IsPair u2 TO a b := s2.extBut _ _ D.TOi1 (s1.extBut _ _ D.TOz hTO)
    refine wpAny_bind (wpAny_seqItems p2 rfl ?_)
    refine wpAny_bind (wpAny_updateSeq_pair p2 fun u3 p3 s3 => ?_)
    replace p3 : IsPair u3 TO x b := p3
    refine wpAny_bind (wpAny_letGo (wpAny_pure ?_))
    refine wpAny_bind (wpAny_bind (wpAny_onRaise ?_))
    show wpAny _ _ (Builtin.SmallTypes.nextOf (.ref i2) >>= _) _ _ _
    refine wpAny_bind (nextIn_item (h2.on fun o e => s3.extBut _ _ D.TOi2.symm (s2.extBut _ _ D.i12.symm (s1.extBut _ _ D.i2z e)))
      (((hl2.on s1.extBut D.l2z).on s2.extBut D.l2i1).on s3.extBut D.l2TO) hy fun u4 a4 s4 => wpAny_pure ?_)
    have p4 : IsPair u4 TO x b := s4.extBut _ _ D.TOi2 p3
    refine wpAny_bind (wpAny_seqItems p4 rfl ?_)
    refine wpAny_bind (wpAny_updateSeq_pair p4 fun u5 p5 s5 => ?_)
    replace p5 : IsPair u5 TO x y := p5
    refine wpAny_bind (wpAny_letGo (wpAny_pure (wpAny_pure ?_)))
    refine wpAny_bind (wpAny_seqItems p5 rfl ?_)
    refine wpAny_bind (wpAny_newTuple ?_)
    have sz : u5.objs.size = s.heap.objs.size := by rw [s5.1, s4.1, s3.1, s2.1, s1.1]
    have z5 : ZipSt u5 z TI TO .ellipsis f := s5.extBut _ _ D.TOz.symm (s4.extBut _ _ D.i2z.symm (s3.extBut _ _ D.TOz.symm (s2.extBut _ _ D.i1z.symm z1)))
    have k5 : ∀ c o, c ≠ z → c ≠ TO → c ≠ i1 → c ≠ i2 → s.heap.get? c = some o → u5.get? c = some o := fun c o c1 c2 c3 c4 e =>
      s5.extBut _ _ c2 (s4.extBut _ _ c4 (s3.extBut _ _ c2 (s2.extBut _ _ c3 (s1.extBut _ _ c1 e))))
    have b1 : ItAt t1 u5 i1 l1 (k1 + 1) := a2.on fun o e => s5.extBut _ _ D.TOi1.symm (s4.extBut _ _ D.i12 (s3.extBut _ _ D.TOi1.symm e))
    have b2 : ItAt t2 u5 i2 l2 (k2 + 1) := a4.on fun o e => s5.extBut _ _ D.TOi2.symm e
    have zl : z < u5.objs.size := Heap.lt_size z5
    show wpAny _ _ (Builtin.SmallTypes.ownedTupleHandOut (.ref z) (.ref u5.objs.size) >>= _) _ _ _
    refine wpAny_bind ?_
    unfold Builtin.SmallTypes.ownedTupleHandOut
    have z6 : ZipSt (u5.push { cls := .type "tuple", data := .seq #[x, y] }) z TI TO .ellipsis f := Heap.get?_push_of_some _ z5
    refine wpAny_bind (wpAny_setField_rec z6 (by simp) fun u7 z7 s7 => ?_)
    replace z7 : ZipSt u7 z TI TO (rawInt u5.objs.size) f := z7
    refine wpAny_setField_rec z7 (by simp) fun u8 z8 s8 => ?_
    replace z8 : ZipSt u8 z TI TO (rawInt u5.objs.size) false := z8
    have up : ∀ c o, c ≠ z → u5.get? c = some o → u8.get? c = some o := fun c o c1 e => s8.extBut _ _ c1 (s7.extBut _ _ c1 (Heap.get?_push_of_some _ e))
    have t8 : IsPair u8 u5.objs.size x y := s8.extBut _ _ (Nat.ne_of_gt zl) (s7.extBut _ _ (Nat.ne_of_gt zl) (Heap.get?_push_size _ rfl))
    have n8 : u8.objs.size = u5.objs.size + 1 := by rw [s8.1, s7.1, Heap.size_push]
    rw [sz] at z8 t8 n8
    refine wpAny_pure ⟨_, rfl, wpAny_pure ?_⟩
    show Q (some (.ref u5.objs.size)) _
    rw [sz]
    exact hQ u8 _ _ z8 (.inr ⟨_, rfl⟩) ⟨_, _, up _ _ D.TOz p5⟩ (b1.on fun o e => up _ o D.i1z e) (b2.on fun o e => up _ o D.i2z e) t8 n8 fun c o c1 c2 c3 c4 e => up c o c1 (k5 c o c1 c2 c3 c4 e)
  case held =>
    simp only [Bool.false_eq_true, if_false]
    refine wpAny_bind ?_
    rw [← Array.forIn_toList]
    simp only [List.forIn_cons, List.forIn_nil]
    refine wpAny_bind (wpAny_bind (wpAny_holding ?_))
    show wpAny _ _ (Builtin.SmallTypes.nextOf (.ref i1) >>= _) _ _ _
    refine wpAny_bind (nextIn_item (s := { s with heap := u1 }) (h1.on fun o e => s1.extBut _ _ D.i1z e) (hl1.on s1.extBut D.l1z) hx fun u2 a2 s2 => wpAny_pure ?_)
    refine wpAny_pure ?_
    refine wpAny_bind (wpAny_bind (wpAny_holding ?_))
    show wpAny _ _ (Builtin.SmallTypes.nextOf (.ref i2) >>= _) _ _ _
    refine wpAny_bind (nextIn_item (s := { s with heap := u2 }) (h2.on fun o e => s2.extBut _ _ D.i12.symm (s1.extBut _ _ D.i2z e)) ((hl2.on s1.extBut D.l2z).on s2.extBut D.l2i1) hy fun u3 a3 s3 => wpAny_pure ?_)
    refine wpAny_pure (wpAny_pure ?_)
    show wpAny _ _ (newTuple [x, y] >>= _) _ _ _
    refine wpAny_bind (wpAny_newTuple ?_)
    have sz : u3.objs.size = s.heap.objs.size := by rw [s3.1, s2.1, s1.1]
    have z3 : ZipSt u3 z TI TO f0 true := s3.extBut _ _ D.i2z.symm (s2.extBut _ _ D.i1z.symm z1)
    have k3 : ∀ c o, c ≠ z → c ≠ TO → c ≠ i1 → c ≠ i2 → s.heap.get? c = some o → u3.get? c = some o := fun c o c1 _ c2 c3 e => s3.extBut _ _ c3 (s2.extBut _ _ c2 (s1.extBut _ _ c1 e))
    have b1 : ItAt t1 u3 i1 l1 (k1 + 1) := a2.on fun o e => s3.extBut _ _ D.i12 e
    refine wpAny_pure ⟨_, rfl, wpAny_pure ?_⟩
    show Q (some (.ref u3.objs.size)) _
    have hp : IsPair (u3.push { cls := .type "tuple", data := .seq #[x, y] }) u3.objs.size x y := Heap.get?_push_size _ rfl
    have n4 : (u3.push { cls := .type "tuple", data := .seq #[x, y] }).objs.size = u3.objs.size + 1 := Heap.size_push ..
    have pTO : IsPair u3 TO a b := s3.extBut _ _ D.TOi2 (s2.extBut _ _ D.TOi1 (s1.extBut _ _ D.TOz hTO))
    rw [sz] at hp n4 ⊢
    exact hQ _ _ _ (Heap.get?_push_of_some _ z3) g ⟨a, b, Heap.get?_push_of_some _ pTO⟩ (b1.on fun o e => Heap.get?_push_of_some _ e) (a3.on fun o e => Heap.get?_push_of_some _ e) hp n4 fun c o c1 c2 c3 c4 e => Heap.get?_push_of_some _ (k3 c o c1 c2 c3 c4 e)
/-- a zip that is through -/
theorem zipG_end {t1 t2 : Bool} {z TI TO i1 i2 l1 l2 : Addr} {f0 : Value} {f : Bool} {k1 k2 : Nat} {xs ys : Array Value} {a b : Value} {Q : Option Value → Shared → Prop} (hh : A.handled = none) (D : ZipApart z TI TO i1 i2 l1 l2)
    (hz : ZipSt s.heap z TI TO f0 f) (g : Gave f0) (hTI : IsPair s.heap TI (.ref i1) (.ref i2)) (hTO : IsPair s.heap TO a b)
    (h1 : ItAt t1 s.heap i1 l1 k1) (h2 : ItAt t2 s.heap i2 l2 k2) (hl1 : SeqIs t1 s.heap l1 xs) (hl2 : SeqIs t2 s.heap l2 ys) (hend : xs[k1]? = none ∨ ys[k2]? = none)
    (hQ : ∀ h', (∀ c o, c ≠ z → c ≠ TO → c ≠ i1 → c ≠ i2 → s.heap.get? c = some o → h'.get? c = some o) → Q none { s with heap := h' }) :
    wpAny (model prog w) A (pyNext (.ref z)) Q E s := by
  have hT : s.TypeIs (.ref z) "zip" := ⟨_, hz, rfl⟩
  have fin : ∀ (h' : Heap) (e : Addr), (∀ c o, c ≠ z → c ≠ TO → c ≠ i1 → c ≠ i2 → s.heap.get? c = some o → h'.get? c = some o) → (∃ o, h'.get? e = some o ∧ o.cls = .type "StopIteration") →
      wpAny (model prog w) A (isInstance (.ref e) (.type "StopIteration")) (fun v s' => v = true ∧ s' = { s with heap := h' }) E { s with heap := h' } := fun h' e _ he => by
    obtain ⟨o, ho, hc⟩ := he
    exact wpAny_isInstance (T := "StopIteration") (b := true) ⟨o, ho, hc⟩ isSubtype_stop ⟨rfl, rfl⟩
  unfold pyNext
  refine wpAny_bind (wpAny_attempt (wpAny_callSpecial?_slot (name := Str.ofString "__next__") hT F.slot_zip_next (wpAny_call_entry F.slot_zip_next hT F.entry_zip_next ?_ (F.args_zip_next_1 _))))
  show wpAny _ _ (field (.ref z) 2 >>= _) _ _ _
  refine wpAny_bind (wpAny_field hz rfl (x := .bool false) rfl ?_)
  show wpAny _ _ (field (.ref z) 3 >>= _) _ _ _
  refine wpAny_bind (wpAny_field hz rfl (x := .ref TI) rfl ?_)
  refine wpAny_bind (wpAny_seqItems hTI rfl ?_)
  refine wpAny_bind (gave_free (z := z) hz g ?free fun u1 z1 s1 => ?held)
  case free =>
    simp only [if_true]
    refine wpAny_bind (wpAny_rule ?_)
    refine wpAny_bind (wpAny_field hz rfl (x := .ref TO) rfl ?_)
    refine wpAny_bind (wpAny_setField_rec hz (by simp) fun u1 z1 s1 => ?_)
    replace z1 : ZipSt u1 z TI TO .ellipsis f := z1
    refine wpAny_bind ?_
    simp only [List.zipIdx_cons, List.zipIdx_nil, List.forIn_cons, List.forIn_nil]
    refine wpAny_bind (wpAny_bind (wpAny_onRaise ?_))
    show wpAny _ _ (Builtin.SmallTypes.nextOf (.ref i1) >>= _) _ _ _
    cases hx : xs[k1]? with
    | none =>
      refine wpAny_bind (nextIn_end hh (h1.on fun o e => s1.extBut _ _ D.i1z e) (hl1.on s1.extBut D.l1z) hx fun u2 e s2 he => ?_)
      obtain ⟨oe, hoe, hce⟩ := he
      have z2 : ZipSt u2 z TI TO .ellipsis f := s2 _ _ D.i1z.symm z1
      have hez : e ≠ z := fun x => by subst x; rw [z2] at hoe; cases hoe; simp at hce
      refine wpAny_setField_rec z2 (by simp) fun u3 _ s3 => ?_
      refine wpAny_bind (wpAny_isInstance (T := "StopIteration") (b := true) ⟨oe, s3.extBut _ _ hez hoe, hce⟩ isSubtype_stop ?_)
      exact wpAny_pure (hQ u3 fun c o c1 _ c3 _ x => s3.extBut _ _ c1 (s2 _ _ c3 (s1.extBut _ _ c1 x)))
    | some x =>
      have hy : ys[k2]? = none := by rcases hend with h | h; rw [hx] at h; cases h; exact h
      refine wpAny_bind (nextIn_item (h1.on fun o e => s1.extBut _ _ D.i1z e) (hl1.on s1.extBut D.l1z) hx fun u2 a2 s2 => wpAny_pure ?_)
      have p2 : IsPair u2 TO a b := s2.extBut _ _ D.TOi1 (s1.extBut _ _ D.TOz hTO)
      refine wpAny_bind (wpAny_seqItems p2 rfl ?_)
      refine wpAny_bind (wpAny_updateSeq_pair p2 fun u3 p3 s3 => ?_)
      refine wpAny_bind (wpAny_letGo (wpAny_pure ?_))
      refine wpAny_bind (wpAny_bind (wpAny_onRaise ?_))
      show wpAny _ _ (Builtin.SmallTypes.nextOf (.ref i2) >>= _) _ _ _
      refine wpAny_bind (nextIn_end hh (h2.on fun o e => s3.extBut _ _ D.TOi2.symm (s2.extBut _ _ D.i12.symm (s1.extBut _ _ D.i2z e)))
        (((hl2.on s1.extBut D.l2z).on s2.extBut D.l2i1).on s3.extBut D.l2TO) hy fun u4 e s4 he => ?_)
      obtain ⟨oe, hoe, hce⟩ := he
      have z4 : ZipSt u4 z TI TO .ellipsis f := s4 _ _ D.i2z.symm (s3.extBut _ _ D.TOz.symm (s2.extBut _ _ D.i1z.symm z1))
      have hez : e ≠ z := fun x => by subst x; rw [z4] at hoe; cases hoe; simp at hce
      refine wpAny_setField_rec z4 (by simp) fun u5 _ s5 => ?_
      refine wpAny_bind (wpAny_isInstance (T := "StopIteration") (b := true) ⟨oe, s5.extBut _ _ hez hoe, hce⟩ isSubtype_stop ?_)
      exact wpAny_pure (hQ u5 fun c o c1 c2 c3 c4 x => s5.extBut _ _ c1 (s4 _ _ c4 (s3.extBut _ _ c2 (s2.extBut _ _ c3 (s1.extBut _ _ c1 x)))))
  case held =>
    simp only [Bool.false_eq_true, if_false]
    refine wpAny_bind ?_
    rw [← Array.forIn_toList]
    simp only [List.forIn_cons, List.forIn_nil]
    refine wpAny_bind (wpAny_bind (wpAny_holding ?_))
    show wpAny _ _ (Builtin.SmallTypes.nextOf (.ref i1) >>= _) _ _ _
    cases hx : xs[k1]? with
    | none =>
      refine wpAny_bind (nextIn_end (s := { s with heap := u1 }) hh (h1.on fun o e => s1.extBut _ _ D.i1z e) (hl1.on s1.extBut D.l1z) hx fun u2 e s2 he => ?_)
      obtain ⟨oe, hoe, hce⟩ := he
      refine wpAny_bind (wpAny_isInstance (T := "StopIteration") (b := true) ⟨oe, hoe, hce⟩ isSubtype_stop ?_)
      exact wpAny_pure (hQ u2 fun c o c1 _ c3 _ x => s2 _ _ c3 (s1.extBut _ _ c1 x))
    | some x =>
      have hy : ys[k2]? = none := by rcases hend with h | h; rw [hx] at h; cases h; exact h
      refine wpAny_bind (nextIn_item (s := { s with heap := u1 }) (h1.on fun o e => s1.extBut _ _ D.i1z e) (hl1.on s1.extBut D.l1z) hx fun u2 a2 s2 => wpAny_pure ?_)
      refine wpAny_pure ?_
      refine wpAny_bind (wpAny_bind (wpAny_holding ?_))
      show wpAny _ _ (Builtin.SmallTypes.nextOf (.ref i2) >>= _) _ _ _
      refine wpAny_bind (nextIn_end (s := { s with heap := u2 }) hh (h2.on fun o e => s2.extBut _ _ D.i12.symm (s1.extBut _ _ D.i2z e)) ((hl2.on s1.extBut D.l2z).on s2.extBut D.l2i1) hy fun u3 e s3 he => ?_)
      obtain ⟨oe, hoe, hce⟩ := he
      refine wpAny_bind (wpAny_isInstance (T := "StopIteration") (b := true) ⟨oe, hoe, hce⟩ isSubtype_stop ?_)
      exact wpAny_pure (hQ u3 fun c o c1 _ c3 c4 x => s3 _ _ c4 (s2.extBut _ _ c3 (s1.extBut _ _ c1 x)))
/-- what is done with the tuple that it gave out ahead of a target -/
theorem goG {tg : Expr} {z TI TO T : Addr} {f0 : Value} {f : Bool} {Q : Unit → Shared → Prop} (hz : ZipSt s.heap z TI TO f0 f) (g : Gave f0)
    (hQ : ∀ h' f0', ZipSt h' z TI TO f0' f → Gave f0' → Heap.SameBut z s.heap h' → Q () { s with heap := h' }) : wpAny (model prog w) A (letOwnedTupleGo tg (.ref z) (.ref T)) Q E s := by
  have q0 : Q () s := hQ s.heap f0 hz g (Heap.SameBut.refl _ _)
  unfold letOwnedTupleGo
  cases tg <;> first
    | exact wpAny_pure q0
    | (refine wpAny_bind (wpAny_load hz ?_)
       show wpAny _ _ (if (["enumerate", "zip", "dict_itemiterator", "dict_reverseitemiterator", "odict_iterator", "itertools.zip_longest", "itertools.pairwise"].contains "zip" && (#[f0, .bool f, .bool false, .ref TI, .ref TO] : Array Value)[0]? == some (rawInt T)) = true then _ else _) Q E s
       split
       · refine wpAny_bind (wpAny_rule ?_)
         show wpAny _ _ (setField (.ref z) 0 .none) Q E s
         exact wpAny_setField_rec hz (by simp) fun h' z' s' => hQ h' .none z' (.inl rfl) s'
       · exact wpAny_pure q0)
abbrev zG1 (t : Bool) (h : Heap) (l1 : Addr) : Heap := h.push (itObj t l1)
abbrev zG2 (t1 t2 : Bool) (h : Heap) (l1 l2 : Addr) : Heap := (zG1 t1 h l1).push (itObj t2 l2)
abbrev zG3 (t1 t2 : Bool) (h : Heap) (l1 l2 : Addr) : Heap := (zG2 t1 t2 h l1 l2).push { cls := .type "tuple", data := .seq #[.ref h.objs.size, .ref (zG1 t1 h l1).objs.size] }
abbrev zG4 (t1 t2 : Bool) (h : Heap) (l1 l2 : Addr) : Heap := (zG3 t1 t2 h l1 l2).push { cls := .type "tuple", data := .seq #[.none, .none] }
abbrev zG5 (t1 t2 : Bool) (h : Heap) (l1 l2 : Addr) : Heap := (zG4 t1 t2 h l1 l2).push { cls := .type "zip", data := .fields #[.none, .bool false, .bool false, .ref (zG2 t1 t2 h l1 l2).objs.size, .ref (zG3 t1 t2 h l1 l2).objs.size] }
theorem iterG {t : Bool} {l : Addr} {xs : Array Value} {Q : Value → Shared → Prop} (hl : SeqIs t s.heap l xs) (q : Q (.ref s.heap.objs.size) { s with heap := s.heap.push (itObj t l) }) : wpAny (model prog w) A (pyIter (.ref l)) Q E s := by
  cases t
  · exact wpAny_pyIter_list hl q
  · exact wpAny_pyIter_tuple hl q
end
theorem meets_zipG (t1 t2 : Bool) (l1 l2 : Addr) (xs ys : Array Value) :
    Meets (Builtin.«zip.__new__» ⟨[.type "zip", .ref l1, .ref l2], []⟩) (fun _ R s => SeqIs t1 s.heap l1 xs ∧ SeqIs t2 s.heap l2 ys ∧
      R (.ok (.ret (.ref (zG4 t1 t2 s.heap l1 l2).objs.size))) { s with heap := zG5 t1 t2 s.heap l1 l2 }) :=
  .of_wp fun prog w A R s h => by
    obtain ⟨hp, g, d, tk, os⟩ := s
    obtain ⟨hl1, hl2, h⟩ := h
    have hsub := sub_zip
    have q1 : SeqIs t1 (Shared.heap ⟨hp, g, d, tk, os⟩) l1 xs := hl1
    have q2 : SeqIs t2 (Shared.heap ⟨hp.push (itObj t1 l1), g, d, tk, os⟩) l2 ys := SeqIs.push hl2 _
    wp_walk using iterG q1, iterG q2
    exact ⟨_, rfl, h⟩
theorem call_zipG {prog : Program} {w : World} {A : Around} {E : Value → Shared → Prop} {s : Shared} {t1 t2 : Bool} {l1 l2 : Addr} {xs ys : Array Value} {Q : Value → Shared → Prop} (hl1 : SeqIs t1 s.heap l1 xs) (hl2 : SeqIs t2 s.heap l2 ys)
    (h : ∀ h', ZipSt h' (s.heap.objs.size + 4) (s.heap.objs.size + 2) (s.heap.objs.size + 3) .none false → IsPair h' (s.heap.objs.size + 2) (.ref s.heap.objs.size) (.ref (s.heap.objs.size + 1)) →
      IsPair h' (s.heap.objs.size + 3) .none .none → ItAt t1 h' s.heap.objs.size l1 0 → ItAt t2 h' (s.heap.objs.size + 1) l2 0 →
      (∀ c o, s.heap.get? c = some o → h'.get? c = some o) → Q (.ref (s.heap.objs.size + 4)) { s with heap := h' }) :
    wpAny (model prog w) A (call (.type "zip") [.ref l1, .ref l2]) Q E s := by
  refine callType_new F.called_zip (by decide) (F.typeCall_zip_2 _ _) (F.newCall_zip_2 _ _) (fun obj => F.args_object_init_3 obj _ _) F.entry_zip_new (meets_zipG t1 t2 l1 l2 xs ys) ⟨hl1, hl2, ?_⟩
  have z1 : (zG1 t1 s.heap l1).objs.size = s.heap.objs.size + 1 := Heap.size_push ..
  have z2 : (zG2 t1 t2 s.heap l1 l2).objs.size = s.heap.objs.size + 2 := by rw [Heap.size_push, z1]
  have z3 : (zG3 t1 t2 s.heap l1 l2).objs.size = s.heap.objs.size + 3 := by rw [Heap.size_push, z2]
  have z4 : (zG4 t1 t2 s.heap l1 l2).objs.size = s.heap.objs.size + 4 := by rw [Heap.size_push, z3]
  have g5 : (zG5 t1 t2 s.heap l1 l2).get? (zG4 t1 t2 s.heap l1 l2).objs.size = some _ := Heap.get?_push_size _ rfl
  have g4 : (zG5 t1 t2 s.heap l1 l2).get? (zG3 t1 t2 s.heap l1 l2).objs.size = some _ := Heap.get?_push_of_some _ (Heap.get?_push_size _ rfl)
  have g3 : (zG5 t1 t2 s.heap l1 l2).get? (zG2 t1 t2 s.heap l1 l2).objs.size = some _ := Heap.get?_push_of_some _ (Heap.get?_push_of_some _ (Heap.get?_push_size _ rfl))
  have g2 : (zG5 t1 t2 s.heap l1 l2).get? (zG1 t1 s.heap l1).objs.size = some (itObj t2 l2) := Heap.get?_push_of_some _ (Heap.get?_push_of_some _ (Heap.get?_push_of_some _ (Heap.get?_push_size _ (by cases t2 <;> rfl))))
  have g1 : (zG5 t1 t2 s.heap l1 l2).get? s.heap.objs.size = some (itObj t1 l1) := Heap.get?_push_of_some _ (Heap.get?_push_of_some _ (Heap.get?_push_of_some _ (Heap.get?_push_of_some _ (Heap.get?_push_size _ (by cases t1 <;> rfl)))))
  show _ ∧ _
  rw [z2, z3, z4] at g5
  rw [z1, z2] at g3
  rw [z3] at g4
  rw [z1] at g2
  rw [z4]
  exact ⟨⟨_, g5, rfl⟩, h _ g5 g3 g4 (itAt_new t1 g1) (itAt_new t2 g2) fun c o x =>
    Heap.get?_push_of_some _ (Heap.get?_push_of_some _ (Heap.get?_push_of_some _ (Heap.get?_push_of_some _ (Heap.get?_push_of_some _ x))))⟩
theorem Sq.at {X : Cx} {pins : List (Addr × Obj)} {σ : L2.St} {H : Hp} {s : Shared} {t : Bool} {a : Addr} {xs : List V} (I : Inv X pins σ H s) (h : Sq t X.K H a xs) : ∃ its : List Value, Vals xs its ∧ SeqIs t s.heap a its.toArray := by
  cases t
  · obtain ⟨its, r, p, _⟩ := I.list h
    exact ⟨its, r, p.isList⟩
  · obtain ⟨its, r, p, _⟩ := I.tuple h
    exact ⟨its, r, p⟩
theorem Sq.inj {X : Cx} {pins : List (Addr × Obj)} {σ : L2.St} {H : Hp} {s : Shared} {t : Bool} {a : Addr} {xs ys : List V} (I : Inv X pins σ H s) (h : Sq t X.K H a xs) (h' : Sq t X.K H a ys) : xs = ys := by
  cases t
  · exact I.list_inj h h'
  · exact I.tuple_inj h h'
/-- the rows at a and b as they stand at each turn, the items in new pairs -/
def ItzG (K : PySem.W.Frag) (t1 t2 : Bool) (a b : Addr) : It :=
  ⟨fun i H => ∃ (xs ys : List V) (x y : V), Sq t1 K H a xs ∧ Sq t2 K H b ys ∧ xs[i]? = some x ∧ ys[i]? = some y,
    fun i H v H' => ∃ T x y, v = .ref T ∧ H T = none ∧ H' = upd H T (.tup [x, y]) ∧ (∀ xs, Sq t1 K H a xs → xs[i]? = some x) ∧ ∀ ys, Sq t2 K H b ys → ys[i]? = some y,
    fun i H => ∃ xs ys : List V, Sq t1 K H a xs ∧ Sq t2 K H b ys ∧ (xs.length ≤ i ∨ ys.length ≤ i)⟩
theorem turn_zipG {P : Program} {w : World} {K : PySem.W.Frag} {tg : Expr} {t1 t2 : Bool} {a b z TI TO i1 i2 : Addr} (D : ZipApart z TI TO i1 i2 a b) :
    Turn P w K tg (ItzG K t1 t2 a b) [z, TI, TO, i1, i2] z (fun i h => (∃ f0 f, ZipSt h z TI TO f0 f ∧ Gave f0) ∧ IsPair h TI (.ref i1) (.ref i2) ∧ (∃ x y, IsPair h TO x y) ∧ ItAt t1 h i1 a i ∧ ItAt t2 h i2 b i) where
  mem := by simp
  obj := fun i h st c hc => by
    obtain ⟨⟨f0, f, hz, _⟩, hTI, ⟨x, y, hTO⟩, h1, h2⟩ := st
    obtain ⟨o1, fs1, e1, d1⟩ := h1.get
    obtain ⟨o2, fs2, e2, d2⟩ := h2.get
    have e' : c = z ∨ c = TI ∨ c = TO ∨ c = i1 ∨ c = i2 := by simpa using hc
    rcases e' with q | q | q | q | q
    · rw [q]; exact ⟨_, hz, fun v q => nomatch q⟩
    · rw [q]; exact ⟨_, hTI, fun v q => nomatch q⟩
    · rw [q]; exact ⟨_, hTO, fun v q => nomatch q⟩
    · rw [q]; exact ⟨o1, e1, fun v q => by rw [d1] at q; cases q⟩
    · rw [q]; exact ⟨o2, e2, fun v q => by rw [d2] at q; cases q⟩
  keep := fun i h h' st k => by
    obtain ⟨⟨f0, f, hz, g⟩, hTI, ⟨x, y, hTO⟩, h1, h2⟩ := st
    exact ⟨⟨f0, f, k z (by simp) _ hz, g⟩, k TI (by simp) _ hTI, ⟨x, y, k TO (by simp) _ hTO⟩, h1.on fun o q => k i1 (by simp) o q, h2.on fun o q => k i2 (by simp) o q⟩
  item := by
    intro X hP hw hK hc i pins s σ H E I hf st hg
    subst hP hw hK
    obtain ⟨⟨f0, f, hz, g⟩, hTI, ⟨x0, y0, hTO⟩, h1, h2⟩ := st
    obtain ⟨xs, ys, x, y, hqx, hqy, hx, hy⟩ := hg
    obtain ⟨its, rv, p⟩ := hqx.at I
    obtain ⟨its2, rv2, p2⟩ := hqy.at I
    obtain ⟨u, hu, ru⟩ := rv.get hx
    obtain ⟨u2, hu2, ru2⟩ := rv2.get hy
    have hzl : z < s.heap.objs.size := Heap.lt_size hz
    refine zipG_item D hz g hTI hTO h1 h2 p p2 (x := u) (y := u2) (by simpa using hu) (by simpa using hu2) fun h' f0' f' z' g' TO' h1' h2' hT hsz hk => ?_
    refine ⟨_, rfl, goG (s := { s with heap := h' }) z' g' fun h'' f0'' z'' g'' sb => ?_⟩
    have hT2 : h''.get? s.heap.objs.size = some { cls := .type "tuple", data := .seq #[u, u2] } := (sb.2 _ (Nat.ne_of_gt hzl)).trans hT
    have new : ObjOk X.prog X.w (upd H s.heap.objs.size (.tup [x, y])) h'' s.heap.objs.size (.tup [x, y]) :=
      ⟨by show 2 ≤ sizeLine; decide, [u, u2], .cons ru (.cons ru2 .nil), ⟨_, hT2, rfl, _, rfl⟩⟩
    have I1 : Inv X pins σ (upd H s.heap.objs.size (.tup [x, y])) { s with heap := h'' } :=
      I.turnedNew (t' := s.toks) (ch := [z, TI, TO, i1, i2]) (fun c o hb q => (sb.2 c (fun q' => hb (by simp [q']))).trans (hk c o (fun q' => hb (by simp [q'])) (fun q' => hb (by simp [q'])) (fun q' => hb (by simp [q'])) (fun q' => hb (by simp [q'])) q)) hf (Nat.le_refl _) new
    have TI' : IsPair h' TI (.ref i1) (.ref i2) := hk _ _ D.TIz D.TITO D.TIi1 D.TIi2 hTI
    obtain ⟨x1, y1, TO'⟩ := TO'
    refine ⟨.ref s.heap.objs.size, _, I1, rfl, ⟨_, x, y, rfl, I.hok.fresh (Nat.le_refl _), rfl, fun l hl => by rw [hl.inj I hqx]; exact hx, fun l hl => by rw [hl.inj I hqy]; exact hy⟩, ⟨⟨_, _, z'', g''⟩, ?_, ⟨x1, y1, ?_⟩, ?_, ?_⟩, fun c hcm => ?_⟩
    · exact (sb.2 _ D.TIz).trans TI'
    · exact (sb.2 _ D.TOz).trans TO'
    · exact h1'.on fun o q => (sb.2 _ D.i1z).trans q
    · exact h2'.on fun o q => (sb.2 _ D.i2z).trans q
    · have hlt : c < s.heap.objs.size := by
        obtain ⟨o1, _, e1, _⟩ := h1.get
        obtain ⟨o2, _, e2, _⟩ := h2.get
        have e' : c = z ∨ c = TI ∨ c = TO ∨ c = i1 ∨ c = i2 := by simpa using hcm
        rcases e' with q | q | q | q | q
        · rw [q]; exact hzl
        · rw [q]; exact Heap.lt_size hTI
        · rw [q]; exact Heap.lt_size hTO
        · rw [q]; exact Heap.lt_size e1
        · rw [q]; exact Heap.lt_size e2
      rw [upd_ne (Nat.ne_of_lt hlt)]
      exact (hf c hcm).1
  done := by
    intro X hP hw hK hc i pins s σ H E I hf st hg
    subst hP hw hK
    obtain ⟨⟨f0, f, hz, g⟩, hTI, ⟨x0, y0, hTO⟩, h1, h2⟩ := st
    obtain ⟨xs, ys, hqx, hqy, hend⟩ := hg
    obtain ⟨its, rv, p⟩ := hqx.at I
    obtain ⟨its2, rv2, p2⟩ := hqy.at I
    have l1 := rv.length
    have l2 := rv2.length
    have he : its.toArray[i]? = none ∨ its2.toArray[i]? = none := by
      rcases hend with q | q
      · exact .inl (by simp; omega)
      · exact .inr (by simp; omega)
    exact zipG_end (I.ok.hd hc) D hz g hTI hTO h1 h2 p p2 he fun h' hk => ⟨rfl, I.turnedL (t' := s.toks) (ch := [z, TI, TO, i1, i2]) (fun c o hb q =>
      hk c o (fun q' => hb (by simp [q'])) (fun q' => hb (by simp [q'])) (fun q' => hb (by simp [q'])) (fun q' => hb (by simp [q'])) q) hf⟩
  self := fun A i s Q E st h => by
    obtain ⟨⟨f0, f, hz, g⟩, _⟩ := st
    have hT : s.TypeIs (.ref z) "zip" := ⟨_, hz, rfl⟩
    refine wpAny_pyIter_slot hT F.slot_zip_iter (wpAny_call_entry F.slot_zip_iter hT F.entry_zip_iter ?_ (F.args_zip_iter_1 _))
    show wpAny _ _ (ret (.ref z)) _ _ s
    exact wpAny_pure ⟨_, rfl, "zip", _, hT, F.slot_zip_next.lookup, h⟩
def iZipG (K : PySem.W.Frag) (ta : TA) : TI := fun σ H R => ta σ H fun vs H1 => ∃ (t1 t2 : Bool) (a b : Addr) (xs ys : List V), vs = [.ref a, .ref b] ∧ Sq t1 K H1 a xs ∧ Sq t2 K H1 b ys ∧ R (ItzG K t1 t2 a b) H1
theorem pi_zipG {X : Cx} {tg e e2 : Expr} {ta : TA} {p pos : Pos} (hg : Gl X "zip") (hm : X.mg "zip" = none) (ha : PA X [e, e2] ta)
    (hs : starEach [e, e2] X.env = (false, eval e X.env) :: starEach [e2] X.env := by rfl) (hpl : (backTo pos (starEach [e2] X.env)).any (·.1) = false := by rfl) :
    PI X tg (.Call (.Name "zip" p) [e, e2] [] pos) (iZipG X.K ta) := by
  refine ⟨fun pins s σ H R I h => ?_⟩
  refine Call_ (ld_blt I hg hm PyProof.Rows.boot_zip (PyProof.Rows.callWith_type1 (thn (ha.run pos pins s σ H _ I h) fun us s1 ⟨vs, H1, I1, r1, q1⟩ => ?_) hs hpl))
  obtain ⟨t1, t2, a, b, xs, ys, ex, hqx, hqy, q⟩ := q1
  subst ex
  cases r1 with
  | cons r rr =>
    cases rr with
    | cons r' rr =>
      cases rr
      cases r
      cases r'
      obtain ⟨its, rv, p1⟩ := hqx.at I1
      obtain ⟨its2, rv2, p2⟩ := hqy.at I1
      refine call_zipG p1 p2 fun h' hz hTI hTO h1 h2 hk => ?_
      have hT : Shared.TypeIs { s1 with heap := h' } (.ref (s1.heap.objs.size + 4)) "zip" := ⟨_, hz, rfl⟩
      refine wpAny_pyIter_slot hT F.slot_zip_iter (wpAny_call_entry F.slot_zip_iter hT F.entry_zip_iter ?_ (F.args_zip_iter_1 _))
      show wpAny _ _ (ret (.ref _)) _ _ _
      refine wpAny_pure ⟨_, rfl, "zip", _, hT, F.slot_zip_next.lookup, ?_⟩
      have I2 : Inv X pins σ H1 { s1 with heap := h' } := I1.kept (t' := s1.toks) hk
      refine ⟨s1.heap.objs.size + 4, [s1.heap.objs.size + 4, s1.heap.objs.size + 2, s1.heap.objs.size + 3, s1.heap.objs.size, s1.heap.objs.size + 1], _, _, H1, rfl, I2, turn_zipG (PySem.W.ktu_apart s1.heap.objs.size a b p1.lt p2.lt), ⟨⟨_, _, hz, .inl rfl⟩, hTI, ⟨_, _, hTO⟩, h1, h2⟩, fun c hcm => ?_, q⟩
      have e' : c = s1.heap.objs.size + 4 ∨ c = s1.heap.objs.size + 2 ∨ c = s1.heap.objs.size + 3 ∨ c = s1.heap.objs.size ∨ c = s1.heap.objs.size + 1 := by simpa using hcm
      have hle : s1.heap.objs.size ≤ c := by
        rcases e' with z | z | z | z | z <;> (rw [z]; omega)
      exact I1.fpOk hle (I1.hok.fresh hle)
theorem walk_zipG {K : PySem.W.Frag} {t1 t2 : Bool} {a b : Addr} {xs ys : List V} {n : Nat} (hn : n = min xs.length ys.length) : Walk (ItzG K t1 t2 a b) n (fun H => Sq t1 K H a xs ∧ Sq t2 K H b ys) (YPair (fun i => xs[i]?) (fun i => ys[i]?)) := by
  subst hn
  refine ⟨fun i _ hi q => ?_, fun _ q => ⟨xs, ys, q.1, q.2, by omega⟩, fun i H v H' _ q y => ?_⟩
  · have h1 : i < xs.length := by omega
    have h2 : i < ys.length := by omega
    exact ⟨xs, ys, xs[i], ys[i], q.1, q.2, by simp [h1], by simp [h2]⟩
  · obtain ⟨T, x, z, h1, h2, h3, h4, h5⟩ := y
    exact ⟨T, x, z, h1, h2, h3, h4 xs q.1, h5 ys q.2⟩
end ZG
namespace EnT
open PySem PySem.Spec PyProof.Rows L2
/-! ### enumerate over a tuple -/
theorem meets_enumT (l : Addr) (items : Array Value) :
    Meets (Builtin.«enumerate.__new__» ⟨[.type "enumerate", .ref l], []⟩) (fun _ R s => s.heap.IsTuple l items ∧
      R (.ok (.ret (.ref (s.heap.push { cls := .type "tuple_iterator", data := .fields #[.ref l, .int 0 0] }).objs.size)))
        { s with heap := (s.heap.push { cls := .type "tuple_iterator", data := .fields #[.ref l, .int 0 0] }).push { cls := .type "enumerate", data := .fields #[.none, .bool false, .ref s.heap.objs.size, rawInt 0, .none, .none] } }) :=
  .of_wp fun prog w A R s h => by
    obtain ⟨hp, g, d, tk, os⟩ := s; obtain ⟨hl, h⟩ := h
    have hsub := sub_enumerate
    have q1 : ∀ {A' : Around} {E : Value → Shared → Prop} {Q : Value → Shared → Prop}, Q (.ref hp.objs.size) ⟨hp.push { cls := .type "tuple_iterator", data := .fields #[.ref l, .int 0 0] }, g, d, tk, os⟩ → wpAny (model prog w) A' (pyIter (.ref l)) Q E ⟨hp, g, d, tk, os⟩ :=
      fun q => wpAny_pyIter_tuple (s := ⟨hp, g, d, tk, os⟩) hl q
    wp_walk using q1
    refine wpAny_stack_any fun st => wpAny_pure ?_
    split
    · rename_i c _ _ _ _ _
      cases (c == Value.type "enumerate")
      · wp_walk using q1
        exact ⟨_, rfl, h⟩
      · wp_walk using q1
        exact ⟨_, rfl, h⟩
    · wp_walk using q1
      exact ⟨_, rfl, h⟩
theorem call_enumT {prog : Program} {w : World} {A : Around} {E : Value → Shared → Prop} {s : Shared} {l : Addr} {items : Array Value} {Q : Value → Shared → Prop} (hL : s.heap.IsTuple l items)
    (h : ∀ h', IsEnum h' (s.heap.objs.size + 1) s.heap.objs.size 0 .none → h'.IsTupleIter s.heap.objs.size l 0 → h'.objs.size = s.heap.objs.size + 2 →
      (∀ b o, s.heap.get? b = some o → h'.get? b = some o) → Q (.ref (s.heap.objs.size + 1)) { s with heap := h' }) :
    wpAny (model prog w) A (call (.type "enumerate") [.ref l]) Q E s := by
  refine callType_new F.called_enumerate (by decide) (F.typeCall_enumerate_1 _) (F.newCall_enumerate_1 _) (fun obj => F.args_object_init_2 obj _) F.entry_enumerate_new
    (meets_enumT l items) ⟨hL, ?_⟩
  have hz : (s.heap.push { cls := .type "tuple_iterator", data := .fields #[.ref l, .int 0 0] }).objs.size = s.heap.objs.size + 1 := Heap.size_push ..
  show _ ∧ _
  rw [hz]
  have he : IsEnum ((s.heap.push { cls := .type "tuple_iterator", data := .fields #[.ref l, .int 0 0] }).push
      { cls := .type "enumerate", data := .fields #[.none, .bool false, .ref s.heap.objs.size, rawInt 0, .none, .none] }) (s.heap.objs.size + 1) s.heap.objs.size 0 .none := by
    have := Heap.get?_push_size (s.heap.push { cls := .type "tuple_iterator", data := .fields #[.ref l, .int 0 0] })
      (o := { cls := .type "enumerate", data := .fields #[.none, .bool false, .ref s.heap.objs.size, rawInt 0, .none, .none] }) rfl
    rw [hz] at this; exact this
  refine ⟨⟨_, he, rfl⟩, h _ he ⟨_, Heap.get?_push_of_some _ (Heap.get?_push_size _ rfl), rfl, rfl⟩ (by rw [Heap.size_push, hz]) fun b o x => Heap.get?_push_of_some _ (Heap.get?_push_of_some _ x)⟩
/-- the tuple at a as it stands at each turn, each item in a new pair -/
def IteT (K : PySem.W.Frag) (a : Addr) : It :=
  ⟨fun i H => ∃ (xs : List V) (x : V), SqT K H a xs ∧ xs[i]? = some x, fun i H v H' => ∃ T x, v = .ref T ∧ H T = none ∧ H' = upd H T (.tup [.int (i : Nat), x]) ∧ ∀ xs, SqT K H a xs → xs[i]? = some x, fun i H => ∃ xs : List V, SqT K H a xs ∧ xs.length ≤ i⟩
theorem enumT_end {prog : Program} {w : World} {A : Around} {E : Value → Shared → Prop} {s : Shared} {e it t : Addr} {i : Nat} {items : Array Value} {old : Value} {Q : Option Value → Shared → Prop} (hh : A.handled = none)
    (he : IsEnum s.heap e it i old) (hit : s.heap.IsTupleIter it t i) (ht : s.heap.IsTuple t items) (hx : items[i]? = none)
    (hQ : ∀ h', Heap.ExtBut it s.heap h' → Q none { s with heap := h' }) : wpAny (model prog w) A (pyNext (.ref e)) Q E s := by
  have hT : s.TypeIs (.ref e) "enumerate" := ⟨_, he, rfl⟩
  unfold pyNext
  refine wpAny_bind (wpAny_attempt (wpAny_callSpecial?_slot (name := Str.ofString "__next__") hT F.slot_enumerate_next
    (wpAny_call_entry F.slot_enumerate_next hT F.entry_enumerate_next ?_ (F.args_enumerate_next_1 _))))
  show wpAny _ _ (field (.ref e) 2 >>= _) _ _ _
  refine wpAny_bind (wpAny_field he rfl (x := .ref it) rfl ?_)
  refine wpAny_bind (wpAny_nextOf_tuple_end (A := A.in1) hh hit ht hx fun h' x he' hx' => ?_)
  obtain ⟨o, ho, hc⟩ := hx'
  refine wpAny_bind (wpAny_isInstance (T := "StopIteration") (b := true) ⟨o, ho, hc⟩ isSubtype_stop ?_)
  exact wpAny_pure (hQ _ he')
theorem turn_enumT {P : Program} {w : World} {K : PySem.W.Frag} {elts : List Expr} {kk : Nat} {tpos : Pos} (a e it : Addr) :
    Turn P w K (.Tuple elts kk tpos) (IteT K a) [e, it] e (fun i h => (∃ old, IsEnum h e it ((i : Nat) : Int) old) ∧ h.IsTupleIter it a i ∧ e ≠ it) where
  mem := by simp
  obj := fun i h st b hb => by
    obtain ⟨⟨old, he⟩, ⟨o, ho, hc, hd⟩, _⟩ := st
    have e' : b = e ∨ b = it := by simpa using hb
    rcases e' with z | z
    · rw [z]; exact ⟨_, he, fun v q => nomatch q⟩
    · rw [z]; exact ⟨o, ho, fun v q => by rw [hd] at q; cases q⟩
  keep := fun i h h' st k => let ⟨⟨old, he⟩, hi, hne⟩ := st; ⟨⟨old, k e (by simp) _ he⟩, hi.at fun o q => k it (by simp) o q, hne⟩
  item := by
    intro X hP hw hK hc i pins s σ H E I hf st hg
    subst hP hw hK
    obtain ⟨⟨old, he⟩, hit, hne⟩ := st
    obtain ⟨xs, x, hq, hx⟩ := hg
    obtain ⟨its, rv, p, hz⟩ := I.tuple hq
    obtain ⟨u, hu, ru⟩ := rv.get hx
    have hel : e < s.heap.objs.size := Heap.lt_size he
    have hil : it < s.heap.objs.size := by obtain ⟨_, q, _⟩ := hit; exact Heap.lt_size q
    have hT0 : s.heap.IsTuple a its.toArray := p
    have nae : e ≠ a := fun z => by
      obtain ⟨o, ho, hcl, _⟩ := hT0
      rw [← z, he] at ho
      obtain rfl := Option.some.inj ho
      exact absurd (show Value.type "enumerate" = Value.type "tuple" from hcl) (by decide)
    have nai : a ≠ it := fun z => by
      obtain ⟨o, ho, hcl, _⟩ := hT0
      obtain ⟨o2, ho2, hcl2, _⟩ := hit
      rw [z, ho2] at ho
      obtain rfl := Option.some.inj ho
      rw [hcl2] at hcl
      exact absurd (show Value.type "tuple_iterator" = Value.type "tuple" from hcl) (by decide)
    refine wpAny_pyNext_enum_itemD (i := i) (Draws.tuple (A := X.A.in1) (I.ok.hd hc) it a nai its.toArray) he ⟨hit, hT0⟩ (by
      have := (List.getElem?_eq_some_iff.mp hu).1
      simpa using this) hne (by simp [hne, nae]) fun y h' tk hy ho hst' hT hsz hk => ?_
    have ey : y = u := by
      have hy' : its[i]? = some y := by simpa using hy
      rw [hu] at hy'
      exact (Option.some.inj hy').symm
    subst ey
    refine ⟨_, rfl, wpAny_letOwnedTupleGo_enum (s := { s with heap := h', toks := tk + 1 }) ho fun h'' he' sb => ?_⟩
    have hT2 : h''.get? s.heap.objs.size = some { cls := .type "tuple", data := .seq #[.int i tk, y] } := (sb.2 _ (Nat.ne_of_gt hel)).trans hT
    have new : ObjOk X.prog X.w (upd H s.heap.objs.size (.tup [.int (i : Nat), x])) h'' s.heap.objs.size (.tup [.int (i : Nat), x]) :=
      ⟨by show 2 ≤ sizeLine; decide, [.int i tk, y], .cons ⟨_, rfl⟩ (.cons ru .nil), ⟨_, hT2, rfl, _, rfl⟩⟩
    have I1 : Inv X pins σ (upd H s.heap.objs.size (.tup [.int (i : Nat), x])) { s with heap := h'', toks := tk + 1 } :=
      I.turnedNew (ch := [e, it]) (fun b ob hb q => (sb.2 b (fun z => hb (by simp [z]))).trans (hk b ob (fun z => hb (by simp [z])) (fun z => hb (by simp [z])) q)) hf (Nat.le_refl _) new
    refine ⟨.ref s.heap.objs.size, _, I1, rfl, ⟨_, x, rfl, I.hok.fresh (Nat.le_refl _), rfl, fun ys hy => by rw [I.tuple_inj hy hq]; exact hx⟩, ⟨⟨y, ?_⟩, hst'.1.at fun o q => (sb.2 it (Ne.symm hne)).trans q, hne⟩, fun b hb => ?_⟩
    · have e1 : ((i + 1 : Nat) : Int) = (i : Int) + 1 := by omega
      rw [e1]; exact he'
    · have hb' : b < s.heap.objs.size := by
        have e' : b = e ∨ b = it := by simpa using hb
        rcases e' with z | z
        · rw [z]; exact hel
        · rw [z]; exact hil
      rw [upd_ne (Nat.ne_of_lt hb')]
      exact (hf b hb).1
  done := by
    intro X hP hw hK hc i pins s σ H E I hf st hg
    subst hP hw hK
    obtain ⟨⟨old, he⟩, hit, hne⟩ := st
    obtain ⟨xs, hq, hx⟩ := hg
    obtain ⟨its, rv, p, hz⟩ := I.tuple hq
    obtain ⟨f0, f1, f2, f3, f4, f5⟩ := hf it (by simp)
    have hl := rv.length
    exact enumT_end (I.ok.hd hc) he hit p (by simp; omega) fun h' eb => ⟨rfl, I.turned (t' := s.toks) (fun b o hb q => eb b o hb q) f0 f1 f3 f4 f5⟩
  self := fun A i s Q E st h => let ⟨⟨_, he⟩, _⟩ := st; wpAny_pyIter_enum he h
def iEnumT (K : PySem.W.Frag) (ta : TA) : TI := fun σ H R => ta σ H fun vs H1 => ∃ a xs, vs = [.ref a] ∧ SqT K H1 a xs ∧ R (IteT K a) H1
theorem pi_enumT {X : Cx} {e : Expr} {ta : TA} {p pos tpos : Pos} {elts : List Expr} {kk : Nat} (hg : Gl X "enumerate") (hm : X.mg "enumerate" = none) (ha : PA X [e] ta) (hs : starEach [e] X.env = [(false, eval e X.env)] := by rfl) :
    PI X (.Tuple elts kk tpos) (.Call (.Name "enumerate" p) [e] [] pos) (iEnumT X.K ta) := by
  refine ⟨fun pins s σ H R I h => ?_⟩
  refine Call_ (ld_blt I hg hm boot_enumerate (PyProof.Rows.callWith_type1 (thn (ha.run pos pins s σ H _ I h) fun us s1 ⟨vs, H1, I1, r1, q1⟩ => ?_) hs rfl))
  obtain ⟨a, xs, ex, hq, q⟩ := q1
  subst ex
  cases r1 with
  | cons r rr =>
    cases rr
    cases r
    obtain ⟨its, rv, p', hz⟩ := I1.tuple hq
    refine call_enumT (show s1.heap.IsTuple a its.toArray from p') fun h' he hit hsz hk => wpAny_pyIter_enum he ?_
    have I2 : Inv X pins σ H1 { s1 with heap := h' } := I1.kept (t' := s1.toks) hk
    refine ⟨s1.heap.objs.size + 1, [s1.heap.objs.size + 1, s1.heap.objs.size], _, _, H1, rfl, I2, turn_enumT a (s1.heap.objs.size + 1) s1.heap.objs.size, ⟨⟨.none, he⟩, hit, Nat.succ_ne_self _⟩, fun b hb => ?_, q⟩
    have e' : b = s1.heap.objs.size + 1 ∨ b = s1.heap.objs.size := by simpa using hb
    have hle : s1.heap.objs.size ≤ b := by
      rcases e' with z | z
      · rw [z]; exact Nat.le_add_right _ _
      · rw [z]; exact Nat.le_refl _
    exact I1.fpOk hle (I1.hok.fresh hle)
/-- a loop over enumerate of a tuple -/
theorem for_enumT {K : PySem.W.Frag} {a : Addr} {xs : List V} {g : TG} {tb : TS} {D : Ends} {σ : L2.St} {H : Hp} (Pv : Nat → L2.St → Hp → Prop) (h0 : Pv 0 σ H) (hq : ∀ i σ H, Pv i σ H → SqT K H a xs)
    (hs : ∀ (i : Nat) (x : V) (T : Addr) (σ : L2.St) (H : Hp), xs[i]? = some x → Pv i σ H → H T = none → g (.ref T) σ (upd H T (.tup [.int (i : Nat), x])) fun σ2 H2 => tb { D with nx := Pv (i + 1), ct := Pv (i + 1), bk := D.nx } σ2 H2) (hd : ∀ σ H, Pv xs.length σ H → D.nx σ H) :
    ∃ W : Nat → Nat → L2.St → Hp → Prop, (∃ m, W 0 m σ H) ∧ ∀ i m σ H, W i m σ H →
      ((IteT K a).stop i H ∧ D.nx σ H) ∨ ((IteT K a).go i H ∧ ∃ N : L2.St → Hp → Prop, (∀ σ' H', N σ' H' → ∃ m', m' < m ∧ W (i + 1) m' σ' H') ∧ ∀ v H', (IteT K a).yld i H v H' → g v σ H' fun σ2 H2 => tb { D with nx := N, ct := N, bk := D.nx } σ2 H2) := by
  refine ⟨fun i m σ H => m = xs.length - i ∧ i ≤ xs.length ∧ Pv i σ H, ⟨xs.length, rfl, Nat.zero_le _, h0⟩, ?_⟩
  rintro i m σ H ⟨rfl, hi, p⟩
  have q := hq i σ H p
  rcases Nat.lt_or_ge i xs.length with hlt | hge
  · have ex := List.getElem?_eq_getElem hlt
    refine .inr ⟨⟨xs, _, q, ex⟩, Pv (i + 1), fun σ' H' p' => ⟨xs.length - (i + 1), by omega, rfl, hlt, p'⟩, ?_⟩
    rintro v H' ⟨T, x, rfl, hT, rfl, f1⟩
    exact hs i x T σ H (f1 xs q) p hT
  · have e : i = xs.length := by omega
    subst e
    exact .inl ⟨⟨xs, q, hge⟩, hd σ H p⟩
/-! ### enumerate over a list or a tuple -/
def ItEG (K : PySem.W.Frag) (t : Bool) (a : Addr) : It := match t with
  | true => IteT K a
  | false => Ite K a
def iEnumG (K : PySem.W.Frag) (ta : TA) : TI := fun σ H R => ta σ H fun vs H1 => ∃ (t : Bool) (a : Addr) (xs : List V), vs = [.ref a] ∧ ZG.Sq t K H1 a xs ∧ R (ItEG K t a) H1
theorem pi_enumG {X : Cx} {e : Expr} {ta : TA} {p pos tpos : Pos} {elts : List Expr} {kk : Nat} (hg : Gl X "enumerate") (hm : X.mg "enumerate" = none) (ha : PA X [e] ta) (hs : starEach [e] X.env = [(false, eval e X.env)] := by rfl) :
    PI X (.Tuple elts kk tpos) (.Call (.Name "enumerate" p) [e] [] pos) (iEnumG X.K ta) := by
  refine ⟨fun pins s σ H R I h => ?_⟩
  refine Call_ (ld_blt I hg hm boot_enumerate (PyProof.Rows.callWith_type1 (thn (ha.run pos pins s σ H _ I h) fun us s1 ⟨vs, H1, I1, r1, q1⟩ => ?_) hs rfl))
  obtain ⟨t, a, xs, ex, hq, q⟩ := q1
  subst ex
  have hle : ∀ b, b ∈ [s1.heap.objs.size + 1, s1.heap.objs.size] → s1.heap.objs.size ≤ b := fun b hb => by
    have e' : b = s1.heap.objs.size + 1 ∨ b = s1.heap.objs.size := by simpa using hb
    rcases e' with z | z
    · rw [z]; exact Nat.le_add_right _ _
    · rw [z]; exact Nat.le_refl _
  cases r1 with
  | cons r rr =>
    cases rr
    cases r
    cases t with
    | true =>
      obtain ⟨its, rv, p', hz⟩ := I1.tuple hq
      refine call_enumT (show s1.heap.IsTuple a its.toArray from p') fun h' he hit hsz hk => wpAny_pyIter_enum he ?_
      have I2 : Inv X pins σ H1 { s1 with heap := h' } := I1.kept (t' := s1.toks) hk
      exact ⟨s1.heap.objs.size + 1, [s1.heap.objs.size + 1, s1.heap.objs.size], _, _, H1, rfl, I2, turn_enumT a (s1.heap.objs.size + 1) s1.heap.objs.size, ⟨⟨.none, he⟩, hit, Nat.succ_ne_self _⟩, fun b hb => I1.fpOk (hle b hb) (I1.hok.fresh (hle b hb)), q⟩
    | false =>
      obtain ⟨its, rv, p', hz⟩ := I1.list hq
      refine call_enumerate_list p'.isList fun h' he hit hsz hk => wpAny_pyIter_enum he ?_
      have I2 : Inv X pins σ H1 { s1 with heap := h' } := I1.kept (t' := s1.toks) hk
      exact ⟨s1.heap.objs.size + 1, [s1.heap.objs.size + 1, s1.heap.objs.size], _, _, H1, rfl, I2, turn_enum a (s1.heap.objs.size + 1) s1.heap.objs.size, ⟨⟨.none, he⟩, hit, Nat.succ_ne_self _⟩, fun b hb => I1.fpOk (hle b hb) (I1.hok.fresh (hle b hb)), q⟩
theorem walk_enumG {K : PySem.W.Frag} {t : Bool} {a : Addr} {xs : List V} : Walk (ItEG K t a) xs.length (fun H => ZG.Sq t K H a xs) (YPair (fun i => some (.int (i : Nat))) (fun i => xs[i]?)) := by
  cases t with
  | false => exact walk_enum
  | true =>
    refine ⟨fun i H hi q => ⟨xs, xs[i], q, List.getElem?_eq_getElem hi⟩, fun H q => ⟨xs, q, Nat.le_refl _⟩, fun i H v H' _ q y => ?_⟩
    obtain ⟨T, x, h1, h2, h3, h4⟩ := y
    exact ⟨T, .int (i : Nat), x, h1, h2, h3, rfl, h4 xs q⟩
end EnT
namespace MxT
open PySem PySem.Spec PyProof.Rows L2
/-! ### max and min of a tuple of whole numbers -/
section
variable {prog : Program} {w : World} {A : Around} {E : Value → Shared → Prop} {s : Shared} {l : Addr} {its : List Value} {ns : List Int} {Q : Value → Shared → Prop}
theorem old_keptT {h' : Heap} (hk : ∀ b o, b ∉ [s.heap.objs.size] → (s.heap.push { cls := .type "tuple_iterator", data := .fields #[.ref l, .int 0 0] }).get? b = some o → h'.get? b = some o) :
    ∀ b o, s.heap.get? b = some o → h'.get? b = some o := fun b o e =>
  hk b o (fun z => absurd (Heap.lt_size e) ((List.mem_singleton.mp z) ▸ Nat.lt_irrefl _)) (Heap.get?_push_of_some _ e)
theorem maxT_raw (hh : A.handled = none) (hl : s.heap.IsTuple l its.toArray) (hi : IntsAre its ns) (hne : 0 < ns.length)
    (h : ∀ h' tk M t', (∀ b o, s.heap.get? b = some o → h'.get? b = some o) → M ∈ ns → (∀ a, a ∈ ns → a ≤ M) → Q (.int M t') { s with heap := h', toks := tk }) : wpAny (model prog w) A (call (.builtin "max") [.ref l]) Q E s := by
  obtain ⟨xs, e⟩ := hi.allInts.items
  have hn : numsOf (intItems xs).toList = ns := by rw [← e]; exact hi.numsOf
  rw [nums_intItems] at hn
  subst hn
  rw [e] at hl
  have hsz : 0 < xs.size := by simpa using hne
  have hlt : l < s.heap.objs.size := by
    obtain ⟨_, e, _⟩ := hl
    exact Heap.lt_size e
  refine PySem.call_max_walk (wpAny_pyIter_tuple hl ?_)
  refine ⟨_, _, _, _, _, _, _, rfl, Walks.tuple (A := A.in1) hh _ l (Nat.ne_of_lt hlt) (intItems xs), ⟨⟨_, Heap.get?_push_size _ rfl, rfl, rfl⟩, hl.push _⟩, fun b hb => ?_, by simpa [intItems] using hsz, CmpOf.ints_gt (numAt xs) (fun _ _ => intItems_at), fun v h' tk hv hk => ?_⟩
  · show b < (s.heap.push _).objs.size
    rw [Heap.size_push]
    have hb' : b = s.heap.objs.size ∨ b = l := by simpa using hb
    rcases hb' with z | z
    · rw [z]; exact Nat.lt_succ_self _
    · rw [z]; exact Nat.lt_succ_of_lt hlt
  · have hv' : (intItems xs)[argBest (fun i j => decide (numAt xs i > numAt xs j)) (xs.size - 1)]? = some v := by simpa [intItems] using hv
    obtain ⟨t, rfl⟩ := intItems_at hv'
    obtain ⟨h1, h2⟩ := argBest_gt (numAt xs) (xs.size - 1)
    refine h h' tk _ t (old_keptT hk) ?_ fun a ha => ?_
    · rw [numAt_eq]; exact PySem.getD_mem (by rw [List.length_map, Array.length_toList]; omega)
    · obtain ⟨j, hj, rfl⟩ := mem_getD ha
      have hj2 : j < xs.size := by simpa using hj
      rw [← numAt_eq]; exact h2 j (by omega)
theorem minT_raw (hh : A.handled = none) (hl : s.heap.IsTuple l its.toArray) (hi : IntsAre its ns) (hne : 0 < ns.length)
    (h : ∀ h' tk M t', (∀ b o, s.heap.get? b = some o → h'.get? b = some o) → M ∈ ns → (∀ a, a ∈ ns → M ≤ a) → Q (.int M t') { s with heap := h', toks := tk }) : wpAny (model prog w) A (call (.builtin "min") [.ref l]) Q E s := by
  obtain ⟨xs, e⟩ := hi.allInts.items
  have hn : numsOf (intItems xs).toList = ns := by rw [← e]; exact hi.numsOf
  rw [nums_intItems] at hn
  subst hn
  rw [e] at hl
  have hsz : 0 < xs.size := by simpa using hne
  have hlt : l < s.heap.objs.size := by
    obtain ⟨_, e, _⟩ := hl
    exact Heap.lt_size e
  refine PySem.call_min_walk (wpAny_pyIter_tuple hl ?_)
  refine ⟨_, _, _, _, _, _, _, rfl, Walks.tuple (A := A.in1) hh _ l (Nat.ne_of_lt hlt) (intItems xs), ⟨⟨_, Heap.get?_push_size _ rfl, rfl, rfl⟩, hl.push _⟩, fun b hb => ?_, by simpa [intItems] using hsz, CmpOf.ints_lt (numAt xs) (fun _ _ => intItems_at), fun v h' tk hv hk => ?_⟩
  · show b < (s.heap.push _).objs.size
    rw [Heap.size_push]
    have hb' : b = s.heap.objs.size ∨ b = l := by simpa using hb
    rcases hb' with z | z
    · rw [z]; exact Nat.lt_succ_self _
    · rw [z]; exact Nat.lt_succ_of_lt hlt
  · have hv' : (intItems xs)[argBest (fun i j => decide (numAt xs i < numAt xs j)) (xs.size - 1)]? = some v := by simpa [intItems] using hv
    obtain ⟨t, rfl⟩ := intItems_at hv'
    obtain ⟨h1, h2⟩ := argBest_lt (numAt xs) (xs.size - 1)
    refine h h' tk _ t (old_keptT hk) ?_ fun a ha => ?_
    · rw [numAt_eq]; exact PySem.getD_mem (by rw [List.length_map, Array.length_toList]; omega)
    · obtain ⟨j, hj, rfl⟩ := mem_getD ha
      have hj2 : j < xs.size := by simpa using hj
      rw [← numAt_eq]; exact h2 j (by omega)
end
section
variable {X : Cx}
def rMaxT (K : PySem.W.Frag) : List V → Hp → VK → Prop := fun vs H Q => ∃ (a : Addr) (ns : List Int), vs = [V.ref a] ∧ SqT K H a (ns.map V.int) ∧ 0 < ns.length ∧ ∀ m, m ∈ ns → (∀ y, y ∈ ns → y ≤ m) → Q (.int m) H
def rMinT (K : PySem.W.Frag) : List V → Hp → VK → Prop := fun vs H Q => ∃ (a : Addr) (ns : List Int), vs = [V.ref a] ∧ SqT K H a (ns.map V.int) ∧ 0 < ns.length ∧ ∀ m, m ∈ ns → (∀ y, y ∈ ns → m ≤ y) → Q (.int m) H
theorem call_maxT (hc : X.calm = true) : CallR X (.builtin "max") (rMaxT X.K) := by
  intro pins s σ H vs us Q I r h
  obtain ⟨a, ns, rfl, hs, hne, q⟩ := h
  obtain ⟨its, rv, hl, _⟩ := I.tuple hs
  rw [Vals.ref1 r]
  exact maxT_raw (I.ok.hd hc) hl rv.ints hne fun h' tk m t' hk h1 h2 => ⟨.int _, H, I.kept hk, ⟨_, rfl⟩, q m h1 h2⟩
theorem call_minT (hc : X.calm = true) : CallR X (.builtin "min") (rMinT X.K) := by
  intro pins s σ H vs us Q I r h
  obtain ⟨a, ns, rfl, hs, hne, q⟩ := h
  obtain ⟨its, rv, hl, _⟩ := I.tuple hs
  rw [Vals.ref1 r]
  exact minT_raw (I.ok.hd hc) hl rv.ints hne fun h' tk m t' hk h1 h2 => ⟨.int _, H, I.kept hk, ⟨_, rfl⟩, q m h1 h2⟩
end
end MxT
namespace Mine
open PySem L2
def top (i : Nat) : Stmt := PySem.Challenge.pw_neverhappens_k25_assign.main.body.getD i (.Pass ⟨0, 0, 0, 0⟩)
abbrev s_frozen : Stmt := top 1
abbrev s_bound : Stmt := top 2
abbrev s_range_of : Stmt := top 3
abbrev s_with_column : Stmt := top 5
abbrev s_free_column : Stmt := top 6
abbrev s_shift_column : Stmt := top 7
abbrev s_used_columns : Stmt := top 9
abbrev s_difference_columns : Stmt := top 10
abbrev s_range_of_form : Stmt := top 11
abbrev s_assign : Stmt := top 13
abbrev s_l_cell : Stmt := top 15
abbrev s_l_source : Stmt := top 16
abbrev s_l_pick : Stmt := top 17
abbrev s_l_one : Stmt := top 18
abbrev s_l_far : Stmt := top 19
abbrev s_l_belongs : Stmt := top 20
abbrev s_l_grid : Stmt := top 21
abbrev s_l_box : Stmt := top 22
abbrev s_l_points : Stmt := top 23
abbrev s_l_part : Stmt := top 24
abbrev s_l_drawn_form : Stmt := top 25
abbrev s_l_spread : Stmt := top 26
abbrev s_l_worth : Stmt := top 27
abbrev s_l_set : Stmt := top 28
abbrev s_l_moved : Stmt := top 29
abbrev s_l_target_form : Stmt := top 30
abbrev s_l_low : Stmt := top 31
abbrev s_l_inside : Stmt := top 32
abbrev s_l_same : Stmt := top 33
abbrev s_l_asked : Stmt := top 34
abbrev s_law : Stmt := top 35
abbrev p_frozen : List Str := ["rows"]
abbrev p_bound : List Str := ["box", "i", "j", "most"]
abbrev p_range_of : List Str := ["box", "i"]
abbrev p_with_column : List Str := ["box", "i", "above", "below"]
abbrev p_free_column : List Str := ["box", "i", "lo", "hi"]
abbrev p_shift_column : List Str := ["box", "i", "low", "high"]
abbrev p_used_columns : List Str := ["form"]
abbrev p_difference_columns : List Str := ["form"]
abbrev p_range_of_form : List Str := ["form", "box"]
abbrev p_assign : List Str := ["box", "i", "form", "lo", "hi"]
abbrev p_l_cell : List Str := ["_law_script", "_law_at"]
abbrev p_l_source : List Str := ["_law_cell_here"]
abbrev p_l_pick : List Str := ["_law_source_here", "_law_size"]
abbrev p_l_one : List Str := ["_law_source_here", "_law_row"]
abbrev p_l_far : List Str := ["_law_source_here"]
abbrev p_l_belongs : List Str := ["_law_matrix", "_law_point"]
abbrev p_l_grid : List Str := ["_law_ranges"]
abbrev p_l_box : List Str := ["_law_points_here"]
abbrev p_l_points : List Str := ["_law_source_here", "_law_least", "_law_wide"]
abbrev p_l_part : List Str := ["_law_source_here", "_law_points_here"]
abbrev p_l_drawn_form : List Str := ["_law_source_here", "_law_size"]
abbrev p_l_spread : List Str := ["_law_form", "_law_points_here"]
abbrev p_l_worth : List Str := ["_law_form", "_law_point"]
abbrev p_l_set : List Str := ["_law_point", "_law_at", "_law_value"]
abbrev p_l_moved : List Str := ["_law_points_here", "_law_at", "_law_form", "_law_lo", "_law_hi", "_law_exact"]
abbrev p_l_target_form : List Str := ["_law_source_here", "_law_size", "_law_at"]
abbrev p_l_low : List Str := ["_law_source_here", "_law_form", "_law_points_here"]
abbrev p_l_inside : List Str := ["_law_a", "_law_b"]
abbrev p_l_same : List Str := ["_law_actual", "_law_due"]
abbrev p_l_asked : List Str := ["_law_points_here", "_law_at", "_law_form", "_law_lo", "_law_hi"]
abbrev p_law : List Str := ["_law_script"]
/-- what the program's top leaves: where each def stands -/
structure Txt (w : World) (K : PySem.W.Frag) (mg : Str → Option Value) where
  a_frozen : Addr
  d_frozen : FuncData
  F_frozen : Fun K "frozen" "frozen" s_frozen a_frozen d_frozen
  b_frozen : Binds K d_frozen p_frozen []
  m_frozen : mg "frozen" = some (.ref a_frozen)
  a_bound : Addr
  d_bound : FuncData
  F_bound : Fun K "bound" "bound" s_bound a_bound d_bound
  b_bound : Binds K d_bound p_bound []
  m_bound : mg "bound" = some (.ref a_bound)
  a_range_of : Addr
  d_range_of : FuncData
  F_range_of : Fun K "range_of" "range_of" s_range_of a_range_of d_range_of
  b_range_of : Binds K d_range_of p_range_of []
  m_range_of : mg "range_of" = some (.ref a_range_of)
  a_with_column : Addr
  d_with_column : FuncData
  F_with_column : Fun K "with_column" "with_column" s_with_column a_with_column d_with_column
  b_with_column : Binds K d_with_column p_with_column []
  m_with_column : mg "with_column" = some (.ref a_with_column)
  a_free_column : Addr
  d_free_column : FuncData
  F_free_column : Fun K "free_column" "free_column" s_free_column a_free_column d_free_column
  b_free_column : Binds K d_free_column p_free_column []
  m_free_column : mg "free_column" = some (.ref a_free_column)
  a_shift_column : Addr
  d_shift_column : FuncData
  F_shift_column : Fun K "shift_column" "shift_column" s_shift_column a_shift_column d_shift_column
  b_shift_column : Binds K d_shift_column p_shift_column []
  m_shift_column : mg "shift_column" = some (.ref a_shift_column)
  a_used_columns : Addr
  d_used_columns : FuncData
  F_used_columns : Fun K "used_columns" "used_columns" s_used_columns a_used_columns d_used_columns
  b_used_columns : Binds K d_used_columns p_used_columns []
  m_used_columns : mg "used_columns" = some (.ref a_used_columns)
  a_difference_columns : Addr
  d_difference_columns : FuncData
  F_difference_columns : Fun K "difference_columns" "difference_columns" s_difference_columns a_difference_columns d_difference_columns
  b_difference_columns : Binds K d_difference_columns p_difference_columns []
  m_difference_columns : mg "difference_columns" = some (.ref a_difference_columns)
  a_range_of_form : Addr
  d_range_of_form : FuncData
  F_range_of_form : Fun K "range_of_form" "range_of_form" s_range_of_form a_range_of_form d_range_of_form
  b_range_of_form : Binds K d_range_of_form p_range_of_form []
  m_range_of_form : mg "range_of_form" = some (.ref a_range_of_form)
  a_assign : Addr
  d_assign : FuncData
  F_assign : Fun K "assign" "assign" s_assign a_assign d_assign
  b_assign : Binds K d_assign p_assign []
  m_assign : mg "assign" = some (.ref a_assign)
  a_l_cell : Addr
  d_l_cell : FuncData
  F_l_cell : Fun K "_law_cell" "_law_cell" s_l_cell a_l_cell d_l_cell
  b_l_cell : Binds K d_l_cell p_l_cell []
  m_l_cell : mg "_law_cell" = some (.ref a_l_cell)
  a_l_source : Addr
  d_l_source : FuncData
  F_l_source : Fun K "_law_source" "_law_source" s_l_source a_l_source d_l_source
  b_l_source : Binds K d_l_source p_l_source []
  m_l_source : mg "_law_source" = some (.ref a_l_source)
  a_l_pick : Addr
  d_l_pick : FuncData
  F_l_pick : Fun K "_law_pick" "_law_pick" s_l_pick a_l_pick d_l_pick
  b_l_pick : Binds K d_l_pick p_l_pick []
  m_l_pick : mg "_law_pick" = some (.ref a_l_pick)
  a_l_one : Addr
  d_l_one : FuncData
  F_l_one : Fun K "_law_one" "_law_one" s_l_one a_l_one d_l_one
  b_l_one : Binds K d_l_one p_l_one []
  m_l_one : mg "_law_one" = some (.ref a_l_one)
  a_l_far : Addr
  d_l_far : FuncData
  F_l_far : Fun K "_law_far" "_law_far" s_l_far a_l_far d_l_far
  b_l_far : Binds K d_l_far p_l_far []
  m_l_far : mg "_law_far" = some (.ref a_l_far)
  a_l_belongs : Addr
  d_l_belongs : FuncData
  F_l_belongs : Fun K "_law_belongs" "_law_belongs" s_l_belongs a_l_belongs d_l_belongs
  b_l_belongs : Binds K d_l_belongs p_l_belongs []
  m_l_belongs : mg "_law_belongs" = some (.ref a_l_belongs)
  a_l_grid : Addr
  d_l_grid : FuncData
  F_l_grid : Fun K "_law_grid" "_law_grid" s_l_grid a_l_grid d_l_grid
  b_l_grid : Binds K d_l_grid p_l_grid []
  m_l_grid : mg "_law_grid" = some (.ref a_l_grid)
  a_l_box : Addr
  d_l_box : FuncData
  F_l_box : Fun K "_law_box" "_law_box" s_l_box a_l_box d_l_box
  b_l_box : Binds K d_l_box p_l_box []
  m_l_box : mg "_law_box" = some (.ref a_l_box)
  a_l_points : Addr
  d_l_points : FuncData
  F_l_points : Fun K "_law_points" "_law_points" s_l_points a_l_points d_l_points
  b_l_points : Binds K d_l_points p_l_points []
  m_l_points : mg "_law_points" = some (.ref a_l_points)
  a_l_part : Addr
  d_l_part : FuncData
  F_l_part : Fun K "_law_part" "_law_part" s_l_part a_l_part d_l_part
  b_l_part : Binds K d_l_part p_l_part []
  m_l_part : mg "_law_part" = some (.ref a_l_part)
  a_l_drawn_form : Addr
  d_l_drawn_form : FuncData
  F_l_drawn_form : Fun K "_law_drawn_form" "_law_drawn_form" s_l_drawn_form a_l_drawn_form d_l_drawn_form
  b_l_drawn_form : Binds K d_l_drawn_form p_l_drawn_form []
  m_l_drawn_form : mg "_law_drawn_form" = some (.ref a_l_drawn_form)
  a_l_spread : Addr
  d_l_spread : FuncData
  F_l_spread : Fun K "_law_spread" "_law_spread" s_l_spread a_l_spread d_l_spread
  b_l_spread : Binds K d_l_spread p_l_spread []
  m_l_spread : mg "_law_spread" = some (.ref a_l_spread)
  a_l_worth : Addr
  d_l_worth : FuncData
  F_l_worth : Fun K "_law_worth" "_law_worth" s_l_worth a_l_worth d_l_worth
  b_l_worth : Binds K d_l_worth p_l_worth []
  m_l_worth : mg "_law_worth" = some (.ref a_l_worth)
  a_l_set : Addr
  d_l_set : FuncData
  F_l_set : Fun K "_law_set" "_law_set" s_l_set a_l_set d_l_set
  b_l_set : Binds K d_l_set p_l_set []
  m_l_set : mg "_law_set" = some (.ref a_l_set)
  a_l_moved : Addr
  d_l_moved : FuncData
  F_l_moved : Fun K "_law_moved" "_law_moved" s_l_moved a_l_moved d_l_moved
  b_l_moved : Binds K d_l_moved p_l_moved []
  m_l_moved : mg "_law_moved" = some (.ref a_l_moved)
  a_l_target_form : Addr
  d_l_target_form : FuncData
  F_l_target_form : Fun K "_law_target_form" "_law_target_form" s_l_target_form a_l_target_form d_l_target_form
  b_l_target_form : Binds K d_l_target_form p_l_target_form []
  m_l_target_form : mg "_law_target_form" = some (.ref a_l_target_form)
  a_l_low : Addr
  d_l_low : FuncData
  F_l_low : Fun K "_law_low" "_law_low" s_l_low a_l_low d_l_low
  b_l_low : Binds K d_l_low p_l_low []
  m_l_low : mg "_law_low" = some (.ref a_l_low)
  a_l_inside : Addr
  d_l_inside : FuncData
  F_l_inside : Fun K "_law_inside" "_law_inside" s_l_inside a_l_inside d_l_inside
  b_l_inside : Binds K d_l_inside p_l_inside []
  m_l_inside : mg "_law_inside" = some (.ref a_l_inside)
  a_l_same : Addr
  d_l_same : FuncData
  F_l_same : Fun K "_law_same" "_law_same" s_l_same a_l_same d_l_same
  b_l_same : Binds K d_l_same p_l_same []
  m_l_same : mg "_law_same" = some (.ref a_l_same)
  a_l_asked : Addr
  d_l_asked : FuncData
  F_l_asked : Fun K "_law_asked" "_law_asked" s_l_asked a_l_asked d_l_asked
  b_l_asked : Binds K d_l_asked p_l_asked []
  m_l_asked : mg "_law_asked" = some (.ref a_l_asked)
  a_law : Addr
  d_law : FuncData
  F_law : Fun K "law" "law" s_law a_law d_law
  b_law : Binds K d_law p_law []
  m_law : mg "law" = some (.ref a_law)
  z_bool : mg "bool" = none
  z_enumerate : mg "enumerate" = none
  z_int : mg "int" = none
  z_isinstance : mg "isinstance" = none
  z_len : mg "len" = none
  z_list : mg "list" = none
  z_max : mg "max" = none
  z_min : mg "min" = none
  z_range : mg "range" = none
  z_sorted : mg "sorted" = none
  z_str : mg "str" = none
  z_sum : mg "sum" = none
  z_tuple : mg "tuple" = none
  z_zip : mg "zip" = none
abbrev n_frozen : List Str := ["rows", "row"]
theorem sc_frozen : FnScope n_frozen p_frozen (defScope s_frozen) := ⟨rfl, rfl, rfl, by decide +kernel, rfl, by decide +kernel, by decide +kernel⟩
abbrev n_bound : List Str := ["box", "i", "j", "most", "behind", "second", "row", "old"]
theorem sc_bound : FnScope n_bound p_bound (defScope s_bound) := ⟨rfl, rfl, rfl, by decide +kernel, rfl, by decide +kernel, by decide +kernel⟩
abbrev n_range_of : List Str := ["box", "i"]
theorem sc_range_of : FnScope n_range_of p_range_of (defScope s_range_of) := ⟨rfl, rfl, rfl, by decide +kernel, rfl, by decide +kernel, by decide +kernel⟩
abbrev n_with_column : List Str := ["box", "i", "above", "below", "rows", "row", "most"]
theorem sc_with_column : FnScope n_with_column p_with_column (defScope s_with_column) := ⟨rfl, rfl, rfl, by decide +kernel, rfl, by decide +kernel, by decide +kernel⟩
abbrev n_free_column : List Str := ["box", "i", "lo", "hi", "above", "most", "below", "row"]
theorem sc_free_column : FnScope n_free_column p_free_column (defScope s_free_column) := ⟨rfl, rfl, rfl, by decide +kernel, rfl, by decide +kernel, by decide +kernel⟩
abbrev n_shift_column : List Str := ["box", "i", "low", "high", "above", "most", "below", "row"]
theorem sc_shift_column : FnScope n_shift_column p_shift_column (defScope s_shift_column) := ⟨rfl, rfl, rfl, by decide +kernel, rfl, by decide +kernel, by decide +kernel⟩
abbrev n_used_columns : List Str := ["form", "at", "each"]
theorem sc_used_columns : FnScope n_used_columns p_used_columns (defScope s_used_columns) := ⟨rfl, rfl, rfl, by decide +kernel, rfl, by decide +kernel, by decide +kernel⟩
abbrev n_difference_columns : List Str := ["form", "used", "column", "first", "second"]
theorem sc_difference_columns : FnScope n_difference_columns p_difference_columns (defScope s_difference_columns) := ⟨rfl, rfl, rfl, by decide +kernel, rfl, by decide +kernel, by decide +kernel⟩
abbrev n_range_of_form : List Str := ["form", "box", "coefficients", "low", "high", "pair", "i", "j", "column", "ends", "end"]
theorem sc_range_of_form : FnScope n_range_of_form p_range_of_form (defScope s_range_of_form) := ⟨rfl, rfl, rfl, by decide +kernel, rfl, by decide +kernel, by decide +kernel⟩
abbrev n_assign : List Str := ["box", "i", "form", "lo", "hi", "coefficients", "low", "high", "used", "shifted", "freed", "least", "greatest"]
theorem sc_assign : FnScope n_assign p_assign (defScope s_assign) := ⟨rfl, rfl, rfl, by decide +kernel, rfl, by decide +kernel, by decide +kernel⟩
abbrev n_l_cell : List Str := ["_law_script", "_law_at"]
theorem sc_l_cell : FnScope n_l_cell p_l_cell (defScope s_l_cell) := ⟨rfl, rfl, rfl, by decide +kernel, rfl, by decide +kernel, by decide +kernel⟩
abbrev n_l_source : List Str := ["_law_cell_here"]
theorem sc_l_source : FnScope n_l_source p_l_source (defScope s_l_source) := ⟨rfl, rfl, rfl, by decide +kernel, rfl, by decide +kernel, by decide +kernel⟩
abbrev n_l_pick : List Str := ["_law_source_here", "_law_size", "_law_k", "_law_digit", "_law_mixed"]
theorem sc_l_pick : FnScope n_l_pick p_l_pick (defScope s_l_pick) := ⟨rfl, rfl, rfl, by decide +kernel, rfl, by decide +kernel, by decide +kernel⟩
abbrev n_l_one : List Str := ["_law_source_here", "_law_row"]
theorem sc_l_one : FnScope n_l_one p_l_one (defScope s_l_one) := ⟨rfl, rfl, rfl, by decide +kernel, rfl, by decide +kernel, by decide +kernel⟩
abbrev n_l_far : List Str := ["_law_source_here"]
theorem sc_l_far : FnScope n_l_far p_l_far (defScope s_l_far) := ⟨rfl, rfl, rfl, by decide +kernel, rfl, by decide +kernel, by decide +kernel⟩
abbrev n_l_belongs : List Str := ["_law_matrix", "_law_point", "_law_full", "_law_i", "_law_j"]
theorem sc_l_belongs : FnScope n_l_belongs p_l_belongs (defScope s_l_belongs) := ⟨rfl, rfl, rfl, by decide +kernel, rfl, by decide +kernel, by decide +kernel⟩
abbrev n_l_grid : List Str := ["_law_ranges", "_law_points_here", "_law_pair", "_law_longer", "_law_point", "_law_value"]
theorem sc_l_grid : FnScope n_l_grid p_l_grid (defScope s_l_grid) := ⟨rfl, rfl, rfl, by decide +kernel, rfl, by decide +kernel, by decide +kernel⟩
abbrev n_l_box : List Str := ["_law_points_here", "_law_full", "_law_point", "_law_rows", "_law_i", "_law_j"]
theorem sc_l_box : FnScope n_l_box p_l_box (defScope s_l_box) := ⟨rfl, rfl, rfl, by decide +kernel, rfl, by decide +kernel, by decide +kernel⟩
abbrev n_l_points : List Str := ["_law_source_here", "_law_least", "_law_wide", "_law_more", "_law_count", "_law_some", "_law_turn", "_law_k", "_law_matrix", "_law_shown", "_law_moved_here", "_law_points_here", "_law_point", "_law_full"]
theorem sc_l_points : FnScope n_l_points p_l_points (defScope s_l_points) := ⟨rfl, rfl, rfl, by decide +kernel, rfl, by decide +kernel, by decide +kernel⟩
abbrev n_l_part : List Str := ["_law_source_here", "_law_points_here", "_law_box_here", "_law_point"]
theorem sc_l_part : FnScope n_l_part p_l_part (defScope s_l_part) := ⟨rfl, rfl, rfl, by decide +kernel, rfl, by decide +kernel, by decide +kernel⟩
abbrev n_l_drawn_form : List Str := ["_law_source_here", "_law_size", "_law_row", "_law_style", "_law_k", "_law_at", "_law_pair", "_law_low_here"]
theorem sc_l_drawn_form : FnScope n_l_drawn_form p_l_drawn_form (defScope s_l_drawn_form) := ⟨rfl, rfl, rfl, by decide +kernel, rfl, by decide +kernel, by decide +kernel⟩
abbrev n_l_spread : List Str := ["_law_form", "_law_points_here", "_law_used", "_law_k", "_law_ends", "_law_plus", "_law_minus", "_law_told", "_law_point", "_law_least", "_law_greatest"]
theorem sc_l_spread : FnScope n_l_spread p_l_spread (defScope s_l_spread) := ⟨rfl, rfl, rfl, by decide +kernel, rfl, by decide +kernel, by decide +kernel⟩
abbrev n_l_worth : List Str := ["_law_form", "_law_point", "_law_k"]
theorem sc_l_worth : FnScope n_l_worth p_l_worth (defScope s_l_worth) := ⟨rfl, rfl, rfl, by decide +kernel, rfl, by decide +kernel, by decide +kernel⟩
abbrev n_l_set : List Str := ["_law_point", "_law_at", "_law_value"]
theorem sc_l_set : FnScope n_l_set p_l_set (defScope s_l_set) := ⟨rfl, rfl, rfl, by decide +kernel, rfl, by decide +kernel, by decide +kernel⟩
abbrev n_l_moved : List Str := ["_law_points_here", "_law_at", "_law_form", "_law_lo", "_law_hi", "_law_exact", "_law_ends", "_law_told", "_law_point", "_law_low_here", "_law_high"]
theorem sc_l_moved : FnScope n_l_moved p_l_moved (defScope s_l_moved) := ⟨rfl, rfl, rfl, by decide +kernel, rfl, by decide +kernel, by decide +kernel⟩
abbrev n_l_target_form : List Str := ["_law_source_here", "_law_size", "_law_at", "_law_form", "_law_row", "_law_column"]
theorem sc_l_target_form : FnScope n_l_target_form p_l_target_form (defScope s_l_target_form) := ⟨rfl, rfl, rfl, by decide +kernel, rfl, by decide +kernel, by decide +kernel⟩
abbrev n_l_low : List Str := ["_law_source_here", "_law_form", "_law_points_here", "_law_worth_here", "_law_ends"]
theorem sc_l_low : FnScope n_l_low p_l_low (defScope s_l_low) := ⟨rfl, rfl, rfl, by decide +kernel, rfl, by decide +kernel, by decide +kernel⟩
abbrev n_l_inside : List Str := ["_law_a", "_law_b", "_law_i", "_law_j"]
theorem sc_l_inside : FnScope n_l_inside p_l_inside (defScope s_l_inside) := ⟨rfl, rfl, rfl, by decide +kernel, rfl, by decide +kernel, by decide +kernel⟩
abbrev n_l_same : List Str := ["_law_actual", "_law_due", "_law_k"]
theorem sc_l_same : FnScope n_l_same p_l_same (defScope s_l_same) := ⟨rfl, rfl, rfl, by decide +kernel, rfl, by decide +kernel, by decide +kernel⟩
abbrev n_l_asked : List Str := ["_law_points_here", "_law_at", "_law_form", "_law_lo", "_law_hi", "_law_used", "_law_number", "_law_actual", "_law_point"]
theorem sc_l_asked : FnScope n_l_asked p_l_asked (defScope s_l_asked) := ⟨rfl, rfl, rfl, by decide +kernel, rfl, by decide +kernel, by decide +kernel⟩
abbrev n_law : List Str := ["_law_script", "_law_source_here", "_law_points_here", "_law_part_here", "_law_size", "_law_asked_here", "_law_some", "_law_at", "_law_form", "_law_lo", "_law_hi", "_law_whole", "_law_inner"]
theorem sc_law : FnScope n_law p_law (defScope s_law) := ⟨rfl, rfl, rfl, by decide +kernel, rfl, by decide +kernel, by decide +kernel⟩
/-! ### a list against the empty one -/
def rEqL0 (K : PySem.W.Frag) (neg : Bool) : R2 := fun x y H Q => ∃ (a b : Addr) (xs : List V), x = .ref a ∧ y = .ref b ∧ SqL K H a xs ∧ SqL K H b [] ∧ Q (.bl (if neg then !xs.isEmpty else xs.isEmpty)) H
theorem op_neL0 {X : Cx} (hu : X.A.units < cLine) : OpR X (compareOp .NotEq) (rEqL0 X.K true) := by
  intro pins s σ H x y v u Q I rx ry h
  obtain ⟨a, b, xs, rfl, rfl, ha, hb, q⟩ := h
  obtain rfl : v = Value.ref a := rx
  obtain rfl : u = Value.ref b := ry
  obtain ⟨its, r1, t1, _⟩ := I.list ha
  obtain ⟨its2, r2, t2, _⟩ := I.list hb
  cases r2
  cases r1 with
  | nil => exact SeqAt.RcNeAt.lists (e := fun _ => true) t1.isList t2.isList rfl hu (fun j h1 h2 => absurd h2 (by simp)) _ _ _ _ ⟨.bl _, H, I, rfl, q⟩
  | cons _ _ => exact SeqAt.RcNeAt.lists_lengths t1.isList t2.isList (by simp) hu _ _ _ _ ⟨.bl _, H, I, rfl, q⟩
theorem op_eqL0 {X : Cx} (hu : X.A.units < cLine) : OpR X (compareOp .Eq) (rEqL0 X.K false) := by
  intro pins s σ H x y v u Q I rx ry h
  obtain ⟨a, b, xs, rfl, rfl, ha, hb, q⟩ := h
  obtain rfl : v = Value.ref a := rx
  obtain rfl : u = Value.ref b := ry
  obtain ⟨its, r1, t1, _⟩ := I.list ha
  obtain ⟨its2, r2, t2, _⟩ := I.list hb
  cases r2
  cases r1 with
  | nil => exact SeqAt.eq_listAt (e := fun _ => true) t1.isList t2.isList rfl hu (fun j h1 h2 => absurd h2 (by simp)) ⟨.bl _, H, I, rfl, q⟩
  | cons _ _ => exact SeqAt.eq_list_lengthsAt t1.isList t2.isList (by simp) hu ⟨.bl _, H, I, rfl, q⟩
/-! ### built-in names -/
theorem bt_int : bootBuiltins "int" = some (.type "int") := by decide +kernel
theorem bt_str : bootBuiltins "str" = some (.type "str") := by decide +kernel
theorem bt_bool : bootBuiltins "bool" = some (.type "bool") := by decide +kernel
theorem bt_tuple : bootBuiltins "tuple" = some (.type "tuple") := by decide +kernel
theorem bt_list : bootBuiltins "list" = some (.type "list") := by decide +kernel
theorem bt_dict : bootBuiltins "dict" = some (.type "dict") := by decide +kernel
theorem bb_max : bootBuiltins "max" = some (.builtin "max") := by decide +kernel
theorem bb_min : bootBuiltins "min" = some (.builtin "min") := by decide +kernel
theorem bb_isinstance : bootBuiltins "isinstance" = some (.builtin "isinstance") := by decide +kernel
/-! ### a source of draws: a list of three ints, which draws alone change -/
def Src (H : Hp) (a : Addr) : Prop := ∃ c m k : Int, H a = some (.lst [.int c, .int m, .int k])
/-- a source stands at a, and nothing else that was tracked has changed -/
structure Stp (a : Addr) (H H' : Hp) : Prop where
  s : Src H' a
  k : ∀ b o, b ≠ a → H b = some o → H' b = some o
theorem Stp.refl {a : Addr} {H : Hp} (h : Src H a) : Stp a H H := ⟨h, fun _ _ _ e => e⟩
theorem Stp.trans {a : Addr} {H H1 H2 : Hp} (x : Stp a H H1) (y : Stp a H1 H2) : Stp a H H2 := ⟨y.s, fun b o hb e => y.k b o hb (x.k b o hb e)⟩
theorem Src.ne {a p : Addr} {H : Hp} (h : Src H a) (n : H p = none) : a ≠ p := by
  obtain ⟨c, m, k, h⟩ := h
  exact ne_of_none h n
theorem Stp.free {a p : Addr} {H H' : Hp} (x : Stp a H H') (n : H' p = none) : H p = none := by
  cases q : H p with
  | none => rfl
  | some o =>
    have ne : p ≠ a := fun z => x.s.ne n z.symm
    rw [x.k p o ne q] at n
    cases n
/-- a new object beside the source -/
theorem Stp.new {a p : Addr} {H H' : Hp} {o : HO} (x : Stp a H H') (n : H' p = none) : Stp a H (upd H' p o) := by
  have ne := x.s.ne n
  obtain ⟨c, m, k, h⟩ := x.s
  refine ⟨⟨c, m, k, by rw [upd_ne ne]; exact h⟩, fun b u hb e => ?_⟩
  have e' := x.k b u hb e
  rw [upd_ne (ne_of_none e' n)]
  exact e'
theorem Stp.same {a : Addr} {H H' H2 : Hp} (x : Stp a H H') (s : Same H' H2) : Stp a H H2 := by
  obtain ⟨c, m, k, h⟩ := x.s
  exact ⟨⟨c, m, k, s _ _ h⟩, fun b o hb e => s b o (x.k b o hb e)⟩
theorem Stp.of_same {a : Addr} {H H' : Hp} (h : Src H a) (s : Same H H') : Stp a H H' := (Stp.refl h).same s
theorem Same.new {H : Hp} {p : Addr} (h : H p = none) (o : HO) : Same H (upd H p o) := fun b u q => by rw [upd_ne (ne_of_none q h)]; exact q
/-- a source that is new ahead of its draws: all that was tracked stands -/
theorem Stp.fresh {a : Addr} {H H1 H2 : Hp} (s : Same H H1) (n : H a = none) (x : Stp a H1 H2) : Same H H2 := fun b o e => x.k b o (ne_of_none e n) (s b o e)
theorem Stp.rd {K : PySem.W.Frag} {a p : Addr} {H H' : Hp} {xs : List V} (x : Stp a H H') (h : SqT K H p xs) (hs : Src H a) : SqT K H' p xs := by
  obtain ⟨c, m, k, hs⟩ := hs
  rcases h with (h | ⟨o, h⟩) | h
  · exact .inl (.inl (x.k _ _ (ne_of h hs (by intro z; cases z)) h))
  · exact .inl (.inr ⟨o, x.k _ _ (ne_of h hs (by intro z; cases z)) h⟩)
  · exact .inr h
theorem Stp.rdL {K : PySem.W.Frag} {a p : Addr} {H H' : Hp} {xs : List V} (x : Stp a H H') (h : SqL K H p xs) (ne : p ≠ a) : SqL K H' p xs := by
  rcases h with (h | ⟨o, h⟩) | h
  · exact .inl (.inl (x.k _ _ ne h))
  · exact .inl (.inr ⟨o, x.k _ _ ne h⟩)
  · exact .inr h
theorem Same.tup {K : PySem.W.Frag} {p : Addr} {H H' : Hp} {xs : List V} (x : Same H H') (h : SqT K H p xs) : SqT K H' p xs := by
  rcases h with (h | ⟨o, h⟩) | h
  · exact .inl (.inl (x _ _ h))
  · exact .inl (.inr ⟨o, x _ _ h⟩)
  · exact .inr h
/-! ### numbers -/
theorem ifT {c : Bool} {A B : Prop} (h : c = true) (a : A) : if c = true then A else B := by rw [if_pos h]; exact a
theorem ifF {c : Bool} {A B : Prop} (h : c = false) (b : B) : if c = true then A else B := by rw [h]; exact iteF b
theorem fmod_bd {x m : Int} (h : 0 < m) : 0 ≤ x.fmod m ∧ x.fmod m < m := ⟨Int.fmod_nonneg_of_pos x h, Int.fmod_lt_of_pos x h⟩
theorem fm64 {x m : Int} (h : 0 < m) (h2 : m ≤ 2 ^ 64) : -(2 ^ 64) < x.fmod m ∧ x.fmod m < 2 ^ 64 :=
  ⟨Int.lt_of_lt_of_le (by decide) (fmod_bd h).1, Int.lt_of_lt_of_le (fmod_bd h).2 h2⟩
theorem atI_int {α : Type} {xs : List α} {r : Int} (h0 : 0 ≤ r) (h : r.toNat < xs.length) : atI xs r = some xs[r.toNat] := by
  have e := atI_nat (xs := xs) (j := r.toNat) (List.getElem?_eq_getElem h)
  rwa [Int.toNat_of_nonneg h0] at e
/-! ### the promises of the draws -/
def spCell (K : PySem.W.Frag) : Sp := fun vs H Q _ => ∃ (l : Addr) (ns : List Int) (j : Int), vs = [.ref l, .int j] ∧ SqL K H l (ns.map V.int) ∧ 0 ≤ j ∧ ∀ i : Int, Q (.int i) H
def spSource : Sp := fun vs H Q _ => ∃ c : Int, vs = [.int c] ∧ ∀ p H', H p = none → Same H H' → Src H' p → Q (.ref p) H'
def spPick : Sp := fun vs H Q _ => ∃ (a : Addr) (n : Int), vs = [.ref a, .int n] ∧ Src H a ∧ n < 1073741824 ∧ ∀ (r : Int) (H' : Hp), Stp a H H' → 0 ≤ r → (r < n ∨ r = 0) → Q (.int r) H'
def spOne (K : PySem.W.Frag) : Sp := fun vs H Q _ => ∃ (a : Addr) (row : V), vs = [.ref a, row] ∧ Src H a ∧
  ((∃ (p : Addr) (xs : List V), row = .ref p ∧ p ≠ a ∧ SqL K H p xs ∧ 0 < xs.length ∧ xs.length < 1000 ∧ ∀ v H', v ∈ xs → Stp a H H' → Q v H') ∨
   (∃ z : Str, row = .str z ∧ 0 < z.length ∧ z.length < 1000 ∧ ∀ (c : Nat) H', c ∈ z.cps.toList → Stp a H H' → Q (.str ⟨#[c]⟩) H'))
section
variable {P : Program} {w : World} {K : PySem.W.Frag} {mg : Str → Option Value} {base : Heap}
theorem ok_l_cell (T : Txt w K mg) : FnOk P w K mg base CX0 1 T.a_l_cell T.d_l_cell p_l_cell (spCell K) := by
  refine T.F_l_cell.ok sc_l_cell (fun vs H Q E h => ?_) (fun cdv A outer s H vs Q E hr h => ?_)
  · obtain ⟨l, ns, j, rfl, _⟩ := h
    rfl
  obtain ⟨l, ns, j, rfl, hS, h0, q⟩ := h
  refine ⟨_, (pss_cons (ps_if (pt_cmpR op_lt (pv 1) (pe_callB call_len_seq rfl T.z_len PySem.boot_len (pa_cons (pv 0) pa_nil)) (nomark _)) (pss_one (ps_ret (pe_ix ix_list (pv 0) (pv 1) (fun _ _ => rfl)))) pss_nil)
      (pss_one (ps_ret pe_int))), ?_⟩
  have hl : (ns.map V.int).length = ns.length := List.length_map _
  refine ⟨_, rfl, _, rfl, l, _, rfl, .inl hS, _, _, rfl, rfl, _, rfl, ?_⟩
  refine ite2 (fun c => ?_) (fun c => ?_)
  · have c' : j < (((ns.map V.int).length : Nat) : Int) := of_decide_eq_true c
    rw [hl] at c'
    have hk : j.toNat < ns.length := by omega
    have e := atI_int (xs := ns.map V.int) h0 (by omega)
    rw [List.getElem_map] at e
    exact ⟨_, rfl, _, rfl, l, _, _, _, rfl, rfl, hS, e, q _⟩
  · exact q 0
theorem ok_l_source (T : Txt w K mg) : FnOk P w K mg base CX0 1 T.a_l_source T.d_l_source p_l_source spSource := by
  refine T.F_l_source.ok sc_l_source (fun vs H Q E h => ?_) (fun cdv A outer s H vs Q E hr h => ?_)
  · obtain ⟨c, rfl, _⟩ := h
    rfl
  obtain ⟨c, rfl, q⟩ := h
  refine ⟨_, (pss_one (ps_ret (pe_lst (pa_cons (pv 0) (pa_cons (pv 0) (pa_cons pe_int pa_nil)))))), ?_⟩
  refine ⟨_, rfl, _, rfl, (by show 3 ≤ sizeLine; decide), fun p hp => ?_⟩
  exact q p _ hp (Same.new hp _) ⟨c, c, 0, upd_same⟩
theorem ok_l_pick (T : Txt w K mg) : FnOk P w K mg base CX0 1 T.a_l_pick T.d_l_pick p_l_pick spPick := by
  refine T.F_l_pick.ok sc_l_pick (fun vs H Q E h => ?_) (fun cdv A outer s H vs Q E hr h => ?_)
  · obtain ⟨a, n, rfl, _⟩ := h
    rfl
  obtain ⟨a, n, rfl, ⟨c, m, k, hS⟩, hn, q⟩ := h
  refine ⟨_, (pss_cons (ps_set (i := 2) sc_l_pick.nd rfl (Or.inl rfl) (pe_ix ix_list (pv 0) pe_int (fun _ _ => rfl)))
      (pss_cons (ps_asg (pe_op op_add (pv 2) pe_int) (pg_sub (pv 0) pe_int set_list))
      (pss_cons (ps_if (pt_cmpR op_lt (pv 1) pe_int (nomark _)) (pss_one (ps_ret pe_int)) pss_nil)
      (pss_cons (ps_if (PW.pt (pw_and (pt_cmpR op_ge (pe_ix ix_list (pv 0) pe_int (fun _ _ => rfl)) (pe_op op_pow pe_int pe_int) (nomark _)) (pw_and1 (pt_cmpR op_gt (pe_ix ix_list (pv 0) pe_int (fun _ _ => rfl)) pe_int (nomark _))))) (pss_cons (ps_set (i := 3) sc_l_pick.nd rfl (Or.inl rfl) (pe_op op_modN (pe_callTy call_int1 rfl T.z_int bt_int (pa_cons (pe_ix ix_list (pv 0) pe_int (fun _ _ => rfl)) pa_nil)) (pv 1)))
      (pss_cons (ps_asg (pe_op op_fdivN (pe_ix ix_list (pv 0) pe_int (fun _ _ => rfl)) (pv 1)) (pg_sub (pv 0) pe_int set_list))
      (pss_one (ps_ret (pv 3))))) pss_nil)
      (pss_cons (ps_set (i := 4) sc_l_pick.nd rfl (Or.inl rfl) (pe_op op_modN (pe_callTy call_int1 rfl T.z_int bt_int (pa_cons (pe_op op_add (pe_op op_add (pe_ix ix_list (pv 0) pe_int (fun _ _ => rfl)) (pe_op op_mul pe_int (pv 2))) pe_int) pa_nil)) pe_int))
      (pss_cons (ps_set (i := 4) sc_l_pick.nd rfl (Or.inl rfl) (pe_op op_modN (pe_callTy call_int1 rfl T.z_int bt_int (pa_cons (pe_op op_mul (pv 4) (pe_op op_add (pv 4) pe_int)) pa_nil)) pe_int))
      (pss_cons (ps_set (i := 4) sc_l_pick.nd rfl (Or.inl rfl) (pe_op op_modN (pe_callTy call_int1 rfl T.z_int bt_int (pa_cons (pe_op op_add (pe_op op_mul (pv 4) (pe_op op_add (pv 4) pe_int)) (pe_op op_mul pe_int (pv 2))) pa_nil)) pe_int))
      (pss_one (ps_ret (pe_op op_modN (pe_callTy call_int1 rfl T.z_int bt_int (pa_cons (pe_op op_fdivN (pv 4) pe_int) pa_nil)) (pv 1))))))))))), ?_⟩
  refine ⟨_, rfl, a, _, 2, _, rfl, rfl, SqL.of hS, rfl, ?_⟩
  refine ⟨_, rfl, k, 1, rfl, rfl, _, rfl, a, _, 2, 2, rfl, rfl, hS, rfl, ?_⟩
  have h1 : (upd H a (.lst [.int c, .int m, .int (k + 1)])) a = some (.lst [.int c, .int m, .int (k + 1)]) := upd_same
  have st : Stp a H (upd H a (.lst [.int c, .int m, .int (k + 1)])) := ⟨⟨c, m, k + 1, upd_same⟩, fun b o hb e => by rw [upd_ne hb]; exact e⟩
  refine ⟨_, rfl, n, 2, rfl, rfl, _, rfl, ?_⟩
  refine ite2 (fun _ => ?_) (fun c2 => ?_)
  · exact q 0 _ st (Int.le_refl 0) (.inr rfl)
  have hn2 : ¬ n < 2 := of_decide_eq_false (Bool.eq_false_iff.mpr c2)
  refine ⟨_, rfl, a, _, 0, _, rfl, rfl, SqL.of h1, rfl, 10, 18, rfl, rfl, ⟨by decide, by decide, by decide⟩, _, _, rfl, rfl, _, rfl, ?_⟩
  refine ite2 (fun _ => ⟨_, rfl, a, _, 1, _, rfl, rfl, SqL.of h1, rfl, _, _, rfl, rfl, _, rfl, ite2 (fun _ => ?first) (fun _ => ?second)⟩) (fun _ => iteF ?third)
  case first =>
    refine ⟨_, rfl, a, _, 1, _, rfl, rfl, SqL.of h1, rfl, .inl ⟨_, rfl, ?_⟩⟩
    refine ⟨_, rfl, _, _, rfl, rfl, by omega, ?_⟩
    refine ⟨_, rfl, a, _, 1, _, rfl, rfl, SqL.of h1, rfl, _, rfl, m, n, rfl, rfl, ⟨by omega, by omega⟩, _, rfl, a, _, 1, 1, rfl, rfl, h1, rfl, ?_⟩
    refine ⟨_, rfl, ?_⟩
    have b := fmod_bd (x := m) (m := n) (by omega)
    refine q _ _ ⟨⟨c, m.fdiv n, k + 1, upd_same⟩, fun b o hb e => ?_⟩ b.1 (.inl b.2)
    rw [upd_ne hb]
    exact st.k b o hb e
  all_goals
    refine ⟨_, rfl, a, _, 0, _, rfl, rfl, SqL.of h1, rfl, _, rfl, 7919, k, rfl, rfl, .inl ⟨by decide, by decide⟩, _, _, rfl, rfl, _, _, rfl, rfl, .inl ⟨_, rfl, ?_⟩⟩
    refine ⟨_, _, rfl, rfl, (by intro z; cases z), ?_⟩
    refine ⟨_, rfl, _, rfl, _, _, rfl, rfl, _, _, rfl, rfl, .inl (fm64 (by decide) (by decide)), .inl ⟨_, rfl, ?_⟩⟩
    refine ⟨_, _, rfl, rfl, (by intro z; cases z), ?_⟩
    refine ⟨_, rfl, _, rfl, _, _, rfl, rfl, _, _, rfl, rfl, .inl (fm64 (by decide) (by decide)), _, rfl, 31, k, rfl, rfl, .inl ⟨by decide, by decide⟩, _, _, rfl, rfl, .inl ⟨_, rfl, ?_⟩⟩
    refine ⟨_, _, rfl, rfl, (by intro z; cases z), ?_⟩
    refine ⟨_, rfl, _, _, rfl, rfl, ⟨by decide, by decide⟩, .inl ⟨_, rfl, ?_⟩⟩
    refine ⟨_, rfl, _, _, rfl, rfl, (by omega), ?_⟩
    exact q _ _ st (fmod_bd (by omega)).1 (.inl (fmod_bd (by omega)).2)
theorem ok_l_one (T : Txt w K mg) : FnOk P w K mg base CX0 2 T.a_l_one T.d_l_one p_l_one (spOne K) := by
  have g_l_pick := ok_l_pick (P := P) (w := w) (base := base) T
  refine T.F_l_one.ok sc_l_one (fun vs H Q E h => ?_) (fun cdv A outer s H vs Q E hr h => ?_)
  · obtain ⟨a, row, rfl, _⟩ := h
    rfl
  obtain ⟨a, row, rfl, hS, h⟩ := h
  refine ⟨_, (pss_one (ps_ret (pe_ix ix_seq (pv 1) (pe_call g_l_pick (hr.mono (by first | decide | omega)) rfl T.m_l_pick T.F_l_pick.kp T.b_l_pick .nil pass0 (pa_cons (pv 0) (pa_cons (pe_callB call_len rfl T.z_len PySem.boot_len (pa_cons (pv 1) pa_nil)) pa_nil))) (fun _ _ => rfl)))), ?_⟩
  rcases h with ⟨p, xs, rfl, ne, hx, h0, h9, q⟩ | ⟨z, rfl, h0, h9, q⟩
  · refine ⟨_, rfl, _, rfl, _, rfl, .ref p, xs.length, rfl, .inl ⟨_, hx, rfl⟩, ?_⟩
    refine ⟨a, _, rfl, hS, by omega, fun r H' st r0 r1 => ?_⟩
    have hr' : r.toNat < xs.length := by omega
    have e := atI_int (xs := xs) r0 hr'
    exact .inl ⟨p, xs, r, _, rfl, rfl, st.rdL hx ne, e, q _ _ (List.getElem_mem hr') st⟩
  · refine ⟨_, rfl, _, rfl, _, rfl, .str z, z.length, rfl, ⟨Nat.le_of_lt (small1000 (by omega)), rfl⟩, ?_⟩
    refine ⟨a, _, rfl, hS, by omega, fun r H' st r0 r1 => ?_⟩
    have ez : z.length = z.cps.toList.length := by simp [Str.length]
    have hr' : r.toNat < z.cps.toList.length := by omega
    have e := atI_int (xs := z.cps.toList) r0 hr'
    exact .inr (.inr ⟨z, r, _, rfl, rfl, Nat.le_of_lt (small1000 (by omega)), e, q _ _ (List.getElem_mem hr') st⟩)
end
/-! ### data: equal data are the same to _law_same -/
def Dok : Nat → PyData → Prop
  | 0, _ => False
  | _ + 1, .none => True
  | _ + 1, .bool _ => True
  | _ + 1, .int _ => True
  | _ + 1, .str _ => True
  | n + 1, .tuple ds => ds.length ≤ 100000 ∧ ∀ d ∈ ds, Dok n d
  | n + 1, .list ds => ds.length ≤ 100000 ∧ ∀ d ∈ ds, Dok n d
  | _ + 1, .dict _ => False
theorem dpAll_len {K : PySem.W.Frag} {H : Hp} : ∀ {vs : List V} {ds : List PyData}, DpAll K H vs ds → vs.length = ds.length
  | _, _, .nil => rfl
  | _, _, .cons _ r => congrArg (· + 1) (dpAll_len r)
theorem dpAll_get {K : PySem.W.Frag} {H : Hp} : ∀ {vs : List V} {ds : List PyData} {i : Nat} {d : PyData}, DpAll K H vs ds → ds[i]? = some d → ∃ v, vs[i]? = some v ∧ Dp K H v d
  | _, _, _, _, .nil, e => by simp at e
  | _, _, 0, d, .cons h _, e => by
    simp at e
    subst e
    exact ⟨_, rfl, h⟩
  | _, _, i + 1, d, .cons _ r, e => by
    obtain ⟨v, h1, h2⟩ := dpAll_get (i := i) r (by simpa using e)
    exact ⟨v, by simpa using h1, h2⟩
theorem tyL {K : PySem.W.Frag} {H : Hp} {a : Addr} {xs : List V} (h : SqL K H a xs) : TyX K H (.ref a) (.type "list") := by
  rcases h with (h | ⟨o, h⟩) | ⟨o, its, n, h, c, _⟩
  · exact .base (.lst h)
  · exact .base (.frz h)
  · exact .kList h c
theorem tyT {K : PySem.W.Frag} {H : Hp} {a : Addr} {xs : List V} (h : SqT K H a xs) : TyX K H (.ref a) (.type "tuple") := by
  rcases h with (h | ⟨o, h⟩) | ⟨o, its, n, h, c, _⟩
  · exact .base (.tup h)
  · exact .fTuple h
  · exact .kTuple h c
theorem isi {K : PySem.W.Frag} {H : Hp} {Q : VK} {x : V} {t c : String} (b : Bool) (ty : TyX K H x (.type t)) (kb : kitB t c = some b) (q : Q (.bl b) H) : rIsi K [x, .ty c] H Q := ⟨x, .ty c, _, _, b, rfl, .ty c, ty, kit_ty kb, q⟩
theorem kb_nt : kitB "NoneType" "tuple" = some false := by decide +kernel
theorem kb_nl : kitB "NoneType" "list" = some false := by decide +kernel
theorem kb_bt : kitB "bool" "tuple" = some false := by decide +kernel
theorem kb_bl : kitB "bool" "list" = some false := by decide +kernel
theorem kb_bb : kitB "bool" "bool" = some true := by decide +kernel
theorem kb_it : kitB "int" "tuple" = some false := by decide +kernel
theorem kb_il : kitB "int" "list" = some false := by decide +kernel
theorem kb_ib : kitB "int" "bool" = some false := by decide +kernel
theorem kb_ii : kitB "int" "int" = some true := by decide +kernel
theorem kb_st : kitB "str" "tuple" = some false := by decide +kernel
theorem kb_sl : kitB "str" "list" = some false := by decide +kernel
theorem kb_sb : kitB "str" "bool" = some false := by decide +kernel
theorem kb_si : kitB "str" "int" = some false := by decide +kernel
theorem kb_ss : kitB "str" "str" = some true := by decide +kernel
theorem kb_tt : kitB "tuple" "tuple" = some true := by decide +kernel
theorem kb_tl : kitB "tuple" "list" = some false := by decide +kernel
theorem kb_lt : kitB "list" "tuple" = some false := by decide +kernel
theorem kb_ll : kitB "list" "list" = some true := by decide +kernel
def spSame (K : PySem.W.Frag) (n : Nat) : Sp := fun vs H Q _ => ∃ (x y : V) (d : PyData), vs = [x, y] ∧ Dp K H x d ∧ Dp K H y d ∧ Dok n d ∧ Q (.bl true) H
section
variable {P : Program} {w : World} {K : PySem.W.Frag} {mg : Str → Option Value} {base : Heap}
theorem ok_l_same0 (T : Txt w K mg) : FnOk P w K mg base CX0 0 T.a_l_same T.d_l_same p_l_same (spSame K 0) := by
  have no : ∀ vs H Q E, ¬ spSame K 0 vs H Q E := fun vs H Q E h => by
    obtain ⟨x, y, d, _, _, _, h, _⟩ := h
    exact h
  exact ⟨fun vs H Q E h => absurd h (no vs H Q E), fun A outer s H args us vs Q E _ _ _ _ h => absurd h (no vs H Q E)⟩
/-- the part for two lists or two tuples -/
theorem same_seq {n : Nat} {H : Hp} {p r : Addr} {xs ys : List V} {ds : List PyData} (h1 : SqL K H p xs ∨ SqT K H p xs) (h2 : SqL K H r ys ∨ SqT K H r ys) (d1 : DpAll K H xs ds) (d2 : DpAll K H ys ds)
    (hd : ∀ d ∈ ds, Dok n d) {i : Nat} (hi : i < ds.length) {R : V → Hp → Prop} (q : R (.bl true) H) :
    tCall (spSame K n) [] E0 (tCons (tOp (rIx K) (tVar 0) (tVar 2)) (tCons (tOp (rIx K) (tVar 1) (tVar 2)) tNil)) [some (.ref p), some (.ref r), some (.int (0 + (i : Int)))] H R := by
  obtain ⟨x, e1, q1⟩ := dpAll_get (i := i) d1 (List.getElem?_eq_getElem hi)
  obtain ⟨y, e2, q2⟩ := dpAll_get (i := i) d2 (List.getElem?_eq_getElem hi)
  have a1 : atI xs (0 + (i : Int)) = some x := by rw [Int.zero_add]; exact atI_nat e1
  have a2 : atI ys (0 + (i : Int)) = some y := by rw [Int.zero_add]; exact atI_nat e2
  have k2 : tOp (rIx K) (tVar 1) (tVar 2) [some (.ref p), some (.ref r), some (.int (0 + (i : Int)))] H (fun v H' => tNil [some (.ref p), some (.ref r), some (.int (0 + (i : Int)))] H' fun vs H'' => spSame K n ((x :: v :: vs) ++ []) H'' R E0) := by
    refine ⟨_, rfl, _, rfl, ?_⟩
    have z : spSame K n [x, y] H R E0 := ⟨x, y, _, rfl, q1, q2, hd _ (List.getElem_mem hi), q⟩
    rcases h2 with h2 | h2
    · exact .inl ⟨r, _, _, _, rfl, rfl, h2, a2, z⟩
    · exact .inr (.inl ⟨r, _, _, _, rfl, rfl, h2, a2, z⟩)
  refine ⟨_, rfl, _, rfl, ?_⟩
  rcases h1 with h1 | h1
  · exact .inl ⟨p, _, _, _, rfl, rfl, h1, a1, k2⟩
  · exact .inr (.inl ⟨p, _, _, _, rfl, rfl, h1, a1, k2⟩)
theorem ok_l_same (T : Txt w K mg) : ∀ n : Nat, FnOk P w K mg base CX0 n T.a_l_same T.d_l_same p_l_same (spSame K n)
  | 0 => ok_l_same0 T
  | n + 1 => by
    have g_l_same := ok_l_same T n
    refine T.F_l_same.ok sc_l_same (fun vs H Q E h => ?_) (fun cdv A outer s H vs Q E hr h => ?_)
    · obtain ⟨x, y, d, rfl, _⟩ := h
      rfl
    obtain ⟨x, y, d, rfl, hx, hy, hd, q⟩ := h
    refine ⟨_, (pss_cons (ps_if (PW.pt (pw_or (pt_val (pe_callB call_isi rfl T.z_isinstance bb_isinstance (pa_cons (pv 1) (pa_cons (pe_bltn (v := .ty "tuple") rfl T.z_tuple bt_tuple rfl) pa_nil)))) (pw_or1 (pt_val (pe_callB call_isi rfl T.z_isinstance bb_isinstance (pa_cons (pv 1) (pa_cons (pe_bltn (v := .ty "list") rfl T.z_list bt_list rfl) pa_nil))))))) (pss_cons (ps_if (PW.pt (pw_or (pt_cmpR op_ne (pe_callB call_isi rfl T.z_isinstance bb_isinstance (pa_cons (pv 1) (pa_cons (pe_bltn (v := .ty "tuple") rfl T.z_tuple bt_tuple rfl) pa_nil))) (pe_callB call_isi rfl T.z_isinstance bb_isinstance (pa_cons (pv 0) (pa_cons (pe_bltn (v := .ty "tuple") rfl T.z_tuple bt_tuple rfl) pa_nil))) (nomark _)) (pw_or1 (pt_cmpR op_ne (pe_callB call_isi rfl T.z_isinstance bb_isinstance (pa_cons (pv 1) (pa_cons (pe_bltn (v := .ty "list") rfl T.z_list bt_list rfl) pa_nil))) (pe_callB call_isi rfl T.z_isinstance bb_isinstance (pa_cons (pv 0) (pa_cons (pe_bltn (v := .ty "list") rfl T.z_list bt_list rfl) pa_nil))) (nomark _))))) (pss_one (ps_ret pe_bl)) pss_nil)
      (pss_cons (ps_if (pt_cmpR op_ne (pe_callB call_len_seq rfl T.z_len PySem.boot_len (pa_cons (pv 0) pa_nil)) (pe_callB call_len_seq rfl T.z_len PySem.boot_len (pa_cons (pv 1) pa_nil)) (nomark _)) (pss_one (ps_ret pe_bl)) pss_nil)
      (pss_cons (ps_for PassesOwn.never rfl (pi_range1 rfl T.z_range (pa_cons (pe_callB call_len_seq rfl T.z_len PySem.boot_len (pa_cons (pv 1) pa_nil)) pa_nil)) (pg_name (i := 2) sc_l_same.nd rfl (Or.inl rfl))
        (pss_one (ps_if (pt_not (pt_val (pe_call g_l_same (hr.mono (by first | decide | omega)) rfl T.m_l_same T.F_l_same.kp T.b_l_same .nil pass0 (pa_cons (pe_ix ix_seq (pv 0) (pv 2) (fun _ _ => rfl)) (pa_cons (pe_ix ix_seq (pv 1) (pv 2) (fun _ _ => rfl)) pa_nil))))) (pss_one (ps_ret pe_bl)) pss_nil)))
      (pss_one (ps_ret pe_bl))))) pss_nil)
      (pss_cons (ps_if (pt_cmpR op_isN (pv 1) pe_non (nomark _)) (pss_one (ps_ret (pe_cmpR op_isN (pv 0) pe_non (nomark _)))) pss_nil)
      (pss_cons (ps_if (pt_val (pe_callB call_isi rfl T.z_isinstance bb_isinstance (pa_cons (pv 1) (pa_cons (pe_bltn (v := .ty "bool") rfl T.z_bool bt_bool rfl) pa_nil)))) (pss_one (ps_ret (pe_and (pe_callB call_isi rfl T.z_isinstance bb_isinstance (pa_cons (pv 0) (pa_cons (pe_bltn (v := .ty "bool") rfl T.z_bool bt_bool rfl) pa_nil))) (pe_one (pe_cmpR op_eq (pv 0) (pv 1) (nomark _)))))) pss_nil)
      (pss_cons (ps_if (pt_val (pe_callB call_isi rfl T.z_isinstance bb_isinstance (pa_cons (pv 1) (pa_cons (pe_bltn (v := .ty "int") rfl T.z_int bt_int rfl) pa_nil)))) (pss_one (ps_ret (pe_and (pe_callB call_isi rfl T.z_isinstance bb_isinstance (pa_cons (pv 0) (pa_cons (pe_bltn (v := .ty "int") rfl T.z_int bt_int rfl) pa_nil))) (pe_and (pe_not (pe_callB call_isi rfl T.z_isinstance bb_isinstance (pa_cons (pv 0) (pa_cons (pe_bltn (v := .ty "bool") rfl T.z_bool bt_bool rfl) pa_nil)))) (pe_one (pe_cmpR op_eq (pv 0) (pv 1) (nomark _))))))) pss_nil)
      (pss_one (ps_ret (pe_and (pe_callB call_isi rfl T.z_isinstance bb_isinstance (pa_cons (pv 0) (pa_cons (pe_bltn (v := .ty "str") rfl T.z_str bt_str rfl) pa_nil))) (pe_one (pe_cmpR op_eq (pv 0) (pv 1) (nomark _)))))))))), ?_⟩
    cases hx with
    | non =>
      cases hy
      refine ⟨_, rfl, _, _, _, _, false, rfl, .ty _, (.base .non), kit_ty kb_nt, ⟨_, rfl, iteF ⟨_, rfl, _, _, _, _, false, rfl, .ty _, (.base .non), kit_ty kb_nl, ⟨_, rfl, iteF ?_⟩⟩⟩⟩
      refine ⟨_, rfl, rfl, _, rfl, iteT ?_⟩
      exact ⟨_, rfl, rfl, q⟩
    | bl b =>
      cases hy
      refine ⟨_, rfl, _, _, _, _, false, rfl, .ty _, (.base (.bl _)), kit_ty kb_bt, ⟨_, rfl, iteF ⟨_, rfl, _, _, _, _, false, rfl, .ty _, (.base (.bl _)), kit_ty kb_bl, ⟨_, rfl, iteF ?_⟩⟩⟩⟩
      refine ⟨_, rfl, rfl, _, rfl, iteF ?_⟩
      refine ⟨_, rfl, _, _, _, _, true, rfl, .ty _, (.base (.bl _)), kit_ty kb_bb, ⟨_, rfl, iteT ?_⟩⟩
      refine ⟨_, rfl, _, _, _, _, true, rfl, .ty _, (.base (.bl _)), kit_ty kb_bb, ⟨_, rfl, iteT ?_⟩⟩
      refine ⟨_, rfl, _, rfl, rfl, ?_⟩
      rw [decide_eq_true rfl]
      exact q
    | int b =>
      cases hy
      refine ⟨_, rfl, _, _, _, _, false, rfl, .ty _, (.base (.int _)), kit_ty kb_it, ⟨_, rfl, iteF ⟨_, rfl, _, _, _, _, false, rfl, .ty _, (.base (.int _)), kit_ty kb_il, ⟨_, rfl, iteF ?_⟩⟩⟩⟩
      refine ⟨_, rfl, rfl, _, rfl, iteF ?_⟩
      refine ⟨_, rfl, _, _, _, _, false, rfl, .ty _, (.base (.int _)), kit_ty kb_ib, ⟨_, rfl, iteF ?_⟩⟩
      refine ⟨_, rfl, _, _, _, _, true, rfl, .ty _, (.base (.int _)), kit_ty kb_ii, ⟨_, rfl, iteT ?_⟩⟩
      refine ⟨_, rfl, _, _, _, _, true, rfl, .ty _, (.base (.int _)), kit_ty kb_ii, ⟨_, rfl, iteT ?_⟩⟩
      refine ⟨_, rfl, _, _, _, _, false, rfl, .ty _, (.base (.int _)), kit_ty kb_ib, ⟨_, rfl, _, rfl, iteT ?_⟩⟩
      refine ⟨_, rfl, _, rfl, rfl, ?_⟩
      rw [decide_eq_true rfl]
      exact q
    | str b =>
      cases hy
      refine ⟨_, rfl, _, _, _, _, false, rfl, .ty _, (.base (.str _)), kit_ty kb_st, ⟨_, rfl, iteF ⟨_, rfl, _, _, _, _, false, rfl, .ty _, (.base (.str _)), kit_ty kb_sl, ⟨_, rfl, iteF ?_⟩⟩⟩⟩
      refine ⟨_, rfl, rfl, _, rfl, iteF ?_⟩
      refine ⟨_, rfl, _, _, _, _, false, rfl, .ty _, (.base (.str _)), kit_ty kb_sb, ⟨_, rfl, iteF ?_⟩⟩
      refine ⟨_, rfl, _, _, _, _, false, rfl, .ty _, (.base (.str _)), kit_ty kb_si, ⟨_, rfl, iteF ?_⟩⟩
      refine ⟨_, rfl, _, _, _, _, true, rfl, .ty _, (.base (.str _)), kit_ty kb_ss, ⟨_, rfl, iteT ?_⟩⟩
      refine ⟨_, rfl, _, rfl, rfl, ?_⟩
      rw [decide_eq_true rfl]
      exact q
    | @lst p xs ds h1 d1 =>
      cases hy with
      | @lst r ys _ h2 d2 =>
      have l1 := dpAll_len d1
      have l2 := dpAll_len d2
      obtain ⟨hlen, hd⟩ := hd
      refine ⟨_, rfl, _, _, _, _, false, rfl, .ty _, (tyL h2), kit_ty kb_lt, ⟨_, rfl, iteF ⟨_, rfl, _, _, _, _, true, rfl, .ty _, (tyL h2), kit_ty kb_ll, ⟨_, rfl, iteT ?_⟩⟩⟩⟩
      refine ⟨_, rfl, _, _, _, _, false, rfl, .ty _, (tyL h2), kit_ty kb_lt, ⟨_, rfl, _, _, _, _, false, rfl, .ty _, (tyL h1), kit_ty kb_lt, ⟨rfl, _, rfl, iteF ?_⟩⟩⟩
      refine ⟨_, rfl, _, _, _, _, true, rfl, .ty _, (tyL h2), kit_ty kb_ll, ⟨_, rfl, _, _, _, _, true, rfl, .ty _, (tyL h1), kit_ty kb_ll, ⟨rfl, _, rfl, iteF ?_⟩⟩⟩
      refine ⟨_, rfl, p, _, rfl, .inl h1, _, rfl, r, _, rfl, .inl h2, rfl, _, rfl, ?_⟩
      refine iteNS (congrArg V.int (by omega)) ?_
      refine ⟨_, rfl, r, _, rfl, .inl h2, _, rfl, by omega, by omega, for_range (lo := 0) (fun i σ H' => H' = H ∧ ∃ v : Option V, σ = [some (.ref p), some (.ref r), v]) ⟨rfl, none, rfl⟩ ?_ ?_⟩
      · rintro i σ H' hi ⟨rfl, v, rfl⟩
        refine same_seq (.inl h1) (.inl h2) d1 d2 hd (by omega) ⟨_, rfl, iteF ?_⟩
        exact ⟨rfl, _, rfl⟩
      · rintro σ H' ⟨rfl, v, rfl⟩
        exact q
    | @tup p xs ds h1 d1 =>
      cases hy with
      | @tup r ys _ h2 d2 =>
      have l1 := dpAll_len d1
      have l2 := dpAll_len d2
      obtain ⟨hlen, hd⟩ := hd
      refine ⟨_, rfl, _, _, _, _, true, rfl, .ty _, (tyT h2), kit_ty kb_tt, ⟨_, rfl, iteT ?_⟩⟩
      refine ⟨_, rfl, _, _, _, _, true, rfl, .ty _, (tyT h2), kit_ty kb_tt, ⟨_, rfl, _, _, _, _, true, rfl, .ty _, (tyT h1), kit_ty kb_tt, ⟨rfl, _, rfl, iteF ?_⟩⟩⟩
      refine ⟨_, rfl, _, _, _, _, false, rfl, .ty _, (tyT h2), kit_ty kb_tl, ⟨_, rfl, _, _, _, _, false, rfl, .ty _, (tyT h1), kit_ty kb_tl, ⟨rfl, _, rfl, iteF ?_⟩⟩⟩
      refine ⟨_, rfl, p, _, rfl, .inr h1, _, rfl, r, _, rfl, .inr h2, rfl, _, rfl, ?_⟩
      refine iteNS (congrArg V.int (by omega)) ?_
      refine ⟨_, rfl, r, _, rfl, .inr h2, _, rfl, by omega, by omega, for_range (lo := 0) (fun i σ H' => H' = H ∧ ∃ v : Option V, σ = [some (.ref p), some (.ref r), v]) ⟨rfl, none, rfl⟩ ?_ ?_⟩
      · rintro i σ H' hi ⟨rfl, v, rfl⟩
        refine same_seq (.inr h1) (.inr h2) d1 d2 hd (by omega) ⟨_, rfl, iteF ?_⟩
        exact ⟨rfl, _, rfl⟩
      · rintro σ H' ⟨rfl, v, rfl⟩
        exact q
end
/-! ### rows and matrices of whole numbers -/
open ZG (Sq ItzG walk_zipG)
theorem Sq.same {K : PySem.W.Frag} {t : Bool} {p : Addr} {H H' : Hp} {xs : List V} (s : Same H H') (h : Sq t K H p xs) : Sq t K H' p xs := by
  cases t
  · exact s.seq h
  · exact Same.tup s h
theorem Sq.upd_same {K : PySem.W.Frag} {p : Addr} {H : Hp} {xs : List V} : Sq false K (upd H p (.lst xs)) p xs := SqL.of L2.upd_same
theorem Sq.upd_sameT {K : PySem.W.Frag} {p : Addr} {H : Hp} {xs : List V} : Sq true K (upd H p (.tup xs)) p xs := SqT.of L2.upd_same
/-- what stood stands but at D -/
def But (D : Addr) (H H' : Hp) : Prop := ∀ b o, b ≠ D → H b = some o → H' b = some o
theorem But.of_same {D : Addr} {H H' : Hp} (s : Same H H') : But D H H' := fun b o _ e => s b o e
theorem But.upd {D : Addr} {H : Hp} (o : HO) : But D H (upd H D o) := fun b u ne e => by rw [upd_ne ne]; exact e
theorem But.trans {D : Addr} {H H1 H2 : Hp} (a : But D H H1) (b : But D H1 H2) : But D H H2 := fun c o ne e => b c o ne (a c o ne e)
theorem Sq.but {K : PySem.W.Frag} {t : Bool} {p D : Addr} {H H' : Hp} {xs : List V} (s : But D H H') (ne : p ≠ D) (h : Sq t K H p xs) : Sq t K H' p xs := by
  cases t
  · rcases h with (h | ⟨o, h⟩) | h
    · exact .inl (.inl (s _ _ ne h))
    · exact .inl (.inr ⟨o, s _ _ ne h⟩)
    · exact .inr h
  · rcases h with (h | ⟨o, h⟩) | h
    · exact .inl (.inl (s _ _ ne h))
    · exact .inl (.inr ⟨o, s _ _ ne h⟩)
    · exact .inr h
/-- a matrix at p: rows of kind t2 in a row of kind t1 -/
def Mx (t1 t2 : Bool) (K : PySem.W.Frag) (H : Hp) (p : Addr) (M : List (List Int)) : Prop :=
  ∃ as : List Addr, Sq t1 K H p (as.map V.ref) ∧ as.length = M.length ∧ ∀ (i : Nat) (a : Addr) (r : List Int), as[i]? = some a → M[i]? = some r → Sq t2 K H a (r.map V.int)
theorem Mx.same {t1 t2 : Bool} {K : PySem.W.Frag} {H H' : Hp} {p : Addr} {M : List (List Int)} (s : Same H H') (h : Mx t1 t2 K H p M) : Mx t1 t2 K H' p M := by
  obtain ⟨as, h1, h2, h3⟩ := h
  exact ⟨as, Sq.same s h1, h2, fun i a r e1 e2 => Sq.same s (h3 i a r e1 e2)⟩
/-- its i-th row -/
theorem Mx.row {t1 t2 : Bool} {K : PySem.W.Frag} {H : Hp} {p : Addr} {M : List (List Int)} (h : Mx t1 t2 K H p M) : ∃ vs : List V, Sq t1 K H p vs ∧ vs.length = M.length ∧ ∀ (i : Nat) (v : V), vs[i]? = some v → ∃ (a : Addr) (r : List Int), v = .ref a ∧ M[i]? = some r ∧ Sq t2 K H a (r.map V.int) := by
  obtain ⟨as, h1, h2, h3⟩ := h
  refine ⟨as.map V.ref, h1, by rw [List.length_map]; exact h2, fun i v e => ?_⟩
  rw [List.getElem?_map] at e
  cases ea : as[i]? with
  | none => rw [ea] at e; cases e
  | some a =>
    rw [ea] at e
    cases e
    have hi : i < M.length := by
      have := (List.getElem?_eq_some_iff.mp ea).1
      omega
    exact ⟨a, M[i], rfl, List.getElem?_eq_getElem hi, h3 i a _ ea (List.getElem?_eq_getElem hi)⟩
theorem refs_of {K : PySem.W.Frag} {t2 : Bool} {H : Hp} : ∀ {ys : List V} {M : List (List Int)}, ys.length = M.length → (∀ (j : Nat) (y : V), ys[j]? = some y → ∃ (a : Addr) (r : List Int), y = .ref a ∧ M[j]? = some r ∧ Sq t2 K H a (r.map V.int)) →
    ∃ as : List Addr, ys = as.map V.ref ∧ as.length = M.length ∧ ∀ (i : Nat) (a : Addr) (r : List Int), as[i]? = some a → M[i]? = some r → Sq t2 K H a (r.map V.int)
  | [], [], _, _ => ⟨[], rfl, rfl, fun i a r e => by simp at e⟩
  | [], _ :: _, h, _ => by simp at h
  | _ :: _, [], h, _ => by simp at h
  | y :: ys, r :: M, h, k => by
    obtain ⟨as, e1, e2, e3⟩ := refs_of (ys := ys) (M := M) (by simpa using h) (fun j z e => by
      obtain ⟨a, r', h1, h2, h3⟩ := k (j + 1) z (by simpa using e)
      exact ⟨a, r', h1, by simpa using h2, h3⟩)
    obtain ⟨a, r', h1, h2, h3⟩ := k 0 y rfl
    have er : r = r' := by simpa using h2
    subst er
    subst h1 e1
    refine ⟨a :: as, rfl, by simp [e2], fun i b q e4 e5 => ?_⟩
    cases i with
    | zero =>
      cases e4
      cases e5
      exact h3
    | succ i => exact e3 i b q (by simpa using e4) (by simpa using e5)
theorem Mx.of {t1 t2 : Bool} {K : PySem.W.Frag} {H : Hp} {p : Addr} {ys : List V} {M : List (List Int)} (h : Sq t1 K H p ys) (l : ys.length = M.length) (k : ∀ (j : Nat) (y : V), ys[j]? = some y → ∃ (a : Addr) (r : List Int), y = .ref a ∧ M[j]? = some r ∧ Sq t2 K H a (r.map V.int)) : Mx t1 t2 K H p M := by
  obtain ⟨as, rfl, e2, e3⟩ := refs_of l k
  exact ⟨as, h, e2, e3⟩
theorem ys_ints {ns : List Int} : ∀ {ys : List V}, ys.length = ns.length → (∀ (j : Nat) (y : V), ys[j]? = some y → ∃ c, ns[j]? = some c ∧ y = .int c) → ys = ns.map V.int := by
  induction ns with
  | nil =>
    intro ys l _
    cases ys with
    | nil => rfl
    | cons _ _ => simp at l
  | cons n ns ih =>
    intro ys l k
    cases ys with
    | nil => simp at l
    | cons y ys =>
      obtain ⟨c, h1, h2⟩ := k 0 y rfl
      have e : n = c := by simpa using h1
      subst e h2
      rw [ih (ys := ys) (by simpa using l) (fun j z e => by
        obtain ⟨c, h1, h2⟩ := k (j + 1) z (by simpa using e)
        exact ⟨c, by simpa using h1, h2⟩)]
      rfl
/-- tuple(..) of a list or a tuple -/
def rTupOf (K : PySem.W.Frag) : List V → Hp → VK → Prop := fun xs H Q => ∃ p ys, xs = [.ref p] ∧ ((SqL K H p ys ∧ ∀ l, H l = none → Q (.ref l) (upd H l (.tup ys))) ∨ (SqT K H p ys ∧ Q (.ref p) H))
def rLenOf (K : PySem.W.Frag) : List V → Hp → VK → Prop := fun xs H Q => ∃ p ys, xs = [.ref p] ∧ (SqL K H p ys ∨ SqT K H p ys) ∧ Q (.int ys.length) H
/-- as data -/
def rowD (r : List Int) : PyData := .tuple (r.map PyData.int)
def matD (M : List (List Int)) : PyData := .tuple (M.map rowD)
theorem dp_ints {K : PySem.W.Frag} {H : Hp} : ∀ r : List Int, DpAll K H (r.map V.int) (r.map PyData.int)
  | [] => .nil
  | _ :: r => .cons (.int _) (dp_ints r)
theorem dp_rows {K : PySem.W.Frag} {H : Hp} : ∀ {as : List Addr} {M : List (List Int)}, as.length = M.length → (∀ (i : Nat) (a : Addr) (r : List Int), as[i]? = some a → M[i]? = some r → Sq true K H a (r.map V.int)) → DpAll K H (as.map V.ref) (M.map rowD)
  | [], [], _, _ => .nil
  | [], _ :: _, h, _ => by simp at h
  | _ :: _, [], h, _ => by simp at h
  | a :: as, r :: M, h, k => .cons (.tup (k 0 a r rfl rfl) (dp_ints r)) (dp_rows (by simpa using h) fun i b q e1 e2 => k (i + 1) b q (by simpa using e1) (by simpa using e2))
theorem Mx.dp {K : PySem.W.Frag} {H : Hp} {p : Addr} {M : List (List Int)} (h : Mx true true K H p M) : Dp K H (.ref p) (matD M) := by
  obtain ⟨as, h1, h2, h3⟩ := h
  exact .tup h1 (dp_rows h2 h3)
/-- all its rows have n numbers, n of them -/
def Sz (n : Nat) (M : List (List Int)) : Prop := M.length = n ∧ ∀ r ∈ M, r.length = n
theorem Sz.dok {n : Nat} {M : List (List Int)} (h : Sz n M) (hn : n ≤ 1000) : Dok 3 (matD M) := by
  refine ⟨by rw [List.length_map, h.1]; omega, fun d hd => ?_⟩
  obtain ⟨r, hr, rfl⟩ := List.mem_map.mp hd
  refine ⟨by rw [List.length_map, h.2 r hr]; omega, fun d hd => ?_⟩
  obtain ⟨c, _, rfl⟩ := List.mem_map.mp hd
  trivial
/-- a box: None, or a matrix -/
def BoxAt (K : PySem.W.Frag) (H : Hp) (v : V) : Option (List (List Int)) → Prop
  | none => v = .non
  | some M => ∃ p, v = .ref p ∧ Mx true true K H p M
def boxD : Option (List (List Int)) → PyData
  | none => .none
  | some M => matD M
theorem BoxAt.same {K : PySem.W.Frag} {H H' : Hp} {v : V} {B : Option (List (List Int))} (s : Same H H') (h : BoxAt K H v B) : BoxAt K H' v B := by
  cases B with
  | none => exact h
  | some M =>
    obtain ⟨p, e, h⟩ := h
    exact ⟨p, e, h.same s⟩
theorem BoxAt.dp {K : PySem.W.Frag} {H : Hp} {v : V} {B : Option (List (List Int))} (h : BoxAt K H v B) : Dp K H v (boxD B) := by
  cases B with
  | none =>
    obtain rfl : v = .non := h
    exact .non
  | some M =>
    obtain ⟨p, rfl, h⟩ := h
    exact h.dp
def BSz (n : Nat) (B : Option (List (List Int))) : Prop := ∀ M, B = some M → Sz n M
theorem BSz.dok {n : Nat} {B : Option (List (List Int))} (h : BSz n B) (hn : n ≤ 1000) : Dok 3 (boxD B) := by
  cases B with
  | none => trivial
  | some M => exact (h M rfl).dok hn
/-! ### comprehensions that leave what stood -/
def LcP (S : Hp → Prop) (R : Nat → V → Hp → Prop) (D : Addr) (i : Nat) (H : Hp) : Prop := S H ∧ ∃ acc : List V, H D = some (.lst acc) ∧ acc.length = i ∧ ∀ (j : Nat) (y : V), acc[j]? = some y → R j y H
theorem lcp_step {S : Hp → Prop} {R : Nat → V → Hp → Prop} {D : Addr} {i : Nat} {H H4 : Hp} {y : V} (P : LcP S R D i H) (e : ∀ o, H D = some o → H4 D = some o) (hi : i < sizeLine) (s : ∀ o, S (upd H4 D o)) (m : ∀ (j : Nat) (z : V) (o : HO), R j z H → R j z (upd H4 D o)) (r : ∀ o, R i y (upd H4 D o)) :
    ∃ acc, H4 D = some (.lst acc) ∧ acc.length < sizeLine ∧ LcP S R D (i + 1) (upd H4 D (.lst (acc ++ [y]))) := by
  obtain ⟨_, acc, h1, h2, h3⟩ := P
  refine ⟨acc, e _ h1, by omega, s _, _, upd_same, by simp [h2], fun j z ez => ?_⟩
  by_cases hj : j < i
  · rw [List.getElem?_append_left (by omega)] at ez
    exact m j z _ (h3 j z ez)
  · rw [List.getElem?_append_right (by omega)] at ez
    have ej : j = i := by
      have := (List.getElem?_eq_some_iff.mp ez).1
      simp at this
      omega
    subst ej
    rw [h2, Nat.sub_self] at ez
    have ez' : y = z := by simpa using ez
    rw [← ez']
    exact r _
/-- what the step of a comprehension that only makes new objects is to reach -/
theorem lcp_same {R : Nat → V → Hp → Prop} {D : Addr} {i : Nat} {H1 H H4 : Hp} {y : V} (P : LcP (Same H1) R D i H) (hD : H1 D = none) (s : Same H H4) (hi : i < sizeLine) (mono : ∀ (j : Nat) (z : V) (G G' : Hp), R j z G → But D G G' → R j z G') (r : R i y H4) :
    ∃ acc, H4 D = some (.lst acc) ∧ acc.length < sizeLine ∧ LcP (Same H1) R D (i + 1) (upd H4 D (.lst (acc ++ [y]))) :=
  lcp_step P (fun o e => s _ _ e) hi (fun o b u e => by rw [upd_ne (ne_of_none e hD)]; exact s _ _ (P.1 _ _ e)) (fun j z o q => mono j z _ _ q ((But.of_same s).trans (But.upd o))) fun o => mono i y _ _ r (But.upd o)
theorem lcp_start {R : Nat → V → Hp → Prop} {D : Addr} {H1 : Hp} (hD : H1 D = none) : LcP (Same H1) R D 0 (upd H1 D (.lst [])) :=
  ⟨fun b u e => by rw [upd_ne (ne_of_none e hD)]; exact e, [], upd_same, rfl, fun j y e => by simp at e⟩
/-- its numbers -/
def RInt (ns : List Int) : Nat → V → Hp → Prop := fun j y _ => ∃ c, ns[j]? = some c ∧ y = .int c
theorem RInt.mono {ns : List Int} {D : Addr} : ∀ (j : Nat) (z : V) (G G' : Hp), RInt ns j z G → But D G G' → RInt ns j z G' := fun _ _ _ _ h _ => h
/-- its rows -/
def RRow (K : PySem.W.Frag) (t : Bool) (M : List (List Int)) (D : Addr) : Nat → V → Hp → Prop := fun j y H => ∃ (a : Addr) (r : List Int), y = .ref a ∧ M[j]? = some r ∧ a ≠ D ∧ Sq t K H a (r.map V.int)
theorem RRow.mono {K : PySem.W.Frag} {t : Bool} {M : List (List Int)} {D : Addr} : ∀ (j : Nat) (z : V) (G G' : Hp), RRow K t M D j z G → But D G G' → RRow K t M D j z G' := by
  rintro j z G G' ⟨a, r, h1, h2, h3, h4⟩ b
  exact ⟨a, r, h1, h2, h3, Sq.but b h3 h4⟩
theorem lcp_ints {K : PySem.W.Frag} {S : Hp → Prop} {ns : List Int} {D : Addr} {n : Nat} {H : Hp} (P : LcP S (RInt ns) D n H) (hn : n = ns.length) : H D = some (.lst (ns.map V.int)) := by
  obtain ⟨_, acc, h1, h2, h3⟩ := P
  rw [h1, ys_ints (ns := ns) (by omega) h3]
theorem lcp_rows {K : PySem.W.Frag} {S : Hp → Prop} {t : Bool} {M : List (List Int)} {D : Addr} {n : Nat} {H : Hp} (P : LcP S (RRow K t M D) D n H) (hn : n = M.length) : Mx false t K H D M := by
  obtain ⟨_, acc, h1, h2, h3⟩ := P
  exact Mx.of (t1 := false) (SqL.of h1) (by omega) fun j y e => by
    obtain ⟨a, r, q1, q2, _, q3⟩ := h3 j y e
    exact ⟨a, r, q1, q2, q3⟩
theorem LcP.ne {S : Hp → Prop} {R : Nat → V → Hp → Prop} {D l : Addr} {i : Nat} {H : Hp} (P : LcP S R D i H) (hl : H l = none) : l ≠ D := by
  obtain ⟨_, acc, h, _⟩ := P
  exact fun z => absurd (z ▸ hl) (by rw [h]; intro z; cases z)
theorem lt_line {n : Nat} (h : n ≤ 10000000) : n < sizeLine := by rw [sizeLine_eq]; omega
/-- a comprehension without a test -/
theorem tyes {σ : L2.St} {H : Hp} {A B : Hp → Prop} (h : A H) : tYes σ H (fun b H3 => if b = true then A H3 else B H3) := by
  show if true = true then A H else B H
  rw [if_pos rfl]
  exact h
theorem get_int {r : List Int} {j : Nat} {v : V} (e : (r.map V.int)[j]? = some v) : ∃ k, r[j]? = some k ∧ v = .int k := by
  rw [List.getElem?_map] at e
  cases h : r[j]? with
  | none => rw [h] at e; cases e
  | some k => rw [h] at e; cases e; exact ⟨k, rfl, rfl⟩
theorem Sz.get {n i : Nat} {M : List (List Int)} {r : List Int} (h : Sz n M) (e : M[i]? = some r) : r.length = n := h.2 r (List.mem_of_getElem? e)
theorem zw_get {α β γ : Type} {f : α → β → γ} {xs : List α} {ys : List β} {i : Nat} {x : α} {y : β} (e1 : xs[i]? = some x) (e2 : ys[i]? = some y) : (List.zipWith f xs ys)[i]? = some (f x y) := by
  rw [List.getElem?_zipWith, e1, e2]
theorem lcp_put {R : Nat → V → Hp → Prop} {D : Addr} {i : Nat} {H1 H H4 : Hp} {y : V} {acc : List V} (P : LcP (Same H1) R D i H) (e : H D = some (.lst acc)) (hD : H1 D = none) (s : Same H H4) (hi : i < sizeLine) (mono : ∀ (j : Nat) (z : V) (G G' : Hp), R j z G → But D G G' → R j z G') (r : R i y H4) :
    LcP (Same H1) R D (i + 1) (upd H4 D (.lst (acc ++ [y]))) := by
  obtain ⟨acc', h1, _, h3⟩ := lcp_same P hD s hi mono r
  have := s _ _ e
  rw [this] at h1
  cases h1
  exact h3
/-- (0,) and the numbers of a row -/
theorem cat0 {K : PySem.W.Frag} {H : Hp} {t a : Addr} {r : List Int} {Q : VK} (h1 : SqT K H t [.int 0]) (h2 : SqT K H a (r.map V.int)) (hz : r.length ≤ 1000) (q : ∀ z H', Same H H' → SqT K H' z ((0 :: r).map V.int) → Q (.ref z) H') : rCatT K (.ref t) (.ref a) H Q := by
  refine ⟨t, a, _, _, rfl, rfl, h1, h2, by simp, ?_, fun e => ?_, fun ne p hp => ?_⟩
  · rw [List.length_map, sizeLine_eq]
    simp
    omega
  · have e' : r = [] := List.map_eq_nil_iff.mp e
    subst e'
    exact q t H (Same.refl H) h1
  · exact q p _ (Same.new hp _) (SqT.of upd_same)
theorem atI_row {r : List Int} {i : Nat} (h : i < r.length) : atI (r.map V.int) (0 + (i : Int)) = some (.int (r.getD i 0)) := by
  rw [Int.zero_add]
  refine atI_nat ?_
  rw [List.getElem?_map, List.getElem?_eq_getElem h]
  simp [List.getD, h]
theorem LcP.acc {S : Hp → Prop} {R : Nat → V → Hp → Prop} {D : Addr} {i : Nat} {H : Hp} (P : LcP S R D i H) : ∃ acc : List V, H D = some (.lst acc) ∧ acc.length = i := by
  obtain ⟨_, acc, h1, h2, _⟩ := P
  exact ⟨acc, h1, h2⟩
theorem map_get {α β : Type} {f : α → β} {xs : List α} {i : Nat} {x : α} (e : xs[i]? = some x) : (xs.map f)[i]? = some (f x) := by rw [List.getElem?_map, e]; rfl
open ZG (Sq ItzG walk_zipG)
def natsV (cs : List Nat) : List V := cs.map fun c : Nat => V.int (c : Int)
/-! ### entries of a matrix -/
def getM (M : List (List Int)) (i j : Nat) : Int := (M.getD i []).getD j 0
theorem getM_of {M : List (List Int)} {i j : Nat} {r : List Int} {k : Int} (h1 : M[i]? = some r) (h2 : r[j]? = some k) : getM M i j = k := by
  simp [getM, List.getD_eq_getElem?_getD, h1, h2]
theorem Sz.at {n i : Nat} {M : List (List Int)} (h : Sz n M) (hi : i < n) : ∃ r, M[i]? = some r ∧ r.length = n := by
  have hi' : i < M.length := by rw [h.1]; exact hi
  exact ⟨M[i], List.getElem?_eq_getElem hi', h.2 _ (List.getElem_mem hi')⟩
theorem Sz.at2 {n i j : Nat} {M : List (List Int)} (h : Sz n M) (hi : i < n) (hj : j < n) : ∃ r, M[i]? = some r ∧ r.length = n ∧ r[j]? = some (getM M i j) := by
  obtain ⟨r, e, l⟩ := h.at hi
  have hj' : j < r.length := by omega
  refine ⟨r, e, l, ?_⟩
  rw [getM_of e (List.getElem?_eq_getElem hj')]
  exact List.getElem?_eq_getElem hj'
theorem split_lt {n : Nat} {c : Nat → Prop} : (∀ i < n + 1, c i) ↔ (∀ i < n, c i) ∧ c n := by
  constructor
  · exact fun h => ⟨fun i hi => h i (by omega), h n (by omega)⟩
  · rintro ⟨h1, h2⟩ i hi
    by_cases e : i = n
    · rw [e]; exact h2
    · exact h1 i (by omega)
theorem ixN_int {n : Nat} {c : Int} (h0 : 0 ≤ c) (h : c < (n : Int)) : ixN n c = some c.toNat := by
  unfold ixN
  rw [if_pos h0, if_pos h]
/-! ### closed matrices, and the best one below a matrix -/
def mkR (n : Nat) (f : Nat → Int) : List Int := (List.range n).map f
def mkM (n : Nat) (f : Nat → Nat → Int) : List (List Int) := (List.range n).map fun i => mkR n (f i)
theorem range_at {n i : Nat} (h : i < n) : (List.range n)[i]? = some i := by simp [h]
theorem mkR_at {n i : Nat} {f : Nat → Int} (h : i < n) : (mkR n f)[i]? = some (f i) := map_get (range_at h)
theorem mkM_at {n i : Nat} {f : Nat → Nat → Int} (h : i < n) : (mkM n f)[i]? = some (mkR n (f i)) := map_get (range_at h)
theorem mkR_len {n : Nat} {f : Nat → Int} : (mkR n f).length = n := by simp [mkR]
theorem mkM_sz {n : Nat} {f : Nat → Nat → Int} : Sz n (mkM n f) := by
  refine ⟨by simp [mkM], fun r hr => ?_⟩
  obtain ⟨i, _, rfl⟩ := List.mem_map.mp hr
  exact mkR_len
theorem mkM_get {n i j : Nat} {f : Nat → Nat → Int} (hi : i < n) (hj : j < n) : getM (mkM n f) i j = f i j := getM_of (mkM_at hi) (mkR_at hj)
theorem sz_ext {n : Nat} {M N : List (List Int)} (h1 : Sz n M) (h2 : Sz n N) (e : ∀ i < n, ∀ j < n, getM M i j = getM N i j) : M = N := by
  refine List.ext_getElem? fun i => ?_
  by_cases hi : i < n
  · obtain ⟨r, e1, l1⟩ := h1.at hi
    obtain ⟨r', e2, l2⟩ := h2.at hi
    rw [e1, e2]
    congr 1
    refine List.ext_getElem? fun j => ?_
    by_cases hj : j < n
    · have a1 : r[j]? = some (r[j]'(by omega)) := List.getElem?_eq_getElem _
      have a2 : r'[j]? = some (r'[j]'(by omega)) := List.getElem?_eq_getElem _
      rw [a1, a2, ← getM_of e1 a1, ← getM_of e2 a2, e i hi j hj]
    · rw [List.getElem?_eq_none (by omega), List.getElem?_eq_none (by omega)]
  · rw [List.getElem?_eq_none (by rw [h1.1]; omega), List.getElem?_eq_none (by rw [h2.1]; omega)]
theorem mkM_congr {n : Nat} {f g : Nat → Nat → Int} (h : ∀ i < n, ∀ j < n, f i j = g i j) : mkM n f = mkM n g := sz_ext mkM_sz mkM_sz fun i hi j hj => by rw [mkM_get hi hj, mkM_get hi hj, h i hi j hj]
theorem mkM_self {n : Nat} {M : List (List Int)} (h : Sz n M) : mkM n (getM M) = M := sz_ext mkM_sz h fun i hi j hj => mkM_get hi hj
structure Clo (n : Nat) (C : Nat → Nat → Int) : Prop where
  d : ∀ i < n, C i i = 0
  t : ∀ i < n, ∀ j < n, ∀ k < n, C i j ≤ C i k + C k j
def LeF (n : Nat) (C D : Nat → Nat → Int) : Prop := ∀ i < n, ∀ j < n, C i j ≤ D i j
theorem LeF.trans {n : Nat} {A B C : Nat → Nat → Int} (h : LeF n A B) (k : LeF n B C) : LeF n A C := fun i hi j hj => Int.le_trans (h i hi j hj) (k i hi j hj)
theorem LeF.refl {n : Nat} (A : Nat → Nat → Int) : LeF n A A := fun _ _ _ _ => Int.le_refl _
/-- the greatest closed matrix below D; none if there is no closed one below D -/
def Best (n : Nat) (D : Nat → Nat → Int) : Option (List (List Int)) → Prop
  | none => ∀ C, Clo n C → ¬ LeF n C D
  | some R => Sz n R ∧ Clo n (getM R) ∧ LeF n (getM R) D ∧ ∀ C, Clo n C → LeF n C D → LeF n C (getM R)
theorem Best.sz {n : Nat} {D : Nat → Nat → Int} {B : Option (List (List Int))} (h : Best n D B) : BSz n B := by
  intro M e
  subst e
  exact h.1
theorem Best.uniq {n : Nat} {D : Nat → Nat → Int} : ∀ {B B' : Option (List (List Int))}, Best n D B → Best n D B' → B = B'
  | none, none, _, _ => rfl
  | none, some R, h, k => absurd k.2.2.1 (h _ k.2.1)
  | some R, none, h, k => absurd h.2.2.1 (k _ h.2.1)
  | some R, some R', h, k => by
    have e : R = R' := sz_ext h.1 k.1 fun i hi j hj => by
      have h1 := k.2.2.2 _ h.2.1 h.2.2.1 i hi j hj
      have h2 := h.2.2.2 _ k.2.1 k.2.2.1 i hi j hj
      omega
    rw [e]
/-- only what is closed and below counts -/
theorem Best.congr {n : Nat} {D E : Nat → Nat → Int} (h : ∀ C, Clo n C → (LeF n C D ↔ LeF n C E)) : ∀ {B : Option (List (List Int))}, Best n D B → Best n E B
  | none, k => fun C hC hE => k C hC ((h C hC).mpr hE)
  | some R, k => ⟨k.1, k.2.1, (h _ k.2.1).mp k.2.2.1, fun C hC hE => k.2.2.2 C hC ((h C hC).mpr hE)⟩
theorem Best.self {n : Nat} {R : List (List Int)} (z : Sz n R) (c : Clo n (getM R)) : Best n (getM R) (some R) := ⟨z, c, LeF.refl _, fun _ _ h => h⟩
/-! ### shortening through each column in turn -/
def fw0 (n : Nat) (D : Nat → Nat → Int) : Nat → Nat → Int := fun i j => if i = j then min (D i j) 0 else D i j
def fwS (k : Nat) (D : Nat → Nat → Int) : Nat → Nat → Int := fun i j => min (D i j) (D i k + D k j)
/-- what holds ahead of the turn with column k -/
structure Fw (n : Nat) (D0 : Nat → Nat → Int) (k : Nat) (D : Nat → Nat → Int) : Prop where
  d : ∀ i < n, D i i ≤ 0
  le : LeF n D D0
  gr : ∀ C, Clo n C → LeF n C D0 → LeF n C D
  t : (∀ i < n, 0 ≤ D i i) → ∀ m < k, ∀ i < n, ∀ j < n, D i j ≤ D i m + D m j
theorem Fw.start {n : Nat} (D0 : Nat → Nat → Int) : Fw n D0 0 (fw0 n D0) where
  d := fun i hi => by
    unfold fw0
    rw [if_pos rfl]
    omega
  le := fun i hi j hj => by
    unfold fw0
    split <;> omega
  gr := fun C hC h i hi j hj => by
    unfold fw0
    have a := h i hi j hj
    split
    · rename_i e
      subst e
      have b := hC.d i hi
      omega
    · exact a
  t := fun _ m hm => by omega
theorem Fw.step {n k : Nat} {D0 D : Nat → Nat → Int} (h : Fw n D0 k D) (hk : k < n) (pos : ∀ i < n, 0 ≤ D i i) : Fw n D0 (k + 1) (fwS k D) where
  d := fun i hi => by
    have a := h.d i hi
    unfold fwS
    omega
  le := fun i hi j hj => by
    have a := h.le i hi j hj
    unfold fwS
    omega
  gr := fun C hC hl i hi j hj => by
    have a := h.gr C hC hl i hi j hj
    have b := h.gr C hC hl i hi k hk
    have c := h.gr C hC hl k hk j hj
    have e := hC.t i hi j hj k hk
    unfold fwS
    omega
  t := fun _ m hm i hi j hj => by
    have T := h.t pos
    have pk := pos k hk
    unfold fwS
    by_cases e : m = k
    · subst e
      omega
    · have hmk : m < k := by omega
      have mn : m < n := by omega
      have a1 := T m hmk i hi j hj
      have a2 := T m hmk k hk j hj
      have a3 := T m hmk i hi k hk
      have a4 := T m hmk k hk k hk
      omega
theorem Fw.done {n : Nat} {D0 D : Nat → Nat → Int} (h : Fw n D0 n D) (pos : ∀ i < n, 0 ≤ D i i) : Best n D0 (some (mkM n D)) := by
  have c : Clo n (getM (mkM n D)) := ⟨fun i hi => by
    rw [mkM_get hi hi]
    have := pos i hi
    have := h.d i hi
    omega, fun i hi j hj k hk => by
    rw [mkM_get hi hj, mkM_get hi hk, mkM_get hk hj]
    exact h.t pos k hk i hi j hj⟩
  refine ⟨mkM_sz, c, fun i hi j hj => ?_, fun C hC hl i hi j hj => ?_⟩
  · rw [mkM_get hi hj]
    exact h.le i hi j hj
  · rw [mkM_get hi hj]
    exact h.gr C hC hl i hi j hj
theorem Fw.bad {n k i : Nat} {D0 D : Nat → Nat → Int} (h : Fw n D0 k D) (hi : i < n) (neg : D i i < 0) : Best n D0 none := fun C hC hl => by
  have a := h.gr C hC hl i hi i hi
  have b := hC.d i hi
  omega
theorem Fw.congr {n k : Nat} {D0 D E : Nat → Nat → Int} (h : Fw n D0 k D) (hk : k ≤ n) (e : ∀ i < n, ∀ j < n, D i j = E i j) : Fw n D0 k E where
  d := fun i hi => by rw [← e i hi i hi]; exact h.d i hi
  le := fun i hi j hj => by rw [← e i hi j hj]; exact h.le i hi j hj
  gr := fun C hC hl i hi j hj => by rw [← e i hi j hj]; exact h.gr C hC hl i hi j hj
  t := fun pos m hm i hi j hj => by
    have mn : m < n := by omega
    rw [← e i hi j hj, ← e i hi m mn, ← e m mn j hj]
    exact h.t (fun i hi => by rw [e i hi i hi]; exact pos i hi) m hm i hi j hj
/-! ### close -/
theorem bb_any : bootBuiltins "any" = some (.builtin "any") := by decide +kernel
theorem bb_all : bootBuiltins "all" = some (.builtin "all") := by decide +kernel
def spFrozen (K : PySem.W.Frag) : Sp := fun vs H Q _ => ∃ (p : Addr) (M : List (List Int)), vs = [.ref p] ∧ Mx false false K H p M ∧ M.length ≤ 1000 ∧ ∀ q H', Same H H' → Mx true true K H' q M → Q (.ref q) H'
def spContra (K : PySem.W.Frag) : Sp := fun vs H Q _ => ∃ (p : Addr) (M : List (List Int)) (n : Nat), vs = [.ref p] ∧ Mx false false K H p M ∧ Sz n M ∧ n ≤ 900 ∧ ∀ b H', Same H H' → (b = true ↔ ∃ i < n, getM M i i < 0) → Q (.bl b) H'
def spShort (K : PySem.W.Frag) : Sp := fun vs H Q _ => ∃ (p : Addr) (M : List (List Int)) (n k : Nat), vs = [.ref p, .int k] ∧ Mx false false K H p M ∧ Sz n M ∧ n ≤ 900 ∧ k < n ∧ ∀ q H', Same H H' → Mx false false K H' q (mkM n (fwS k (getM M))) → Q (.ref q) H'
def spClose (K : PySem.W.Frag) : Sp := fun vs H Q _ => ∃ (t1 t2 : Bool) (p : Addr) (M : List (List Int)) (n : Nat), vs = [.ref p] ∧ Mx t1 t2 K H p M ∧ Sz n M ∧ n ≤ 900 ∧ ∀ v H' B, Same H H' → BoxAt K H' v B → Best n (getM M) B → Q v H'
theorem Mx.getT {t1 t2 : Bool} {K : PySem.W.Frag} {H : Hp} {p : Addr} {M : List (List Int)} {i : Nat} {r : List Int} (h : Mx t1 t2 K H p M) (e : M[i]? = some r) : ∃ (vs : List V) (a : Addr), Sq t1 K H p vs ∧ atI vs (i : Int) = some (.ref a) ∧ Sq t2 K H a (r.map V.int) := by
  obtain ⟨as, h1, h2, h3⟩ := h
  have hi : i < M.length := (List.getElem?_eq_some_iff.mp e).1
  have ea : as[i]? = some (as[i]'(by omega)) := List.getElem?_eq_getElem _
  exact ⟨_, _, h1, atI_nat (map_get ea), h3 i _ r ea e⟩
/-- a list of truth values at D, k of them; one holds if and only if A -/
def AnyP (H1 : Hp) (D : Addr) (k : Nat) (A : Prop) (H : Hp) : Prop := Same H1 H ∧ ∃ bs : List Bool, H D = some (.lst (bs.map V.bl)) ∧ bs.length = k ∧ (bs.any id = true ↔ A)
theorem AnyP.start {H1 : Hp} {D : Addr} {A : Prop} (hD : H1 D = none) (a : ¬ A) : AnyP H1 D 0 A (upd H1 D (.lst [])) :=
  ⟨Same.new hD _, [], upd_same, rfl, ⟨fun z => by simp at z, fun z => absurd z a⟩⟩
theorem AnyP.imp {H1 H : Hp} {D : Addr} {k k' : Nat} {A A' : Prop} (h : AnyP H1 D k A H) (ek : k = k') (e : A ↔ A') : AnyP H1 D k' A' H := by
  obtain ⟨s, bs, h1, h2, h3⟩ := h
  exact ⟨s, bs, h1, by omega, h3.trans e⟩
theorem AnyP.push {H1 H H4 : Hp} {D : Addr} {k : Nat} {A : Prop} {b : Bool} (h : AnyP H1 D k A H) (hD : H1 D = none) (s : Same H H4) (hk : k < sizeLine) :
    ∃ acc, H4 D = some (.lst acc) ∧ acc.length < sizeLine ∧ AnyP H1 D (k + 1) (A ∨ b = true) (upd H4 D (.lst (acc ++ [.bl b]))) := by
  obtain ⟨s1, bs, h1, h2, h3⟩ := h
  refine ⟨_, s _ _ h1, by rw [List.length_map]; omega, fun c u e => by rw [upd_ne (ne_of_none e hD)]; exact s _ _ (s1 _ _ e), bs ++ [b], by rw [List.map_append]; exact upd_same, by simp [h2], ?_⟩
  rw [List.any_append, Bool.or_eq_true, h3]
  simp
theorem ex_lt {n : Nat} {c : Nat → Prop} : (∃ i < n + 1, c i) ↔ (∃ i < n, c i) ∨ c n := by
  constructor
  · rintro ⟨i, hi, h⟩
    by_cases e : i = n
    · exact .inr (e ▸ h)
    · exact .inl ⟨i, by omega, h⟩
  · rintro (⟨i, hi, h⟩ | h)
    · exact ⟨i, by omega, h⟩
    · exact ⟨n, by omega, h⟩
section
variable {P : Program} {w : World} {K : PySem.W.Frag} {mg : Str → Option Value} {base : Heap}
theorem ok_frozen (T : Txt w K mg) : FnOk P w K mg base CX0 1 T.a_frozen T.d_frozen p_frozen (spFrozen K) := by
  refine T.F_frozen.ok sc_frozen (fun vs H Q E h => ?_) (fun cdv A outer s H vs Q E hr h => ?_)
  · obtain ⟨p, M, rfl, _⟩ := h
    rfl
  obtain ⟨p, M, rfl, hM, hn, q⟩ := h
  refine ⟨_, (pss_one (ps_ret (pe_callTy call_tuple_of rfl T.z_tuple bt_tuple (pa_cons (pe_lc (own := [("row", 1)]) (g := gName 1) (tt := tYes) rfl sc_frozen.nd (pi_list (pv 0)) (blkOk_by (own := [("row", 1)]) (N := n_frozen) (sc := defScope s_frozen) (by decide +kernel)) (fun _ _ _ _ _ => (pg_name (i := 1) sc_frozen.nd rfl (Or.inl rfl))) (fun _ _ _ _ _ => pts_nil) (fun _ _ _ _ _ => (pe_callTy (show CallR _ _ (rTupOf K) from call_tuple_of) rfl T.z_tuple bt_tuple (pa_cons (pv 1) pa_nil)))) pa_nil)))), ?_⟩
  obtain ⟨vs, hv, hl, hrow⟩ := hM.row
  refine ⟨_, rfl, p, rfl, ⟨vs, hv⟩, fun D hD => ?_⟩
  refine lc_it (walk_list (xs := vs)) (LcP (Same H) (RRow K true M D) D) (lcp_start hD) (fun i G _ P => P.1.seq hv) ?_ ?_
  · rintro i x G G' hi P ⟨rfl, ex⟩
    obtain ⟨a, r, rfl, er, ha⟩ := hrow i x ex
    refine ⟨rfl, tyes ?_⟩
    refine ⟨_, rfl, a, _, rfl, .inl ⟨P.1.seq ha, fun l hl => ?_⟩⟩
    exact lcp_same P hD (Same.new hl _) (lt_line (by omega)) RRow.mono ⟨l, r, rfl, er, P.ne hl, Sq.upd_sameT⟩
  · intro G P
    obtain ⟨as, h1, h2, h3⟩ := lcp_rows P hl
    refine ⟨D, _, rfl, .inl ⟨h1, fun l hl => ?_⟩⟩
    exact q l _ (P.1.trans (Same.new hl _)) ⟨as, Sq.upd_sameT, h2, fun i a r e1 e2 => Sq.same (Same.new hl _) (h3 i a r e1 e2)⟩
end
/-! ### drawn numbers and points -/
def spNumber : Sp := fun vs H Q _ => ∃ a : Addr, vs = [.ref a] ∧ Src H a ∧ ∀ (r : Int) H', Stp a H H' → Q (.int r) H'
def spSize : Sp := fun vs H Q _ => ∃ a : Addr, vs = [.ref a] ∧ Src H a ∧ ∀ (n : Nat) H', Stp a H H' → n ≤ 20 → Q (.int n) H'
theorem ixInt {ns : List Int} {r : Int} (h0 : 0 ≤ r) (h : r < (ns.length : Int)) : ∃ u : Int, atI (ns.map V.int) r = some (.int u) := by
  have e := atI_int (xs := ns.map V.int) h0 (by rw [List.length_map]; omega)
  rw [List.getElem_map] at e
  exact ⟨_, e⟩
theorem Src.new {a p : Addr} {H : Hp} {o : HO} (h : Src H a) (n : H p = none) : Src (upd H p o) a := (Stp.refl h).new n |>.s
/-- points: a list of tuples, the list a tracked one -/
def Pts (K : PySem.W.Frag) (H : Hp) (p : Addr) (Ps : List (List Int)) : Prop :=
  ∃ as : List Addr, H p = some (.lst (as.map V.ref)) ∧ as.length = Ps.length ∧ ∀ (i : Nat) (a : Addr) (r : List Int), as[i]? = some a → Ps[i]? = some r → SqT K H a (r.map V.int)
theorem Pts.mx {K : PySem.W.Frag} {H : Hp} {p : Addr} {Ps : List (List Int)} (h : Pts K H p Ps) : Mx false true K H p Ps := by
  obtain ⟨as, h1, h2, h3⟩ := h
  exact ⟨as, SqL.of h1, h2, h3⟩
theorem Pts.same {K : PySem.W.Frag} {H H' : Hp} {p : Addr} {Ps : List (List Int)} (s : Same H H') (h : Pts K H p Ps) : Pts K H' p Ps := by
  obtain ⟨as, h1, h2, h3⟩ := h
  exact ⟨as, s _ _ h1, h2, fun i a r e1 e2 => Same.tup s (h3 i a r e1 e2)⟩
theorem Stp.put {a D : Addr} {G F : Hp} {o : HO} (x : Stp a G F) (hs : Src G a) (hD : G D = none) : Stp a G (upd F D o) := by
  have ne := hs.ne hD
  obtain ⟨c, m, k, h⟩ := x.s
  exact ⟨⟨c, m, k, by rw [upd_ne ne]; exact h⟩, fun b u hb e => by rw [upd_ne (ne_of_none e hD)]; exact x.k b u hb e⟩
/-- the points so far, none of them at p -/
def PtsN (K : PySem.W.Frag) (H : Hp) (p : Addr) (Ps : List (List Int)) : Prop :=
  ∃ as : List Addr, H p = some (.lst (as.map V.ref)) ∧ as.length = Ps.length ∧ ∀ (i : Nat) (a : Addr) (r : List Int), as[i]? = some a → Ps[i]? = some r → a ≠ p ∧ SqT K H a (r.map V.int)
theorem PtsN.pts {K : PySem.W.Frag} {H : Hp} {p : Addr} {Ps : List (List Int)} (h : PtsN K H p Ps) : Pts K H p Ps := by
  obtain ⟨as, h1, h2, h3⟩ := h
  exact ⟨as, h1, h2, fun i a r e1 e2 => (h3 i a r e1 e2).2⟩
theorem ints_of {acc : List V} (h : ∀ (j : Nat) (y : V), acc[j]? = some y → ∃ k : Int, y = .int k) : ∃ ns : List Int, acc = ns.map V.int := by
  induction acc with
  | nil => exact ⟨[], rfl⟩
  | cons y acc ih =>
    obtain ⟨k, rfl⟩ := h 0 y rfl
    obtain ⟨ns, rfl⟩ := ih fun j y e => h (j + 1) y (by simpa using e)
    exact ⟨k :: ns, rfl⟩
/-- one point more -/
theorem PtsN.push {K : PySem.W.Frag} {G F : Hp} {p t : Addr} {Ps : List (List Int)} {as : List Addr} {ns : List Int} (e2 : as.length = Ps.length) (e3 : ∀ (i : Nat) (a : Addr) (r : List Int), as[i]? = some a → Ps[i]? = some r → a ≠ p ∧ SqT K G a (r.map V.int))
    (k : ∀ (x : Addr) (xs : List V), SqT K G x xs → SqT K F x xs) (ht : SqT K F t (ns.map V.int)) (ne : t ≠ p) : PtsN K (upd F p (.lst (as.map V.ref ++ [.ref t]))) p (Ps ++ [ns]) := by
  refine ⟨as ++ [t], by rw [List.map_append]; exact upd_same, by simp [e2], fun i a r h1 h2 => ?_⟩
  have put : ∀ {x : Addr} {xs : List V}, x ≠ p → SqT K F x xs → SqT K (upd F p (.lst (as.map V.ref ++ [.ref t]))) x xs := fun nx h => Sq.but (t := true) (But.upd _) nx h
  by_cases hi : i < as.length
  · rw [List.getElem?_append_left hi] at h1
    rw [List.getElem?_append_left (by omega)] at h2
    obtain ⟨q1, q2⟩ := e3 i a r h1 h2
    exact ⟨q1, put q1 (k _ _ q2)⟩
  · rw [List.getElem?_append_right (by omega)] at h1
    rw [List.getElem?_append_right (by omega)] at h2
    have ei : i = as.length := by
      have := (List.getElem?_eq_some_iff.mp h1).1
      simp at this
      omega
    subst ei
    rw [Nat.sub_self] at h1
    rw [e2, Nat.sub_self] at h2
    have h1' : t = a := by simpa using h1
    have h2' : ns = r := by simpa using h2
    subst h1' h2'
    exact ⟨ne, put ne ht⟩
/-- all have n numbers, and there are few -/
def Few (n : Nat) (Ps : List (List Int)) : Prop := Ps.length ≤ 20 ∧ ∀ r ∈ Ps, r.length = n
def spSeeds (K : PySem.W.Frag) : Sp := fun vs H Q _ => ∃ (a : Addr) (n : Nat), vs = [.ref a, .int n] ∧ Src H a ∧ n ≤ 20 ∧ ∀ p H' Ps, Stp a H H' → H p = none → Pts K H' p Ps → Few n Ps → Q (.ref p) H'
section
variable {P : Program} {w : World} {K : PySem.W.Frag} {mg : Str → Option Value} {base : Heap}
end
/-! ### the least box of some points -/
def lmax : List Int → Int
  | [] => 0
  | [x] => x
  | x :: y :: r => max x (lmax (y :: r))
theorem lmax_mem : ∀ {xs : List Int}, xs ≠ [] → lmax xs ∈ xs
  | [], h => absurd rfl h
  | [x], _ => by simp [lmax]
  | x :: y :: r, _ => by
    have ih := lmax_mem (xs := y :: r) (by simp)
    unfold lmax
    by_cases h : x ≤ lmax (y :: r)
    · rw [Int.max_eq_right h]
      exact List.mem_cons_of_mem _ ih
    · rw [Int.max_eq_left (by omega)]
      exact List.mem_cons_self
theorem lmax_le : ∀ {xs : List Int} {x : Int}, x ∈ xs → x ≤ lmax xs
  | [], _, h => by simp at h
  | [z], x, h => by
    have e : x = z := by simpa using h
    rw [e]
    exact Int.le_refl _
  | z :: y :: r, x, h => by
    unfold lmax
    rcases List.mem_cons.mp h with rfl | h
    · omega
    · have := lmax_le (xs := y :: r) h
      omega
theorem lmax_eq {xs : List Int} {m : Int} (h1 : m ∈ xs) (h2 : ∀ y ∈ xs, y ≤ m) : m = lmax xs := by
  have ne : xs ≠ [] := fun z => by rw [z] at h1; simp at h1
  have a := h2 _ (lmax_mem ne)
  have b := lmax_le h1
  omega
theorem lmax_append {xs ys : List Int} (h1 : xs ≠ []) (h2 : ys ≠ []) : lmax (xs ++ ys) = max (lmax xs) (lmax ys) := by
  symm
  refine lmax_eq ?_ fun y hy => ?_
  · by_cases h : lmax xs ≤ lmax ys
    · rw [Int.max_eq_right h]
      exact List.mem_append.mpr (.inr (lmax_mem h2))
    · rw [Int.max_eq_left (by omega)]
      exact List.mem_append.mpr (.inl (lmax_mem h1))
  · rcases List.mem_append.mp hy with h | h
    · have := lmax_le h
      omega
    · have := lmax_le h
      omega
/-- column i minus column j of a point -/
def dif (i j : Nat) (r : List Int) : Int := (0 :: r).getD i 0 - (0 :: r).getD j 0
def hullM (n : Nat) (Ps : List (List Int)) : List (List Int) := (List.range (n + 1)).map fun i => (List.range (n + 1)).map fun j => lmax (Ps.map (dif i j))
def hull (n : Nat) (Ps : List (List Int)) : Option (List (List Int)) := if Ps = [] then none else some (hullM n Ps)
theorem hullM_sz (n : Nat) (Ps : List (List Int)) : Sz (n + 1) (hullM n Ps) := by
  refine ⟨by simp [hullM], fun r hr => ?_⟩
  obtain ⟨i, _, rfl⟩ := List.mem_map.mp hr
  simp
theorem hull_sz (n : Nat) (Ps : List (List Int)) : BSz (n + 1) (hull n Ps) := by
  intro M e
  unfold hull at e
  split at e
  · cases e
  · cases e
    exact hullM_sz n Ps
theorem range_get {n i : Nat} (h : i < n) : (List.range n)[i]? = some i := by simp [h]
def spHull (K : PySem.W.Frag) : Sp := fun vs H Q _ => ∃ (p : Addr) (n : Nat) (Ps : List (List Int)), vs = [.ref p, .int n] ∧ n ≤ 900 ∧ Mx false true K H p Ps ∧ (∀ r ∈ Ps, r.length = n) ∧ Ps.length ≤ 1000000 ∧ ∀ v H', Same H H' → BoxAt K H' v (hull n Ps) → Q v H'
/-! ### the least box is closed -/
theorem getM_hull {n : Nat} {Ps : List (List Int)} {i j : Nat} (hi : i < n + 1) (hj : j < n + 1) : getM (hullM n Ps) i j = lmax (Ps.map (dif i j)) := getM_of (map_get (range_get hi)) (map_get (range_get hj))
theorem hull_tri {n : Nat} {Ps : List (List Int)} (hP : Ps ≠ []) {i j k : Nat} (hi : i < n + 1) (hj : j < n + 1) (hk : k < n + 1) : getM (hullM n Ps) i j ≤ getM (hullM n Ps) i k + getM (hullM n Ps) k j := by
  rw [getM_hull hi hj, getM_hull hi hk, getM_hull hk hj]
  obtain ⟨r, hr, e⟩ := List.mem_map.mp (lmax_mem (xs := Ps.map (dif i j)) fun z => hP (List.map_eq_nil_iff.mp z))
  have h1 : dif i k r ≤ lmax (Ps.map (dif i k)) := lmax_le (List.mem_map_of_mem hr)
  have h2 : dif k j r ≤ lmax (Ps.map (dif k j)) := lmax_le (List.mem_map_of_mem hr)
  rw [← e]
  unfold dif at *
  omega
theorem hull_diag {n : Nat} {Ps : List (List Int)} (hP : Ps ≠ []) {i : Nat} (hi : i < n + 1) : getM (hullM n Ps) i i = 0 := by
  rw [getM_hull hi hi]
  obtain ⟨r, hr, e⟩ := List.mem_map.mp (lmax_mem (xs := Ps.map (dif i i)) fun z => hP (List.map_eq_nil_iff.mp z))
  rw [← e]
  unfold dif
  omega
/-- the points at these addresses -/
def PA (K : PySem.W.Frag) (H : Hp) (as : List Addr) (Ps : List (List Int)) : Prop := as.length = Ps.length ∧ ∀ (i : Nat) (a : Addr) (r : List Int), as[i]? = some a → Ps[i]? = some r → SqT K H a (r.map V.int)
theorem Pts.pa {K : PySem.W.Frag} {H : Hp} {p : Addr} {Ps : List (List Int)} (h : Pts K H p Ps) : ∃ as, H p = some (.lst (as.map V.ref)) ∧ PA K H as Ps := by
  obtain ⟨as, h1, h2, h3⟩ := h
  exact ⟨as, h1, h2, h3⟩
theorem PA.pts {K : PySem.W.Frag} {H : Hp} {p : Addr} {as : List Addr} {Ps : List (List Int)} (h : PA K H as Ps) (e : H p = some (.lst (as.map V.ref))) : Pts K H p Ps := ⟨as, e, h.1, h.2⟩
theorem PA.same {K : PySem.W.Frag} {H H' : Hp} {as : List Addr} {Ps : List (List Int)} (s : Same H H') (h : PA K H as Ps) : PA K H' as Ps := ⟨h.1, fun i a r e1 e2 => Same.tup s (h.2 i a r e1 e2)⟩
theorem PA.stp {K : PySem.W.Frag} {a : Addr} {H H' : Hp} {as : List Addr} {Ps : List (List Int)} (s : Stp a H H') (hs : Src H a) (h : PA K H as Ps) : PA K H' as Ps := ⟨h.1, fun i b r e1 e2 => s.rd (h.2 i b r e1 e2) hs⟩
theorem PA.drop {K : PySem.W.Frag} {H : Hp} {as : List Addr} {Ps : List (List Int)} (k : Nat) (h : PA K H as Ps) : PA K H (as.drop k) (Ps.drop k) := by
  refine ⟨by rw [List.length_drop, List.length_drop, h.1], fun i a r e1 e2 => ?_⟩
  rw [List.getElem?_drop] at e1 e2
  exact h.2 _ a r e1 e2
theorem PA.take {K : PySem.W.Frag} {H : Hp} {as : List Addr} {Ps : List (List Int)} (k : Nat) (h : PA K H as Ps) : PA K H (as.take k) (Ps.take k) := by
  refine ⟨by rw [List.length_take, List.length_take, h.1], fun i a r e1 e2 => ?_⟩
  rw [List.getElem?_take] at e1 e2
  split at e1
  · rename_i hk
    rw [if_pos hk] at e2
    exact h.2 _ a r e1 e2
  · cases e1
theorem PA.append {K : PySem.W.Frag} {H : Hp} {as bs : List Addr} {Ps Qs : List (List Int)} (h : PA K H as Ps) (k : PA K H bs Qs) : PA K H (as ++ bs) (Ps ++ Qs) := by
  refine ⟨by rw [List.length_append, List.length_append, h.1, k.1], fun i a r e1 e2 => ?_⟩
  by_cases hi : i < as.length
  · rw [List.getElem?_append_left hi] at e1
    rw [List.getElem?_append_left (by rw [← h.1]; exact hi)] at e2
    exact h.2 i a r e1 e2
  · rw [List.getElem?_append_right (by omega)] at e1
    rw [List.getElem?_append_right (by rw [← h.1]; omega), ← h.1] at e2
    exact k.2 _ a r e1 e2
theorem PA.one {K : PySem.W.Frag} {H : Hp} {a : Addr} {r : List Int} (h : SqT K H a (r.map V.int)) : PA K H [a] [r] := by
  refine ⟨rfl, fun i b q e1 e2 => ?_⟩
  cases i with
  | zero =>
    cases e1
    cases e2
    exact h
  | succ i => simp at e1
theorem Pts.stp {K : PySem.W.Frag} {a p : Addr} {H H' : Hp} {Ps : List (List Int)} (s : Stp a H H') (hs : Src H a) (ne : p ≠ a) (h : Pts K H p Ps) : Pts K H' p Ps := by
  obtain ⟨as, h1, h2⟩ := h.pa
  exact (h2.stp s hs).pts (s.k _ _ ne h1)
/-! ### rows that are written: lists of numbers in a list -/
def RowsL (H : Hp) (as : List Addr) (Rs : List (List Int)) : Prop := as.length = Rs.length ∧ ∀ (i : Nat) (x : Addr) (r : List Int), as[i]? = some x → Rs[i]? = some r → H x = some (.lst (r.map V.int))
theorem RowsL.keep {H H' : Hp} {as : List Addr} {Rs : List (List Int)} (h : RowsL H as Rs) (k : ∀ x ∈ as, ∀ o, H x = some o → H' x = some o) : RowsL H' as Rs :=
  ⟨h.1, fun i x r e1 e2 => k x (List.mem_of_getElem? e1) _ (h.2 i x r e1 e2)⟩
theorem RowsL.at {H : Hp} {as : List Addr} {Rs : List (List Int)} {i : Nat} (h : RowsL H as Rs) (hi : i < Rs.length) : ∃ x r, as[i]? = some x ∧ Rs[i]? = some r ∧ H x = some (.lst (r.map V.int)) := by
  have ea : as[i]? = some (as[i]'(by rw [h.1]; exact hi)) := List.getElem?_eq_getElem _
  have er : Rs[i]? = some Rs[i] := List.getElem?_eq_getElem hi
  exact ⟨_, _, ea, er, h.2 i _ _ ea er⟩
theorem nodup_ix {α : Type} {as : List α} (nd : as.Nodup) {i j : Nat} {x : α} (h1 : as[i]? = some x) (h2 : as[j]? = some x) : i = j := by
  obtain ⟨l1, q1⟩ := List.getElem?_eq_some_iff.mp h1
  obtain ⟨l2, q2⟩ := List.getElem?_eq_some_iff.mp h2
  have p := List.pairwise_iff_getElem.mp nd
  rcases Nat.lt_trichotomy i j with h | h | h
  · exact absurd (q1.trans q2.symm) (p i j l1 l2 h)
  · exact h
  · exact absurd (q2.trans q1.symm) (p j i l2 l1 h)
theorem RowsL.put {H : Hp} {as : List Addr} {Rs : List (List Int)} {i : Nat} {x : Addr} {r' : List Int} (h : RowsL H as Rs) (nd : as.Nodup) (ea : as[i]? = some x) : RowsL (upd H x (.lst (r'.map V.int))) as (Rs.set i r') := by
  refine ⟨by rw [List.length_set]; exact h.1, fun j y q e1 e2 => ?_⟩
  rw [List.getElem?_set] at e2
  by_cases hj : i = j
  · subst hj
    rw [if_pos rfl] at e2
    rw [ea] at e1
    cases e1
    split at e2
    · cases e2
      exact upd_same
    · cases e2
  · rw [if_neg hj] at e2
    have ne : y ≠ x := fun z => by
      subst z
      exact hj (nodup_ix nd ea e1)
    rw [upd_ne ne]
    exact h.2 j y q e1 e2
/-- the diagonal's entry i becomes v -/
def setD (Rs : List (List Int)) (i : Nat) (v : Int) : List (List Int) := Rs.set i ((Rs.getD i []).set i v)
theorem setD_eq {Rs : List (List Int)} {i : Nat} {r : List Int} {v : Int} (e : Rs[i]? = some r) : setD Rs i v = Rs.set i (r.set i v) := by
  unfold setD
  rw [List.getD_eq_getElem?_getD, e]
  rfl
theorem setD_at {Rs : List (List Int)} {i : Nat} {r : List Int} {v : Int} (e : Rs[i]? = some r) : (setD Rs i v)[i]? = some (r.set i v) := by
  rw [setD_eq e, List.getElem?_set, if_pos rfl, if_pos (List.getElem?_eq_some_iff.mp e).1]
theorem setD_sz {n i : Nat} {Rs : List (List Int)} {v : Int} (h : Sz n Rs) (hi : i < n) : Sz n (setD Rs i v) := by
  obtain ⟨r, e, l⟩ := h.at hi
  rw [setD_eq e]
  refine ⟨by rw [List.length_set]; exact h.1, fun q hq => ?_⟩
  rcases List.mem_or_eq_of_mem_set hq with h1 | h1
  · exact h.2 q h1
  · rw [h1, List.length_set]
    exact l
theorem setD_get {n i a b : Nat} {Rs : List (List Int)} {v : Int} (h : Sz n Rs) (hi : i < n) (ha : a < n) (hb : b < n) : getM (setD Rs i v) a b = if a = i ∧ b = i then v else getM Rs a b := by
  obtain ⟨r, e, l⟩ := h.at hi
  by_cases e1 : a = i
  · subst e1
    by_cases e2 : b = a
    · subst e2
      rw [if_pos ⟨rfl, rfl⟩]
      exact getM_of (setD_at e) (by rw [List.getElem?_set, if_pos rfl, if_pos (by omega)])
    · rw [if_neg (fun z => e2 z.2)]
      have eb : r[b]? = some (r[b]'(by omega)) := List.getElem?_eq_getElem _
      rw [getM_of e eb]
      exact getM_of (setD_at e) (by rw [List.getElem?_set, if_neg (fun z => e2 z.symm)]; exact eb)
  · rw [if_neg (fun z => e1 z.1)]
    obtain ⟨q, eq', lq⟩ := h.at ha
    have eb : q[b]? = some (q[b]'(by omega)) := List.getElem?_eq_getElem _
    rw [getM_of eq' eb]
    exact getM_of (by rw [setD_eq e, List.getElem?_set, if_neg (fun z => e1 z.symm)]; exact eq') eb
theorem setD_setD {Rs : List (List Int)} {i : Nat} {r : List Int} {v w : Int} (e : Rs[i]? = some r) : (setD Rs i v).set i (r.set i w) = setD Rs i w := by
  rw [setD_eq e, setD_eq e, List.set_set]
/-- rows that were made since H0 -/
structure RowsN (a : Addr) (H0 G : Hp) (pr : Addr) (as : List Addr) (Rs : List (List Int)) : Prop where
  st : Stp a H0 G
  s0 : Src H0 a
  e : G pr = some (.lst (as.map V.ref))
  rw : RowsL G as Rs
  nd : as.Nodup
  nw : ∀ x ∈ as, H0 x = none
  np : pr ∉ as
  n0 : H0 pr = none
theorem RowsN.na {a : Addr} {H0 G : Hp} {pr : Addr} {as : List Addr} {Rs : List (List Int)} (h : RowsN a H0 G pr as Rs) : ∀ x ∈ as, x ≠ a := fun x hx => (h.s0.ne (h.nw x hx)).symm
theorem RowsN.npa {a : Addr} {H0 G : Hp} {pr : Addr} {as : List Addr} {Rs : List (List Int)} (h : RowsN a H0 G pr as Rs) : pr ≠ a := (h.s0.ne h.n0).symm
theorem RowsN.go {a : Addr} {H0 G G' : Hp} {pr : Addr} {as : List Addr} {Rs : List (List Int)} (h : RowsN a H0 G pr as Rs) (s : Stp a G G') : RowsN a H0 G' pr as Rs :=
  ⟨h.st.trans s, h.s0, s.k _ _ h.npa h.e, h.rw.keep fun x hx o e => s.k x o (h.na x hx) e, h.nd, h.nw, h.np, h.n0⟩
theorem RowsN.put {a : Addr} {H0 G : Hp} {pr : Addr} {as : List Addr} {Rs : List (List Int)} {i : Nat} {x : Addr} {r' : List Int} (h : RowsN a H0 G pr as Rs) (ea : as[i]? = some x) : RowsN a H0 (upd G x (.lst (r'.map V.int))) pr as (Rs.set i r') :=
  ⟨h.st.put h.s0 (h.nw x (List.mem_of_getElem? ea)), h.s0, by
    have ne : pr ≠ x := fun z => h.np (by rw [z]; exact List.mem_of_getElem? ea)
    rw [upd_ne ne]
    exact h.e, h.rw.put h.nd ea, h.nd, h.nw, h.np, h.n0⟩
theorem RowsN.start {a : Addr} {H0 G : Hp} {pr : Addr} (s : Stp a H0 G) (s0 : Src H0 a) (hp : G pr = none) : RowsN a H0 (upd G pr (.lst [])) pr [] [] :=
  ⟨s.new hp, s0, upd_same, ⟨rfl, fun i x r e => by simp at e⟩, List.nodup_nil, fun x hx => by simp at hx, by simp, s.free hp⟩
/-- one row more -/
theorem RowsN.push {a : Addr} {H0 G F : Hp} {pr D : Addr} {as : List Addr} {Rs : List (List Int)} {ns : List Int} (h : RowsN a H0 G pr as Rs) (s : Stp a G F) (hD : G D = none) (eD : F D = some (.lst (ns.map V.int))) :
    RowsN a H0 (upd F pr (.lst (as.map V.ref ++ [.ref D]))) pr (as ++ [D]) (Rs ++ [ns]) := by
  have h' := h.go s
  have dp : D ≠ pr := fun z => by
    have e := h.e
    rw [← z, hD] at e
    cases e
  have nin : D ∉ as := fun z => by
    obtain ⟨i, hi, e⟩ := List.getElem_of_mem z
    obtain ⟨x, r, e1, e2, e3⟩ := h.rw.at (i := i) (by rw [← h.rw.1]; exact hi)
    rw [List.getElem?_eq_getElem hi, e] at e1
    cases e1
    rw [hD] at e3
    cases e3
  refine ⟨h'.st.put h.s0 h.n0, h.s0, by rw [List.map_append]; exact upd_same, ⟨by simp [h.rw.1], fun i x r e1 e2 => ?_⟩, ?_, fun x hx => ?_, ?_, h.n0⟩
  · by_cases hi : i < as.length
    · rw [List.getElem?_append_left hi] at e1
      rw [List.getElem?_append_left (by rw [← h.rw.1]; exact hi)] at e2
      have ne : x ≠ pr := fun z => h.np (by rw [← z]; exact List.mem_of_getElem? e1)
      rw [upd_ne ne]
      exact h'.rw.2 i x r e1 e2
    · rw [List.getElem?_append_right (by omega)] at e1
      rw [List.getElem?_append_right (by rw [← h.rw.1]; omega), ← h.rw.1] at e2
      have ei : i - as.length = 0 := by
        have := (List.getElem?_eq_some_iff.mp e1).1
        simp at this
        omega
      rw [ei] at e1 e2
      have e1' : D = x := by simpa using e1
      have e2' : ns = r := by simpa using e2
      subst e1' e2'
      rw [upd_ne dp]
      exact eD
  · rw [List.nodup_append]
    refine ⟨h.nd, by simp, fun x hx y hy z => ?_⟩
    have : y = D := by simpa using hy
    subst this
    subst z
    exact nin hx
  · rcases List.mem_append.mp hx with q | q
    · exact h.nw x q
    · have : x = D := by simpa using q
      rw [this]
      exact h.st.free hD
  · intro z
    rcases List.mem_append.mp z with q | q
    · exact h.np q
    · have : pr = D := by simpa using q
      exact dp this.symm
def spDiag (K : PySem.W.Frag) : Sp := fun vs H Q _ => ∃ (a pr : Addr) (as : List Addr) (Rs : List (List Int)) (n : Nat) (H0 : Hp), vs = [.ref a, .ref pr] ∧ 1 ≤ n ∧ n ≤ 900 ∧ RowsN a H0 H pr as Rs ∧ Sz n Rs ∧
  ∀ t H' M, Stp a H0 H' → Mx true true K H' t M → Sz n M → (∀ i < n, ∀ j < n, i ≠ j → getM M i j = getM Rs i j) → (∀ i < n, -3 ≤ getM M i i ∧ getM M i i ≤ 3) → Q (.ref t) H'
/-! ### the box of all points within ranges -/
/-- the ranges, as rows of two numbers -/
def wid (Rs : List (List Int)) (i j : Nat) : Int := if i = j then 0 else (([0, 0] :: Rs).getD i []).getD 1 0 - (([0, 0] :: Rs).getD j []).getD 0 0
theorem wipe_off {σ : L2.St} {j : Nat} {x : Option V} : ∀ {vs : List Nat}, j ∉ vs → wipe (σ.set j x) vs = (wipe σ vs).set j x
  | [], _ => rfl
  | v :: vs, h => by
    have n : v ≠ j := fun z => h (by rw [z]; exact List.mem_cons_self)
    show (wipe (σ.set j x) vs).set v none = ((wipe σ vs).set v none).set j x
    rw [wipe_off fun z => h (List.mem_cons_of_mem _ z), List.set_comm _ _ n.symm]
theorem wipe_set {σ : L2.St} {j : Nat} {x : Option V} : ∀ {vs : List Nat}, j ∈ vs → wipe (σ.set j x) vs = wipe σ vs
  | [], h => by simp at h
  | v :: vs, h => by
    show (wipe (σ.set j x) vs).set v none = (wipe σ vs).set v none
    by_cases hj : j ∈ vs
    · rw [wipe_set hj]
    · have e : j = v := by
        rcases List.mem_cons.mp h with e | e
        · exact e
        · exact absurd e hj
      subst e
      rw [wipe_off hj, List.set_set]
theorem wipe_sub {σ : L2.St} {vs : List Nat} : ∀ {us : List Nat}, (∀ u ∈ us, u ∈ vs) → wipe (wipe σ us) vs = wipe σ vs
  | [], _ => rfl
  | u :: us, h => by
    show wipe ((wipe σ us).set u none) vs = _
    rw [wipe_set (h u List.mem_cons_self), wipe_sub fun x hx => h x (List.mem_cons_of_mem _ hx)]
/-- three names of a block are gone again -/
theorem wipe3 {σ : L2.St} {a b c : Nat} {x y z : Option V} : wipe ((((wipe σ [a, b, c]).set a x).set b y).set c z) [a, b, c] = wipe σ [a, b, c] := by
  rw [wipe_set (by simp), wipe_set (by simp), wipe_set (by simp), wipe_sub fun u h => h]
theorem two_at {Rs : List (List Int)} (hR2 : ∀ r ∈ Rs, r.length = 2) (i : Nat) (r : List Int) (e : ([0, 0] :: Rs)[i]? = some r) : ∃ lo hi, r = [lo, hi] ∧ (([0, 0] :: Rs).getD i []).getD 1 0 = hi ∧ (([0, 0] :: Rs).getD i []).getD 0 0 = lo := by
  have l2 : r.length = 2 := by
    rcases List.mem_cons.mp (List.mem_of_getElem? e) with rfl | h
    · rfl
    · exact hR2 r h
  obtain ⟨lo, hi, rfl⟩ : ∃ lo hi, r = [lo, hi] := by
    match r, l2 with
    | [a, b], _ => exact ⟨a, b, rfl⟩
  have eD : ([0, 0] :: Rs).getD i [] = [lo, hi] := by rw [List.getD_eq_getElem?_getD, e]; rfl
  rw [eD]
  exact ⟨lo, hi, rfl, rfl, rfl⟩
/-- some range has no number -/
def Gap (Rs : List (List Int)) (k : Nat) : Prop := ∃ i < k, (Rs.getD i []).getD 1 0 < (Rs.getD i []).getD 0 0
open Classical in
noncomputable def rangeB (Rs : List (List Int)) : Option (List (List Int)) := if Gap Rs Rs.length then none else some (mkM (Rs.length + 1) (wid Rs))
def spRangeBox (K : PySem.W.Frag) : Sp := fun vs H Q _ => ∃ (q : Addr) (Rs : List (List Int)), vs = [.ref q] ∧ Mx true true K H q Rs ∧ (∀ r ∈ Rs, r.length = 2) ∧ Rs.length ≤ 100 ∧ ∀ v H', Same H H' → BoxAt K H' v (rangeB Rs) → Q v H'
section
variable {P : Program} {w : World} {K : PySem.W.Frag} {mg : Str → Option Value} {base : Heap}
end
theorem Mx.get3 {t1 t2 : Bool} {K : PySem.W.Frag} {H : Hp} {p : Addr} {M : List (List Int)} {n i j : Nat} (h : Mx t1 t2 K H p M) (z : Sz n M) (hi : i < n) (hj : j < n) : ∃ (vs : List V) (a : Addr) (r : List Int), Sq t1 K H p vs ∧ atI vs (i : Int) = some (.ref a) ∧ Sq t2 K H a (r.map V.int) ∧ atI (r.map V.int) (j : Int) = some (.int (getM M i j)) := by
  obtain ⟨r, er, lr⟩ := z.at hi
  obtain ⟨as, h1, h2, h3⟩ := h
  have ea : as[i]? = some (as[i]'(by rw [h2, z.1]; exact hi)) := List.getElem?_eq_getElem _
  refine ⟨_, _, r, h1, atI_nat (map_get ea), h3 i _ r ea er, ?_⟩
  have e : r[j]? = some (r[j]'(by omega)) := List.getElem?_eq_getElem _
  rw [getM_of er e]
  exact atI_nat (map_get e)
/-! ### one bound put into a closed matrix -/
theorem bb_sum : bootBuiltins "sum" = some (.builtin "sum") := by decide +kernel
theorem bb_abs : bootBuiltins "abs" = some (.builtin "abs") := by decide +kernel
def cutF (D : Nat → Nat → Int) (i j : Nat) (c : Int) : Nat → Nat → Int := fun a b => if a = i ∧ b = j then min (D a b) c else D a b
theorem cutF_le {n i j : Nat} {c : Int} {C D : Nat → Nat → Int} (hi : i < n) (hj : j < n) : LeF n C (cutF D i j c) ↔ LeF n C D ∧ C i j ≤ c := by
  constructor
  · intro h
    refine ⟨fun a ha b hb => ?_, ?_⟩
    · have := h a ha b hb
      unfold cutF at this
      split at this
      · omega
      · exact this
    · have := h i hi j hj
      unfold cutF at this
      rw [if_pos ⟨rfl, rfl⟩] at this
      omega
  · rintro ⟨h1, h2⟩ a ha b hb
    unfold cutF
    have := h1 a ha b hb
    split
    · rename_i e
      obtain ⟨rfl, rfl⟩ := e
      omega
    · exact this
def bndF (R : Nat → Nat → Int) (i j : Nat) (c : Int) : Nat → Nat → Int := fun k m => min (R k m) (R k i + c + R j m)
def bndB (n i j : Nat) (c : Int) : Option (List (List Int)) → Option (List (List Int))
  | none => none
  | some M => if c + getM M j i < 0 then none else some (mkM n (bndF (getM M) i j c))
theorem bndB_neg {n i j : Nat} {c : Int} {M : List (List Int)} (h : c + getM M j i < 0) : bndB n i j c (some M) = none := if_pos h
theorem bndB_pos {n i j : Nat} {c : Int} {M : List (List Int)} (h : ¬ c + getM M j i < 0) : bndB n i j c (some M) = some (mkM n (bndF (getM M) i j c)) := if_neg h
theorem bndB_sz {n i j : Nat} {c : Int} {B : Option (List (List Int))} : BSz n (bndB n i j c B) := by
  intro M e
  cases B with
  | none => cases e
  | some R =>
    by_cases h : c + getM R j i < 0
    · rw [bndB_neg h] at e
      cases e
    · rw [bndB_pos h] at e
      cases e
      exact mkM_sz
theorem bnd_best {n i j : Nat} {c : Int} {D : Nat → Nat → Int} {B : Option (List (List Int))} (h : Best n D B) (hi : i < n) (hj : j < n) : Best n (cutF D i j c) (bndB n i j c B) := by
  cases B with
  | none => exact fun C hC hl => h C hC ((cutF_le hi hj).mp hl).1
  | some R =>
    obtain ⟨z, cl, le, gr⟩ := h
    by_cases neg : c + getM R j i < 0
    · rw [bndB_neg neg]
      intro C hC hl
      obtain ⟨h1, h2⟩ := (cutF_le hi hj).mp hl
      have a := gr C hC h1 j hj i hi
      have b := hC.t i hi i hi j hj
      have d := hC.d i hi
      omega
    · rw [bndB_pos neg]
      refine ⟨mkM_sz, ⟨fun k hk => ?_, fun k hk m hm l hl => ?_⟩, fun a ha b hb => ?_, fun C hC hl k hk m hm => ?_⟩
      · rw [mkM_get hk hk]
        unfold bndF
        have a := cl.d k hk
        have b := cl.t j hj i hi k hk
        omega
      · rw [mkM_get hk hm, mkM_get hk hl, mkM_get hl hm]
        unfold bndF
        have a1 := cl.t k hk m hm l hl
        have a2 := cl.t k hk i hi l hl
        have a3 := cl.t j hj m hm l hl
        have a4 := cl.t j hj i hi l hl
        omega
      · rw [mkM_get ha hb]
        have x := le a ha b hb
        unfold cutF bndF
        split
        · rename_i e
          obtain ⟨rfl, rfl⟩ := e
          have d1 := cl.d a ha
          have d2 := cl.d b hb
          omega
        · omega
      · rw [mkM_get hk hm]
        obtain ⟨h1, h2⟩ := (cutF_le hi hj).mp hl
        have g := gr C hC h1
        have a := g k hk m hm
        have b := g k hk i hi
        have d := g j hj m hm
        have e := hC.t k hk m hm i hi
        have f := hC.t i hi m hm j hj
        unfold bndF
        omega
def spBounded (K : PySem.W.Frag) : Sp := fun vs H Q _ => ∃ (va : V) (B : Option (List (List Int))) (n i j : Nat) (c : Int), vs = [va, .int i, .int j, .int c] ∧ n ≤ 900 ∧ BoxAt K H va B ∧ BSz n B ∧ i < n ∧ j < n ∧ ∀ v H', Same H H' → BoxAt K H' v (bndB n i j c B) → Q v H'
/-! ### one bound; what two boxes have in common -/
def spBound (K : PySem.W.Frag) : Sp := fun vs H Q _ => ∃ (v : V) (B : Option (List (List Int))) (n i j : Nat) (c : Int), vs = [v, .int i, .int j, .int c] ∧ BoxAt K H v B ∧ BSz n B ∧ (∀ M, B = some M → Clo n (getM M)) ∧ i < n ∧ j < n ∧ n ≤ 900 ∧ ∀ v H', Same H H' → BoxAt K H' v (bndB n i j c B) → Q v H'
def minF (f g : Nat → Nat → Int) : Nat → Nat → Int := fun i j => min (f i j) (g i j)
def MeetB (n : Nat) : Option (List (List Int)) → Option (List (List Int)) → Option (List (List Int)) → Prop
  | some M, some N, R => Best n (minF (getM M) (getM N)) R
  | _, _, R => R = none
def spMeet (K : PySem.W.Frag) : Sp := fun vs H Q _ => ∃ (va vb : V) (A B : Option (List (List Int))) (n : Nat), vs = [va, vb] ∧ BoxAt K H va A ∧ BoxAt K H vb B ∧ BSz n A ∧ BSz n B ∧ n ≤ 900 ∧ ∀ v H' R, Same H H' → BoxAt K H' v R → MeetB n A B R → Q v H'
theorem bnd_id {n i j : Nat} {c : Int} {M : List (List Int)} (z : Sz n M) (h : Clo n (getM M)) (hi : i < n) (hj : j < n) (l : getM M i j ≤ c) : bndB n i j c (some M) = some M := by
  have neg : ¬ c + getM M j i < 0 := by
    have a := h.t i hi i hi j hj
    have b := h.d i hi
    omega
  rw [bndB_pos neg]
  refine congrArg some (sz_ext mkM_sz z fun k hk m hm => ?_)
  rw [mkM_get hk hm]
  unfold bndF
  have a := h.t k hk m hm i hi
  have b := h.t i hi m hm j hj
  omega
section
variable {P : Program} {w : World} {K : PySem.W.Frag} {mg : Str → Option Value} {base : Heap}
theorem ok_bound (T : Txt w K mg) : FnOk P w K mg base CX0 2 T.a_bound T.d_bound p_bound (spBound K) := by
  have g_frozen := ok_frozen (P := P) (w := w) (base := base) T
  refine T.F_bound.ok sc_bound (fun vs H Q E h => ?_) (fun cdv A outer s H vs Q E hr h => ?_)
  · obtain ⟨v, B, n, i, j, c, rfl, _⟩ := h
    rfl
  obtain ⟨v, B, n, i, j, c, rfl, hB, zB, cB, hi, hj, hn, q⟩ := h
  refine ⟨_, (pss_cons (ps_if (PW.pt (pw_or (pt_cmpR op_isN (pv 0) pe_non (nomark _)) (pw_or1 (pt_cmpR op_lt (pe_op op_add (pv 3) (pe_ix ix_tup (pe_ix ix_tup (pv 0) (pv 2) (fun _ _ => rfl)) (pv 1) (fun _ _ => rfl))) pe_int (nomark _))))) (pss_one (ps_ret pe_non)) pss_nil)
      (pss_cons (ps_if (pt_cmpR op_le (pe_ix ix_tup (pe_ix ix_tup (pv 0) (pv 1) (fun _ _ => rfl)) (pv 2) (fun _ _ => rfl)) (pv 3) (nomark _)) (pss_one (ps_ret (pv 0))) pss_nil)
      (pss_cons (ps_set (i := 4) sc_bound.nd rfl (Or.inr rfl) (pe_lc (own := [("second", 5)]) (g := gName 5) (tt := tYes) rfl sc_bound.nd (pi_tup (pe_ix ix_tup (pv 0) (pv 2) (fun _ _ => rfl))) (blkOk_by (own := [("second", 5)]) (N := n_bound) (sc := defScope s_bound) (by decide +kernel)) (fun _ _ _ _ _ => (pg_name (i := 5) sc_bound.nd rfl (Or.inl rfl))) (fun _ _ _ _ _ => pts_nil) (fun _ _ _ _ _ => (pe_op op_add (pv 3) (pv 5)))))
      (pss_one (ps_ret (pe_call g_frozen (hr.mono (by first | decide | omega)) rfl T.m_frozen T.F_frozen.kp T.b_frozen .nil pass0 (pa_cons (pe_lc (own := [("row", 6)]) (g := gName 6) (tt := tYes) rfl sc_bound.nd (pi_tup (pv 0)) (blkOk_by (own := [("row", 6)]) (N := n_bound) (sc := defScope s_bound) (by decide +kernel)) (fun _ _ _ _ _ => (pg_name (i := 6) sc_bound.nd rfl (Or.inr rfl))) (fun _ _ _ _ _ => pts_nil) (fun _ _ _ _ _ => (pe_lc (own := [("old", 7), ("second", 5)]) (g := gTup K 2 (gCons (gName 7) (gCons (gName 5) gNil))) (tt := tYes) rfl sc_bound.nd (show PI _ _ _ (ZG.iZipG K _) from (ZG.pi_zipG (by rfl) T.z_zip (pa_cons (pv 6) (pa_cons (pv 4) pa_nil)))) (blkOk_by (own := [("old", 7), ("second", 5)]) (N := n_bound) (sc := relS _ (defScope s_bound)) (by decide +kernel)) (fun _ _ _ _ _ => (pg_tup rfl (pgs_cons (pg_name (i := 7) sc_bound.nd rfl (Or.inl rfl)) (pgs_cons (pg_name (i := 5) sc_bound.nd rfl (Or.inl rfl)) pgs_nil)))) (fun _ _ _ _ _ => pts_nil) (fun _ _ _ _ _ => (pe_callB (call_min2 rfl) rfl T.z_min bb_min (pa_cons (pv 7) (pa_cons (pe_op op_add (pe_ix (show IxR _ (rIxT K) from ix_tup) (pv 6) (pv 1) (fun _ _ => rfl)) (pv 5)) pa_nil))))))) pa_nil))))))), ?_⟩
  cases B with
  | none =>
    obtain rfl : v = .non := hB
    exact ⟨_, rfl, rfl, _, rfl, ifT rfl (ifT rfl (q _ _ (Same.refl _) rfl))⟩
  | some M =>
  obtain ⟨pa, rfl, hM⟩ := hB
  have sM := zB M rfl
  have cM := cB M rfl
  refine ⟨_, rfl, rfl, _, rfl, ifF rfl ?_⟩
  obtain ⟨vs, hv, lv, hrow⟩ := hM.row
  have lv1 : vs.length = n := by rw [lv, sM.1]
  obtain ⟨vs1, a1, r1, g1, g2, g3, g4⟩ := hM.get3 sM hj hi
  refine ⟨_, rfl, _, rfl, _, rfl, pa, _, _, _, rfl, rfl, g1, g2, _, rfl, a1, _, _, _, rfl, rfl, g3, g4, _, _, rfl, rfl, _, _, rfl, rfl, _, rfl, ite2 (fun h => ?_) (fun h => ?_)⟩
  · have h' : c + getM M j i < 0 := of_decide_eq_true h
    exact q _ _ (Same.refl _) (by rw [bndB_neg h']; rfl)
  have h' : ¬ c + getM M j i < 0 := of_decide_eq_false (Bool.eq_false_iff.mpr h)
  obtain ⟨vs2, a2, r2, k1, k2, k3, k4⟩ := hM.get3 sM hi hj
  refine ⟨_, rfl, _, rfl, pa, _, _, _, rfl, rfl, k1, k2, _, rfl, a2, _, _, _, rfl, rfl, k3, k4, _, rfl, _, _, rfl, rfl, _, rfl, ite2 (fun h2 => ?_) (fun h2 => ?_)⟩
  · have h3 : getM M i j ≤ c := of_decide_eq_true h2
    refine ⟨_, rfl, q _ _ (Same.refl _) ?_⟩
    rw [bnd_id sM cM hi hj h3]
    exact ⟨pa, rfl, hM⟩
  rw [bndB_pos h'] at q
  obtain ⟨rj, ej, lj⟩ := sM.at hj
  obtain ⟨ws, aj, x1, x2, x3⟩ := hM.getT ej
  have erj : rj = mkR n (getM M j) := by
    have e2 := mkM_at (f := getM M) hj
    rw [mkM_self sM, ej] at e2
    exact Option.some.inj e2
  refine ⟨_, rfl, _, rfl, pa, _, _, _, rfl, rfl, x1, x2, aj, rfl, ⟨_, x3⟩, fun D hD => ?_⟩
  refine lc_it (walk_tup (xs := rj.map V.int)) (LcP (Same H) (RInt (mkR n fun m => c + getM M j m)) D) (lcp_start hD) (fun i G _ P => Same.tup P.1 x3) ?_ ?_
  · rintro k x G G' hk P ⟨rfl, ex⟩
    obtain ⟨u, fk, rfl⟩ := get_int ex
    rw [List.length_map, lj] at hk
    rw [erj, mkR_at hk] at fk
    cases fk
    refine ⟨rfl, tyes ?_⟩
    refine ⟨_, rfl, _, rfl, _, _, rfl, rfl, ?_⟩
    exact lcp_same P hD (Same.refl _) (lt_line (by omega)) RInt.mono ⟨_, mkR_at hk, rfl⟩
  intro G PA
  have hb := lcp_ints (K := K) PA (by rw [List.length_map, lj, mkR_len])
  have sG := PA.1
  have lb : ((mkR n fun m => c + getM M j m).map V.int).length = n := by rw [List.length_map, mkR_len]
  refine ⟨_, rfl, pa, rfl, ⟨_, Same.tup sG hv⟩, fun D2 hD2 => ?_⟩
  refine lc_it (walk_tup (xs := vs)) (LcP (Same G) (RRow K false (mkM n (bndF (getM M) i j c)) D2) D2) (lcp_start hD2) (fun _ F _ P => Same.tup (sG.trans P.1) hv) ?_ ?_
  · rintro k x F F' hk P ⟨rfl, ex⟩
    rw [lv1] at hk
    obtain ⟨a, r, rfl, er, ha⟩ := hrow k x ex
    have er2 : r = mkR n (getM M k) := by
      have e2 := mkM_at (f := getM M) hk
      rw [mkM_self sM, er] at e2
      exact Option.some.inj e2
    have lr := sM.get er
    refine ⟨rfl, tyes ?_⟩
    have haF := Same.tup (sG.trans P.1) ha
    refine ⟨_, rfl, _, rfl, true, false, a, D, _, _, rfl, haF, SqL.of (P.1 _ _ hb), fun D3 hD3 => ?_⟩
    refine lc_it (walk_zipG (n := n) (by rw [lb, List.length_map, lr]; omega)) (LcP (Same F') (RInt (mkR n (bndF (getM M) i j c k))) D3) (lcp_start hD3) (fun _ E _ P3 => ⟨Same.tup P3.1 haF, SqL.of (P3.1 _ _ (P.1 _ _ hb))⟩) ?_ ?_
    · rintro m y E1 E2 hm P3 ⟨t, c1, c2, rfl, ht, rfl, e1, e2⟩
      obtain ⟨u1, f1, rfl⟩ := get_int e1
      obtain ⟨u2, f2, rfl⟩ := get_int e2
      rw [er2, mkR_at hm] at f1
      cases f1
      rw [mkR_at hm] at f2
      cases f2
      have s3 := P3.1.trans (Same.new ht (.tup [.int (getM M k m), .int (c + getM M j m)]))
      have at_ : atI (r.map V.int) (i : Int) = some (.int (getM M k i)) := by
        rw [er2]
        exact atI_nat (map_get (mkR_at hi))
      refine ⟨t, _, rfl, SqT.of upd_same, rfl, _, _, rfl, _, _, rfl, rfl, ?_⟩
      refine ⟨rfl, tyes ?_⟩
      refine ⟨_, rfl, _, rfl, _, rfl, a, _, _, _, rfl, rfl, Same.tup s3 haF, at_, _, rfl, _, _, rfl, rfl, _, _, rfl, ?_⟩
      refine lcp_same P3 hD3 (Same.new ht _) (lt_line (by omega)) RInt.mono ⟨_, mkR_at hm, ?_⟩
      unfold bndF
      congr 1
      split <;> omega
    · intro E P3
      have e := lcp_ints (K := K) P3 mkR_len.symm
      exact lcp_same P hD2 P3.1 (lt_line (by omega)) RRow.mono ⟨D3, _, rfl, mkM_at hk, P.ne hD3, SqL.of e⟩
  · intro F P
    have m0 := lcp_rows P (by rw [lv1, mkM_sz.1])
    exact ⟨D2, _, rfl, m0, by rw [mkM_sz.1]; omega, fun p' H' s' hM' => q (.ref p') H' ((sG.trans P.1).trans s') ⟨p', rfl, hM'⟩⟩
end
theorem cut_lo {xs : List V} {r : Int} (h0 : 0 ≤ r) (h : r.toNat ≤ xs.length) : cutV xs (some r) none = xs.drop r.toNat := by
  have e : HT.sIx xs.length 0 (some r) = r.toNat := by
    show (if r < 0 then (r + (xs.length : Int)).toNat else min r.toNat xs.length) = r.toNat
    rw [if_neg (by omega), Nat.min_eq_left h]
  unfold cutV
  rw [e]
  show (xs.drop r.toNat).take (xs.length - r.toNat) = _
  exact List.take_of_length_le (by rw [List.length_drop]; omega)
theorem cut_hi {xs : List V} {r : Int} (h0 : 0 ≤ r) (h : r.toNat ≤ xs.length) : cutV xs none (some r) = xs.take r.toNat := by
  have e : HT.sIx xs.length xs.length (some r) = r.toNat := by
    show (if r < 0 then (r + (xs.length : Int)).toNat else min r.toNat xs.length) = r.toNat
    rw [if_neg (by omega), Nat.min_eq_left h]
  unfold cutV
  rw [e]
  show (xs.drop 0).take (r.toNat - 0) = _
  rw [List.drop_zero, Nat.sub_zero]
/-! ### matrices whose entries are written one after the other -/
def updF (f : Nat → Nat → Int) (i j : Nat) (v : Int) : Nat → Nat → Int := fun a b => if a = i ∧ b = j then v else f a b
theorem mkR_set {n j : Nat} {f : Nat → Int} {v : Int} : (mkR n f).set j v = mkR n fun b => if b = j then v else f b := by
  refine List.ext_getElem? fun b => ?_
  by_cases hb : b < n
  · rw [List.getElem?_set, mkR_at hb, mkR_at hb, mkR_len]
    by_cases e : j = b
    · rw [if_pos e, if_pos e.symm, if_pos (by omega)]
    · rw [if_neg e, if_neg (fun z => e z.symm)]
  · rw [List.getElem?_eq_none (by rw [List.length_set, mkR_len]; omega), List.getElem?_eq_none (by rw [mkR_len]; omega)]
theorem mkM_len {n : Nat} {f : Nat → Nat → Int} : (mkM n f).length = n := by simp [mkM]
theorem mkM_put {n i j : Nat} {f : Nat → Nat → Int} {v : Int} : (mkM n f).set i ((mkR n (f i)).set j v) = mkM n (updF f i j v) := by
  refine List.ext_getElem? fun a => ?_
  by_cases ha : a < n
  · rw [List.getElem?_set, mkM_at ha, mkM_at ha, mkM_len, mkR_set]
    by_cases e : i = a
    · subst e
      rw [if_pos rfl, if_pos ha]
      congr 2
      funext b
      unfold updF
      by_cases h : b = j
      · rw [if_pos h, if_pos ⟨rfl, h⟩]
      · rw [if_neg h, if_neg (fun z => h z.2)]
    · rw [if_neg e]
      congr 2
      funext b
      unfold updF
      rw [if_neg (fun z => e z.1.symm)]
  · rw [List.getElem?_eq_none (by rw [List.length_set, mkM_len]; omega), List.getElem?_eq_none (by rw [mkM_len]; omega)]
/-- g ahead of row i, column j, else f -/
def mix (f g : Nat → Nat → Int) (i j : Nat) : Nat → Nat → Int := fun a b => if a < i ∨ (a = i ∧ b < j) then g a b else f a b
theorem mix_step {n i j : Nat} {f g : Nat → Nat → Int} {v : Int} (e : v = g i j) : mkM n (updF (mix f g i j) i j v) = mkM n (mix f g i (j + 1)) := by
  refine mkM_congr fun a ha b hb => ?_
  unfold updF mix
  by_cases h : a = i ∧ b = j
  · obtain ⟨rfl, rfl⟩ := h
    rw [if_pos ⟨rfl, rfl⟩, if_pos (.inr ⟨rfl, by omega⟩), e]
  · rw [if_neg h]
    by_cases k : a < i ∨ (a = i ∧ b < j)
    · rw [if_pos k, if_pos (by omega)]
    · rw [if_neg k, if_neg (by omega)]
theorem mix_skip {n i j : Nat} {f g : Nat → Nat → Int} (e : f i j = g i j) : mkM n (mix f g i j) = mkM n (mix f g i (j + 1)) := by
  refine mkM_congr fun a ha b hb => ?_
  unfold mix
  by_cases k : a < i ∨ (a = i ∧ b < j)
  · rw [if_pos k, if_pos (by omega)]
  · rw [if_neg k]
    by_cases h : a = i ∧ b = j
    · obtain ⟨rfl, rfl⟩ := h
      rw [if_pos (.inr ⟨rfl, by omega⟩), e]
    · rw [if_neg (by omega)]
theorem mix_row {n i : Nat} {f g : Nat → Nat → Int} : mkM n (mix f g i n) = mkM n (mix f g (i + 1) 0) := by
  refine mkM_congr fun a ha b hb => ?_
  unfold mix
  by_cases k : a < i ∨ (a = i ∧ b < n)
  · rw [if_pos k, if_pos (by omega)]
  · rw [if_neg k, if_neg (by omega)]
theorem mix_start {n : Nat} {f g : Nat → Nat → Int} : mkM n (mix f g 0 0) = mkM n f := mkM_congr fun a ha b hb => by
  unfold mix
  rw [if_neg (by omega)]
theorem mix_end {n : Nat} {f g : Nat → Nat → Int} : mkM n (mix f g n 0) = mkM n g := mkM_congr fun a ha b hb => by
  unfold mix
  rw [if_pos (.inl ha)]
theorem mkM_app {n i : Nat} {f : Nat → Nat → Int} (hi : i < n) : (mkM n f).take (i + 1) = (mkM n f).take i ++ [mkR n (f i)] := by
  rw [List.take_add_one, mkM_at hi]
  rfl
def rListOf (K : PySem.W.Frag) : List V → Hp → VK → Prop := fun xs H Q => ∃ p ys, xs = [.ref p] ∧ (SqL K H p ys ∨ SqT K H p ys) ∧ ∀ l, H l = none → Q (.ref l) (upd H l (.lst ys))
def spWid (K : PySem.W.Frag) : Sp := fun vs H Q _ => ∃ (a q : Addr) (Rs : List (List Int)), vs = [.ref q] ∧ Src H a ∧ Mx true true K H q Rs ∧ (∀ r ∈ Rs, r.length = 2) ∧ Rs.length ≤ 100 ∧
  ∀ pr as H', Same H H' → RowsN a H H' pr as (mkM (Rs.length + 1) (wid Rs)) → Q (.ref pr) H'
def spClosedI (K : PySem.W.Frag) : Sp := fun vs H Q _ => ∃ (a pr : Addr) (as : List Addr) (f C : Nat → Nat → Int) (n : Nat) (H0 : Hp), vs = [.ref pr] ∧ n ≤ 900 ∧ RowsN a H0 H pr as (mkM n f) ∧ (∀ i < n, f i i = 0) ∧ Clo n C ∧ LeF n C f ∧
  ∀ v H' N, Same H H' → BoxAt K H' v (some N) → Best n f (some N) → Q v H'
theorem fw_zero {n : Nat} {f : Nat → Nat → Int} (h : ∀ i < n, f i i = 0) : Fw n f 0 f where
  d := fun i hi => by rw [h i hi]; exact Int.le_refl _
  le := LeF.refl _
  gr := fun _ _ h => h
  t := fun _ m hm => by omega
theorem fwS_col {k i : Nat} {g : Nat → Nat → Int} (h : g k k = 0) : fwS k g i k = g i k := by
  unfold fwS
  omega
theorem fwS_row {k j : Nat} {g : Nat → Nat → Int} (h : g k k = 0) : fwS k g k j = g k j := by
  unfold fwS
  omega
/-! ### columns changed -/
theorem slT_lo {K : PySem.W.Frag} {H : Hp} {a : Addr} {r : List Int} {c : Int} {Q : VK} (k : Nat) (ec : c = (k : Int)) (h : SqT K H a (r.map V.int)) (h0 : 0 < k) (hk : k ≤ r.length) (q : ∀ p H', H p = none → Same H H' → SqT K H' p ((r.drop k).map V.int) → Q (.ref p) H') : rSlT K (.ref a) (some c) none H Q := by
  subst ec
  have ec : cutV (r.map V.int) (some (k : Int)) none = (r.drop k).map V.int := by
    rw [cut_lo (by omega) (by rw [List.length_map]; omega), List.map_drop, Int.toNat_natCast]
  refine ⟨a, _, rfl, h, ?_, fun p hp => ?_⟩
  · rintro ⟨z, _⟩
    have e1 : HT.sIx (r.map V.int).length 0 (some (k : Int)) = min k (r.map V.int).length := HT.sIx_nat _ _ k
    rw [e1, List.length_map] at z
    omega
  · refine q p _ hp (Same.new hp _) ?_
    rw [← ec]
    exact SqT.of upd_same
theorem slT_hi {K : PySem.W.Frag} {H : Hp} {a : Addr} {r : List Int} {c : Int} {Q : VK} (k : Nat) (ec : c = (k : Int)) (h : SqT K H a (r.map V.int)) (hk : k < r.length) (q : ∀ p H', H p = none → Same H H' → SqT K H' p ((r.take k).map V.int) → Q (.ref p) H') : rSlT K (.ref a) none (some c) H Q := by
  subst ec
  have ec : cutV (r.map V.int) none (some (k : Int)) = (r.take k).map V.int := by
    rw [cut_hi (by omega) (by rw [List.length_map]; omega), List.map_take, Int.toNat_natCast]
  refine ⟨a, _, rfl, h, ?_, fun p hp => ?_⟩
  · rintro ⟨_, z⟩
    have e1 : HT.sIx (r.map V.int).length (r.map V.int).length (some (k : Int)) = min k (r.map V.int).length := HT.sIx_nat _ _ k
    rw [e1, List.length_map] at z
    omega
  · refine q p _ hp (Same.new hp _) ?_
    rw [← ec]
    exact SqT.of upd_same
theorem slL_lo {K : PySem.W.Frag} {H : Hp} {a : Addr} {r : List Int} {c : Int} {Q : VK} (k : Nat) (ec : c = (k : Int)) (h : SqL K H a (r.map V.int)) (hk : k ≤ r.length) (q : ∀ p H', H p = none → Same H H' → SqL K H' p ((r.drop k).map V.int) → Q (.ref p) H') : rSlL K (.ref a) (some c) none H Q := by
  subst ec
  have ec : cutV (r.map V.int) (some (k : Int)) none = (r.drop k).map V.int := by
    rw [cut_lo (by omega) (by rw [List.length_map]; omega), List.map_drop, Int.toNat_natCast]
  refine ⟨a, _, rfl, h, fun p hp => ?_⟩
  refine q p _ hp (Same.new hp _) ?_
  rw [← ec]
  exact SqL.of upd_same
theorem slL_hi {K : PySem.W.Frag} {H : Hp} {a : Addr} {r : List Int} {c : Int} {Q : VK} (k : Nat) (ec : c = (k : Int)) (h : SqL K H a (r.map V.int)) (hk : k ≤ r.length) (q : ∀ p H', H p = none → Same H H' → SqL K H' p ((r.take k).map V.int) → Q (.ref p) H') : rSlL K (.ref a) none (some c) H Q := by
  subst ec
  have ec : cutV (r.map V.int) none (some (k : Int)) = (r.take k).map V.int := by
    rw [cut_hi (by omega) (by rw [List.length_map]; omega), List.map_take, Int.toNat_natCast]
  refine ⟨a, _, rfl, h, fun p hp => ?_⟩
  refine q p _ hp (Same.new hp _) ?_
  rw [← ec]
  exact SqL.of upd_same
/-- a row with another entry -/
theorem row_set {r : List Int} {i : Nat} {c : Int} (h : i < r.length) : (r.take i).map V.int ++ V.int c :: ((r.drop (i + 1)).map V.int ++ []) = (r.set i c).map V.int := by
  rw [List.append_nil, List.set_eq_take_append_cons_drop, if_pos h, List.map_append, List.map_cons]
theorem refs_ofP {R : Addr → List Int → Prop} : ∀ {ys : List V} {M : List (List Int)}, ys.length = M.length → (∀ (j : Nat) (y : V), ys[j]? = some y → ∃ (a : Addr) (r : List Int), y = .ref a ∧ M[j]? = some r ∧ R a r) →
    ∃ as : List Addr, ys = as.map V.ref ∧ as.length = M.length ∧ ∀ (i : Nat) (a : Addr) (r : List Int), as[i]? = some a → M[i]? = some r → R a r
  | [], [], _, _ => ⟨[], rfl, rfl, fun i a r e => by simp at e⟩
  | [], _ :: _, h, _ => by simp at h
  | _ :: _, [], h, _ => by simp at h
  | y :: ys, r :: M, h, k => by
    obtain ⟨as, e1, e2, e3⟩ := refs_ofP (R := R) (ys := ys) (M := M) (by simpa using h) (fun j z e => by
      obtain ⟨a, r', h1, h2, h3⟩ := k (j + 1) z (by simpa using e)
      exact ⟨a, r', h1, by simpa using h2, h3⟩)
    obtain ⟨a, r', h1, h2, h3⟩ := k 0 y rfl
    have er : r = r' := by simpa using h2
    subst er
    subst h1 e1
    refine ⟨a :: as, rfl, by simp [e2], fun i b q e4 e5 => ?_⟩
    cases i with
    | zero =>
      cases e4
      cases e5
      exact h3
    | succ i => exact e3 i b q (by simpa using e4) (by simpa using e5)
theorem lcp_refs {K : PySem.W.Frag} {S : Hp → Prop} {t : Bool} {M : List (List Int)} {D : Addr} {n : Nat} {H : Hp} (P : LcP S (RRow K t M D) D n H) (hn : n = M.length) :
    ∃ as : List Addr, H D = some (.lst (as.map V.ref)) ∧ as.length = M.length ∧ ∀ (i : Nat) (a : Addr) (r : List Int), as[i]? = some a → M[i]? = some r → a ≠ D ∧ Sq t K H a (r.map V.int) := by
  obtain ⟨_, acc, h1, h2, h3⟩ := P
  obtain ⟨as, rfl, e2, e3⟩ := refs_ofP (R := fun a r => a ≠ D ∧ Sq t K H a (r.map V.int)) (ys := acc) (M := M) (by omega) h3
  exact ⟨as, h1, e2, e3⟩
def limR (f : Int) (r : List Int) : List Int := r.map fun s => f + s
def spLimits (K : PySem.W.Frag) : Sp := fun vs H Q _ => ∃ (f : Int) (p : Addr) (r : List Int), vs = [.int f, .ref p] ∧ SqT K H p (r.map V.int) ∧ r.length ≤ 1000 ∧ ∀ q H', H q = none → Same H H' → H' q = some (.lst ((limR f r).map V.int)) → Q (.ref q) H'
def wcF (i : Nat) (ab be : Nat → Int) (f : Nat → Nat → Int) : Nat → Nat → Int := fun a b => if a = i then (if b = i then 0 else ab b) else if b = i then be a else f a b
def spWithC (K : PySem.W.Frag) : Sp := fun vs H Q _ => ∃ (b pa pb : Addr) (i n : Nat) (ab be : Nat → Int) (M : List (List Int)), vs = [.ref b, .int i, .ref pa, .ref pb] ∧ Mx true true K H b M ∧ Sz n M ∧ i < n ∧ n ≤ 900 ∧ SqL K H pa ((mkR n ab).map V.int) ∧ SqL K H pb ((mkR n be).map V.int) ∧
  ∀ v H', Same H H' → BoxAt K H' v (some (mkM n (wcF i ab be (getM M)))) → Q v H'
def freeF (i : Nat) (lo hi : Int) (f : Nat → Nat → Int) : Nat → Nat → Int := wcF i (fun b => hi + f 0 b) (fun a => f a 0 - lo) f
def shiftF (i : Nat) (lo hi : Int) (f : Nat → Nat → Int) : Nat → Nat → Int := wcF i (fun b => f i b + hi) (fun a => f a i - lo) f
def chB (F : Nat → Int → Int → (Nat → Nat → Int) → Nat → Nat → Int) (n i : Nat) (lo hi : Int) : Option (List (List Int)) → Option (List (List Int))
  | none => none
  | some M => if lo > hi then none else some (mkM n (F i lo hi (getM M)))
def spChange (F : Nat → Int → Int → (Nat → Nat → Int) → Nat → Nat → Int) (K : PySem.W.Frag) : Sp := fun vs H Q _ => ∃ (v : V) (B : Option (List (List Int))) (i n : Nat) (lo hi : Int), vs = [v, .int i, .int lo, .int hi] ∧ BoxAt K H v B ∧ BSz n B ∧ i < n ∧ n ≤ 900 ∧ ∀ v H', Same H H' → BoxAt K H' v (chB F n i lo hi B) → Q v H'
theorem row_mk {n i : Nat} {M : List (List Int)} {r : List Int} (z : Sz n M) (hi : i < n) (e : M[i]? = some r) : r = mkR n (getM M i) := by
  have e2 := mkM_at (f := getM M) hi
  rw [mkM_self z, e] at e2
  exact Option.some.inj e2
section
variable {P : Program} {w : World} {K : PySem.W.Frag} {mg : Str → Option Value} {base : Heap}
theorem ok_with_column (T : Txt w K mg) : FnOk P w K mg base CX0 2 T.a_with_column T.d_with_column p_with_column (spWithC K) := by
  have g_frozen := ok_frozen (P := P) (w := w) (base := base) T
  refine T.F_with_column.ok sc_with_column (fun vs H Q E h => ?_) (fun cdv A outer s H vs Q E hr h => ?_)
  · obtain ⟨b, pa, pb, i, n, ab, be, M, rfl, _⟩ := h
    rfl
  obtain ⟨b, pa, pb, i, n, ab, be, M, rfl, hM, zM, hi, hn, ha, hb, q⟩ := h
  refine ⟨_, (pss_cons (ps_setLc (i := 4) (own := [("row", 5), ("most", 6)]) (g := gTup K 2 (gCons (gName 5) (gCons (gName 6) gNil))) (tt := tYes) rfl sc_with_column.nd rfl rfl (sw_true rfl rfl rfl (by decide +kernel)) (ZG.pi_zipG (by rfl) T.z_zip (pa_cons (pv 0) (pa_cons (pv 3) pa_nil))) (blkOk_by (own := [("row", 5), ("most", 6)]) (N := n_with_column) (sc := defScope s_with_column) (by decide +kernel)) (fun _ _ _ _ _ => (pg_tup rfl (pgs_cons (pg_name (i := 5) sc_with_column.nd rfl (Or.inl rfl)) (pgs_cons (pg_name (i := 6) sc_with_column.nd rfl (Or.inl rfl)) pgs_nil)))) (fun _ _ _ _ _ => pts_nil) (fun _ _ _ _ _ => (pe_lst (show L2.PA _ _ (StX.tStar K _ _) from (StX.pa_star (pe_slice (show SlR _ (rSlT K) from sl_tup) (pv 5) po_none (po_some (pv 1))) (pa_cons (pv 6) (show L2.PA _ _ (StX.tStar K _ _) from (StX.pa_star (pe_slice (show SlR _ (rSlT K) from sl_tup) (pv 5) (po_some (pe_op op_add (pv 1) pe_int)) po_none) pa_nil))))))))
      (pss_cons (ps_asg (pe_lst (StX.pa_star (pe_slice sl_list (pv 2) po_none (po_some (pv 1))) (pa_cons pe_int (StX.pa_star (pe_slice sl_list (pv 2) (po_some (pe_op op_add (pv 1) pe_int)) po_none) pa_nil)))) (pg_sub (pv 4) (pv 1) set_list))
      (pss_one (ps_ret (pe_call g_frozen (hr.mono (by first | decide | omega)) rfl T.m_frozen T.F_frozen.kp T.b_frozen .nil pass0 (pa_cons (pv 4) pa_nil)))))), ?_⟩
  obtain ⟨vs, hv, lv, hrow⟩ := hM.row
  have lv1 : vs.length = n := by rw [lv, zM.1]
  have lb : ((mkR n be).map V.int).length = n := by rw [List.length_map, mkR_len]
  have le : ((mkR n ab).map V.int).length = n := by rw [List.length_map, mkR_len]
  refine ⟨_, rfl, _, rfl, true, false, b, pb, _, _, rfl, hv, hb, fun D hD => ?_⟩
  let M1 : List (List Int) := mkM n fun a c => if c = i then be a else getM M a c
  refine lc_it (walk_zipG (n := n) (by omega)) (LcP (Same H) (RRow K false M1 D) D) (lcp_start hD) (fun i G _ P => ⟨Sq.same P.1 hv, Sq.same P.1 hb⟩) ?_ ?_
  · rintro k x G G' hk P ⟨t, u, v, rfl, ht, rfl, eu, ev⟩
    obtain ⟨a, r, rfl, er, hra⟩ := hrow k u eu
    obtain ⟨c, ec, rfl⟩ := get_int ev
    have lr := zM.get er
    have er2 := row_mk zM hk er
    rw [mkR_at hk] at ec
    cases ec
    have s1 : Same G (upd G t (.tup [.ref a, .int (be k)])) := Same.new ht _
    refine ⟨t, _, rfl, SqT.of upd_same, rfl, _, _, rfl, _, _, rfl, rfl, ?_⟩
    refine ⟨rfl, tyes ?_⟩
    have ha2 := Sq.same (P.1.trans s1) hra
    refine ⟨_, rfl, _, rfl, _, rfl, slT_hi i rfl ha2 (by omega) fun p1 G1 hp1 t1 h1 => ?_⟩
    refine ⟨p1, _, rfl, .inl h1, _, rfl, _, rfl, _, rfl, _, _, rfl, rfl, _, rfl, ?_⟩
    dsimp only [tNoPart]
    refine slT_lo (c := (i : Int) + 1) (i + 1) (by omega) (Sq.same t1 ha2) (by omega) (by omega) fun p2 G2 hp2 t2 h2 => ?_
    refine ⟨p2, _, rfl, .inl h2, ?_⟩
    dsimp only [tNil]
    rw [row_set (by omega)]
    refine ⟨by rw [List.length_map, List.length_set, lr, sizeLine_eq]; omega, fun l hl => ?_⟩
    have s3 := (s1.trans t1).trans (t2.trans (Same.new hl (.lst ((r.set i (be k)).map V.int))))
    refine lcp_same P hD s3 (lt_line (by omega)) RRow.mono ⟨l, _, rfl, ?_, P.ne ((s1.trans (t1.trans t2)).free hl), Sq.upd_same⟩
    show M1[k]? = _
    rw [mkM_at hk, er2, mkR_set]
  · intro G P
    have lM1 : n = M1.length := mkM_sz.1.symm
    obtain ⟨as, h1, h2, h3⟩ := lcp_refs P lM1
    have la : as.length = n := by rw [h2, ← lM1]
    have sG := P.1
    refine ⟨_, rfl, _, rfl, _, rfl, slL_hi i rfl (sG.seq ha) (by rw [mkR_len]; omega) fun p1 G1 hp1 t1 k1 => ?_⟩
    refine ⟨p1, _, rfl, .inr k1, _, rfl, _, rfl, _, _, rfl, rfl, _, rfl, ?_⟩
    dsimp only [tNoPart]
    refine slL_lo (c := (i : Int) + 1) (i + 1) (by omega) ((sG.trans t1).seq ha) (by rw [mkR_len]; omega) fun p2 G2 hp2 t2 k2 => ?_
    refine ⟨p2, _, rfl, .inr k2, ?_⟩
    dsimp only [tNil]
    rw [row_set (r := mkR n ab) (by rw [mkR_len]; omega)]
    refine ⟨by rw [List.length_map, List.length_set, mkR_len, sizeLine_eq]; omega, fun l hl => ?_⟩
    have s3 := t1.trans (t2.trans (Same.new hl (.lst (((mkR n ab).set i 0).map V.int))))
    have lD : l ≠ D := fun z => by
      have := (t1.trans t2) _ _ h1
      rw [← z, hl] at this
      cases this
    refine ⟨_, rfl, _, rfl, D, _, _, _, rfl, rfl, s3 _ _ h1, ixN_int (by omega) (by rw [List.length_map, la]; omega), ?_⟩
    rw [Int.toNat_natCast, ← List.map_set]
    have mE : Mx false false K (upd (upd G2 l (.lst (((mkR n ab).set i 0).map V.int))) D (.lst ((as.set i l).map V.ref))) D (mkM n (wcF i ab be (getM M))) := by
      refine ⟨as.set i l, Sq.upd_same, by rw [List.length_set, la, mkM_sz.1], fun j a r e1 e2 => ?_⟩
      have hj : j < n := by
        have := (List.getElem?_eq_some_iff.mp e1).1
        rw [List.length_set] at this
        omega
      rw [mkM_at hj] at e2
      cases e2
      rw [List.getElem?_set] at e1
      by_cases e : i = j
      · subst e
        rw [if_pos rfl, if_pos (by omega)] at e1
        cases e1
        refine Sq.but (But.upd _) lD ?_
        have er : mkR n (wcF i ab be (getM M) i) = (mkR n ab).set i 0 := by
          rw [mkR_set]
          refine congrArg (mkR n) (funext fun b => ?_)
          unfold wcF
          rw [if_pos rfl]
        rw [er]
        exact Sq.upd_same
      · rw [if_neg e] at e1
        obtain ⟨q1, q2⟩ := h3 j a _ e1 (mkM_at hj)
        refine Sq.but (But.upd _) q1 (Sq.same s3 ?_)
        have er : mkR n (wcF i ab be (getM M) j) = mkR n fun c => if c = i then be j else getM M j c := by
          refine congrArg (mkR n) (funext fun b => ?_)
          unfold wcF
          rw [if_neg (fun z => e z.symm)]
        rw [er]
        exact q2
    refine ⟨_, rfl, D, _, rfl, mE, by rw [mkM_sz.1]; omega, fun p' H' s' hM' => ?_⟩
    refine q (.ref p') H' (Same.trans ?_ s') ⟨p', rfl, hM'⟩
    exact fun x o e => by
      rw [upd_ne (ne_of_none e hD)]
      exact s3 _ _ (sG _ _ e)
end
/-! ### a column freed, shifted -/
section
variable {P : Program} {w : World} {K : PySem.W.Frag} {mg : Str → Option Value} {base : Heap}
theorem ok_free_column (T : Txt w K mg) : FnOk P w K mg base CX0 3 T.a_free_column T.d_free_column p_free_column (spChange freeF K) := by
  have g_with_column := ok_with_column (P := P) (w := w) (base := base) T
  refine T.F_free_column.ok sc_free_column (fun vs H Q E h => ?_) (fun cdv A outer s H vs Q E hr h => ?_)
  · obtain ⟨v, B, i, n, lo, hi, rfl, _⟩ := h
    rfl
  obtain ⟨v, B, i, n, lo, hi, rfl, hB, zB, hi', hn, q⟩ := h
  refine ⟨_, (pss_cons (ps_if (PW.pt (pw_or (pt_cmpR op_isN (pv 0) pe_non (nomark _)) (pw_or1 (pt_cmpR op_gt (pv 2) (pv 3) (nomark _))))) (pss_one (ps_ret pe_non)) pss_nil)
      (pss_cons (ps_setLc (i := 4) (own := [("most", 5)]) (g := gName 5) (tt := tYes) rfl sc_free_column.nd rfl rfl (sw_true rfl rfl rfl (by decide +kernel)) (pi_tup (pe_ix ix_tup (pv 0) pe_int (fun _ _ => rfl))) (blkOk_by (own := [("most", 5)]) (N := n_free_column) (sc := defScope s_free_column) (by decide +kernel)) (fun _ _ _ _ _ => (pg_name (i := 5) sc_free_column.nd rfl (Or.inl rfl))) (fun _ _ _ _ _ => pts_nil) (fun _ _ _ _ _ => (pe_op op_add (pv 3) (pv 5))))
      (pss_cons (ps_setLc (i := 6) (own := [("row", 7)]) (g := gName 7) (tt := tYes) rfl sc_free_column.nd rfl rfl (sw_true rfl rfl rfl (by decide +kernel)) (pi_tup (pv 0)) (blkOk_by (own := [("row", 7)]) (N := n_free_column) (sc := defScope s_free_column) (by decide +kernel)) (fun _ _ _ _ _ => (pg_name (i := 7) sc_free_column.nd rfl (Or.inl rfl))) (fun _ _ _ _ _ => pts_nil) (fun _ _ _ _ _ => (pe_op op_sub (pe_ix (show IxR _ (rIxT K) from ix_tup) (pv 7) pe_int (fun _ _ => rfl)) (pv 2))))
      (pss_one (ps_ret (pe_call g_with_column (hr.mono (by first | decide | omega)) rfl T.m_with_column T.F_with_column.kp T.b_with_column .nil pass0 (pa_cons (pv 0) (pa_cons (pv 1) (pa_cons (pv 4) (pa_cons (pv 6) pa_nil)))))))))), ?_⟩
  cases B with
  | none =>
    obtain rfl : v = .non := hB
    exact ⟨_, rfl, rfl, _, rfl, ifT rfl (ifT rfl (q _ _ (Same.refl _) rfl))⟩
  | some M =>
  obtain ⟨pa, rfl, hM⟩ := hB
  have zM := zB M rfl
  refine ⟨_, rfl, rfl, _, rfl, ifF rfl ?_⟩
  refine ⟨_, rfl, _, rfl, _, _, rfl, rfl, _, rfl, ite2 (fun h => ?_) (fun h => ?_)⟩
  · have h' : lo > hi := of_decide_eq_true h
    refine q _ _ (Same.refl _) ?_
    show BoxAt K H .non (if lo > hi then none else _)
    rw [if_pos h']
    rfl
  have h' : ¬ lo > hi := of_decide_eq_false (Bool.eq_false_iff.mpr h)
  obtain ⟨vs, hv, lv, hrow⟩ := hM.row
  have lv1 : vs.length = n := by rw [lv, zM.1]
  have hn0 : 0 < n := by omega
  obtain ⟨r0, e0, l0⟩ := zM.at hn0
  obtain ⟨ws, a0, x1, x2, x3⟩ := hM.getT e0
  have er0 := row_mk zM hn0 e0
  refine ⟨_, rfl, pa, _, _, _, rfl, rfl, x1, x2, a0, rfl, ⟨_, x3⟩, fun D hD => ?_⟩
  refine lc_it (walk_tup (xs := r0.map V.int)) (LcP (Same H) (RInt (mkR n fun b => hi + getM M 0 b)) D) (lcp_start hD) (fun i G _ P => Same.tup P.1 x3) ?_ ?_
  · rintro k x G G' hk P ⟨rfl, ex⟩
    obtain ⟨c, fk, rfl⟩ := get_int ex
    rw [List.length_map, l0] at hk
    rw [er0, mkR_at hk] at fk
    cases fk
    refine ⟨rfl, tyes ?_⟩
    refine ⟨_, rfl, _, rfl, _, _, rfl, rfl, ?_⟩
    exact lcp_same P hD (Same.refl _) (lt_line (by omega)) RInt.mono ⟨_, mkR_at hk, rfl⟩
  intro G PA
  have hA := lcp_ints (K := K) PA (by rw [List.length_map, l0, mkR_len])
  have sG := PA.1
  refine ⟨_, rfl, pa, rfl, ⟨_, Same.tup sG hv⟩, fun D2 hD2 => ?_⟩
  refine lc_it (walk_tup (xs := vs)) (LcP (Same G) (RInt (mkR n fun a => getM M a 0 - lo)) D2) (lcp_start hD2) (fun i F _ P => Same.tup (sG.trans P.1) hv) ?_ ?_
  · rintro k x F F' hk P ⟨rfl, ex⟩
    rw [lv1] at hk
    obtain ⟨a, r, rfl, er, ha⟩ := hrow k x ex
    have er2 := row_mk zM hk er
    have at0 : atI (r.map V.int) 0 = some (.int (getM M k 0)) := by
      rw [er2]
      exact atI_nat (j := 0) (map_get (mkR_at hn0))
    refine ⟨rfl, tyes ?_⟩
    refine ⟨_, rfl, a, _, _, _, rfl, rfl, Same.tup (sG.trans P.1) ha, at0, _, rfl, _, _, rfl, rfl, ?_⟩
    exact lcp_same P hD2 (Same.refl _) (lt_line (by omega)) RInt.mono ⟨_, mkR_at hk, rfl⟩
  intro F PB
  have hB2 := lcp_ints (K := K) PB (by rw [lv1, mkR_len])
  have sF := sG.trans PB.1
  refine ⟨_, rfl, _, rfl, _, rfl, _, rfl, pa, D, D2, i, n, _, _, M, rfl, hM.same sF, zM, hi', hn, SqL.of (PB.1 _ _ hA), SqL.of hB2, fun v H' s' b' => ?_⟩
  refine q v H' (sF.trans s') ?_
  show BoxAt K H' v (if lo > hi then none else _)
  rw [if_neg h']
  exact b'
theorem ok_shift_column (T : Txt w K mg) : FnOk P w K mg base CX0 3 T.a_shift_column T.d_shift_column p_shift_column (spChange shiftF K) := by
  have g_with_column := ok_with_column (P := P) (w := w) (base := base) T
  refine T.F_shift_column.ok sc_shift_column (fun vs H Q E h => ?_) (fun cdv A outer s H vs Q E hr h => ?_)
  · obtain ⟨v, B, i, n, lo, hi, rfl, _⟩ := h
    rfl
  obtain ⟨v, B, i, n, lo, hi, rfl, hB, zB, hi', hn, q⟩ := h
  refine ⟨_, (pss_cons (ps_if (PW.pt (pw_or (pt_cmpR op_isN (pv 0) pe_non (nomark _)) (pw_or1 (pt_cmpR op_gt (pv 2) (pv 3) (nomark _))))) (pss_one (ps_ret pe_non)) pss_nil)
      (pss_cons (ps_setLc (i := 4) (own := [("most", 5)]) (g := gName 5) (tt := tYes) rfl sc_shift_column.nd rfl rfl (sw_true rfl rfl rfl (by decide +kernel)) (pi_tup (pe_ix ix_tup (pv 0) (pv 1) (fun _ _ => rfl))) (blkOk_by (own := [("most", 5)]) (N := n_shift_column) (sc := defScope s_shift_column) (by decide +kernel)) (fun _ _ _ _ _ => (pg_name (i := 5) sc_shift_column.nd rfl (Or.inl rfl))) (fun _ _ _ _ _ => pts_nil) (fun _ _ _ _ _ => (pe_op op_add (pv 5) (pv 3))))
      (pss_cons (ps_setLc (i := 6) (own := [("row", 7)]) (g := gName 7) (tt := tYes) rfl sc_shift_column.nd rfl rfl (sw_true rfl rfl rfl (by decide +kernel)) (pi_tup (pv 0)) (blkOk_by (own := [("row", 7)]) (N := n_shift_column) (sc := defScope s_shift_column) (by decide +kernel)) (fun _ _ _ _ _ => (pg_name (i := 7) sc_shift_column.nd rfl (Or.inl rfl))) (fun _ _ _ _ _ => pts_nil) (fun _ _ _ _ _ => (pe_op op_sub (pe_ix (show IxR _ (rIxT K) from ix_tup) (pv 7) (pv 1) (fun _ _ => rfl)) (pv 2))))
      (pss_one (ps_ret (pe_call g_with_column (hr.mono (by first | decide | omega)) rfl T.m_with_column T.F_with_column.kp T.b_with_column .nil pass0 (pa_cons (pv 0) (pa_cons (pv 1) (pa_cons (pv 4) (pa_cons (pv 6) pa_nil)))))))))), ?_⟩
  cases B with
  | none =>
    obtain rfl : v = .non := hB
    exact ⟨_, rfl, rfl, _, rfl, ifT rfl (ifT rfl (q _ _ (Same.refl _) rfl))⟩
  | some M =>
  obtain ⟨pa, rfl, hM⟩ := hB
  have zM := zB M rfl
  refine ⟨_, rfl, rfl, _, rfl, ifF rfl ?_⟩
  refine ⟨_, rfl, _, rfl, _, _, rfl, rfl, _, rfl, ite2 (fun h => ?_) (fun h => ?_)⟩
  · have h' : lo > hi := of_decide_eq_true h
    refine q _ _ (Same.refl _) ?_
    show BoxAt K H .non (if lo > hi then none else _)
    rw [if_pos h']
    rfl
  have h' : ¬ lo > hi := of_decide_eq_false (Bool.eq_false_iff.mpr h)
  obtain ⟨vs, hv, lv, hrow⟩ := hM.row
  have lv1 : vs.length = n := by rw [lv, zM.1]
  obtain ⟨r0, e0, l0⟩ := zM.at hi'
  obtain ⟨ws, a0, x1, x2, x3⟩ := hM.getT e0
  have er0 := row_mk zM hi' e0
  refine ⟨_, rfl, _, rfl, pa, _, _, _, rfl, rfl, x1, x2, a0, rfl, ⟨_, x3⟩, fun D hD => ?_⟩
  refine lc_it (walk_tup (xs := r0.map V.int)) (LcP (Same H) (RInt (mkR n fun b => getM M i b + hi)) D) (lcp_start hD) (fun i G _ P => Same.tup P.1 x3) ?_ ?_
  · rintro k x G G' hk P ⟨rfl, ex⟩
    obtain ⟨c, fk, rfl⟩ := get_int ex
    rw [List.length_map, l0] at hk
    rw [er0, mkR_at hk] at fk
    cases fk
    refine ⟨rfl, tyes ?_⟩
    refine ⟨_, rfl, _, rfl, _, _, rfl, rfl, ?_⟩
    exact lcp_same P hD (Same.refl _) (lt_line (by omega)) RInt.mono ⟨_, mkR_at hk, rfl⟩
  intro G PA
  have hA := lcp_ints (K := K) PA (by rw [List.length_map, l0, mkR_len])
  have sG := PA.1
  refine ⟨_, rfl, pa, rfl, ⟨_, Same.tup sG hv⟩, fun D2 hD2 => ?_⟩
  refine lc_it (walk_tup (xs := vs)) (LcP (Same G) (RInt (mkR n fun a => getM M a i - lo)) D2) (lcp_start hD2) (fun i F _ P => Same.tup (sG.trans P.1) hv) ?_ ?_
  · rintro k x F F' hk P ⟨rfl, ex⟩
    rw [lv1] at hk
    obtain ⟨a, r, rfl, er, ha⟩ := hrow k x ex
    have er2 := row_mk zM hk er
    have at0 : atI (r.map V.int) (i : Int) = some (.int (getM M k i)) := by
      rw [er2]
      exact atI_nat (map_get (mkR_at hi'))
    refine ⟨rfl, tyes ?_⟩
    refine ⟨_, rfl, _, rfl, a, _, _, _, rfl, rfl, Same.tup (sG.trans P.1) ha, at0, _, rfl, _, _, rfl, rfl, ?_⟩
    exact lcp_same P hD2 (Same.refl _) (lt_line (by omega)) RInt.mono ⟨_, mkR_at hk, rfl⟩
  intro F PB
  have hB2 := lcp_ints (K := K) PB (by rw [lv1, mkR_len])
  have sF := sG.trans PB.1
  refine ⟨_, rfl, _, rfl, _, rfl, _, rfl, pa, D, D2, i, n, _, _, M, rfl, hM.same sF, zM, hi', hn, SqL.of (PB.1 _ _ hA), SqL.of hB2, fun v H' s' b' => ?_⟩
  refine q v H' (sF.trans s') ?_
  show BoxAt K H' v (if lo > hi then none else _)
  rw [if_neg h']
  exact b'
end
/-! ### all points of a matrix, listed -/
def valsL (M : List (List Int)) (c : Nat) : List Int := (List.range (getM M c 0 + 1 - (0 - getM M 0 c)).toNat).map fun (k : Nat) => (0 - getM M 0 c) + (k : Int)
def fitP (M : List (List Int)) (c : Nat) (p : List Int) (v : Int) : Prop := ∀ k < p.length, v - p.getD k 0 ≤ getM M c (k + 1) ∧ p.getD k 0 - v ≤ getM M (k + 1) c
instance (M : List (List Int)) (c : Nat) (p : List Int) (v : Int) : Decidable (fitP M c p v) := inferInstanceAs (Decidable (∀ k < p.length, _))
def stepV (M : List (List Int)) (c : Nat) (p : List Int) (vs : List Int) : List (List Int) := (vs.filter fun v => decide (fitP M c p v)).map fun v => p ++ [v]
def stepL (M : List (List Int)) (c : Nat) (Ps : List (List Int)) : List (List Int) := Ps.flatMap fun p => stepV M c p (valsL M c)
def ptsL (M : List (List Int)) : Nat → List (List Int)
  | 0 => [[]]
  | c + 1 => stepL M (c + 1) (ptsL M c)
def InP (M : List (List Int)) (c : Nat) (p : List Int) : Prop := p.length = c ∧ ∀ i < c + 1, ∀ j < c + 1, i ≠ j → dif i j p ≤ getM M i j
theorem mem_vals {M : List (List Int)} {c : Nat} {v : Int} : v ∈ valsL M c ↔ 0 - getM M 0 c ≤ v ∧ v ≤ getM M c 0 := by
  unfold valsL
  rw [List.mem_map]
  constructor
  · rintro ⟨k, hk, rfl⟩
    rw [List.mem_range] at hk
    omega
  · rintro ⟨h1, h2⟩
    exact ⟨(v - (0 - getM M 0 c)).toNat, List.mem_range.mpr (by omega), by omega⟩
theorem snoc_get {p : List Int} {v : Int} {i : Nat} (h : i ≤ p.length) : (0 :: (p ++ [v])).getD i 0 = (0 :: p).getD i 0 := by
  rw [← List.cons_append, List.getD_eq_getElem?_getD, List.getElem?_append_left (by simp; omega), ← List.getD_eq_getElem?_getD]
theorem snoc_last {p : List Int} {v : Int} : (0 :: (p ++ [v])).getD (p.length + 1) 0 = v := by
  rw [← List.cons_append, List.getD_eq_getElem?_getD, List.getElem?_append_right (by simp)]
  simp
theorem cons_get {p : List Int} {k : Nat} : (0 :: p).getD (k + 1) 0 = p.getD k 0 := rfl
theorem mem_pts {M : List (List Int)} : ∀ {c : Nat} {p : List Int}, p ∈ ptsL M c ↔ InP M c p
  | 0, p => by
    unfold ptsL InP
    constructor
    · intro h
      have e : p = [] := by simpa using h
      subst e
      exact ⟨rfl, fun i hi j hj ne => by omega⟩
    · rintro ⟨h, _⟩
      rw [List.length_eq_zero_iff.mp h]
      exact List.mem_singleton.mpr rfl
  | c + 1, p => by
    show p ∈ stepL M (c + 1) (ptsL M c) ↔ _
    unfold stepL stepV
    rw [List.mem_flatMap]
    constructor
    · rintro ⟨q, hq, hp⟩
      obtain ⟨v, hv, rfl⟩ := List.mem_map.mp hp
      obtain ⟨hv1, hv2⟩ := List.mem_filter.mp hv
      have hf : fitP M (c + 1) q v := of_decide_eq_true hv2
      obtain ⟨lq, iq⟩ := mem_pts.mp hq
      have hr := mem_vals.mp hv1
      refine ⟨by simp [lq], fun i hi j hj ne => ?_⟩
      have last : (0 :: (q ++ [v])).getD (c + 1) 0 = v := by
        have := snoc_last (p := q) (v := v)
        rwa [lq] at this
      unfold dif
      by_cases h1 : i = c + 1
      · subst h1
        rw [last, snoc_get (by omega)]
        cases j with
        | zero =>
          show v - 0 ≤ _
          omega
        | succ j =>
          rw [cons_get]
          exact (hf j (by omega)).1
      · by_cases h2 : j = c + 1
        · subst h2
          rw [last, snoc_get (by omega)]
          cases i with
          | zero =>
            show 0 - v ≤ _
            omega
          | succ i =>
            rw [cons_get]
            exact (hf i (by omega)).2
        · rw [snoc_get (by omega), snoc_get (by omega)]
          exact iq i (by omega) j (by omega) ne
    · rintro ⟨lp, ip⟩
      have ne : p ≠ [] := fun z => by rw [z] at lp; simp at lp
      obtain ⟨q, v, rfl⟩ : ∃ q v, p = q ++ [v] := ⟨p.dropLast, p.getLast ne, (List.dropLast_concat_getLast ne).symm⟩
      have lq : q.length = c := by simpa using lp
      have last : (0 :: (q ++ [v])).getD (c + 1) 0 = v := by
        have := snoc_last (p := q) (v := v)
        rwa [lq] at this
      refine ⟨q, mem_pts.mpr ⟨lq, fun i hi j hj ne => ?_⟩, List.mem_map.mpr ⟨v, List.mem_filter.mpr ⟨mem_vals.mpr ?_, decide_eq_true fun k hk => ?_⟩, rfl⟩⟩
      · have := ip i (by omega) j (by omega) ne
        unfold dif at *
        rwa [snoc_get (by omega), snoc_get (by omega)] at this
      · have a := ip (c + 1) (by omega) 0 (by omega) (by omega)
        have b := ip 0 (by omega) (c + 1) (by omega) (by omega)
        unfold dif at a b
        rw [last, snoc_get (by omega)] at a b
        have e : (0 :: q).getD 0 0 = 0 := rfl
        rw [e] at a b
        omega
      · have a := ip (c + 1) (by omega) (k + 1) (by omega) (by omega)
        have b := ip (k + 1) (by omega) (c + 1) (by omega) (by omega)
        unfold dif at a b
        rw [last, snoc_get (by omega), cons_get] at a b
        exact ⟨a, b⟩
/-- the point of a closed matrix in which a column is as small as can be -/
def colP (n : Nat) (C : Nat → Nat → Int) (j : Nat) : List Int := mkR n fun k => C (k + 1) j - C 0 j
theorem colP_get {n : Nat} {C : Nat → Nat → Int} {i j : Nat} (hi : i < n + 1) : (0 :: colP n C j).getD i 0 = C i j - C 0 j := by
  cases i with
  | zero =>
    show (0 : Int) = _
    omega
  | succ i =>
    rw [cons_get, List.getD_eq_getElem?_getD]
    unfold colP
    rw [mkR_at (by omega)]
    rfl
theorem colP_in {n : Nat} {C : Nat → Nat → Int} {M : List (List Int)} {j : Nat} (c : Clo (n + 1) C) (l : LeF (n + 1) C (getM M)) (hj : j < n + 1) : colP n C j ∈ ptsL M n := by
  refine mem_pts.mpr ⟨mkR_len, fun i hi k hk _ => ?_⟩
  unfold dif
  rw [colP_get hi, colP_get hk]
  have a := c.t i hi j hj k hk
  have b := l i hi k hk
  omega
theorem best_pts {n : Nat} {M : List (List Int)} (hd : ∀ i < n + 1, 0 ≤ getM M i i) : Best (n + 1) (getM M) (hull n (ptsL M n)) := by
  unfold hull
  split
  · rename_i e
    intro C hC hl
    have := colP_in hC hl (j := 0) (by omega)
    rw [e] at this
    simp at this
  · rename_i ne
    refine ⟨hullM_sz n _, ⟨fun i hi => hull_diag ne hi, fun i hi j hj k hk => hull_tri ne hi hj hk⟩, fun i hi j hj => ?_, fun C hC hl i hi j hj => ?_⟩
    · by_cases e : i = j
      · subst e
        rw [hull_diag ne hi]
        exact hd i hi
      · rw [getM_hull hi hj]
        obtain ⟨r, hr, er⟩ := List.mem_map.mp (lmax_mem (xs := (ptsL M n).map (dif i j)) fun z => ne (List.map_eq_nil_iff.mp z))
        rw [← er]
        exact (mem_pts.mp hr).2 i hi j hj e
    · rw [getM_hull hi hj]
      have h1 : dif i j (colP n C j) ≤ _ := lmax_le (List.mem_map_of_mem (colP_in hC hl hj))
      unfold dif at h1
      rw [colP_get hi, colP_get hj] at h1
      have := hC.d j hj
      unfold dif
      omega
theorem best_neg {n i : Nat} {D : Nat → Nat → Int} (hi : i < n) (neg : D i i < 0) : Best n D none := fun C hC hl => by
  have a := hl i hi i hi
  have b := hC.d i hi
  omega
/-- the points that the law lists for a matrix, or None -/
noncomputable def ptsB (n : Nat) : Option (List (List Int)) → List (List Int)
  | none => []
  | some M => open Classical in if ∀ i < n + 1, 0 ≤ getM M i i then ptsL M n else []
theorem best_ptsB {n : Nat} {M : List (List Int)} : Best (n + 1) (getM M) (hull n (ptsB n (some M))) := by
  show Best (n + 1) (getM M) (hull n (open Classical in if ∀ i < n + 1, 0 ≤ getM M i i then ptsL M n else []))
  split
  · rename_i h
    exact best_pts h
  · rename_i h
    have e : hull n [] = none := rfl
    rw [e]
    obtain ⟨i, h1⟩ := Classical.not_forall.mp h
    obtain ⟨hi, h2⟩ := Classical.not_imp.mp h1
    exact best_neg hi (by omega)
/-! ### hulls of moved points -/
/-- column a of a point -/
def xc (r : List Int) (a : Nat) : Int := (0 :: r).getD a 0
theorem dif_xc {a b : Nat} {r : List Int} : dif a b r = xc r a - xc r b := rfl
theorem xc_succ {r : List Int} {a : Nat} : xc r (a + 1) = r.getD a 0 := rfl
theorem lmax_is {xs : List Int} {m : Int} (h1 : m ∈ xs) (h2 : ∀ y ∈ xs, y ≤ m) : lmax xs = m := (lmax_eq h1 h2).symm
theorem hull_of {n : Nat} {Ps : List (List Int)} {f : Nat → Nat → Int} (ne : Ps ≠ []) (h : ∀ a < n + 1, ∀ b < n + 1, f a b ∈ Ps.map (dif a b) ∧ ∀ r ∈ Ps, dif a b r ≤ f a b) : hull n Ps = some (mkM (n + 1) f) := by
  unfold hull
  rw [if_neg ne]
  congr 1
  refine sz_ext (hullM_sz n Ps) mkM_sz fun a ha b hb => ?_
  rw [getM_hull ha hb, mkM_get ha hb]
  obtain ⟨h1, h2⟩ := h a ha b hb
  exact lmax_is h1 fun y hy => by
    obtain ⟨r, hr, rfl⟩ := List.mem_map.mp hy
    exact h2 r hr
/-- an entry of a hull is reached, and bounds -/
theorem hull_at {n a b : Nat} {Ps : List (List Int)} (ne : Ps ≠ []) (ha : a < n + 1) (hb : b < n + 1) : ∃ r ∈ Ps, dif a b r = getM (hullM n Ps) a b := by
  rw [getM_hull ha hb]
  obtain ⟨r, hr, e⟩ := List.mem_map.mp (lmax_mem (xs := Ps.map (dif a b)) fun z => ne (List.map_eq_nil_iff.mp z))
  exact ⟨r, hr, e⟩
theorem hull_le {n a b : Nat} {Ps : List (List Int)} {r : List Int} (ha : a < n + 1) (hb : b < n + 1) (hr : r ∈ Ps) : dif a b r ≤ getM (hullM n Ps) a b := by
  rw [getM_hull ha hb]
  exact lmax_le (List.mem_map_of_mem hr)
theorem hull_some {n : Nat} {Ps : List (List Int)} (ne : Ps ≠ []) : hull n Ps = some (hullM n Ps) := by
  unfold hull
  rw [if_neg ne]
theorem hull_clo {n : Nat} {Ps : List (List Int)} (ne : Ps ≠ []) : Clo (n + 1) (getM (hullM n Ps)) := ⟨fun _ hi => hull_diag ne hi, fun _ hi _ hj _ hk => hull_tri ne hi hj hk⟩
theorem xc_set {r : List Int} {k a : Nat} {v : Int} (hk : k < r.length) : xc (r.set k v) a = if a = k + 1 then v else xc r a := by
  cases a with
  | zero => rw [if_neg (by omega)]; rfl
  | succ a =>
    rw [xc_succ, List.getD_eq_getElem?_getD, List.getElem?_set]
    by_cases e : k = a
    · subst e
      rw [if_pos rfl, if_pos hk, if_pos rfl]
      rfl
    · rw [if_neg e, if_neg (by omega), xc_succ, List.getD_eq_getElem?_getD]
/-- each point with its k-th value changed to two others -/
def movedL (k : Nat) (u v : List Int → Int) (Ps : List (List Int)) : List (List Int) := Ps.flatMap fun r => [r.set k (u r), r.set k (v r)]
theorem mem_moved {k : Nat} {u v : List Int → Int} {Ps : List (List Int)} {s : List Int} : s ∈ movedL k u v Ps ↔ ∃ r ∈ Ps, s = r.set k (u r) ∨ s = r.set k (v r) := by
  unfold movedL
  rw [List.mem_flatMap]
  constructor
  · rintro ⟨r, hr, h⟩
    exact ⟨r, hr, by simpa using h⟩
  · rintro ⟨r, hr, h⟩
    exact ⟨r, hr, by simpa using h⟩
theorem moved_ne {k : Nat} {u v : List Int → Int} {Ps : List (List Int)} (ne : Ps ≠ []) : movedL k u v Ps ≠ [] := by
  obtain ⟨r, hr⟩ := List.exists_mem_of_ne_nil _ ne
  intro z
  have := (mem_moved (u := u) (v := v) (k := k)).mpr ⟨r, hr, .inl rfl⟩
  rw [z] at this
  simp at this
theorem free_hull {n k : Nat} {lo hi : Int} {Ps : List (List Int)} (hk : k < n) (l : ∀ r ∈ Ps, r.length = n) (h : lo ≤ hi) : chB freeF (n + 1) (k + 1) lo hi (hull n Ps) = hull n (movedL k (fun _ => lo) (fun _ => hi) Ps) := by
  by_cases ne : Ps = []
  · subst ne
    rfl
  rw [hull_some ne]
  show (if lo > hi then none else _) = _
  rw [if_neg (by omega)]
  refine (hull_of (moved_ne ne) fun a ha b hb => ?_).symm
  have sx : ∀ r ∈ Ps, ∀ (v : Int) (c : Nat), xc (r.set k v) c = if c = k + 1 then v else xc r c := fun r hr v c => xc_set (by rw [l r hr]; exact hk)
  have at_ : ∀ {m : Int}, (∃ r ∈ Ps, m = dif a b (r.set k lo) ∨ m = dif a b (r.set k hi)) → m ∈ (movedL k (fun _ => lo) (fun _ => hi) Ps).map (dif a b) := by
    rintro m ⟨r, hr, e | e⟩
    · exact List.mem_map.mpr ⟨_, mem_moved.mpr ⟨r, hr, .inl rfl⟩, e.symm⟩
    · exact List.mem_map.mpr ⟨_, mem_moved.mpr ⟨r, hr, .inr rfl⟩, e.symm⟩
  have all : ∀ {m : Int}, (∀ r ∈ Ps, dif a b (r.set k lo) ≤ m ∧ dif a b (r.set k hi) ≤ m) → ∀ s ∈ movedL k (fun _ => lo) (fun _ => hi) Ps, dif a b s ≤ m := by
    intro m h s hs
    obtain ⟨r, hr, e | e⟩ := mem_moved.mp hs
    · rw [e]; exact (h r hr).1
    · rw [e]; exact (h r hr).2
  have x0 : ∀ r : List Int, xc r 0 = 0 := fun _ => rfl
  unfold freeF wcF
  dsimp only
  by_cases ea : a = k + 1
  · by_cases eb : b = k + 1
    · rw [if_pos ea, if_pos eb]
      obtain ⟨r0, hr0⟩ := List.exists_mem_of_ne_nil _ ne
      refine ⟨at_ ⟨r0, hr0, .inl ?_⟩, all fun r hr => ?_⟩
      · rw [dif_xc, sx r0 hr0, sx r0 hr0, if_pos ea, if_pos eb]; omega
      · rw [dif_xc, dif_xc, sx r hr, sx r hr, sx r hr, sx r hr, if_pos ea, if_pos eb, if_pos ea, if_pos eb]; omega
    · rw [if_pos ea, if_neg eb]
      obtain ⟨r0, hr0, e0⟩ := hull_at (n := n) (a := 0) (b := b) ne (by omega) hb
      refine ⟨at_ ⟨r0, hr0, .inr ?_⟩, all fun r hr => ?_⟩
      · rw [← e0, dif_xc, dif_xc, sx r0 hr0, sx r0 hr0, if_pos ea, if_neg eb, x0]; omega
      · have hl := hull_le (n := n) (a := 0) (b := b) (by omega) hb hr
        rw [dif_xc, x0] at hl
        rw [dif_xc, dif_xc, sx r hr, sx r hr, sx r hr, sx r hr, if_pos ea, if_neg eb, if_pos ea, if_neg eb]
        omega
  · by_cases eb : b = k + 1
    · rw [if_neg ea, if_pos eb]
      obtain ⟨r0, hr0, e0⟩ := hull_at (n := n) (a := a) (b := 0) ne ha (by omega)
      refine ⟨at_ ⟨r0, hr0, .inl ?_⟩, all fun r hr => ?_⟩
      · rw [← e0, dif_xc, dif_xc, sx r0 hr0, sx r0 hr0, if_neg ea, if_pos eb, x0]; omega
      · have hl := hull_le (n := n) (a := a) (b := 0) ha (by omega) hr
        rw [dif_xc, x0] at hl
        rw [dif_xc, dif_xc, sx r hr, sx r hr, sx r hr, sx r hr, if_neg ea, if_pos eb, if_neg ea, if_pos eb]
        omega
    · rw [if_neg ea, if_neg eb]
      obtain ⟨r0, hr0, e0⟩ := hull_at (n := n) (a := a) (b := b) ne ha hb
      refine ⟨at_ ⟨r0, hr0, .inl ?_⟩, all fun r hr => ?_⟩
      · rw [← e0, dif_xc, dif_xc, sx r0 hr0, sx r0 hr0, if_neg ea, if_neg eb]
      · have hl := hull_le (n := n) (a := a) (b := b) ha hb hr
        rw [dif_xc] at hl
        rw [dif_xc, dif_xc, sx r hr, sx r hr, sx r hr, sx r hr, if_neg ea, if_neg eb, if_neg ea, if_neg eb]
        omega
theorem shift_hull {n k : Nat} {lo hi : Int} {Ps : List (List Int)} (hk : k < n) (l : ∀ r ∈ Ps, r.length = n) (h : lo ≤ hi) : chB shiftF (n + 1) (k + 1) lo hi (hull n Ps) = hull n (movedL k (fun r => r.getD k 0 + lo) (fun r => r.getD k 0 + hi) Ps) := by
  by_cases ne : Ps = []
  · subst ne
    rfl
  rw [hull_some ne]
  show (if lo > hi then none else _) = _
  rw [if_neg (by omega)]
  refine (hull_of (moved_ne ne) fun a ha b hb => ?_).symm
  have sx : ∀ r ∈ Ps, ∀ (v : Int) (c : Nat), xc (r.set k v) c = if c = k + 1 then v else xc r c := fun r hr v c => xc_set (by rw [l r hr]; exact hk)
  have xk : ∀ r : List Int, r.getD k 0 = xc r (k + 1) := fun _ => rfl
  have at_ : ∀ {m : Int}, (∃ r ∈ Ps, m = dif a b (r.set k (xc r (k + 1) + lo)) ∨ m = dif a b (r.set k (xc r (k + 1) + hi))) → m ∈ (movedL k (fun r => r.getD k 0 + lo) (fun r => r.getD k 0 + hi) Ps).map (dif a b) := by
    rintro m ⟨r, hr, e | e⟩
    · exact List.mem_map.mpr ⟨_, mem_moved.mpr ⟨r, hr, .inl rfl⟩, e.symm⟩
    · exact List.mem_map.mpr ⟨_, mem_moved.mpr ⟨r, hr, .inr rfl⟩, e.symm⟩
  have all : ∀ {m : Int}, (∀ r ∈ Ps, dif a b (r.set k (xc r (k + 1) + lo)) ≤ m ∧ dif a b (r.set k (xc r (k + 1) + hi)) ≤ m) → ∀ s ∈ movedL k (fun r => r.getD k 0 + lo) (fun r => r.getD k 0 + hi) Ps, dif a b s ≤ m := by
    intro m h s hs
    obtain ⟨r, hr, e | e⟩ := mem_moved.mp hs
    · rw [e]; exact (h r hr).1
    · rw [e]; exact (h r hr).2
  have kn : k + 1 < n + 1 := by omega
  unfold shiftF wcF
  dsimp only
  by_cases ea : a = k + 1
  · by_cases eb : b = k + 1
    · rw [if_pos ea, if_pos eb]
      obtain ⟨r0, hr0⟩ := List.exists_mem_of_ne_nil _ ne
      refine ⟨at_ ⟨r0, hr0, .inl ?_⟩, all fun r hr => ?_⟩
      · rw [dif_xc, sx r0 hr0, sx r0 hr0, if_pos ea, if_pos eb]; omega
      · rw [dif_xc, dif_xc, sx r hr, sx r hr, sx r hr, sx r hr, if_pos ea, if_pos eb, if_pos ea, if_pos eb]; omega
    · rw [if_pos ea, if_neg eb]
      obtain ⟨r0, hr0, e0⟩ := hull_at (n := n) (a := k + 1) (b := b) ne kn hb
      refine ⟨at_ ⟨r0, hr0, .inr ?_⟩, all fun r hr => ?_⟩
      · rw [← e0, dif_xc, dif_xc, sx r0 hr0, sx r0 hr0, if_pos ea, if_neg eb]; omega
      · have hl := hull_le (n := n) (a := k + 1) (b := b) kn hb hr
        rw [dif_xc] at hl
        rw [dif_xc, dif_xc, sx r hr, sx r hr, sx r hr, sx r hr, if_pos ea, if_neg eb, if_pos ea, if_neg eb]
        omega
  · by_cases eb : b = k + 1
    · rw [if_neg ea, if_pos eb]
      obtain ⟨r0, hr0, e0⟩ := hull_at (n := n) (a := a) (b := k + 1) ne ha kn
      refine ⟨at_ ⟨r0, hr0, .inl ?_⟩, all fun r hr => ?_⟩
      · rw [← e0, dif_xc, dif_xc, sx r0 hr0, sx r0 hr0, if_neg ea, if_pos eb]; omega
      · have hl := hull_le (n := n) (a := a) (b := k + 1) ha kn hr
        rw [dif_xc] at hl
        rw [dif_xc, dif_xc, sx r hr, sx r hr, sx r hr, sx r hr, if_neg ea, if_pos eb, if_neg ea, if_pos eb]
        omega
    · rw [if_neg ea, if_neg eb]
      obtain ⟨r0, hr0, e0⟩ := hull_at (n := n) (a := a) (b := b) ne ha hb
      refine ⟨at_ ⟨r0, hr0, .inl ?_⟩, all fun r hr => ?_⟩
      · rw [← e0, dif_xc, dif_xc, sx r0 hr0, sx r0 hr0, if_neg ea, if_neg eb]
      · have hl := hull_le (n := n) (a := a) (b := b) ha hb hr
        rw [dif_xc] at hl
        rw [dif_xc, dif_xc, sx r hr, sx r hr, sx r hr, sx r hr, if_neg ea, if_neg eb, if_neg ea, if_neg eb]
        omega
/-! picked columns -/
/-! ### hulls of the same points; the points below a matrix (as in Law18b.inc) -/
theorem lmax_congr {xs ys : List Int} (h : ∀ x, x ∈ xs ↔ x ∈ ys) : lmax xs = lmax ys := by
  by_cases hx : xs = []
  · subst hx
    have : ys = [] := List.eq_nil_iff_forall_not_mem.mpr fun y hy => by simpa using (h y).mpr hy
    rw [this]
  · exact lmax_eq ((h _).mp (lmax_mem hx)) fun y hy => lmax_le ((h y).mpr hy)
theorem hull_congr {n : Nat} {Ps Qs : List (List Int)} (h : ∀ r, r ∈ Ps ↔ r ∈ Qs) : hull n Ps = hull n Qs := by
  have e : (Ps = []) ↔ (Qs = []) := by
    rw [List.eq_nil_iff_forall_not_mem, List.eq_nil_iff_forall_not_mem]
    exact ⟨fun k r hr => k r ((h r).mpr hr), fun k r hr => k r ((h r).mp hr)⟩
  unfold hull
  by_cases h1 : Ps = []
  · rw [if_pos h1, if_pos (e.mp h1)]
  · rw [if_neg h1, if_neg (fun z => h1 (e.mpr z))]
    congr 1
    unfold hullM
    refine List.map_congr_left fun i _ => List.map_congr_left fun j _ => lmax_congr fun x => ?_
    simp only [List.mem_map]
    exact ⟨fun ⟨r, hr, q⟩ => ⟨r, (h r).mp hr, q⟩, fun ⟨r, hr, q⟩ => ⟨r, (h r).mpr hr, q⟩⟩
/-- the greatest closed matrix below D is the hull of its points -/
theorem best_of_pts {n : Nat} {D : Nat → Nat → Int} {Ps : List (List Int)} (hP : ∀ r, r ∈ Ps ↔ r.length = n ∧ ∀ i < n + 1, ∀ j < n + 1, dif i j r ≤ D i j) (hd : ∀ i < n + 1, 0 ≤ D i i) : Best (n + 1) D (hull n Ps) := by
  have h := best_pts (n := n) (M := mkM (n + 1) D) fun i hi => by rw [mkM_get hi hi]; exact hd i hi
  have e : hull n Ps = hull n (ptsL (mkM (n + 1) D) n) := hull_congr fun r => by
    rw [hP r, mem_pts]
    constructor
    · rintro ⟨l, h⟩
      refine ⟨l, fun i hi j hj _ => ?_⟩
      rw [mkM_get hi hj]
      exact h i hi j hj
    · rintro ⟨l, h⟩
      refine ⟨l, fun i hi j hj => ?_⟩
      by_cases eq : i = j
      · subst eq
        have := hd i hi
        rw [dif_xc]
        omega
      · have := h i hi j hj eq
        rwa [mkM_get hi hj] at this
  rw [e]
  exact h.congr fun C _ => by
    constructor
    · intro z i hi j hj
      have := z i hi j hj
      rwa [mkM_get hi hj] at this
    · intro z i hi j hj
      rw [mkM_get hi hj]
      exact z i hi j hj
/-! ### law k22: the points of a box, all of them -/
def dfn (r : List Int) : Nat → Nat → Int := fun a b => dif a b r
structure Full (n : Nat) (Ps : List (List Int)) : Prop where
  len : ∀ r ∈ Ps, r.length = n
  al : Ps ≠ [] → ∀ p, p.length = n → LeF (n + 1) (dfn p) (getM (hullM n Ps)) → p ∈ Ps
theorem Full.mem {n : Nat} {Ps : List (List Int)} (h : Full n Ps) (ne : Ps ≠ []) {r : List Int} : r ∈ Ps ↔ r.length = n ∧ LeF (n + 1) (dfn r) (getM (hullM n Ps)) :=
  ⟨fun k => ⟨h.len r k, fun _ ha _ hb => hull_le ha hb k⟩, fun k => h.al ne r k.1 k.2⟩
theorem cut_full {n : Nat} {E : Nat → Nat → Int} {R : Option (List (List Int))} {Ps : List (List Int)} (hP : ∀ r, r ∈ Ps ↔ r.length = n ∧ LeF (n + 1) (dfn r) E) (hB : Best (n + 1) E R) : R = hull n Ps ∧ Full n Ps := by
  refine ⟨?_, fun r hr => ((hP r).mp hr).1, fun ne p lp hp => (hP p).mpr ⟨lp, fun a ha b hb => ?_⟩⟩
  · by_cases hd : ∀ i < n + 1, 0 ≤ E i i
    · exact hB.uniq (best_of_pts hP hd)
    · simp only [Classical.not_forall] at hd
      obtain ⟨i, hi, neg⟩ := hd
      have e : Ps = [] := List.eq_nil_iff_forall_not_mem.mpr fun r hr => by
        have := ((hP r).mp hr).2 i hi i hi
        unfold dfn dif at this
        omega
      rw [e]
      exact hB.uniq (best_neg hi (by omega))
  · obtain ⟨r, hr, e⟩ := hull_at ne ha hb
    have h1 := hp a ha b hb
    have h2 := ((hP r).mp hr).2 a ha b hb
    rw [← e] at h1
    exact Int.le_trans h1 h2
/-- a point that agrees with told columns -/
theorem extend {n m : Nat} {C : Nat → Nat → Int} {κ : Nat → Nat} {z : Nat → Int} (c : Clo n C) (hk : ∀ a < m + 1, κ a < n) (h : ∀ a < m + 1, ∀ b < m + 1, z a - z b ≤ C (κ a) (κ b)) :
    ∃ y : Nat → Int, (∀ a < m + 1, y (κ a) = z a) ∧ (∀ a < n, ∀ b < n, y a - y b ≤ C a b) ∧ ∀ a < n, ∃ b < m + 1, y a = C a (κ b) + z b := by
  have ex : ∀ x, ∃ v : Int, (∃ b < m + 1, v = C x (κ b) + z b) ∧ ∀ b < m + 1, v ≤ C x (κ b) + z b := fun x => by
    clear h hk
    induction m with
    | zero =>
      refine ⟨C x (κ 0) + z 0, ⟨0, by omega, rfl⟩, fun b hb => ?_⟩
      have e : b = 0 := by omega
      rw [e]
      exact Int.le_refl _
    | succ m ih =>
      obtain ⟨v, ⟨b, hb, e⟩, hv⟩ := ih
      by_cases g : v ≤ C x (κ (m + 1)) + z (m + 1)
      · refine ⟨v, ⟨b, by omega, e⟩, fun b' hb' => ?_⟩
        by_cases q : b' = m + 1
        · rw [q]; exact g
        · exact hv b' (by omega)
      · refine ⟨_, ⟨m + 1, by omega, rfl⟩, fun b' hb' => ?_⟩
        by_cases q : b' = m + 1
        · rw [q]; exact Int.le_refl _
        · have := hv b' (by omega)
          omega
  obtain ⟨y, hy⟩ := Classical.skolem.mp ex
  refine ⟨y, fun a ha => ?_, fun a ha b hb => ?_, fun a ha => (hy a).1⟩
  · obtain ⟨⟨b, hb, e⟩, up⟩ := hy (κ a)
    have h1 := up a ha
    rw [c.d _ (hk a ha)] at h1
    have h2 := h a ha b hb
    omega
  · obtain ⟨⟨d, hd, e⟩, _⟩ := hy b
    have h1 := (hy a).2 d hd
    have h2 := c.t a ha (κ d) (hk d hd) b hb
    omega
/-- the point of a function of columns -/
def ptOf (n : Nat) (y : Nat → Int) : List Int := mkR n fun k => y (k + 1)
theorem ptOf_xc {n a : Nat} {y : Nat → Int} (h0 : y 0 = 0) (ha : a < n + 1) : xc (ptOf n y) a = y a := by
  cases a with
  | zero => rw [h0]; rfl
  | succ k =>
    rw [xc_succ, List.getD_eq_getElem?_getD]
    unfold ptOf
    rw [mkR_at (by omega)]
    rfl
theorem ptOf_in {n : Nat} {Ps : List (List Int)} {y : Nat → Int} (f : Full n Ps) (ne : Ps ≠ []) (h0 : y 0 = 0) (h : ∀ a < n + 1, ∀ b < n + 1, y a - y b ≤ getM (hullM n Ps) a b) : ptOf n y ∈ Ps := f.al ne _ mkR_len fun a ha b hb => by
  show dif a b _ ≤ _
  rw [dif_xc, ptOf_xc h0 ha, ptOf_xc h0 hb]
  exact h a ha b hb
theorem xc_ext {n : Nat} {p q : List Int} (hp : p.length = n) (hq : q.length = n) (h : ∀ a < n + 1, xc p a = xc q a) : p = q := by
  refine List.ext_getElem (by rw [hp, hq]) fun k h1 h2 => ?_
  have := h (k + 1) (by omega)
  rw [xc_succ, xc_succ, List.getD_eq_getElem?_getD, List.getD_eq_getElem?_getD, List.getElem?_eq_getElem h1, List.getElem?_eq_getElem h2] at this
  exact this
theorem hull_between {n : Nat} {Ps Qs : List (List Int)} (sub : ∀ r ∈ Ps, r ∈ Qs) (ne : Ps ≠ []) (le : ∀ q ∈ Qs, LeF (n + 1) (dfn q) (getM (hullM n Ps))) : hull n Ps = hull n Qs := by
  have ne2 : Qs ≠ [] := fun e => by
    obtain ⟨r, hr⟩ := List.exists_mem_of_ne_nil _ ne
    have := sub r hr
    rw [e] at this
    simp at this
  have e := hull_of (n := n) (Ps := Qs) (f := getM (hullM n Ps)) ne2 fun a ha b hb => by
    obtain ⟨r, hr, e⟩ := hull_at ne ha hb
    exact ⟨List.mem_map.mpr ⟨r, sub r hr, e⟩, fun q hq => le q hq a ha b hb⟩
  rw [e, hull_some ne, mkM_self (hullM_sz n Ps)]
theorem full_nil {n : Nat} : Full n [] := ⟨fun r hr => by simp at hr, fun ne => absurd rfl ne⟩
theorem xc_zero {p : List Int} : xc p 0 = 0 := rfl
/-! ### columns freed, shifted, added: all points -/
theorem xc_setN {n k a : Nat} {p : List Int} {v : Int} (l : p.length = n) (hk : k < n) : xc (p.set k v) a = if a = k + 1 then v else xc p a := xc_set (by omega)
/-- a point but for one column -/
theorem extend1 {n k : Nat} {Ps : List (List Int)} (f : Full n Ps) (ne : Ps ≠ []) {q : List Int} (h : ∀ a < n + 1, a ≠ k + 1 → ∀ b < n + 1, b ≠ k + 1 → xc q a - xc q b ≤ getM (hullM n Ps) a b) :
    ∃ y : Nat → Int, y 0 = 0 ∧ (∀ a < n + 1, a ≠ k + 1 → y a = xc q a) ∧ (∀ a < n + 1, ∀ b < n + 1, y a - y b ≤ getM (hullM n Ps) a b) ∧ ∀ a < n + 1, ∃ b < n + 1, b ≠ k + 1 ∧ y a = getM (hullM n Ps) a b + xc q b := by
  have hne : ∀ a, (if a = k + 1 then 0 else a) ≠ k + 1 := fun a => by split <;> omega
  have hlt : ∀ a < n + 1, (if a = k + 1 then 0 else a) < n + 1 := fun a ha => by split <;> omega
  obtain ⟨y, y1, y2, y3⟩ := extend (m := n) (κ := fun a => if a = k + 1 then 0 else a) (z := fun a => xc q (if a = k + 1 then 0 else a)) (hull_clo ne) hlt fun a ha b hb => h _ (hlt a ha) (hne a) _ (hlt b hb) (hne b)
  refine ⟨y, ?_, fun a ha na => ?_, y2, fun a ha => ?_⟩
  · have := y1 0 (by omega)
    rw [if_neg (by omega)] at this
    exact this
  · have := y1 a ha
    rw [if_neg na] at this
    exact this
  · obtain ⟨b, hb, e⟩ := y3 a ha
    exact ⟨_, hlt b hb, hne b, e⟩
theorem free_le {n k : Nat} {r : List Int} {lo hi v : Int} {M : List (List Int)} (l : r.length = n) (hk : k < n) (h1 : lo ≤ v) (h2 : v ≤ hi) (ha : LeF (n + 1) (dfn (r.set k lo)) (getM M)) (hb : LeF (n + 1) (dfn (r.set k hi)) (getM M)) : LeF (n + 1) (dfn (r.set k v)) (getM M) := fun a ia b ib => by
  have g1 := ha a ia b ib
  have g2 := hb a ia b ib
  unfold dfn at *
  rw [dif_xc, xc_setN l hk, xc_setN l hk] at *
  split at g1 <;> rename_i e1 <;> split at g1 <;> rename_i e2
  · rw [if_pos e1, if_pos e2] at *
    omega
  · rw [if_pos e1, if_neg e2] at *
    omega
  · rw [if_neg e1, if_pos e2] at *
    omega
  · rw [if_neg e1, if_neg e2] at *
    omega
theorem set_eq {n k : Nat} {p q : List Int} {y : Nat → Int} (lq : q.length = n) (hk : k < n) (e : p = ptOf n y) (y0 : y 0 = 0) (h : ∀ a < n + 1, a ≠ k + 1 → y a = xc q a) : q = p.set k (xc q (k + 1)) := by
  have lp : p.length = n := by rw [e]; exact mkR_len
  refine xc_ext (n := n) lq (by rw [List.length_set]; exact lp) fun a ha => ?_
  rw [xc_setN lp hk]
  split
  · rename_i z
    rw [z]
  · rename_i z
    rw [e, ptOf_xc y0 ha, h a ha z]
theorem full_free {n k : Nat} {lo hi : Int} {Ps Qs : List (List Int)} (f : Full n Ps) (hk : k < n) (hQ : ∀ q, q ∈ Qs ↔ ∃ r ∈ Ps, ∃ v, lo ≤ v ∧ v ≤ hi ∧ q = r.set k v) : chB freeF (n + 1) (k + 1) lo hi (hull n Ps) = hull n Qs ∧ Full n Qs := by
  have lQ : ∀ q ∈ Qs, q.length = n := fun q hq => by
    obtain ⟨r, hr, v, _, _, rfl⟩ := (hQ q).mp hq
    rw [List.length_set]
    exact f.len r hr
  by_cases ne : Ps = []
  · have e : Qs = [] := List.eq_nil_iff_forall_not_mem.mpr fun q hq => by
      obtain ⟨r, hr, _⟩ := (hQ q).mp hq
      rw [ne] at hr
      simp at hr
    rw [ne, e]
    exact ⟨rfl, full_nil⟩
  by_cases lh : lo ≤ hi
  · have eB := free_hull (lo := lo) (hi := hi) hk f.len lh
    have nm := moved_ne (k := k) (u := fun _ => lo) (v := fun _ => hi) ne
    have le : ∀ q ∈ Qs, LeF (n + 1) (dfn q) (getM (hullM n (movedL k (fun _ => lo) (fun _ => hi) Ps))) := fun q hq => by
      obtain ⟨r, hr, v, v1, v2, rfl⟩ := (hQ q).mp hq
      exact free_le (f.len r hr) hk v1 v2 (fun a ha b hb => hull_le ha hb (mem_moved.mpr ⟨r, hr, .inl rfl⟩)) fun a ha b hb => hull_le ha hb (mem_moved.mpr ⟨r, hr, .inr rfl⟩)
    have eH := hull_between (Qs := Qs) (fun q hq => by
      obtain ⟨r, hr, e | e⟩ := mem_moved.mp hq
      · exact (hQ q).mpr ⟨r, hr, lo, Int.le_refl _, lh, e⟩
      · exact (hQ q).mpr ⟨r, hr, hi, lh, Int.le_refl _, e⟩) nm le
    rw [eH] at eB
    refine ⟨eB, lQ, fun nQ q lq hq => ?_⟩
    rw [hull_some ne, hull_some nQ] at eB
    have eM : mkM (n + 1) (freeF (k + 1) lo hi (getM (hullM n Ps))) = hullM n Qs := by
      have : (if lo > hi then none else some (mkM (n + 1) (freeF (k + 1) lo hi (getM (hullM n Ps))))) = some (hullM n Qs) := eB
      rw [if_neg (by omega)] at this
      exact Option.some.inj this
    have en : ∀ a < n + 1, ∀ b < n + 1, xc q a - xc q b ≤ freeF (k + 1) lo hi (getM (hullM n Ps)) a b := fun a ha b hb => by
      have h1 := hq a ha b hb
      rw [← eM, mkM_get ha hb] at h1
      exact h1
    obtain ⟨y, y0, y1, y2, _⟩ := extend1 (k := k) f ne (q := q) fun a ha na b hb nb => by
      have := en a ha b hb
      unfold freeF wcF at this
      rwa [if_neg na, if_neg nb] at this
    have d0 := (hull_clo (n := n) ne).d 0 (by omega)
    have up := en (k + 1) (by omega) 0 (by omega)
    have dn := en 0 (by omega) (k + 1) (by omega)
    unfold freeF wcF at up dn
    rw [if_pos rfl, if_neg (by omega)] at up
    rw [if_neg (by omega), if_pos rfl] at dn
    have up' : xc q (k + 1) - xc q 0 ≤ hi + getM (hullM n Ps) 0 0 := up
    have dn' : xc q 0 - xc q (k + 1) ≤ getM (hullM n Ps) 0 0 - lo := dn
    rw [d0, xc_zero] at up' dn'
    exact (hQ q).mpr ⟨_, ptOf_in f ne y0 y2, xc q (k + 1), by omega, by omega, set_eq lq hk rfl y0 y1⟩
  · have e : Qs = [] := List.eq_nil_iff_forall_not_mem.mpr fun q hq => by
      obtain ⟨r, hr, v, v1, v2, _⟩ := (hQ q).mp hq
      omega
    rw [e, hull_some ne]
    exact ⟨if_pos (by omega), full_nil⟩
theorem xc_getD {p : List Int} {k : Nat} : p.getD k 0 = xc p (k + 1) := rfl
theorem full_shift {n k : Nat} {lo hi : Int} {Ps Qs : List (List Int)} (f : Full n Ps) (hk : k < n) (hQ : ∀ q, q ∈ Qs ↔ ∃ r ∈ Ps, ∃ v, lo ≤ v ∧ v ≤ hi ∧ q = r.set k (r.getD k 0 + v)) : chB shiftF (n + 1) (k + 1) lo hi (hull n Ps) = hull n Qs ∧ Full n Qs := by
  have lQ : ∀ q ∈ Qs, q.length = n := fun q hq => by
    obtain ⟨r, hr, v, _, _, rfl⟩ := (hQ q).mp hq
    rw [List.length_set]
    exact f.len r hr
  by_cases ne : Ps = []
  · have e : Qs = [] := List.eq_nil_iff_forall_not_mem.mpr fun q hq => by
      obtain ⟨r, hr, _⟩ := (hQ q).mp hq
      rw [ne] at hr
      simp at hr
    rw [ne, e]
    exact ⟨rfl, full_nil⟩
  by_cases lh : lo ≤ hi
  · have eB := shift_hull (lo := lo) (hi := hi) hk f.len lh
    have nm := moved_ne (k := k) (u := fun r => r.getD k 0 + lo) (v := fun r => r.getD k 0 + hi) ne
    have le : ∀ q ∈ Qs, LeF (n + 1) (dfn q) (getM (hullM n (movedL k (fun r => r.getD k 0 + lo) (fun r => r.getD k 0 + hi) Ps))) := fun q hq => by
      obtain ⟨r, hr, v, v1, v2, rfl⟩ := (hQ q).mp hq
      exact free_le (f.len r hr) hk (Int.add_le_add_left v1 _) (Int.add_le_add_left v2 _) (fun a ha b hb => hull_le ha hb (mem_moved.mpr ⟨r, hr, .inl rfl⟩)) fun a ha b hb => hull_le ha hb (mem_moved.mpr ⟨r, hr, .inr rfl⟩)
    have eH := hull_between (Qs := Qs) (fun q hq => by
      obtain ⟨r, hr, e | e⟩ := mem_moved.mp hq
      · exact (hQ q).mpr ⟨r, hr, lo, Int.le_refl _, lh, e⟩
      · exact (hQ q).mpr ⟨r, hr, hi, lh, Int.le_refl _, e⟩) nm le
    rw [eH] at eB
    refine ⟨eB, lQ, fun nQ q lq hq => ?_⟩
    rw [hull_some ne, hull_some nQ] at eB
    have eM : mkM (n + 1) (shiftF (k + 1) lo hi (getM (hullM n Ps))) = hullM n Qs := by
      have : (if lo > hi then none else some (mkM (n + 1) (shiftF (k + 1) lo hi (getM (hullM n Ps))))) = some (hullM n Qs) := eB
      rw [if_neg (by omega)] at this
      exact Option.some.inj this
    have en : ∀ a < n + 1, ∀ b < n + 1, xc q a - xc q b ≤ shiftF (k + 1) lo hi (getM (hullM n Ps)) a b := fun a ha b hb => by
      have h1 := hq a ha b hb
      rw [← eM, mkM_get ha hb] at h1
      exact h1
    have up : ∀ b < n + 1, b ≠ k + 1 → xc q (k + 1) - xc q b ≤ getM (hullM n Ps) (k + 1) b + hi := fun b hb nb => by
      have := en (k + 1) (by omega) b hb
      unfold shiftF wcF at this
      rwa [if_pos rfl, if_neg nb] at this
    have dn : ∀ a < n + 1, a ≠ k + 1 → xc q a - xc q (k + 1) ≤ getM (hullM n Ps) a (k + 1) - lo := fun a ha na => by
      have := en a ha (k + 1) (by omega)
      unfold shiftF wcF at this
      rwa [if_neg na, if_pos rfl] at this
    obtain ⟨y, y0, y1, y2, y3⟩ := extend1 (k := k) f ne (q := q) fun a ha na b hb nb => by
      have := en a ha b hb
      unfold shiftF wcF at this
      rwa [if_neg na, if_neg nb] at this
    obtain ⟨b0, hb0, nb0, eb0⟩ := y3 (k + 1) (by omega)
    have u0 := up b0 hb0 nb0
    generalize hv : min (y (k + 1)) (xc q (k + 1) - lo) = w
    obtain ⟨yf, hyf⟩ : ∃ yf : Nat → Int, ∀ a, yf a = if a = k + 1 then w else y a := ⟨_, fun _ => rfl⟩
    have yy : ∀ a < n + 1, ∀ b < n + 1, yf a - yf b ≤ getM (hullM n Ps) a b := fun a ha b hb => by
      have g := y2 a ha b hb
      rw [hyf, hyf]
      by_cases ea : a = k + 1
      · rw [if_pos ea]
        by_cases eb : b = k + 1
        · rw [if_pos eb]
          have := (hull_clo (n := n) ne).d (k + 1) (by omega)
          rw [ea, eb]
          omega
        · rw [if_neg eb]
          rw [ea] at g ⊢
          omega
      · rw [if_neg ea]
        by_cases eb : b = k + 1
        · rw [if_pos eb]
          rw [eb] at g ⊢
          have h1 := dn a ha ea
          have h2 := y1 a ha ea
          omega
        · rw [if_neg eb]
          exact g
    have z0 : yf 0 = 0 := by rw [hyf, if_neg (by omega)]; exact y0
    have hm := ptOf_in f ne z0 yy
    have ew : (ptOf n yf).getD k 0 = w := by
      rw [xc_getD, ptOf_xc z0 (by omega), hyf]
      exact if_pos rfl
    refine (hQ q).mpr ⟨_, hm, xc q (k + 1) - w, by omega, by omega, ?_⟩
    rw [ew, show w + (xc q (k + 1) - w) = xc q (k + 1) by omega]
    exact set_eq lq hk rfl z0 fun a ha na => by
      rw [hyf, if_neg na]
      exact y1 a ha na
  · have e : Qs = [] := List.eq_nil_iff_forall_not_mem.mpr fun q hq => by
      obtain ⟨r, hr, v, v1, v2, _⟩ := (hQ q).mp hq
      omega
    rw [e, hull_some ne]
    exact ⟨if_pos (by omega), full_nil⟩
/-! ### law k22: what a bound, a meeting, a tie leave -/
theorem hull_nil {n : Nat} : hull n [] = none := if_pos rfl
/-- the points that are left: those below E -/
theorem cut_points {n : Nat} {Ps Qs : List (List Int)} {T : (Nat → Nat → Int) → Prop} {E : Nat → Nat → Int} {R : Option (List (List Int))} (f : Full n Ps) (ne : Ps ≠ []) (hE : ∀ C, LeF (n + 1) C E ↔ LeF (n + 1) C (getM (hullM n Ps)) ∧ T C) (hB : Best (n + 1) E R) (hQ : ∀ q, q ∈ Qs ↔ q ∈ Ps ∧ T (dfn q)) : R = hull n Qs ∧ Full n Qs :=
  cut_full (fun r => by
    rw [hQ, f.mem ne, hE]
    exact ⟨fun ⟨⟨a, b⟩, c⟩ => ⟨a, b, c⟩, fun ⟨a, b, c⟩ => ⟨⟨a, b⟩, c⟩⟩) hB
theorem none_points {n : Nat} {Ps Qs : List (List Int)} {T : List Int → Prop} (e : Ps = []) (hQ : ∀ q, q ∈ Qs ↔ q ∈ Ps ∧ T q) : none = hull n Qs ∧ Full n Qs := by
  have eq : Qs = [] := List.eq_nil_iff_forall_not_mem.mpr fun q hq => by
    have := ((hQ q).mp hq).1
    rw [e] at this
    simp at this
  rw [eq]
  exact ⟨hull_nil.symm, full_nil⟩
theorem bound_points {n i j : Nat} {c : Int} {Ps Qs : List (List Int)} (f : Full n Ps) (hi : i < n + 1) (hj : j < n + 1) (hQ : ∀ q, q ∈ Qs ↔ q ∈ Ps ∧ dif i j q ≤ c) : bndB (n + 1) i j c (hull n Ps) = hull n Qs ∧ Full n Qs := by
  by_cases ne : Ps = []
  · have := none_points (n := n) ne hQ
    rw [ne]
    exact this
  · have hs := hull_some (n := n) ne
    have b := bnd_best (c := c) (Best.self (hullM_sz n Ps) (hull_clo ne)) hi hj
    rw [hs]
    exact cut_points (T := fun C => C i j ≤ c) f ne (fun C => cutF_le hi hj) b hQ
/-! ### == of lists of ints -/
theorem eqvI : ∀ xs ys : List Int, PyData.eqvAll (xs.map PyData.int) (ys.map PyData.int) = decide (xs = ys)
  | [], [] => by simp [PyData.eqvAll]
  | [], y :: ys => by simp [PyData.eqvAll]
  | x :: xs, [] => by simp [PyData.eqvAll]
  | x :: xs, y :: ys => by
    have ih := eqvI xs ys
    simp only [List.map_cons, PyData.eqvAll, PyData.eqv, ih, List.cons.injEq]
    rw [Bool.decide_and]
    congr 1
theorem eqvL (xs ys : List Int) : PyData.eqv (.list (xs.map PyData.int)) (.list (ys.map PyData.int)) = decide (xs = ys) := by
  rw [PyData.eqv]
  exact eqvI xs ys
theorem dpAllI {K : PySem.W.Frag} {H : Hp} : ∀ xs : List Int, DpAll K H (xs.map V.int) (xs.map PyData.int)
  | [] => .nil
  | _ :: xs => .cons (.int _) (dpAllI xs)
theorem dpI {K : PySem.W.Frag} {H : Hp} {a : Addr} {xs : List Int} (h : SqL K H a (xs.map V.int)) : Dp K H (.ref a) (.list (xs.map PyData.int)) := .lst h (dpAllI xs)
theorem shapedAllI : ∀ xs : List Int, PyData.canLayAll0 (xs.map PyData.int) = true ∧ PyData.depthAll (xs.map PyData.int) = 0
  | [] => ⟨rfl, rfl⟩
  | x :: xs => by
    obtain ⟨h1, h2⟩ := shapedAllI xs
    constructor
    · rw [List.map_cons, PyData.canLayAll0, PyData.canLay0, h1]
      rfl
    · rw [List.map_cons, PyData.depthAll, PyData.depth, h2]
      rfl
theorem shapedI (xs : List Int) : SeqAt.shaped (.list (xs.map PyData.int)) = true := by
  obtain ⟨h1, h2⟩ := shapedAllI xs
  unfold SeqAt.shaped
  rw [PyData.canLay0, h1, PyData.depth, h2]
  rfl
/-- told: two lists of ints, compared -/
theorem neI {K : PySem.W.Frag} {H : Hp} {a b : Addr} {xs ys : List Int} {Q : VK} (ha : SqL K H a (xs.map V.int)) (hb : SqL K H b (ys.map V.int)) (q : Q (.bl (!decide (xs = ys))) H) : rNeD K (.ref a) (.ref b) H Q := ⟨_, _, dpI ha, dpI hb, shapedI xs, shapedI ys, by rw [eqvL]; exact q⟩
theorem eqI {K : PySem.W.Frag} {H : Hp} {a b : Addr} {xs ys : List Int} {Q : VK} (ha : SqL K H a (xs.map V.int)) (hb : SqL K H b (ys.map V.int)) (q : Q (.bl (decide (xs = ys))) H) : rEqD K (.ref a) (.ref b) H Q := ⟨_, _, dpI ha, dpI hb, shapedI xs, shapedI ys, by rw [eqvL]; exact q⟩
/-- two ints in order -/
theorem sorted_pm {ns ms : List Int} (p : ms.Perm ns) (s : ms.Pairwise (· ≤ ·)) : ms = [-1, 1] ↔ ns.Perm [-1, 1] := by
  constructor
  · intro e
    rw [e] at p
    exact p.symm
  · intro q
    have r := p.trans q
    have l := r.length_eq
    match ms, l with
    | [x, y], _ =>
      have m1 : (-1 : Int) ∈ [x, y] := r.symm.subset (by simp)
      have m2 : (1 : Int) ∈ [x, y] := r.symm.subset (by simp)
      have le := (List.pairwise_cons.mp s).1 y (by simp)
      simp only [List.mem_cons, List.not_mem_nil, or_false] at m1 m2
      have e1 : x = -1 ∧ y = 1 := by omega
      rw [e1.1, e1.2]
/-! ### forms: coefficients, what they stand for -/
def usedZ (cs : List Int) : List Nat := (List.range cs.length).filter fun k => decide (cs.getD k 0 ≠ 0)
def usedN (cs : List Int) : List Nat := (usedZ cs).map (· + 1)
def numL (cs : List Int) : List Int := (usedZ cs).map fun k => cs.getD k 0
def FormAt (K : PySem.W.Frag) (H : Hp) (f : Addr) (cs : List Int) (lo hi : Int) : Prop := ∃ c : Addr, SqT K H f [.ref c, .int lo, .int hi] ∧ SqT K H c (cs.map V.int)
theorem FormAt.same {K : PySem.W.Frag} {H H' : Hp} {f : Addr} {cs : List Int} {lo hi : Int} (s : Same H H') (h : FormAt K H f cs lo hi) : FormAt K H' f cs lo hi := by
  obtain ⟨c, h1, h2⟩ := h
  exact ⟨c, Same.tup s h1, Same.tup s h2⟩
theorem mem_usedZ {cs : List Int} {k : Nat} : k ∈ usedZ cs ↔ k < cs.length ∧ cs.getD k 0 ≠ 0 := by
  unfold usedZ
  rw [List.mem_filter, List.mem_range, decide_eq_true_eq]
theorem mem_usedN {cs : List Int} {c : Nat} : c ∈ usedN cs ↔ 1 ≤ c ∧ c ≤ cs.length ∧ cs.getD (c - 1) 0 ≠ 0 := by
  unfold usedN
  rw [List.mem_map]
  constructor
  · rintro ⟨k, hk, rfl⟩
    have := mem_usedZ.mp hk
    exact ⟨by omega, by omega, this.2⟩
  · rintro ⟨h1, h2, h3⟩
    exact ⟨c - 1, mem_usedZ.mpr ⟨by omega, h3⟩, by omega⟩
theorem usedZ_len {cs : List Int} : (usedZ cs).length ≤ cs.length := by
  have := List.length_filter_le (fun k => decide (cs.getD k 0 ≠ 0)) (List.range cs.length)
  rw [List.length_range] at this
  exact this
theorem usedN_len {cs : List Int} : (usedN cs).length ≤ cs.length := by
  unfold usedN
  rw [List.length_map]
  exact usedZ_len
/-- the first i places, filtered -/
def usedTo (cs : List Int) (i : Nat) : List Nat := (List.range i).filter fun k => decide (cs.getD k 0 ≠ 0)
theorem usedTo_all {cs : List Int} : usedTo cs cs.length = usedZ cs := rfl
theorem usedTo_yes {cs : List Int} {i : Nat} (h : cs.getD i 0 ≠ 0) : usedTo cs (i + 1) = usedTo cs i ++ [i] := by
  unfold usedTo
  rw [List.range_succ, List.filter_append, List.filter_cons_of_pos (by simpa using h)]
  rfl
theorem usedTo_no {cs : List Int} {i : Nat} (h : cs.getD i 0 = 0) : usedTo cs (i + 1) = usedTo cs i := by
  unfold usedTo
  rw [List.range_succ, List.filter_append, List.filter_cons_of_neg (by simpa using h), List.filter_nil, List.append_nil]
theorem usedTo_len {cs : List Int} {i : Nat} : (usedTo cs i).length ≤ i := by
  have := List.length_filter_le (fun k => decide (cs.getD k 0 ≠ 0)) (List.range i)
  rw [List.length_range] at this
  exact this
/-- one 1, one -1 -/
def IsD (cs : List Int) : Prop := (numL cs).Perm [-1, 1]
/-- the sum of coefficients times values -/
def val (cs p : List Int) : Int := ((List.range cs.length).map fun k => cs.getD k 0 * p.getD k 0).sum
theorem sum_filter {t : Nat → Bool} {g : Nat → Int} : ∀ xs : List Nat, (∀ k ∈ xs, t k = false → g k = 0) → (xs.map g).sum = ((xs.filter t).map g).sum
  | [], _ => rfl
  | x :: xs, h => by
    have ih := sum_filter xs fun k hk => h k (List.mem_cons_of_mem _ hk)
    rw [List.map_cons, List.sum_cons, ih]
    cases e : t x with
    | true => rw [List.filter_cons_of_pos e, List.map_cons, List.sum_cons]
    | false => rw [List.filter_cons_of_neg (by rw [e]; decide), h x List.mem_cons_self e, Int.zero_add]
theorem val_used {cs p : List Int} : val cs p = ((usedZ cs).map fun k => cs.getD k 0 * p.getD k 0).sum := by
  unfold val usedZ
  refine sum_filter _ fun k _ hk => ?_
  have : cs.getD k 0 = 0 := by simpa using hk
  rw [this, Int.zero_mul]
theorem isD_used {cs : List Int} (h : IsD cs) : ∃ a b : Nat, usedZ cs = [a, b] ∧ a < cs.length ∧ b < cs.length ∧ a ≠ b ∧ ((cs.getD a 0 = 1 ∧ cs.getD b 0 = -1) ∨ (cs.getD a 0 = -1 ∧ cs.getD b 0 = 1)) := by
  have l := h.length_eq
  unfold numL at l
  rw [List.length_map] at l
  obtain ⟨a, b, e⟩ : ∃ a b, usedZ cs = [a, b] := by
    match hu : usedZ cs, l with
    | [a, b], _ => exact ⟨a, b, rfl⟩
  have ma := mem_usedZ.mp (show a ∈ usedZ cs by rw [e]; simp)
  have mb := mem_usedZ.mp (show b ∈ usedZ cs by rw [e]; simp)
  have nd : (usedZ cs).Nodup := List.Nodup.sublist List.filter_sublist List.nodup_range
  rw [e] at nd
  have nab : a ≠ b := fun z => by simp [z] at nd
  refine ⟨a, b, e, ma.1, mb.1, nab, ?_⟩
  have h2 : [cs.getD a 0, cs.getD b 0].Perm [-1, 1] := by
    have h1 : (numL cs).Perm [-1, 1] := h
    unfold numL at h1
    rw [e] at h1
    exact h1
  have m1 : (-1 : Int) ∈ [cs.getD a 0, cs.getD b 0] := h2.symm.subset (by simp)
  have m2 : (1 : Int) ∈ [cs.getD a 0, cs.getD b 0] := h2.symm.subset (by simp)
  simp only [List.mem_cons, List.not_mem_nil, or_false] at m1 m2
  omega
/-- which columns: i has the 1, j the -1 -/
def DiffAt (cs : List Int) (i j : Nat) : Prop := 1 ≤ i ∧ i ≤ cs.length ∧ 1 ≤ j ∧ j ≤ cs.length ∧ ∀ p : List Int, val cs p = p.getD (i - 1) 0 - p.getD (j - 1) 0
theorem diffAt_of {cs : List Int} {a b : Nat} (e : usedZ cs = [a, b]) (ha : a < cs.length) (hb : b < cs.length) (h1 : cs.getD a 0 = 1) (h2 : cs.getD b 0 = -1) : DiffAt cs (a + 1) (b + 1) ∧ (usedZ cs = [b, a] → DiffAt cs (a + 1) (b + 1)) := by
  have h : DiffAt cs (a + 1) (b + 1) := by
    refine ⟨by omega, by omega, by omega, by omega, fun p => ?_⟩
    rw [val_used, e]
    show cs.getD a 0 * p.getD a 0 + (cs.getD b 0 * p.getD b 0 + 0) = p.getD a 0 - p.getD b 0
    rw [h1, h2]
    omega
  exact ⟨h, fun _ => h⟩
theorem diffAt_of' {cs : List Int} {a b : Nat} (e : usedZ cs = [a, b]) (ha : a < cs.length) (hb : b < cs.length) (h1 : cs.getD a 0 = -1) (h2 : cs.getD b 0 = 1) : DiffAt cs (b + 1) (a + 1) := by
  refine ⟨by omega, by omega, by omega, by omega, fun p => ?_⟩
  rw [val_used, e]
  show cs.getD a 0 * p.getD a 0 + (cs.getD b 0 * p.getD b 0 + 0) = p.getD b 0 - p.getD a 0
  rw [h1, h2]
  omega
/-- coefficients that are small enough -/
def Cf (cs : List Int) : Prop := ∀ c ∈ cs, -1000000000 ≤ c ∧ c ≤ 1000000000
theorem Cf.get {cs : List Int} (h : Cf cs) {k : Nat} (hk : k < cs.length) : -1000000000 ≤ cs.getD k 0 ∧ cs.getD k 0 ≤ 1000000000 := by
  rw [List.getD_eq_getElem?_getD, List.getElem?_eq_getElem hk]
  exact h _ (List.getElem_mem hk)
/-- the least that a column adds -/
def tmin (M : List (List Int)) (c : Int) (k : Nat) : Int := min (c * -(getM M 0 (k + 1))) (c * getM M (k + 1) 0)
def tmax (M : List (List Int)) (c : Int) (k : Nat) : Int := max (c * -(getM M 0 (k + 1))) (c * getM M (k + 1) 0)
def spanLo (M : List (List Int)) (cs : List Int) (lo : Int) : Int := lo + ((usedZ cs).map fun k => tmin M (cs.getD k 0) k).sum
def spanHi (M : List (List Int)) (cs : List Int) (hi : Int) : Int := hi + ((usedZ cs).map fun k => tmax M (cs.getD k 0) k).sum
/-! ### forms: the program -/
theorem bb_sorted : bootBuiltins "sorted" = some (.builtin "sorted") := by decide +kernel
def spFormU (K : PySem.W.Frag) : Sp := fun vs H Q _ => ∃ (f : Addr) (cs : List Int) (lo hi : Int), vs = [.ref f] ∧ FormAt K H f cs lo hi ∧ cs.length ≤ 900 ∧ ∀ q H', Same H H' → H' q = some (.lst (natsV (usedN cs))) → Q (.ref q) H'
def spFormD (K : PySem.W.Frag) : Sp := fun vs H Q _ => ∃ (f : Addr) (cs : List Int) (lo hi : Int), vs = [.ref f] ∧ FormAt K H f cs lo hi ∧ cs.length ≤ 63 ∧
  (∀ H', Same H H' → ¬ IsD cs → Q .non H') ∧ ∀ q H' i j, Same H H' → IsD cs → DiffAt cs i j → H' q = some (.tup [.int (i : Nat), .int (j : Nat)]) → Q (.ref q) H'
def spFormT (K : PySem.W.Frag) : Sp := fun vs H Q _ => ∃ (f : Addr) (cs : List Int) (lo hi : Int), vs = [.ref f, .int (-1)] ∧ FormAt K H f cs lo hi ∧ cs.length ≤ 900 ∧ lo ≤ hi ∧ ∀ q H', Same H H' → FormAt K H' q (cs.map fun c => -c) (-hi) (-lo) → Q (.ref q) H'
theorem natsU_len {cs : List Int} : (natsV (usedN cs)).length = (usedZ cs).length := by simp [natsV, usedN]
theorem natsU_get {cs : List Int} {j k : Nat} (e : (usedZ cs)[j]? = some k) : (natsV (usedN cs))[j]? = some (.int ((k + 1 : Nat) : Int)) := by
  unfold natsV usedN
  rw [List.map_map]
  exact map_get e
theorem coef_at {cs : List Int} {k : Nat} (h : k < cs.length) : atI (cs.map V.int) (((k + 1 : Nat) : Int) - 1) = some (.int (cs.getD k 0)) := by
  rw [show ((k + 1 : Nat) : Int) - 1 = (k : Int) by omega]
  exact atI_nat (map_get (by rw [List.getD_eq_getElem?_getD, List.getElem?_eq_getElem h]; rfl))
section
variable {P : Program} {w : World} {K : PySem.W.Frag} {mg : Str → Option Value} {base : Heap}
theorem ok_used_columns (T : Txt w K mg) : FnOk P w K mg base CX0 1 T.a_used_columns T.d_used_columns p_used_columns (spFormU K) := by
  refine T.F_used_columns.ok sc_used_columns (fun vs H Q E h => ?_) (fun cdv A outer s H vs Q E hr h => ?_)
  · obtain ⟨f, cs, lo, hi, rfl, _⟩ := h
    rfl
  obtain ⟨f, cs, lo, hi, rfl, ⟨c, hf, hc⟩, lc, q⟩ := h
  refine ⟨_, (pss_one (ps_ret (pe_lc (own := [("at", 1), ("each", 2)]) (g := gTup K 2 (gCons (gName 1) (gCons (gName 2) gNil))) rfl sc_used_columns.nd (EnT.pi_enumG (by rfl) T.z_enumerate (pa_cons (pe_ix ix_tup (pv 0) pe_int (fun _ _ => rfl)) pa_nil)) (blkOk_by (own := [("at", 1), ("each", 2)]) (N := n_used_columns) (sc := defScope s_used_columns) (by decide +kernel)) (fun _ _ _ _ _ => (pg_tup rfl (pgs_cons (pg_name (i := 1) sc_used_columns.nd rfl (Or.inl rfl)) (pgs_cons (pg_name (i := 2) sc_used_columns.nd rfl (Or.inl rfl)) pgs_nil)))) (fun _ _ _ _ _ => (pts_one (pt_cmpR op_ne (pv 2) pe_int (nomark _)))) (fun _ _ _ _ _ => (pe_op op_add (pv 1) pe_int))))), ?_⟩
  refine ⟨_, rfl, f, _, _, _, rfl, rfl, hf, rfl, true, c, _, rfl, hc, fun D hD => ?_⟩
  refine lc_it EnT.walk_enumG (fun i G => Same H G ∧ G D = some (.lst (natsV ((usedTo cs i).map (· + 1))))) ⟨Same.new hD _, upd_same⟩ (fun i G _ P => Sq.same (t := true) P.1 hc) ?_ ?_
  · rintro i x G G' hi P ⟨t, u, v, rfl, ht, rfl, eu, ev⟩
    cases eu
    rw [List.length_map] at hi
    obtain ⟨k, ek, rfl⟩ := get_int ev
    have gk : cs.getD i 0 = k := by rw [List.getD_eq_getElem?_getD, ek]; rfl
    have s1 : Same G (upd G t (.tup [.int i, .int k])) := Same.new ht _
    have eD := s1 _ _ P.2
    have sA := P.1.trans s1
    refine ⟨t, _, rfl, SqT.of upd_same, rfl, _, _, rfl, _, _, rfl, rfl, ?_⟩
    refine ⟨rfl, ?_⟩
    refine ⟨_, rfl, rfl, _, rfl, ite2 (fun h => ?_) (fun h => ?_)⟩
    · have nz : cs.getD i 0 ≠ 0 := fun z => by
        rw [gk] at z
        rw [z] at h
        exact absurd h (by decide)
      refine ⟨_, rfl, _, _, rfl, rfl, _, eD, lt_line (by simp only [natsV, List.length_map]; have := usedTo_len (cs := cs) (i := i); omega), fun b o e => ?_, ?_⟩
      · rw [upd_ne (ne_of_none e hD)]
        exact sA _ _ e
      · rw [usedTo_yes nz, List.map_append]
        simp only [natsV, List.map_append]
        exact upd_same
    · have z : cs.getD i 0 = 0 := by
        rw [gk]
        by_cases z : k = 0
        · exact z
        · exact absurd (by rw [decide_eq_false (fun e => z (V.int.inj e))]; rfl) h
      rw [usedTo_no z]
      exact ⟨sA, eD⟩
  · rintro G ⟨sG, eG⟩
    rw [List.length_map, usedTo_all] at eG
    exact q D G sG eG
theorem ok_difference_columns (T : Txt w K mg) : FnOk P w K mg base CX0 2 T.a_difference_columns T.d_difference_columns p_difference_columns (spFormD K) := by
  have g_used_columns := ok_used_columns (P := P) (w := w) (K := K) (base := base) T
  refine T.F_difference_columns.ok sc_difference_columns (fun vs H Q E h => ?_) (fun cdv A outer s H vs Q E hr h => ?_)
  · obtain ⟨f, cs, lo, hi, rfl, _⟩ := h
    rfl
  obtain ⟨f, cs, lo, hi, rfl, hF, lc, qn, qy⟩ := h
  refine ⟨_, (pss_cons (ps_set (i := 1) sc_difference_columns.nd rfl (Or.inl rfl) (pe_call g_used_columns (hr.mono (by first | decide | omega)) rfl T.m_used_columns T.F_used_columns.kp T.b_used_columns .nil pass0 (pa_cons (pv 0) pa_nil)))
      (pss_cons (ps_if (pt_cmpR (op_neD hr.units) (pe_callB (cr_sorted) rfl T.z_sorted bb_sorted (pa_cons (pe_lc (own := [("column", 2)]) (g := gName 2) (tt := tYes) rfl sc_difference_columns.nd (pi_list (pv 1)) (blkOk_by (own := [("column", 2)]) (N := n_difference_columns) (sc := defScope s_difference_columns) (by decide +kernel)) (fun _ _ _ _ _ => (pg_name (i := 2) sc_difference_columns.nd rfl (Or.inl rfl))) (fun _ _ _ _ _ => pts_nil) (fun _ _ _ _ _ => (pe_ix (show IxR _ (rIxT K) from ix_tup) (pe_ix (show IxR _ (rIxT K) from ix_tup) (pv 0) pe_int (fun _ _ => rfl)) (pe_op op_sub (pv 2) pe_int) (fun _ _ => rfl)))) pa_nil)) (pe_lst (pa_cons (pe_un un_neg pe_int) (pa_cons pe_int pa_nil))) (nomark _)) (pss_one (ps_ret pe_non)) pss_nil)
      (pss_cons (ps_asg (pv 1) (pg_unl rfl (pgs_cons (pg_name (i := 3) sc_difference_columns.nd rfl (Or.inl rfl)) (pgs_cons (pg_name (i := 4) sc_difference_columns.nd rfl (Or.inl rfl)) pgs_nil))))
      (pss_one (ps_ret (pe_ifExp (pt_cmpR op_eq (pe_ix ix_tup (pe_ix ix_tup (pv 0) pe_int (fun _ _ => rfl)) (pe_op op_sub (pv 3) pe_int) (fun _ _ => rfl)) pe_int (nomark _)) (pe_tup (pa_cons (pv 3) (pa_cons (pv 4) pa_nil))) (pe_tup (pa_cons (pv 4) (pa_cons (pv 3) pa_nil))))))))), ?_⟩
  refine ⟨_, rfl, f, cs, lo, hi, rfl, hF, by omega, fun u G su hu => ?_⟩
  obtain ⟨c, hf, hc⟩ := id hF
  refine ⟨_, rfl, u, rfl, ⟨_, SqL.of hu⟩, fun D hD => ?_⟩
  refine lc_it (walk_list (xs := natsV (usedN cs))) (LcP (Same G) (RInt (numL cs)) D) (lcp_start hD) (fun i G2 _ P => SqL.of (P.1 _ _ hu)) ?_ ?_
  · rintro j x F F' hj P ⟨rfl, ex⟩
    rw [natsU_len] at hj
    have ek : (usedZ cs)[j]? = some (usedZ cs)[j] := List.getElem?_eq_getElem hj
    have mk := mem_usedZ.mp (List.getElem_mem hj)
    generalize (usedZ cs)[j] = k at ek mk
    rw [natsU_get ek] at ex
    obtain rfl := Option.some.inj ex
    refine ⟨rfl, tyes ?_⟩
    refine ⟨_, rfl, f, _, _, _, rfl, rfl, Same.tup (su.trans P.1) hf, rfl, _, rfl, _, _, rfl, rfl, c, _, _, _, rfl, rfl, Same.tup (su.trans P.1) hc, coef_at mk.1, ?_⟩
    exact lcp_same P hD (Same.refl _) (lt_line (by have := usedZ_len (cs := cs); omega)) RInt.mono ⟨_, map_get ek, rfl⟩
  · intro F P
    have ei := lcp_ints (K := K) P (by rw [natsU_len]; simp [numL])
    have lz := usedZ_len (cs := cs)
    refine ⟨D, numL cs, rfl, SqL.of ei, by unfold numL; rw [List.length_map]; omega, fun ns' p pm srt hp => ?_⟩
    refine ⟨_, rfl, (by show 2 ≤ sizeLine; decide), fun e he => ?_⟩
    have s1 := Same.new hp (.lst (ns'.map V.int))
    have s2 := Same.new he (.lst [.int (-1), .int 1])
    have sA := ((su.trans P.1).trans s1).trans s2
    refine neI (ys := [-1, 1]) (SqL.of (s2 _ _ upd_same)) (SqL.of upd_same) ⟨_, rfl, ite2 (fun h => ?_) (fun h => ?_)⟩
    · refine qn _ sA fun d => ?_
      rw [(sorted_pm pm srt).mpr d] at h
      exact absurd h (by decide)
    · have d : IsD cs := (sorted_pm pm srt).mp (by
        by_cases z : ns' = [-1, 1]
        · exact z
        · exact absurd (by rw [decide_eq_false z]; rfl) h)
      obtain ⟨a, b, eU, la, lb, nab, alt⟩ := isD_used d
      have eN : natsV (usedN cs) = [.int ((a + 1 : Nat) : Int), .int ((b + 1 : Nat) : Int)] := by
        unfold natsV usedN
        rw [eU]
        rfl
      rw [eN] at hu
      refine ⟨_, rfl, u, _, rfl, SqL.of (s2 _ _ (s1 _ _ (P.1 _ _ hu))), rfl, _, _, rfl, _, _, rfl, rfl, ?_⟩
      refine ⟨_, rfl, f, _, _, _, rfl, rfl, Same.tup sA hf, rfl, _, rfl, _, _, rfl, rfl, c, _, _, _, rfl, rfl, Same.tup sA hc, coef_at la, ?_⟩
      refine ⟨rfl, _, rfl, ite2 (fun h1 => ?_) (fun h1 => ?_)⟩
      · have e1 : cs.getD a 0 = 1 := V.int.inj (of_decide_eq_true h1)
        have e2 : cs.getD b 0 = -1 := by omega
        refine ⟨_, rfl, _, rfl, (by show 2 ≤ sizeLine; decide), fun q hq => ?_⟩
        exact qy q _ _ _ (sA.trans (Same.new hq _)) d (diffAt_of eU la lb e1 e2).1 upd_same
      · have e1 : cs.getD a 0 ≠ 1 := fun z => h1 (decide_eq_true (congrArg V.int z))
        refine ⟨_, rfl, _, rfl, (by show 2 ≤ sizeLine; decide), fun q hq => ?_⟩
        exact qy q _ _ _ (sA.trans (Same.new hq _)) d (diffAt_of' eU la lb (by omega) (by omega)) upd_same
end
/-! ### the grid (as in Law18e.inc) -/
def valsR (lo hi : Int) : List Int := (List.range (hi + 1 - lo).toNat).map fun (k : Nat) => lo + (k : Int)
def gstep (r : List Int) (Qs : List (List Int)) : List (List Int) := Qs.flatMap fun p => (valsR (r.getD 0 0) (r.getD 1 0)).map fun v => p ++ [v]
def gridL (Rs : List (List Int)) : List (List Int) := Rs.foldl (fun Qs r => gstep r Qs) [[]]
theorem gridL_app {Rs : List (List Int)} {r : List Int} : gridL (Rs ++ [r]) = gstep r (gridL Rs) := by
  unfold gridL
  rw [List.foldl_append]
  rfl
theorem mem_valsR {lo hi v : Int} : v ∈ valsR lo hi ↔ lo ≤ v ∧ v ≤ hi := by
  unfold valsR
  rw [List.mem_map]
  constructor
  · rintro ⟨k, hk, rfl⟩
    rw [List.mem_range] at hk
    omega
  · rintro ⟨h1, h2⟩
    exact ⟨(v - lo).toNat, List.mem_range.mpr (by omega), by omega⟩
theorem valsR_len {lo hi : Int} : (valsR lo hi).length = (hi + 1 - lo).toNat := by simp [valsR]
theorem valsR_get {lo hi : Int} {k : Nat} (h : k < (hi + 1 - lo).toNat) : (valsR lo hi)[k]? = some (lo + (k : Int)) := map_get (range_at h)
def InR (Rs : List (List Int)) (p : List Int) : Prop := p.length = Rs.length ∧ ∀ k < Rs.length, (Rs.getD k []).getD 0 0 ≤ p.getD k 0 ∧ p.getD k 0 ≤ (Rs.getD k []).getD 1 0
theorem getD_app1 {α : Type} {xs ys : List α} {k : Nat} {d : α} (h : k < xs.length) : (xs ++ ys).getD k d = xs.getD k d := by
  rw [List.getD_eq_getElem?_getD, List.getElem?_append_left h, ← List.getD_eq_getElem?_getD]
theorem getD_app2 {α : Type} {xs : List α} {y d : α} : (xs ++ [y]).getD xs.length d = y := by
  rw [List.getD_eq_getElem?_getD, List.getElem?_append_right (Nat.le_refl _), Nat.sub_self]
  rfl
theorem take_snoc {α : Type} {xs : List α} {i : Nat} {x : α} (e : xs[i]? = some x) : xs.take (i + 1) = xs.take i ++ [x] := by rw [List.take_succ, e]; rfl
theorem mem_grid {Rs : List (List Int)} : ∀ {i : Nat}, i ≤ Rs.length → ∀ p, p ∈ gridL (Rs.take i) ↔ InR (Rs.take i) p
  | 0, _, p => by
    rw [List.take_zero]
    unfold InR
    show p ∈ [[]] ↔ _
    rw [List.mem_singleton]
    constructor
    · rintro rfl
      exact ⟨rfl, fun k h => by simp at h⟩
    · rintro ⟨h, _⟩
      exact List.length_eq_zero_iff.mp h
  | i + 1, hi, p => by
    have e : Rs[i]? = some (Rs[i]'(by omega)) := List.getElem?_eq_getElem _
    rw [take_snoc e, gridL_app]
    generalize Rs[i]'(by omega) = r
    have li : (Rs.take i).length = i := by rw [List.length_take]; omega
    unfold gstep
    rw [List.mem_flatMap]
    constructor
    · rintro ⟨q, hq, hp⟩
      obtain ⟨v, hv, rfl⟩ := List.mem_map.mp hp
      obtain ⟨lq, iq⟩ := (mem_grid (by omega) q).mp hq
      have hv' := mem_valsR.mp hv
      refine ⟨by simp [lq], fun k hk => ?_⟩
      rw [List.length_append, li] at hk
      by_cases h : k < i
      · rw [getD_app1 (by omega), getD_app1 (by omega)]
        exact iq k (by omega)
      · have ek : k = i := by simp at hk; omega
        subst ek
        have e1 : (List.take k Rs ++ [r]).getD k [] = r := by
          have := getD_app2 (xs := Rs.take k) (y := r) (d := [])
          rwa [li] at this
        have e2 : (q ++ [v]).getD k 0 = v := by
          have := getD_app2 (xs := q) (y := v) (d := (0 : Int))
          rwa [lq, li] at this
        rw [e1, e2]
        exact hv'
    · rintro ⟨lp, ip⟩
      rw [List.length_append, li] at lp ip
      have ne : p ≠ [] := fun z => by rw [z] at lp; simp at lp
      obtain ⟨q, v, rfl⟩ : ∃ q v, p = q ++ [v] := ⟨p.dropLast, p.getLast ne, (List.dropLast_concat_getLast ne).symm⟩
      have lq : q.length = i := by simpa using lp
      refine ⟨q, (mem_grid (by omega) q).mpr ⟨by rw [lq, li], fun k hk => ?_⟩, List.mem_map.mpr ⟨v, mem_valsR.mpr ?_, rfl⟩⟩
      · rw [li] at hk
        have := ip k (by simp; omega)
        rwa [getD_app1 (by omega), getD_app1 (by omega)] at this
      · have := ip i (by simp)
        have e1 : (List.take i Rs ++ [r]).getD i [] = r := by
          have := getD_app2 (xs := Rs.take i) (y := r) (d := [])
          rwa [li] at this
        have e2 : (q ++ [v]).getD i 0 = v := by
          have := getD_app2 (xs := q) (y := v) (d := (0 : Int))
          rwa [lq] at this
        rw [e1, e2] at this
        exact this
theorem gstep_len {r : List Int} {m : Nat} (h : (valsR (r.getD 0 0) (r.getD 1 0)).length ≤ m) : ∀ Qs : List (List Int), (gstep r Qs).length ≤ Qs.length * m := by
  intro Qs
  unfold gstep
  induction Qs with
  | nil => simp
  | cons q Qs ih =>
    rw [List.flatMap_cons, List.length_append, List.length_cons, Nat.add_mul, List.length_map]
    omega
/-! ### has_point, range_of, least_point, greatest_point -/
theorem Mx.get {K : PySem.W.Frag} {H : Hp} {p : Addr} {M : List (List Int)} {i : Nat} {r : List Int} (h : Mx true true K H p M) (e : M[i]? = some r) : ∃ (vs : List V) (a : Addr), SqT K H p vs ∧ atI vs (i : Int) = some (.ref a) ∧ SqT K H a (r.map V.int) := by
  obtain ⟨as, h1, h2, h3⟩ := h
  have hi : i < M.length := (List.getElem?_eq_some_iff.mp e).1
  have ea : as[i]? = some (as[i]'(by omega)) := List.getElem?_eq_getElem _
  exact ⟨_, _, h1, atI_nat (map_get ea), h3 i _ r ea e⟩
def spRange (K : PySem.W.Frag) : Sp := fun vs H Q _ => ∃ (p : Addr) (M : List (List Int)) (n i : Nat), vs = [.ref p, .int i] ∧ n ≤ 900 ∧ Mx true true K H p M ∧ Sz (n + 1) M ∧ i ≤ n ∧ ∀ t H', Same H H' → SqT K H' t ([-(getM M 0 i), getM M i 0].map V.int) → Q (.ref t) H'
/-- a row, or None -/
def RowAt (K : PySem.W.Frag) (H : Hp) (v : V) : Option (List Int) → Prop
  | none => v = .non
  | some r => ∃ p, v = .ref p ∧ SqT K H p (r.map V.int)
def leastM (n : Nat) (M : List (List Int)) : List Int := (List.range n).map fun k => -(getM M 0 (k + 1))
def greatM (n : Nat) (M : List (List Int)) : List Int := (List.range n).map fun k => getM M (k + 1) 0
def spEnd (K : PySem.W.Frag) (f : Nat → List (List Int) → List Int) : Sp := fun vs H Q _ => ∃ (va : V) (A : Option (List (List Int))) (n : Nat), vs = [va] ∧ n ≤ 900 ∧ BoxAt K H va A ∧ BSz (n + 1) A ∧ ∀ v H', Same H H' → RowAt K H' v (A.map (f n)) → Q v H'
section
variable {P : Program} {w : World} {K : PySem.W.Frag} {mg : Str → Option Value} {base : Heap}
theorem ok_range_of (T : Txt w K mg) : FnOk P w K mg base CX0 1 T.a_range_of T.d_range_of p_range_of (spRange K) := by
  refine T.F_range_of.ok sc_range_of (fun vs H Q E h => ?_) (fun cdv A outer s H vs Q E hr h => ?_)
  · obtain ⟨p, M, n, i, rfl, _⟩ := h
    rfl
  obtain ⟨p, M, n, i, rfl, hn, hM, sM, hi, q⟩ := h
  refine ⟨_, (pss_one (ps_ret (pe_tup (pa_cons (pe_un un_neg (pe_ix ix_tup (pe_ix ix_tup (pv 0) pe_int (fun _ _ => rfl)) (pv 1) (fun _ _ => rfl))) (pa_cons (pe_ix ix_tup (pe_ix ix_tup (pv 0) (pv 1) (fun _ _ => rfl)) pe_int (fun _ _ => rfl)) pa_nil))))), ?_⟩
  obtain ⟨r0, e0, l0, g0⟩ := sM.at2 (i := 0) (j := i) (by omega) (by omega)
  obtain ⟨ri, ei, li, gi⟩ := sM.at2 (i := i) (j := 0) (by omega) (by omega)
  obtain ⟨vs, a, h1, h2, h3⟩ := hM.get e0
  obtain ⟨vs', a', k1, k2, k3⟩ := hM.get ei
  refine ⟨_, rfl, p, _, _, _, rfl, rfl, h1, h2, _, rfl, a, _, _, _, rfl, rfl, h3, atI_nat (map_get g0), _, rfl, ?_⟩
  refine ⟨_, rfl, _, rfl, p, _, _, _, rfl, rfl, k1, k2, a', _, _, _, rfl, rfl, k3, atI_nat (map_get gi), (by show 2 ≤ sizeLine; decide), fun t ht => ?_⟩
  exact q t _ (Same.new ht _) (SqT.of upd_same)
end
/-! ### forms and cuts: the program -/
def RngF (M : List (List Int)) (cs : List Int) (lo hi L G : Int) : Prop := (¬ IsD cs ∧ L = spanLo M cs lo ∧ G = spanHi M cs hi) ∨ ∃ i j, IsD cs ∧ DiffAt cs i j ∧ L = lo - getM M j i ∧ G = hi + getM M i j
def spFormR (K : PySem.W.Frag) : Sp := fun vs H Q _ => ∃ (f p : Addr) (M : List (List Int)) (cs : List Int) (lo hi : Int), vs = [.ref f, .ref p] ∧ FormAt K H f cs lo hi ∧ Cf cs ∧ cs.length ≤ 60 ∧ Mx true true K H p M ∧ Sz (cs.length + 1) M ∧
  ∀ t H' L G, Same H H' → H' t = some (.tup [.int L, .int G]) → RngF M cs lo hi L G → Q (.ref t) H'
theorem smul_ok {c x : Int} (h : -1000000000 ≤ c ∧ c ≤ 1000000000) : CMul c x := .inl ⟨by omega, by omega⟩
section
variable {P : Program} {w : World} {K : PySem.W.Frag} {mg : Str → Option Value} {base : Heap}
theorem ok_range_of_form (T : Txt w K mg) : FnOk P w K mg base CX0 3 T.a_range_of_form T.d_range_of_form p_range_of_form (spFormR K) := by
  have g_used_columns := ok_used_columns (P := P) (w := w) (K := K) (base := base) T
  have g_difference_columns := ok_difference_columns (P := P) (w := w) (K := K) (base := base) T
  have g_range_of := ok_range_of (P := P) (w := w) (K := K) (base := base) T
  refine T.F_range_of_form.ok sc_range_of_form (fun vs H Q E h => ?_) (fun cdv A outer s H vs Q E hr h => ?_)
  · obtain ⟨f, p, M, cs, lo, hi, rfl, _⟩ := h
    rfl
  obtain ⟨f, p, M, cs, lo, hi, rfl, hF, cf, lc, hM, sM, q⟩ := h
  refine ⟨_, (pss_cons (ps_asg (pv 0) (pg_tup rfl (pgs_cons (pg_name (i := 2) sc_range_of_form.nd rfl (Or.inr rfl)) (pgs_cons (pg_name (i := 3) sc_range_of_form.nd rfl (Or.inl rfl)) (pgs_cons (pg_name (i := 4) sc_range_of_form.nd rfl (Or.inl rfl)) pgs_nil)))))
      (pss_cons (ps_set (i := 5) sc_range_of_form.nd rfl (Or.inl rfl) (pe_call g_difference_columns (hr.mono (by first | decide | omega)) rfl T.m_difference_columns T.F_difference_columns.kp T.b_difference_columns .nil pass0 (pa_cons (pv 0) pa_nil)))
      (pss_cons (ps_if (pt_cmpR op_notN (pv 5) pe_non (nomark _)) (pss_cons (ps_asg (pv 5) (pg_tup rfl (pgs_cons (pg_name (i := 6) sc_range_of_form.nd rfl (Or.inl rfl)) (pgs_cons (pg_name (i := 7) sc_range_of_form.nd rfl (Or.inl rfl)) pgs_nil))))
      (pss_one (ps_ret (pe_tup (pa_cons (pe_op op_sub (pv 3) (pe_ix ix_tup (pe_ix ix_tup (pv 1) (pv 7) (fun _ _ => rfl)) (pv 6) (fun _ _ => rfl))) (pa_cons (pe_op op_add (pv 4) (pe_ix ix_tup (pe_ix ix_tup (pv 1) (pv 6) (fun _ _ => rfl)) (pv 7) (fun _ _ => rfl))) pa_nil)))))) pss_nil)
      (pss_cons (ps_for PassesOwn.never rfl (pi_list (pe_call g_used_columns (hr.mono (by first | decide | omega)) rfl T.m_used_columns T.F_used_columns.kp T.b_used_columns .nil pass0 (pa_cons (pv 0) pa_nil))) (pg_name (i := 8) sc_range_of_form.nd rfl (Or.inr rfl))
        (pss_cons (ps_setLc (i := 9) (own := [("end", 10)]) (g := gName 10) (tt := tYes) rfl sc_range_of_form.nd rfl rfl (sw_true rfl rfl rfl (by decide +kernel)) (pi_tup (pe_call g_range_of (hr.mono (by first | decide | omega)) rfl T.m_range_of T.F_range_of.kp T.b_range_of .nil pass0 (pa_cons (pv 1) (pa_cons (pv 8) pa_nil)))) (blkOk_by (own := [("end", 10)]) (N := n_range_of_form) (sc := defScope s_range_of_form) (by decide +kernel)) (fun _ _ _ _ _ => (pg_name (i := 10) sc_range_of_form.nd rfl (Or.inl rfl))) (fun _ _ _ _ _ => pts_nil) (fun _ _ _ _ _ => (pe_op op_mul (pe_ix (show IxR _ (rIxT K) from ix_tup) (pv 2) (pe_op op_sub (pv 8) pe_int) (fun _ _ => rfl)) (pv 10))))
      (pss_cons (ps_set (i := 3) sc_range_of_form.nd rfl (Or.inl rfl) (pe_op op_add (pv 3) (pe_callB (cr_min rfl) rfl T.z_min bb_min (pa_cons (pv 9) pa_nil))))
      (pss_one (ps_set (i := 4) sc_range_of_form.nd rfl (Or.inl rfl) (pe_op op_add (pv 4) (pe_callB (cr_max rfl) rfl T.z_max bb_max (pa_cons (pv 9) pa_nil))))))))
      (pss_one (ps_ret (pe_tup (pa_cons (pv 3) (pa_cons (pv 4) pa_nil))))))))), ?_⟩
  obtain ⟨c, hf, hc⟩ := id hF
  refine ⟨_, rfl, f, _, rfl, hf, rfl, _, _, rfl, _, _, rfl, _, _, rfl, rfl, ?_⟩
  refine ⟨_, rfl, f, cs, lo, hi, rfl, hF, by omega, fun G s0 nd => ?_, fun t G i j s0 d dij ht => ?_⟩
  · refine ⟨_, rfl, rfl, _, rfl, ifF (by decide) ?_⟩
    refine ⟨_, rfl, f, cs, lo, hi, rfl, hF.same s0, by omega, fun u H2 s2 hu => ⟨u, rfl, ⟨_, SqL.of hu⟩, ?_⟩⟩
    have s02 := s0.trans s2
    refine for_it (walk_list (xs := natsV (usedN cs))) (fun i σ F => (∃ x8 x9 x10 : Option V, σ = [some (.ref f), some (.ref p), some (.ref c), some (.int (lo + (((usedZ cs).take i).map fun k => tmin M (cs.getD k 0) k).sum)), some (.int (hi + (((usedZ cs).take i).map fun k => tmax M (cs.getD k 0) k).sum)), some .non, none, none, x8, x9, x10]) ∧ Same H2 F)
      ⟨⟨none, none, none, by rw [List.take_zero]; show _ = [_, _, _, some (V.int (lo + 0)), some (V.int (hi + 0)), _, _, _, _, _, _]; rw [Int.add_zero, Int.add_zero]; rfl⟩, Same.refl _⟩ (fun j σ F _ P => SqL.of (P.2 _ _ hu)) ?_ ?_
    · rintro i x σ F0 F hi2 ⟨⟨x8, x9, x10, rfl⟩, sF⟩ ⟨rfl, ex⟩
      rw [natsU_len] at hi2
      have ek : (usedZ cs)[i]? = some (usedZ cs)[i] := List.getElem?_eq_getElem hi2
      have mk := mem_usedZ.mp (List.getElem_mem hi2)
      generalize (usedZ cs)[i] = k at ek mk
      rw [natsU_get ek] at ex
      obtain rfl := Option.some.inj ex
      have sF2 := s02.trans sF
      refine ⟨_, rfl, _, rfl, p, M, cs.length, k + 1, rfl, by omega, hM.same sF2, sM, by omega, fun t H3 s3 ht => ⟨t, rfl, ⟨_, ht⟩, fun D hD => ?_⟩⟩
      have sF3 := sF2.trans s3
      refine lc_it (walk_tup (xs := [-(getM M 0 (k + 1)), getM M (k + 1) 0].map V.int)) (LcP (Same H3) (RInt ([-(getM M 0 (k + 1)), getM M (k + 1) 0].map fun y => cs.getD k 0 * y)) D) (lcp_start hD) (fun j F4 _ P => Same.tup P.1 ht) ?_ ?_
      · rintro j y F4 F5 hj P ⟨rfl, ey⟩
        obtain ⟨z, ez, rfl⟩ := get_int ey
        refine ⟨rfl, tyes ?_⟩
        refine ⟨_, rfl, _, rfl, _, _, rfl, rfl, c, _, _, _, rfl, rfl, Same.tup (sF3.trans P.1) hc, coef_at mk.1, _, rfl, _, _, rfl, rfl, smul_ok (cf.get mk.1), ?_⟩
        exact lcp_same P hD (Same.refl _) (lt_line (by have : j < 2 := hj; omega)) RInt.mono ⟨_, map_get ez, rfl⟩
      · intro F4 P
        have ei := lcp_ints (K := K) P rfl
        refine ⟨_, rfl, _, rfl, D, _, rfl, SqL.of ei, by show 0 < 2; decide, fun m hm hx => ⟨_, _, rfl, rfl, ?_⟩⟩
        refine ⟨_, rfl, _, rfl, D, _, rfl, SqL.of ei, by show 0 < 2; decide, fun m2 hm2 hx2 => ⟨_, _, rfl, rfl, ?_⟩⟩
        have em : m = tmin M (cs.getD k 0) k := by
          have x1 := hx (cs.getD k 0 * -(getM M 0 (k + 1))) (by simp)
          have x2 := hx (cs.getD k 0 * getM M (k + 1) 0) (by simp)
          simp only [List.map_cons, List.map_nil, List.mem_cons, List.not_mem_nil, or_false] at hm
          unfold tmin
          omega
        have em2 : m2 = tmax M (cs.getD k 0) k := by
          have x1 := hx2 (cs.getD k 0 * -(getM M 0 (k + 1))) (by simp)
          have x2 := hx2 (cs.getD k 0 * getM M (k + 1) 0) (by simp)
          simp only [List.map_cons, List.map_nil, List.mem_cons, List.not_mem_nil, or_false] at hm2
          unfold tmax
          omega
        have eL : lo + (((usedZ cs).take (i + 1)).map fun k => tmin M (cs.getD k 0) k).sum = lo + (((usedZ cs).take i).map fun k => tmin M (cs.getD k 0) k).sum + m := by
          rw [take_snoc ek, List.map_append, List.sum_append, em]
          show lo + (_ + (tmin M (cs.getD k 0) k + 0)) = _
          omega
        have eG : hi + (((usedZ cs).take (i + 1)).map fun k => tmax M (cs.getD k 0) k).sum = hi + (((usedZ cs).take i).map fun k => tmax M (cs.getD k 0) k).sum + m2 := by
          rw [take_snoc ek, List.map_append, List.sum_append, em2]
          show hi + (_ + (tmax M (cs.getD k 0) k + 0)) = _
          omega
        rw [eL, eG]
        exact ⟨⟨_, _, _, rfl⟩, (sF.trans s3).trans P.1⟩
    · rintro σ F ⟨⟨x8, x9, x10, rfl⟩, sF⟩
      rw [natsU_len, List.take_length]
      refine ⟨_, rfl, _, rfl, (by show 2 ≤ sizeLine; decide), fun t ht => ?_⟩
      exact q t _ _ _ ((s02.trans sF).trans (Same.new ht _)) upd_same (.inl ⟨nd, rfl, rfl⟩)
  · refine ⟨_, rfl, rfl, _, rfl, ifT (by rw [decide_eq_false (fun z => by cases z)]; rfl) ?_⟩
    refine ⟨_, rfl, t, _, rfl, SqT.of ht, rfl, _, _, rfl, _, _, rfl, rfl, ?_⟩
    obtain ⟨h1, h2, h3, h4, hv⟩ := id dij
    have hM1 := hM.same s0
    obtain ⟨vs1, a1, r1, x1, x2, x3, x4⟩ := hM1.get3 sM (i := j) (j := i) (by omega) (by omega)
    obtain ⟨vs2, a2, r2, y1, y2, y3, y4⟩ := hM1.get3 sM (i := i) (j := j) (by omega) (by omega)
    refine ⟨_, rfl, _, rfl, _, rfl, p, _, _, _, rfl, rfl, x1, x2, _, rfl, a1, _, _, _, rfl, rfl, x3, x4, _, _, rfl, rfl, ?_⟩
    refine ⟨_, rfl, _, rfl, _, rfl, p, _, _, _, rfl, rfl, y1, y2, _, rfl, a2, _, _, _, rfl, rfl, y3, y4, _, _, rfl, rfl, (by show 2 ≤ sizeLine; decide), fun t2 ht2 => ?_⟩
    exact q t2 _ _ _ (s0.trans (Same.new ht2 _)) upd_same (.inr ⟨i, j, d, dij, rfl, rfl⟩)
end
/-! ### one of a row, a far number (as in Draw28.inc) -/
theorem Sq.or {K : PySem.W.Frag} {t : Bool} {H : Hp} {p : Addr} {xs : List V} (h : Sq t K H p xs) : SqL K H p xs ∨ SqT K H p xs := by
  cases t
  · exact .inl h
  · exact .inr h
theorem Sq.ix {K : PySem.W.Frag} {t : Bool} {H : Hp} {p : Addr} {xs : List V} {i : Int} {v : V} {Q : VK} (h : Sq t K H p xs) (e : atI xs i = some v) (q : Q v H) : rIxT K (.ref p) (.int i) H Q ∨ rIxL K (.ref p) (.int i) H Q := by
  cases t
  · exact .inr ⟨p, xs, i, v, rfl, rfl, h, e, q⟩
  · exact .inl ⟨p, xs, i, v, rfl, rfl, h, e, q⟩
def spOneG (K : PySem.W.Frag) : Sp := fun vs H Q _ => ∃ (a p : Addr) (xs : List V) (t : Bool), vs = [.ref a, .ref p] ∧ Src H a ∧ (t = false → p ≠ a) ∧ Sq t K H p xs ∧ 0 < xs.length ∧ xs.length < 1000 ∧ ∀ v H', v ∈ xs → Stp a H H' → Q v H'
def spFar : Sp := fun vs H Q _ => ∃ a : Addr, vs = [.ref a] ∧ Src H a ∧ ∀ (r : Int) H', Stp a H H' → Q (.int r) H'
theorem sqT_but {K : PySem.W.Frag} {D p : Addr} {H H' : Hp} {xs acc : List V} (b : But D H H') (hD : H D = some (.lst acc)) (h : SqT K H p xs) : SqT K H' p xs := by
  have ne : ∀ {u : HO}, H p = some u → (∀ ys, u ≠ .lst ys) → p ≠ D := fun e n z => by
    rw [z, hD] at e
    exact n _ (Option.some.inj e).symm
  rcases h with (q | ⟨o', q⟩) | q
  · exact .inl (.inl (b _ _ (ne q (fun _ z => nomatch z)) q))
  · exact .inl (.inr ⟨o', b _ _ (ne q (fun _ z => nomatch z)) q⟩)
  · exact .inr q
def RTup (K : PySem.W.Frag) (M : List (List Int)) (D : Addr) : Nat → V → Hp → Prop := fun j y H => ∃ (a : Addr) (r : List Int), y = .ref a ∧ M[j]? = some r ∧ ∀ H', But D H H' → SqT K H' a (r.map V.int)
theorem RTup.mono {K : PySem.W.Frag} {M : List (List Int)} {D : Addr} : ∀ (j : Nat) (z : V) (G G' : Hp), RTup K M D j z G → But D G G' → RTup K M D j z G' := by
  rintro j z G G' ⟨a, r, e1, e2, e3⟩ b
  exact ⟨a, r, e1, e2, fun H' c => e3 H' (b.trans c)⟩
theorem Stp.sq {K : PySem.W.Frag} {a p : Addr} {H H' : Hp} {xs : List V} {t : Bool} (s : Stp a H H') (hs : Src H a) (ne : t = false → p ≠ a) (h : Sq t K H p xs) : Sq t K H' p xs := by
  cases t
  · exact s.rdL h (ne rfl)
  · exact s.rd h hs
section
variable {P : Program} {w : World} {K : PySem.W.Frag} {mg : Str → Option Value} {base : Heap}
theorem ok_l_oneG (T : Txt w K mg) : FnOk P w K mg base CX0 2 T.a_l_one T.d_l_one p_l_one (spOneG K) := by
  have g_l_pick := ok_l_pick (P := P) (w := w) (base := base) T
  refine T.F_l_one.ok sc_l_one (fun vs H Q E h => ?_) (fun cdv A outer s H vs Q E hr h => ?_)
  · obtain ⟨a, p, xs, t, rfl, _⟩ := h
    rfl
  obtain ⟨a, p, xs, t, rfl, hS, ne, hx, h0, h9, q⟩ := h
  refine ⟨_, (pss_one (ps_ret (pe_ix (IxR.or ix_tup ix_list) (pv 1) (pe_call g_l_pick (hr.mono (by first | decide | omega)) rfl T.m_l_pick T.F_l_pick.kp T.b_l_pick .nil pass0 (pa_cons (pv 0) (pa_cons (pe_callB call_len_seq rfl T.z_len PySem.boot_len (pa_cons (pv 1) pa_nil)) pa_nil))) (fun _ _ => rfl)))), ?_⟩
  refine ⟨_, rfl, _, rfl, _, rfl, p, _, rfl, Sq.or (t := t) hx, a, _, rfl, hS, by omega, fun r H' st r0 r1 => ?_⟩
  have hr' : r.toNat < xs.length := by omega
  exact Sq.ix (t := t) (st.sq hS ne hx) (atI_int (xs := xs) r0 hr') (q _ _ (List.getElem_mem hr') st)
theorem ok_l_far (T : Txt w K mg) : FnOk P w K mg base CX0 2 T.a_l_far T.d_l_far p_l_far spFar := by
  have g_l_pick := ok_l_pick (P := P) (w := w) (base := base) T
  refine T.F_l_far.ok sc_l_far (fun vs H Q E h => ?_) (fun cdv A outer s H vs Q E hr h => ?_)
  · obtain ⟨a, rfl, _⟩ := h
    rfl
  obtain ⟨a, rfl, hS, q⟩ := h
  refine ⟨_, (pss_cons (ps_if (pt_cmpR op_eq (pe_call g_l_pick (hr.mono (by first | decide | omega)) rfl T.m_l_pick T.F_l_pick.kp T.b_l_pick .nil pass0 (pa_cons (pv 0) (pa_cons pe_int pa_nil))) pe_int (nomark _)) (pss_one (ps_ret (pe_op op_mul (pe_op op_sub (pe_call g_l_pick (hr.mono (by first | decide | omega)) rfl T.m_l_pick T.F_l_pick.kp T.b_l_pick .nil pass0 (pa_cons (pv 0) (pa_cons pe_int pa_nil))) pe_int) pe_int))) pss_nil)
      (pss_one (ps_ret (pe_op op_sub (pe_call g_l_pick (hr.mono (by first | decide | omega)) rfl T.m_l_pick T.F_l_pick.kp T.b_l_pick .nil pass0 (pa_cons (pv 0) (pa_cons pe_int pa_nil))) pe_int)))), ?_⟩
  refine ⟨_, rfl, a, 4, rfl, hS, by decide, fun r H1 st r0 r1 => ⟨rfl, _, rfl, ite2 (fun _ => ?_) (fun _ => ?_)⟩⟩
  · refine ⟨_, rfl, a, 2000001, rfl, st.s, by decide, fun r2 H2 st2 r20 r21 => ?_⟩
    refine ⟨_, _, rfl, rfl, _, _, rfl, rfl, .inr ⟨by decide, by decide⟩, ?_⟩
    exact q _ _ (st.trans st2)
  · refine ⟨_, rfl, a, 13, rfl, st.s, by decide, fun r2 H2 st2 r20 r21 => ?_⟩
    refine ⟨_, _, rfl, rfl, ?_⟩
    exact q _ _ (st.trans st2)
end
/-! ### the least box of points (as in Draw28.inc), of none too -/
def spBox (K : PySem.W.Frag) : Sp := fun vs H Q _ => ∃ (p : Addr) (n : Nat) (Ps : List (List Int)), vs = [.ref p] ∧ n ≤ 900 ∧ Mx false true K H p Ps ∧ (∀ r ∈ Ps, r.length = n) ∧ Ps.length ≤ 1000 ∧ ∀ v H', Same H H' → BoxAt K H' v (hull n Ps) → Q v H'
section
variable {P : Program} {w : World} {K : PySem.W.Frag} {mg : Str → Option Value} {base : Heap}
theorem ok_l_box (T : Txt w K mg) : FnOk P w K mg base CX0 1 T.a_l_box T.d_l_box p_l_box (spBox K) := by
  refine T.F_l_box.ok sc_l_box (fun vs H Q E h => ?_) (fun cdv A outer s H vs Q E hr h => ?_)
  · obtain ⟨p, n, Ps, rfl, _⟩ := h
    rfl
  obtain ⟨p, n, Ps, rfl, hn, hM, hl, hz, q⟩ := h
  refine ⟨_, (pss_cons (ps_if (pt_cmpR (op_eqL0 hr.units0) (pv 0) (pe_lst pa_nil) (nomark _)) (pss_one (ps_ret pe_non)) pss_nil)
      (pss_cons (ps_set (i := 1) sc_l_box.nd rfl (Or.inr rfl) (pe_lc (own := [("_law_point", 2)]) (g := gName 2) (tt := tYes) rfl sc_l_box.nd (pi_list (pv 0)) (blkOk_by (own := [("_law_point", 2)]) (N := n_l_box) (sc := defScope s_l_box) (by decide +kernel)) (fun _ _ _ _ _ => (pg_name (i := 2) sc_l_box.nd rfl (Or.inl rfl))) (fun _ _ _ _ _ => pts_nil) (fun _ _ _ _ _ => (pe_op (show OpR _ _ (rCatT K) from op_catT) (pe_tup (pa_cons pe_int pa_nil)) (pv 2)))))
      (pss_cons (ps_set (i := 3) sc_l_box.nd rfl (Or.inl rfl) (pe_lst pa_nil))
      (pss_cons (ps_for PassesOwn.never rfl (pi_range1 rfl T.z_range (pa_cons (pe_callB call_len_seq rfl T.z_len PySem.boot_len (pa_cons (pe_ix ix_list (pv 1) pe_int (fun _ _ => rfl)) pa_nil)) pa_nil)) (pg_name (i := 4) sc_l_box.nd rfl (Or.inr rfl))
        (pss_one (ps_expr (pe_bm PySem.F.plainAttrs_list PySem.F.slot_list_append PySem.F.type_list_append mt_append (pv 3) (pa_cons (pe_callTy call_tuple_of rfl T.z_tuple bt_tuple (pa_cons (pe_lc (own := [("_law_j", 5)]) (g := gName 5) (tt := tYes) rfl sc_l_box.nd (pi_range1 rfl T.z_range (pa_cons (pe_callB call_len_seq rfl T.z_len PySem.boot_len (pa_cons (pe_ix ix_list (pv 1) pe_int (fun _ _ => rfl)) pa_nil)) pa_nil)) (blkOk_by (own := [("_law_j", 5)]) (N := n_l_box) (sc := defScope s_l_box) (by decide +kernel)) (fun _ _ _ _ _ => (pg_name (i := 5) sc_l_box.nd rfl (Or.inr rfl))) (fun _ _ _ _ _ => pts_nil) (fun _ _ _ _ _ => (pe_callB (show CallR _ _ (rMax K) from (cr_max rfl)) rfl T.z_max bb_max (pa_cons (pe_lc (own := [("_law_point", 2)]) (g := gName 2) (tt := tYes) rfl sc_l_box.nd (show PI _ _ _ (iList K _) from (pi_list (pv 1))) (blkOk_by (own := [("_law_point", 2)]) (N := n_l_box) (sc := relS _ (defScope s_l_box)) (by decide +kernel)) (fun _ _ _ _ _ => (pg_name (i := 2) sc_l_box.nd rfl (Or.inl rfl))) (fun _ _ _ _ _ => pts_nil) (fun _ _ _ _ _ => (pe_op op_sub (pe_ix (show IxR _ (rIxT K) from ix_tup) (pv 2) (pv 4) (fun _ _ => rfl)) (pe_ix (show IxR _ (rIxT K) from ix_tup) (pv 2) (pv 5) (fun _ _ => rfl))))) pa_nil)))) pa_nil)) pa_nil)))))
      (pss_one (ps_ret (pe_callTy call_tuple_of rfl T.z_tuple bt_tuple (pa_cons (pv 3) pa_nil)))))))), ?_⟩
  obtain ⟨vs, hv, lv, hrow⟩ := hM.row
  refine ⟨_, rfl, (by show 0 ≤ sizeLine; decide), fun e he => ?_⟩
  have s0 : Same H (upd H e (.lst [])) := Same.new he _
  by_cases hne : Ps = []
  · subst hne
    have z : vs = [] := List.length_eq_zero_iff.mp (by simpa using lv)
    subst z
    exact ⟨p, e, [], rfl, rfl, s0.seq hv, SqL.of upd_same, _, rfl, ifT rfl (q .non _ s0 rfl)⟩
  have nev : vs ≠ [] := fun z => by
    subst z
    exact hne (List.length_eq_zero_iff.mp (by simpa using lv.symm))
  refine ⟨p, e, vs, rfl, rfl, s0.seq hv, SqL.of upd_same, _, rfl, ifF (by cases vs with
    | nil => exact absurd rfl nev
    | cons _ _ => rfl) ?_⟩
  refine ⟨_, rfl, p, rfl, ⟨vs, s0.seq hv⟩, fun D hD => ?_⟩
  refine lc_it (walk_list (xs := vs)) (LcP (Same (upd H e (.lst []))) (RTup K (Ps.map (0 :: ·)) D) D) (lcp_start hD) (fun _ F _ P => P.1.seq (s0.seq hv)) ?_ ?_
  · rintro i x F F' hi P ⟨rfl, ex⟩
    obtain ⟨a, r, rfl, er, ha⟩ := hrow i x ex
    have lr := hl r (List.mem_of_getElem? er)
    have ha1 := Sq.same (s0.trans P.1) ha
    refine ⟨rfl, tyes ?_⟩
    refine ⟨(by show 1 ≤ sizeLine; decide), fun t1 ht1 => ?_⟩
    refine ⟨_, rfl, cat0 (SqT.of upd_same) (Same.tup (Same.new ht1 _) ha1) (by omega) fun z1 Fa sa hz1 => ?_⟩
    obtain ⟨acc, q1, _⟩ := P.acc
    have sa2 := (Same.new ht1 (.tup [.int 0])).trans sa
    exact lcp_same P hD sa2 (lt_line (by omega)) RTup.mono ⟨z1, _, rfl, map_get er, fun F' bu => sqT_but bu (sa2 _ _ q1) hz1⟩
  · intro G P
    have mF : Mx false true K G D (Ps.map (0 :: ·)) := by
      obtain ⟨sG, acc, q1, q2, q3⟩ := P
      exact Mx.of (SqL.of q1) (by rw [q2, List.length_map, lv]) fun j y e => by
        obtain ⟨a, r, e1, e2, e3⟩ := q3 j y e
        exact ⟨a, r, e1, e2, e3 _ (But.of_same (Same.refl _))⟩
    have s1 := s0.trans P.1
    obtain ⟨fs, hf, lf, frow⟩ := mF.row
    rw [List.length_map] at lf
    have rows : ∀ (k : Nat) (x : V), fs[k]? = some x → ∃ (a : Addr) (r : List Int), x = .ref a ∧ Ps[k]? = some r ∧ r.length = n ∧ SqT K G a ((0 :: r).map V.int) := fun k x e => by
      obtain ⟨a, r, e1, e2, e3⟩ := frow k x e
      rw [List.getElem?_map] at e2
      cases e4 : Ps[k]? with
      | none => rw [e4] at e2; cases e2
      | some r0 =>
        rw [e4] at e2
        cases e2
        exact ⟨a, r0, e1, rfl, hl r0 (List.mem_of_getElem? e4), e3⟩
    have pos : 0 < fs.length := by
      rw [lf]
      exact List.length_pos_iff.mpr hne
    have f0 : fs[0]? = some fs[0] := List.getElem?_eq_getElem pos
    obtain ⟨a0, r0, x0, _, l0, h0⟩ := rows 0 _ f0
    rw [x0] at f0
    have len0 : ((0 :: r0).map V.int).length = n + 1 := by rw [List.length_map, List.length_cons, l0]
    refine ⟨(by show 0 ≤ sizeLine; decide), fun pr hpr => ?_⟩
    refine ⟨_, rfl, D, _, 0, _, rfl, rfl, (Same.new hpr _).seq hf, atI_nat (j := 0) f0, a0, _, rfl, .inr (Same.tup (Same.new hpr _) h0), _, rfl, by omega, by rw [len0]; omega, for_range (lo := 0) (fun i σ F => (∃ b c : Option V, σ = [some (.ref p), some (.ref D), none, some (.ref pr), b, c]) ∧ LcP (Same G) (RRow K true (hullM n Ps) pr) pr i F)
      ⟨⟨none, none, rfl⟩, lcp_start hpr⟩ ?_ ?_⟩
    · rintro i σ F hi ⟨⟨b, c, rfl⟩, PF⟩
      rw [len0] at hi
      obtain ⟨acc, a1, a2⟩ := PF.acc
      refine ⟨_, rfl, .inl ⟨rfl, _, SqL.of a1⟩, ?_⟩
      refine ⟨_, rfl, D, _, 0, _, rfl, rfl, PF.1.seq hf, atI_nat (j := 0) f0, a0, _, rfl, .inr (Same.tup PF.1 h0), _, rfl, by omega, by rw [len0]; omega, fun D2 hD2 => ?_⟩
      refine lc_it walk_range (LcP (Same F) (RInt ((List.range (n + 1)).map fun j => lmax (Ps.map (dif i j)))) D2) (lcp_start hD2) (fun _ _ _ _ => trivial) ?_ ?_
      · rintro j x F1 F2 hj P1 ⟨rfl, rfl⟩
        rw [len0] at hj
        have sF := PF.1.trans P1.1
        refine ⟨rfl, tyes ?_⟩
        refine ⟨_, rfl, D, rfl, ⟨fs, sF.seq hf⟩, fun D3 hD3 => ?_⟩
        refine lc_it (walk_list (xs := fs)) (LcP (Same F2) (RInt (Ps.map (dif i j))) D3) (lcp_start hD3) (fun _ F3 _ P3 => (sF.trans P3.1).seq hf) ?_ ?_
        · rintro k x F3 F4 hk P3 ⟨rfl, ex⟩
          obtain ⟨a, r, rfl, er, lr, ha⟩ := rows k x ex
          have ha1 := Same.tup (sF.trans P3.1) ha
          refine ⟨rfl, tyes ?_⟩
          refine ⟨_, rfl, _, rfl, a, _, _, _, rfl, rfl, ha1, atI_row (by simp; omega), _, rfl, _, rfl, a, _, _, _, rfl, rfl, ha1, atI_row (by simp; omega), _, _, rfl, rfl, ?_⟩
          exact lcp_same P3 hD3 (Same.refl _) (lt_line (by omega)) RInt.mono ⟨dif i j r, map_get er, rfl⟩
        · intro F3 P3
          refine ⟨D3, _, rfl, SqL.of (lcp_ints (K := K) P3 (by rw [List.length_map]; exact lf)), List.length_pos_iff.mpr (fun z => hne (List.map_eq_nil_iff.mp z)), fun m hm hx => ?_⟩
          exact lcp_same P1 hD2 P3.1 (lt_line (by omega)) RInt.mono ⟨m, by rw [lmax_eq hm hx]; exact map_get (range_get (by omega)), rfl⟩
      · intro F1 P1
        have ei := lcp_ints (K := K) P1 (by rw [len0]; simp)
        refine ⟨D2, _, rfl, .inl ⟨SqL.of ei, fun t ht => ?_⟩⟩
        have sF := P1.1.trans (Same.new ht (.tup (((List.range (n + 1)).map fun j => lmax (Ps.map (dif i j))).map V.int)))
        have tn : t ≠ pr := fun z => by
          have := P1.1 _ _ a1
          rw [← z, ht] at this
          cases this
        refine ⟨pr, acc, _, rfl, rfl, sF _ _ a1, lt_line (by omega), ⟨_, _, rfl⟩, ?_⟩
        exact lcp_put PF a1 hpr sF (lt_line (by omega)) RRow.mono ⟨t, _, rfl, map_get (range_get (by omega)), tn, Sq.upd_sameT⟩
    · rintro σ F ⟨⟨b, c, rfl⟩, PF⟩
      obtain ⟨as, h1, h2, h3⟩ := lcp_rows PF (by rw [len0]; simp [hullM])
      refine ⟨_, rfl, pr, _, rfl, .inl ⟨h1, fun l hl => ?_⟩⟩
      refine q (.ref l) _ ((s1.trans PF.1).trans (Same.new hl _)) ?_
      unfold hull
      rw [if_neg hne]
      exact ⟨l, rfl, as, Sq.upd_sameT, h2, fun i a r e1 e2 => Sq.same (Same.new hl _) (h3 i a r e1 e2)⟩
end
/-! ### points that are tracked tuples (keys of a dict) -/
def TA (H : Hp) (as : List Addr) (Ps : List (List Int)) : Prop := as.length = Ps.length ∧ ∀ (i : Nat) (a : Addr) (r : List Int), as[i]? = some a → Ps[i]? = some r → H a = some (.tup (r.map V.int))
def TPts (H : Hp) (p : Addr) (Ps : List (List Int)) : Prop := ∃ as : List Addr, H p = some (.lst (as.map V.ref)) ∧ TA H as Ps
theorem TA.same {H H' : Hp} {as : List Addr} {Ps : List (List Int)} (s : Same H H') (h : TA H as Ps) : TA H' as Ps := ⟨h.1, fun i a r e1 e2 => s _ _ (h.2 i a r e1 e2)⟩
theorem TA.pa {K : PySem.W.Frag} {H : Hp} {as : List Addr} {Ps : List (List Int)} (h : TA H as Ps) : PA K H as Ps := ⟨h.1, fun i a r e1 e2 => SqT.of (h.2 i a r e1 e2)⟩
theorem TPts.same {H H' : Hp} {p : Addr} {Ps : List (List Int)} (s : Same H H') (h : TPts H p Ps) : TPts H' p Ps := by
  obtain ⟨as, e, h⟩ := h
  exact ⟨as, s _ _ e, h.same s⟩
theorem TPts.pts {K : PySem.W.Frag} {H : Hp} {p : Addr} {Ps : List (List Int)} (h : TPts H p Ps) : Pts K H p Ps := by
  obtain ⟨as, e, h⟩ := h
  exact h.pa.pts e
theorem TPts.pa {H : Hp} {p : Addr} {Ps : List (List Int)} (h : TPts H p Ps) : ∃ as, H p = some (.lst (as.map V.ref)) ∧ TA H as Ps := h
theorem TPts.nil {H : Hp} {p : Addr} (e : H p = some (.lst [])) : TPts H p [] := ⟨[], e, rfl, fun i a r e1 => by simp at e1⟩
theorem TPts.push {G F : Hp} {L z : Addr} {as : List Addr} {Ps : List (List Int)} {r : List Int} (h : TA G as Ps) (s : Same G F) (e : F L = some (.lst (as.map V.ref))) (hz : F z = some (.tup (r.map V.int))) : TPts (upd F L (.lst (as.map V.ref ++ [.ref z]))) L (Ps ++ [r]) := by
  have ne : ∀ {x : Addr} {xs : List V}, F x = some (.tup xs) → x ≠ L := fun h q => by rw [q, e] at h; cases h
  refine ⟨as ++ [z], by rw [List.map_append]; exact upd_same, by rw [List.length_append, List.length_append, h.1]; rfl, fun i a q e1 e2 => ?_⟩
  by_cases hi : i < as.length
  · rw [List.getElem?_append_left hi] at e1
    rw [List.getElem?_append_left (by rw [← h.1]; exact hi)] at e2
    have := s _ _ (h.2 i a q e1 e2)
    rw [upd_ne (ne this)]
    exact this
  · have e0 : i - as.length = 0 := by
      rw [List.getElem?_append_right (by omega)] at e1
      have := (List.getElem?_eq_some_iff.mp e1).1
      simp at this
      omega
    rw [List.getElem?_append_right (by omega), e0] at e1
    rw [List.getElem?_append_right (by rw [← h.1]; omega), ← h.1, e0] at e2
    cases e1
    cases e2
    rw [upd_ne (ne hz)]
    exact hz
theorem catT {K : PySem.W.Frag} {H : Hp} {t a : Addr} {xs ys : List V} {Q : VK} (h1 : H t = some (.tup xs)) (h2 : H a = some (.tup ys)) (hz : xs.length + ys.length ≤ 1000) (q : ∀ z H', Same H H' → H' z = some (.tup (xs ++ ys)) → Q (.ref z) H') : rCatA K (.ref t) (.ref a) H Q := by
  refine ⟨t, a, xs, ys, rfl, rfl, SqT.of h1, SqT.of h2, Nat.le_of_lt (small1000 hz), fun e => ?_, fun _ e => ?_, fun _ _ p hp => ?_⟩
  · subst e
    exact q a H (Same.refl H) h2
  · subst e
    exact q t H (Same.refl H) (by rw [List.append_nil]; exact h1)
  · exact q p _ (Same.new hp _) upd_same
theorem TA.stp {a : Addr} {H H' : Hp} {as : List Addr} {Ps : List (List Int)} (s : Stp a H H') (hs : Src H a) (h : TA H as Ps) : TA H' as Ps := ⟨h.1, fun i b r e1 e2 => s.k _ _ (fun z => by
  obtain ⟨x, y, z2, e⟩ := hs
  have := h.2 i b r e1 e2
  rw [z, e] at this
  cases this) (h.2 i b r e1 e2)⟩
theorem TPts.stp {a p : Addr} {H H' : Hp} {Ps : List (List Int)} (s : Stp a H H') (hs : Src H a) (ne : p ≠ a) (h : TPts H p Ps) : TPts H' p Ps := by
  obtain ⟨as, e, h⟩ := h
  exact ⟨as, s.k _ _ ne e, h.stp s hs⟩
theorem Mx.stp2 {K : PySem.W.Frag} {a p : Addr} {H H' : Hp} {M : List (List Int)} (s : Stp a H H') (hs : Src H a) (h : Mx true true K H p M) : Mx true true K H' p M := by
  obtain ⟨as, h1, h2, h3⟩ := h
  exact ⟨as, s.rd h1 hs, h2, fun i b r e1 e2 => s.rd (h3 i b r e1 e2) hs⟩
theorem TPts.row {H : Hp} {p : Addr} {Ps : List (List Int)} (h : TPts H p Ps) : ∃ vs : List V, H p = some (.lst vs) ∧ vs.length = Ps.length ∧ ∀ (i : Nat) (v : V), vs[i]? = some v → ∃ (a : Addr) (r : List Int), v = .ref a ∧ Ps[i]? = some r ∧ H a = some (.tup (r.map V.int)) := by
  obtain ⟨as, e, l, h⟩ := h
  refine ⟨as.map V.ref, e, by rw [List.length_map]; exact l, fun i v ev => ?_⟩
  have hi := (List.getElem?_eq_some_iff.mp ev).1
  rw [List.length_map] at hi
  have ea : as[i]? = some as[i] := List.getElem?_eq_getElem hi
  have er : Ps[i]? = some (Ps[i]'(by omega)) := List.getElem?_eq_getElem _
  rw [map_get ea] at ev
  exact ⟨_, _, (Option.some.inj ev).symm, er, h i _ _ ea er⟩
def PR (listed : Bool) (r : List Int) : Prop := ∃ lo hi : Int, r = [lo, hi] ∧ lo ≤ hi ∧ -1000000000000000000 ≤ lo ∧ lo ≤ 1000000000000000000 ∧ (listed = true → hi ≤ lo + 4)
def spGridT (K : PySem.W.Frag) : Sp := fun vs H Q _ => ∃ (q : Addr) (Rs : List (List Int)), vs = [.ref q] ∧ Mx false true K H q Rs ∧ (∀ r ∈ Rs, PR true r) ∧ Rs.length ≤ 3 ∧ ∀ x H', Same H H' → TPts H' x (gridL Rs) → Q (.ref x) H'
theorem grid_len {Rs : List (List Int)} (h : ∀ r ∈ Rs, PR true r) : ∀ i ≤ Rs.length, (gridL (Rs.take i)).length ≤ 5 ^ i
  | 0, _ => by simp [gridL]
  | i + 1, hi => by
    have e : Rs[i]? = some (Rs[i]'(by omega)) := List.getElem?_eq_getElem _
    obtain ⟨lo, hi2, e2, h1, _, _, h3⟩ := h _ (List.getElem_mem (by omega : i < Rs.length))
    have h4 := h3 rfl
    rw [take_snoc e, gridL_app, Nat.pow_succ]
    have ih := grid_len h i (by omega)
    refine Nat.le_trans (gstep_len (m := 5) ?_ _) (Nat.mul_le_mul_right 5 ih)
    rw [e2, valsR_len]
    show (hi2 + 1 - lo).toNat ≤ 5
    omega
section
variable {P : Program} {w : World} {K : PySem.W.Frag} {mg : Str → Option Value} {base : Heap}
theorem ok_l_gridT (T : Txt w K mg) : FnOk P w K mg base CX0 1 T.a_l_grid T.d_l_grid p_l_grid (spGridT K) := by
  refine T.F_l_grid.ok sc_l_grid (fun vs H Q E h => ?_) (fun cdv A outer s H vs Q E hr h => ?_)
  · obtain ⟨q, Rs, rfl, _⟩ := h
    rfl
  obtain ⟨q, Rs, rfl, hR, hPR, lR, k⟩ := h
  refine ⟨_, (pss_cons (ps_set (i := 1) sc_l_grid.nd rfl (Or.inl rfl) (pe_lst (pa_cons (pe_tup pa_nil) pa_nil)))
      (pss_cons (ps_for PassesOwn.never rfl (pi_list (pv 0)) (pg_name (i := 2) sc_l_grid.nd rfl (Or.inl rfl))
        (pss_cons (ps_set (i := 3) sc_l_grid.nd rfl (Or.inl rfl) (pe_lst pa_nil))
      (pss_cons (ps_for PassesOwn.never rfl (pi_list (pv 1)) (pg_name (i := 4) sc_l_grid.nd rfl (Or.inl rfl))
        (pss_one (ps_for PassesOwn.never rfl (pi_range2 rfl T.z_range (pa_cons (pe_ix ix_tup (pv 2) pe_int (fun _ _ => rfl)) (pa_cons (pe_op op_add (pe_ix ix_tup (pv 2) pe_int (fun _ _ => rfl)) pe_int) pa_nil))) (pg_name (i := 5) sc_l_grid.nd rfl (Or.inl rfl))
        (pss_one (ps_expr (pe_bm PySem.F.plainAttrs_list PySem.F.slot_list_append PySem.F.type_list_append mt_append (pv 3) (pa_cons (pe_op op_catA (pv 4) (pe_tup (pa_cons (pv 5) pa_nil))) pa_nil)))))))
      (pss_one (ps_set (i := 1) sc_l_grid.nd rfl (Or.inl rfl) (pe_callTy call_list_of rfl T.z_list bt_list (pa_cons (pv 3) pa_nil)))))))
      (pss_one (ps_ret (pv 1))))), ?_⟩
  obtain ⟨vs, hv, lv, hrow⟩ := hR.row
  refine ⟨(by show 0 ≤ sizeLine; decide), fun t0 ht0 => ?_⟩
  refine ⟨(by show 1 ≤ sizeLine; decide), fun D0 hD0 => ?_⟩
  have s0 : Same H (upd (upd H t0 (.tup [])) D0 (.lst [.ref t0])) := (Same.new ht0 _).trans (Same.new hD0 _)
  have p0 : TPts (upd (upd H t0 (.tup [])) D0 (.lst [.ref t0])) D0 (gridL (Rs.take 0)) := ⟨[t0], upd_same, rfl, fun i a r e1 e2 => by
    cases i with
    | zero =>
      cases e1
      cases e2
      exact Same.new hD0 _ _ _ upd_same
    | succ i => simp at e1⟩
  generalize upd (upd H t0 (.tup [])) D0 (.lst [.ref t0]) = H0 at s0 p0
  refine ⟨_, rfl, q, rfl, ⟨vs, s0.seq hv⟩, ?_⟩
  refine for_it (walk_list (xs := vs)) (fun i σ G => ∃ (x : Addr) (u v z w : Option V), σ = [some (.ref q), some (.ref x), u, v, z, w] ∧ Same H G ∧ TPts G x (gridL (Rs.take i))) ⟨D0, none, none, none, none, rfl, s0, p0⟩ (fun i σ G _ P => by
    obtain ⟨x, u, v, z, w, _, s, _⟩ := P
    exact s.seq hv) ?_ ?_
  · rintro i y σ G G' hi ⟨x, u, v, z, w, rfl, sG, hX⟩ ⟨rfl, ey⟩
    rw [lv] at hi
    obtain ⟨b, r, rfl, er, hb⟩ := hrow i y ey
    obtain ⟨lo, hi2, rfl, hle, lo1, lo2, h3⟩ := hPR r (List.mem_of_getElem? er)
    have hi3 := h3 rfl
    have lX : ∀ p ∈ gridL (Rs.take i), p.length = i := fun p hp => by
      have := ((mem_grid (by omega) p).mp hp).1
      rw [this, List.length_take]
      omega
    have gl := grid_len hPR i (by omega)
    have gl2 : (gridL (Rs.take i)).length ≤ 125 := Nat.le_trans gl (Nat.le_trans (Nat.pow_le_pow_right (by decide) (by omega : i ≤ 3)) (by decide))
    have eT := take_snoc er
    generalize hE : gridL (Rs.take i) = Es at hX lX gl2
    refine ⟨(by show 0 ≤ sizeLine; decide), fun L hL => ?_⟩
    have sL : Same G' (upd G' L (.lst [])) := Same.new hL _
    obtain ⟨ws, hw, lw, wrow⟩ := hX.row
    refine ⟨_, rfl, x, rfl, ⟨ws, SqL.of (sL _ _ hw)⟩, ?_⟩
    have glen := gstep_len (r := [lo, hi2]) (m := 5) (by rw [valsR_len]; show (hi2 + 1 - lo).toNat ≤ 5; omega)
    have gs : ∀ {j : Nat} {p : List Int}, Es[j]? = some p → gstep [lo, hi2] (Es.take (j + 1)) = gstep [lo, hi2] (Es.take j) ++ (valsR lo hi2).map fun v => p ++ [v] := fun {j p} e => by
      unfold gstep
      rw [take_snoc e, List.flatMap_append]
      simp
    refine for_it (walk_list (xs := ws)) (fun j σ F => (∃ z w : Option V, σ = [some (.ref q), some (.ref x), some (.ref b), some (.ref L), z, w]) ∧ Same G' F ∧ TPts F L (gstep [lo, hi2] (Es.take j))) ⟨⟨z, w, rfl⟩, sL, [], upd_same, rfl, fun i a r e => by simp at e⟩ (fun j σ F _ P => SqL.of (P.2.1 _ _ hw)) ?_ ?_
    · rintro j y σ F F' hj ⟨⟨z, w, rfl⟩, sF, pF⟩ ⟨rfl, ey⟩
      rw [lw] at hj
      obtain ⟨t, pt, rfl, ep, ht⟩ := wrow j y ey
      have lpt := lX pt (List.mem_of_getElem? ep)
      have hbF : ∀ {F1 : Hp}, Same G' F1 → SqT K F1 b [.int lo, .int hi2] := fun s => Same.tup (sG.trans s) hb
      refine ⟨_, rfl, b, _, 0, _, rfl, rfl, hbF sF, rfl, _, rfl, b, _, 1, _, rfl, rfl, hbF sF, rfl, _, _, rfl, rfl, ?_⟩
      refine ⟨_, _, rfl, ⟨by omega, by omega, by omega, by omega⟩, for_range (lo := lo) (fun k σ F1 => (∃ y : Option V, σ = [some (.ref q), some (.ref x), some (.ref b), some (.ref L), some (.ref t), y]) ∧ Same G' F1 ∧ TPts F1 L (gstep [lo, hi2] (Es.take j) ++ ((valsR lo hi2).take k).map fun v => pt ++ [v])) ⟨⟨w, rfl⟩, sF, ?_⟩ ?_ ?_⟩
      · rw [List.take_zero]
        show TPts _ L (_ ++ [])
        rw [List.append_nil]
        exact pF
      · rintro k σ F1 hk ⟨⟨y, rfl⟩, sF1, pF1⟩
        have evk := valsR_get hk
        obtain ⟨bs, b1, b2, b3⟩ := id pF1
        have lb : bs.length ≤ 1000 := by
          rw [b2, List.length_append, List.length_map, List.length_take]
          have := glen (Es.take j)
          rw [List.length_take] at this
          omega
        refine ⟨_, rfl, .inl ⟨rfl, _, SqL.of b1⟩, ?_⟩
        refine ⟨_, rfl, _, rfl, (by show 1 ≤ sizeLine; decide), fun t1 ht1 => ?_⟩
        have sT := Same.new ht1 (.tup [V.int (lo + (k : Int))])
        refine catT ((sF1.trans sT) _ _ ht) upd_same (by rw [List.length_map]; show pt.length + 1 ≤ 1000; omega) fun z F2 s2 hz => ?_
        have sF2 := sT.trans s2
        refine ⟨L, _, _, rfl, rfl, sF2 _ _ b1, lt_line (by rw [List.length_map]; omega), ⟨_, rfl⟩, ?_, ?_⟩
        · intro c o e
          rw [upd_ne (ne_of_none e hL)]
          exact sF2 _ _ (sF1 _ _ e)
        · have p2 := TPts.push (r := pt ++ [lo + (k : Int)]) ⟨b2, b3⟩ sF2 (sF2 _ _ b1) (by rw [hz, List.map_append]; rfl)
          rw [take_snoc evk, List.map_append, ← List.append_assoc]
          exact p2
      · rintro σ F1 ⟨⟨y, rfl⟩, sF1, pF1⟩
        rw [← valsR_len, List.take_length, ← gs ep] at pF1
        exact ⟨⟨_, _, rfl⟩, sF1, pF1⟩
    · rintro σ F ⟨⟨z, w, rfl⟩, sF, pF⟩
      rw [lw, List.take_length] at pF
      obtain ⟨as, e1, e2⟩ := pF
      refine ⟨_, rfl, L, _, rfl, .inl (SqL.of e1), fun l hl => ?_⟩
      have sl := Same.new hl (.lst (as.map V.ref))
      refine ⟨l, _, _, _, _, rfl, sG.trans (sF.trans sl), ?_⟩
      rw [eT, gridL_app, hE]
      exact ⟨as, upd_same, e2.same sl⟩
  · rintro σ G ⟨x, u, v, z, w, rfl, sG, hX⟩
    rw [lv, List.take_length] at hX
    exact ⟨_, rfl, k x G sG hX⟩
end
/-! ### a point in a matrix, by chains of comparisons -/
def spBel24 (K : PySem.W.Frag) : Sp := fun vs H Q _ => ∃ (p t : Addr) (M : List (List Int)) (r : List Int), vs = [.ref p, .ref t] ∧ r.length ≤ 900 ∧ Mx true true K H p M ∧ Sz (r.length + 1) M ∧ (∀ i < r.length + 1, getM M i i = 0) ∧ SqT K H t (r.map V.int) ∧
  ∀ b H', Same H H' → (b = true ↔ LeF (r.length + 1) (dfn r) (getM M)) → Q (.bl b) H'
theorem split_lt24 {n : Nat} {c : Nat → Prop} : (∀ i < n + 1, c i) ↔ (∀ i < n, c i) ∧ c n :=
  ⟨fun h => ⟨fun i hi => h i (by omega), h n (by omega)⟩, fun ⟨h1, h2⟩ i hi => by
    by_cases e : i = n
    · rw [e]; exact h2
    · exact h1 i (by omega)⟩
section
variable {P : Program} {w : World} {K : PySem.W.Frag} {mg : Str → Option Value} {base : Heap}
theorem ok_l_belongs (T : Txt w K mg) : FnOk P w K mg base CX0 1 T.a_l_belongs T.d_l_belongs p_l_belongs (spBel24 K) := by
  refine T.F_l_belongs.ok sc_l_belongs (fun vs H Q E h => ?_) (fun cdv A outer s H vs Q E hr h => ?_)
  · obtain ⟨p, t, M, r, rfl, _⟩ := h
    rfl
  obtain ⟨p, t, M, r, rfl, hn, hM, sM, dg, ht, q⟩ := h
  refine ⟨_, (pss_cons (ps_set (i := 2) sc_l_belongs.nd rfl (Or.inl rfl) (pe_op op_catT (pe_tup (pa_cons pe_int pa_nil)) (pv 1)))
      (pss_cons (ps_for PassesOwn.never rfl (pi_range1 rfl T.z_range (pa_cons (pe_callB call_len_seq rfl T.z_len PySem.boot_len (pa_cons (pv 2) pa_nil)) pa_nil)) (pg_name (i := 3) sc_l_belongs.nd rfl (Or.inl rfl))
        (pss_one (ps_for PassesOwn.never rfl (pi_range1 rfl T.z_range (pa_cons (pv 3) pa_nil)) (pg_name (i := 4) sc_l_belongs.nd rfl (Or.inl rfl))
        (pss_one (ps_if (pt_not (pt_chain op_le op_le (pe_op op_sub (pe_ix ix_tup (pv 2) (pv 3) (fun _ _ => rfl)) (pe_ix ix_tup (pe_ix ix_tup (pv 0) (pv 3) (fun _ _ => rfl)) (pv 4) (fun _ _ => rfl))) (pe_ix ix_tup (pv 2) (pv 4) (fun _ _ => rfl)) (pe_op op_add (pe_ix ix_tup (pv 2) (pv 3) (fun _ _ => rfl)) (pe_ix ix_tup (pe_ix ix_tup (pv 0) (pv 4) (fun _ _ => rfl)) (pv 3) (fun _ _ => rfl))))) (pss_one (ps_ret pe_bl)) pss_nil)))))
      (pss_one (ps_ret pe_bl)))), ?_⟩
  generalize hn' : r.length = n at *
  refine ⟨(by show 1 ≤ sizeLine; decide), fun t1 ht1 => ?_⟩
  refine ⟨_, rfl, cat0 (SqT.of upd_same) (Same.tup (Same.new ht1 _) ht) (by omega) fun z F sa hz => ?_⟩
  have sF : Same H F := (Same.new ht1 _).trans sa
  have hMF := hM.same sF
  have l0 : ((0 :: r).map V.int).length = n + 1 := by simp [hn']
  refine ⟨_, rfl, z, _, rfl, .inr hz, _, rfl, by omega, by omega, for_range (lo := 0) (fun i σ G => G = F ∧ (∃ b c : Option V, σ = [some (.ref p), some (.ref t), some (.ref z), b, c]) ∧ ∀ i' < i, ∀ j < i', dif i' j r ≤ getM M i' j ∧ dif j i' r ≤ getM M j i') ⟨rfl, ⟨none, none, rfl⟩, fun i' h => by omega⟩ ?_ ?_⟩
  · rintro i σ G hi ⟨rfl, ⟨b, c, rfl⟩, hA⟩
    rw [l0] at hi
    refine ⟨_, rfl, _, rfl, by omega, by omega, for_range (lo := 0) (fun j σ G' => G' = G ∧ (∃ c : Option V, σ = [some (.ref p), some (.ref t), some (.ref z), some (.int (0 + (i : Int))), c]) ∧ ∀ j' < j, dif i j' r ≤ getM M i j' ∧ dif j' i r ≤ getM M j' i) ⟨rfl, ⟨c, rfl⟩, fun i' h => by omega⟩ ?_ ?_⟩
    · rintro j σ G' hj ⟨rfl, ⟨c', rfl⟩, hB⟩
      have hj2 : j < i := by omega
      obtain ⟨vs1, a1, r1, x1, x2, x3, x4⟩ := hMF.get3 sM (i := i) (j := j) (by omega) (by omega)
      obtain ⟨vs2, a2, r2, y1, y2, y3, y4⟩ := hMF.get3 sM (i := j) (j := i) (by omega) (by omega)
      have eji : dif j i r = -(dif i j r) := by
        unfold dif
        omega
      refine ⟨_, rfl, _, rfl, z, _, _, _, rfl, rfl, hz, atI_row (by simp; omega), ?_⟩
      refine ⟨_, rfl, _, rfl, p, _, _, _, rfl, rfl, x1, (by rw [Int.zero_add]; exact x2), _, rfl, a1, _, _, _, rfl, rfl, x3, (by rw [Int.zero_add]; exact x4), _, _, rfl, rfl, ?_⟩
      refine ⟨_, rfl, _, rfl, z, _, _, _, rfl, rfl, hz, atI_row (by simp; omega), _, _, rfl, rfl, _, rfl, ite2 (fun h1 => ?_) (fun h1 => ?_)⟩
      · refine ⟨_, rfl, _, rfl, z, _, _, _, rfl, rfl, hz, atI_row (by simp; omega), ?_⟩
        refine ⟨_, rfl, _, rfl, p, _, _, _, rfl, rfl, y1, (by rw [Int.zero_add]; exact y2), _, rfl, a2, _, _, _, rfl, rfl, y3, (by rw [Int.zero_add]; exact y4), _, _, rfl, rfl, _, _, rfl, rfl, _, rfl, ?_⟩
        have g1 : (0 :: r).getD i 0 - getM M i j ≤ (0 :: r).getD j 0 := of_decide_eq_true h1
        refine ite2 (fun h => ?_) (fun h => ?_)
        · refine q _ _ sF ⟨fun z => Bool.noConfusion z, fun z => ?_⟩
          have g2 := z j (by omega) i (by omega)
          have g3 : ¬ ((0 :: r).getD j 0 ≤ (0 :: r).getD i 0 + getM M j i) := fun y => by
            rw [decide_eq_true y] at h
            exact absurd h (by decide)
          exact absurd (by show (0 :: r).getD j 0 ≤ _; have : (0 :: r).getD j 0 - (0 :: r).getD i 0 ≤ getM M j i := g2; omega) g3
        · have g3 : (0 :: r).getD j 0 ≤ (0 :: r).getD i 0 + getM M j i := by
            by_cases y : (0 :: r).getD j 0 ≤ (0 :: r).getD i 0 + getM M j i
            · exact y
            · exact absurd (by rw [decide_eq_false y]; rfl) h
          refine ⟨rfl, ⟨_, rfl⟩, split_lt24.mpr ⟨hB, ?_⟩⟩
          unfold dif
          omega
      · refine ⟨_, rfl, ifT rfl ?_⟩
        have g1 : ¬ ((0 :: r).getD i 0 - getM M i j ≤ (0 :: r).getD j 0) := fun y => h1 (decide_eq_true y)
        refine q _ _ sF ⟨fun z => Bool.noConfusion z, fun z => ?_⟩
        have g2 : (0 :: r).getD i 0 - (0 :: r).getD j 0 ≤ getM M i j := z i (by omega) j (by omega)
        omega
    · rintro σ G' ⟨rfl, ⟨c', rfl⟩, hB⟩
      refine ⟨rfl, ⟨_, _, rfl⟩, split_lt24.mpr ⟨hA, fun j hj => hB j (by omega)⟩⟩
  · rintro σ G ⟨rfl, ⟨b, c, rfl⟩, hA⟩
    rw [l0] at hA
    refine q _ _ sF ⟨fun _ i hi j hj => ?_, fun _ => rfl⟩
    rcases Nat.lt_trichotomy i j with h | h | h
    · exact (hA j (by omega) i h).2
    · subst h
      rw [dg i hi]
      show dif i i r ≤ 0
      unfold dif
      omega
    · exact (hA i (by omega) j h).1
end
/-! ### points drawn: columns shown and moved -/
def kap (S : List Int) : Nat → Nat
  | 0 => 0
  | k + 1 => (S.getD k 0 + 1).toNat
def shf (S T p : List Int) : List Int := mkR S.length fun k => xc p (kap S (k + 1)) + T.getD k 0
def tup (T : List Int) : Nat → Int
  | 0 => 0
  | k + 1 => T.getD k 0
theorem shf_len {S T p : List Int} : (shf S T p).length = S.length := mkR_len
theorem shf_xc {S T p : List Int} {a : Nat} (ha : a < S.length + 1) : xc (shf S T p) a = xc p (kap S a) + tup T a := by
  cases a with
  | zero => rfl
  | succ k =>
    rw [xc_succ, List.getD_eq_getElem?_getD]
    unfold shf
    rw [mkR_at (by omega)]
    rfl
theorem xc_at {r : List Int} {n i : Nat} (l : r.length = n) (hi : i < n + 1) : atI ((0 :: r).map V.int) (i : Int) = some (.int (xc r i)) := atI_nat (map_get (by
  unfold xc
  rw [List.getD_eq_getElem?_getD, List.getElem?_eq_getElem (by rw [List.length_cons]; omega)]
  rfl))
theorem full_shf {n : Nat} {S T : List Int} {B : List (List Int)} (f : Full n B) (hS : ∀ k < S.length + 1, kap S k < n + 1) : Full S.length (B.map (shf S T)) := by
  refine ⟨fun r hr => ?_, fun ne q lq hq => ?_⟩
  · obtain ⟨p, _, rfl⟩ := List.mem_map.mp hr
    exact shf_len
  · have nB : B ≠ [] := fun z => by
      rw [z] at ne
      exact ne rfl
    have hz : ∀ a < S.length + 1, ∀ b < S.length + 1, (xc q a - tup T a) - (xc q b - tup T b) ≤ getM (hullM n B) (kap S a) (kap S b) := fun a ha b hb => by
      have h1 := hq a ha b hb
      obtain ⟨r, hr, e⟩ := hull_at (n := S.length) ne ha hb
      obtain ⟨p, hp, rfl⟩ := List.mem_map.mp hr
      have h2 := hull_le (n := n) (hS a ha) (hS b hb) hp
      rw [← e] at h1
      unfold dfn at h1
      rw [dif_xc, dif_xc, shf_xc ha, shf_xc hb] at h1
      rw [dif_xc] at h2
      omega
    obtain ⟨y, y1, y2, _⟩ := extend (m := S.length) (κ := kap S) (z := fun a => xc q a - tup T a) (hull_clo nB) hS hz
    have y0 : y 0 = 0 := y1 0 (by omega)
    have hm := ptOf_in f nB y0 y2
    refine List.mem_map.mpr ⟨_, hm, xc_ext (n := S.length) shf_len lq fun a ha => ?_⟩
    rw [shf_xc ha, ptOf_xc y0 (hS a ha), y1 a ha]
    omega
open Classical in
noncomputable def inL (n : Nat) (M : List (List Int)) (q : List Int) : Bool := decide (LeF (n + 1) (dfn q) (getM M))
open Classical in
theorem inL_iff {n : Nat} {M : List (List Int)} {q : List Int} : inL n M q = true ↔ LeF (n + 1) (dfn q) (getM M) := by
  unfold inL
  exact decide_eq_true_iff
theorem rep_getD {n k : Nat} {r : List Int} (hk : k < n) : (List.replicate n r).getD k [] = r := by
  rw [List.getD_eq_getElem?_getD, List.getElem?_replicate, if_pos hk]
  rfl
theorem grid_rep {n : Nat} {w : Int} {p : List Int} : p ∈ gridL (List.replicate n [0, w]) ↔ p.length = n ∧ ∀ k < n, 0 ≤ p.getD k 0 ∧ p.getD k 0 ≤ w := by
  have h := mem_grid (Rs := List.replicate n [0, w]) (Nat.le_refl _) p
  rw [List.take_length] at h
  rw [h]
  unfold InR
  rw [List.length_replicate]
  refine and_congr Iff.rfl ⟨fun g k hk => ?_, fun g k hk => ?_⟩
  · have := g k hk
    rw [rep_getD hk] at this
    exact this
  · rw [rep_getD hk]
    exact g k hk
theorem base_full {n : Nat} {w : Int} {Ss : List (List Int)} (ne : Ss ≠ []) (hs : ∀ s ∈ Ss, s ∈ gridL (List.replicate n [0, w])) :
    Full n ((gridL (List.replicate n [0, w])).filter (inL n (hullM n Ss))) ∧ ∀ s ∈ Ss, s ∈ (gridL (List.replicate n [0, w])).filter (inL n (hullM n Ss)) := by
  have sub : ∀ s ∈ Ss, s ∈ (gridL (List.replicate n [0, w])).filter (inL n (hullM n Ss)) := fun s h => List.mem_filter.mpr ⟨hs s h, inL_iff.mpr fun a ha b hb => hull_le ha hb h⟩
  refine ⟨⟨fun r hr => (grid_rep.mp (List.mem_filter.mp hr).1).1, fun nB p lp hp => ?_⟩, sub⟩
  have e := hull_between (n := n) sub ne fun q hq => inL_iff.mp (List.mem_filter.mp hq).2
  rw [hull_some ne, hull_some nB] at e
  rw [← Option.some.inj e] at hp
  refine List.mem_filter.mpr ⟨grid_rep.mpr ⟨lp, fun k hk => ?_⟩, inL_iff.mpr hp⟩
  have up := hp (k + 1) (by omega) 0 (by omega)
  have dn := hp 0 (by omega) (k + 1) (by omega)
  obtain ⟨r1, hr1, e1⟩ := hull_at (n := n) ne (show k + 1 < n + 1 by omega) (show 0 < n + 1 by omega)
  obtain ⟨r2, hr2, e2⟩ := hull_at (n := n) ne (show 0 < n + 1 by omega) (show k + 1 < n + 1 by omega)
  have g1 := (grid_rep.mp (hs r1 hr1)).2 k hk
  have g2 := (grid_rep.mp (hs r2 hr2)).2 k hk
  rw [← e1] at up
  rw [← e2] at dn
  have up' : p.getD k 0 - 0 ≤ r1.getD k 0 - 0 := up
  have dn' : 0 - p.getD k 0 ≤ 0 - r2.getD k 0 := dn
  omega
theorem part_full {n : Nat} {p1 p2 : List Int} {Ps : List (List Int)} (f : Full n Ps) (h1 : p1 ∈ Ps) (h2 : p2 ∈ Ps) :
    Full n (Ps.filter (inL n (hullM n [p1, p2]))) ∧ p1 ∈ Ps.filter (inL n (hullM n [p1, p2])) := by
  have sub : ∀ s ∈ [p1, p2], s ∈ Ps.filter (inL n (hullM n [p1, p2])) := fun s h => List.mem_filter.mpr ⟨by
    simp only [List.mem_cons, List.not_mem_nil, or_false] at h
    rcases h with rfl | rfl
    · exact h1
    · exact h2, inL_iff.mpr fun a ha b hb => hull_le ha hb h⟩
  refine ⟨⟨fun r hr => f.len r (List.mem_filter.mp hr).1, fun nB p lp hp => ?_⟩, sub p1 (by simp)⟩
  have ne : [p1, p2] ≠ [] := by simp
  have nP : Ps ≠ [] := fun z => by rw [z] at h1; simp at h1
  have e := hull_between (n := n) sub ne fun q hq => inL_iff.mp (List.mem_filter.mp hq).2
  rw [hull_some ne, hull_some nB] at e
  rw [← Option.some.inj e] at hp
  refine List.mem_filter.mpr ⟨f.al nP p lp fun a ha b hb => ?_, inL_iff.mpr hp⟩
  obtain ⟨r, hr, er⟩ := hull_at (n := n) ne ha hb
  have g1 := hp a ha b hb
  have g2 : dif a b r ≤ getM (hullM n Ps) a b := hull_le ha hb (List.mem_filter.mp (sub r hr)).1
  rw [← er] at g1
  exact Int.le_trans g1 g2
/-! ### points drawn: the program -/
theorem Mx.but {K : PySem.W.Frag} {D p : Addr} {H H' : Hp} {M : List (List Int)} {acc : List V} (b : But D H H') (hD : H D = some (.lst acc)) (h : Mx true true K H p M) : Mx true true K H' p M := by
  obtain ⟨as, h1, h2, h3⟩ := h
  exact ⟨as, sqT_but b hD h1, h2, fun i a r e1 e2 => sqT_but b hD (h3 i a r e1 e2)⟩
theorem rep_ref {n : Nat} {p : Addr} : (List.replicate n [V.ref p]).flatten = (List.replicate n p).map V.ref := by
  induction n with
  | zero => rfl
  | succ n ih => rw [List.replicate_succ, List.replicate_succ, List.flatten_cons, ih, List.map_cons]; rfl
def spPts24 (K : PySem.W.Frag) : Sp := fun vs H Q _ => ∃ (a : Addr) (l : Nat), vs = [.ref a, .int l, .int 5] ∧ Src H a ∧ l ≤ 1 ∧
  ∀ p H' n Ps, Stp a H H' → H p = none → TPts H' p Ps → Full n Ps → Ps ≠ [] → n ≤ 20 → l ≤ n → Ps.length ≤ 125 → Q (.ref p) H'
section
variable {P : Program} {w : World} {K : PySem.W.Frag} {mg : Str → Option Value} {base : Heap}
theorem ok_l_points (T : Txt w K mg) : FnOk P w K mg base CX0 3 T.a_l_points T.d_l_points p_l_points (spPts24 K) := by
  have g_l_pick := ok_l_pick (P := P) (w := w) (base := base) T
  have g_l_one := ok_l_oneG (P := P) (w := w) (K := K) (base := base) T
  have g_l_far := ok_l_far (P := P) (w := w) (base := base) T
  have g_l_box := ok_l_box (P := P) (w := w) (K := K) (base := base) T
  have g_l_grid := ok_l_gridT (P := P) (w := w) (K := K) (base := base) T
  have g_l_belongs := ok_l_belongs (P := P) (w := w) (K := K) (base := base) T
  refine T.F_l_points.ok sc_l_points (fun vs H Q E h => ?_) (fun cdv A outer s H vs Q E hr h => ?_)
  · obtain ⟨a, l, rfl, _⟩ := h
    rfl
  obtain ⟨a, l, rfl, hS, hl, q⟩ := h
  refine ⟨_, (pss_cons (ps_set (i := 3) sc_l_points.nd rfl (Or.inl rfl) (pe_call g_l_one (hr.mono (by first | decide | omega)) rfl T.m_l_one T.F_l_one.kp T.b_l_one .nil pass0 (pa_cons (pv 0) (pa_cons (pe_lst (pa_cons pe_int (pa_cons pe_int (pa_cons pe_int (pa_cons pe_int (pa_cons pe_int (pa_cons pe_int (pa_cons pe_int (pa_cons pe_int pa_nil))))))))) pa_nil))))
      (pss_cons (ps_set (i := 4) sc_l_points.nd rfl (Or.inl rfl) (pe_callB (call_max2 rfl) rfl T.z_max bb_max (pa_cons (pv 1) (pa_cons (pe_call g_l_one (hr.mono (by first | decide | omega)) rfl T.m_l_one T.F_l_one.kp T.b_l_one .nil pass0 (pa_cons (pv 0) (pa_cons (pe_lst (pa_cons pe_int (pa_cons pe_int (pa_cons pe_int (pa_cons pe_int (pa_cons pe_int (pa_cons pe_int (pa_cons pe_int (pa_cons pe_int pa_nil))))))))) pa_nil))) pa_nil))))
      (C8.pss_cut (ps_if (pt_cmpR op_gt (pv 3) pe_int (nomark _)) (pss_one (ps_set (i := 4) sc_l_points.nd rfl (Or.inl rfl) (pe_callB (call_min2 rfl) rfl T.z_min bb_min (pa_cons (pv 4) (pa_cons pe_int pa_nil))))) pss_nil)
      (pss_cons (ps_set (i := 5) sc_l_points.nd rfl (Or.inl rfl) (pe_lst pa_nil))
      (pss_cons (ps_for PassesOwn.never rfl (pi_range1 rfl T.z_range (pa_cons (pe_call g_l_one (hr.mono (by first | decide | omega)) rfl T.m_l_one T.F_l_one.kp T.b_l_one .nil pass0 (pa_cons (pv 0) (pa_cons (pe_lst (pa_cons pe_int (pa_cons pe_int (pa_cons pe_int (pa_cons pe_int (pa_cons pe_int (pa_cons pe_int pa_nil))))))) pa_nil))) pa_nil)) (pg_name (i := 6) sc_l_points.nd rfl (Or.inl rfl))
        (pss_one (ps_expr (pe_bm PySem.F.plainAttrs_list PySem.F.slot_list_append PySem.F.type_list_append mt_append (pv 5) (pa_cons (pe_callTy call_tuple_of rfl T.z_tuple bt_tuple (pa_cons (pe_lc (own := [("_law_k", 7)]) (g := gName 7) (tt := tYes) rfl sc_l_points.nd (pi_range1 rfl T.z_range (pa_cons (pv 4) pa_nil)) (blkOk_by (own := [("_law_k", 7)]) (N := n_l_points) (sc := defScope s_l_points) (by decide +kernel)) (fun _ _ _ _ _ => (pg_name (i := 7) sc_l_points.nd rfl (Or.inl rfl))) (fun _ _ _ _ _ => pts_nil) (fun _ _ _ _ _ => (pe_call g_l_pick (hr.mono (by first | decide | omega)) rfl T.m_l_pick T.F_l_pick.kp T.b_l_pick .nil pass0 (pa_cons (pv 0) (pa_cons (pv 2) pa_nil))))) pa_nil)) pa_nil)))))
      (pss_cons (ps_set (i := 8) sc_l_points.nd rfl (Or.inl rfl) (pe_call g_l_box (hr.mono (by first | decide | omega)) rfl T.m_l_box T.F_l_box.kp T.b_l_box .nil pass0 (pa_cons (pv 5) pa_nil)))
      (pss_cons (ps_set (i := 9) sc_l_points.nd rfl (Or.inr rfl) (pe_listRg rfl rfl T.z_list (prg_1 rfl T.z_range (pv 4))))
      (pss_cons (ps_for PassesOwn.never rfl (pi_range1 rfl T.z_range (pa_cons (pv 3) pa_nil)) (pg_name (i := 6) sc_l_points.nd rfl (Or.inl rfl))
        (pss_one (ps_expr (pe_bm PySem.F.plainAttrs_list PySem.F.slot_list_insert PySem.F.type_list_insert mt_insert (pv 9) (pa_cons (pe_call g_l_pick (hr.mono (by first | decide | omega)) rfl T.m_l_pick T.F_l_pick.kp T.b_l_pick .nil pass0 (pa_cons (pv 0) (pa_cons (pe_op op_add (pe_callB call_len_seq rfl T.z_len PySem.boot_len (pa_cons (pv 9) pa_nil)) pe_int) pa_nil))) (pa_cons (pe_op op_sub (pe_call g_l_pick (hr.mono (by first | decide | omega)) rfl T.m_l_pick T.F_l_pick.kp T.b_l_pick .nil pass0 (pa_cons (pv 0) (pa_cons (pe_op op_add (pv 4) pe_int) pa_nil))) pe_int) pa_nil))))))
      (pss_cons (ps_set (i := 10) sc_l_points.nd rfl (Or.inr rfl) (pe_lc (own := [("_law_k", 7)]) (g := gName 7) (tt := tYes) rfl sc_l_points.nd (pi_list (pv 9)) (blkOk_by (own := [("_law_k", 7)]) (N := n_l_points) (sc := defScope s_l_points) (by decide +kernel)) (fun _ _ _ _ _ => (pg_name (i := 7) sc_l_points.nd rfl (Or.inl rfl))) (fun _ _ _ _ _ => pts_nil) (fun _ _ _ _ _ => (pe_call g_l_far (hr.mono (by first | decide | omega)) rfl T.m_l_far T.F_l_far.kp T.b_l_far .nil pass0 (pa_cons (pv 0) pa_nil)))))
      (pss_cons (ps_set (i := 11) sc_l_points.nd rfl (Or.inl rfl) (pe_lst pa_nil))
      (pss_cons (ps_for PassesOwn.never rfl (pi_list (pe_call g_l_grid (hr.mono (by first | decide | omega)) rfl T.m_l_grid T.F_l_grid.kp T.b_l_grid .nil pass0 (pa_cons (pe_op op_rep (pe_lst (pa_cons (pe_tup (pa_cons pe_int (pa_cons (pe_op op_sub (pv 2) pe_int) pa_nil))) pa_nil)) (pv 4)) pa_nil))) (pg_name (i := 12) sc_l_points.nd rfl (Or.inl rfl))
        (pss_one (ps_if (pt_val (pe_call g_l_belongs (hr.mono (by first | decide | omega)) rfl T.m_l_belongs T.F_l_belongs.kp T.b_l_belongs .nil pass0 (pa_cons (pv 8) (pa_cons (pv 12) pa_nil)))) (pss_cons (ps_set (i := 13) sc_l_points.nd rfl (Or.inr rfl) (pe_op op_catT (pe_tup (pa_cons pe_int pa_nil)) (pv 12)))
      (pss_one (ps_expr (pe_bm PySem.F.plainAttrs_list PySem.F.slot_list_append PySem.F.type_list_append mt_append (pv 11) (pa_cons (pe_callTy call_tuple_of rfl T.z_tuple bt_tuple (pa_cons (pe_lc (own := [("_law_k", 7)]) (g := gName 7) (tt := tYes) rfl sc_l_points.nd (pi_range1 rfl T.z_range (pa_cons (pe_callB call_len_seq rfl T.z_len PySem.boot_len (pa_cons (pv 9) pa_nil)) pa_nil)) (blkOk_by (own := [("_law_k", 7)]) (N := n_l_points) (sc := defScope s_l_points) (by decide +kernel)) (fun _ _ _ _ _ => (pg_name (i := 7) sc_l_points.nd rfl (Or.inl rfl))) (fun _ _ _ _ _ => pts_nil) (fun _ _ _ _ _ => (pe_op op_add (pe_ix (show IxR _ (rIxT K) from ix_tup) (pv 13) (pe_op op_add (pe_ix (show IxR _ (rIxL K) from ix_list) (pv 9) (pv 7) (fun _ _ => rfl)) pe_int) (fun _ _ => rfl)) (pe_ix (show IxR _ (rIxL K) from ix_list) (pv 10) (pv 7) (fun _ _ => rfl))))) pa_nil)) pa_nil))))) pss_nil)))
      (pss_one (ps_ret (pv 11)))))))))))))), ?_⟩
  have lst : ∀ {G : Hp} {l0 : Addr} {ns : List Int}, Src G a → G l0 = none → (upd G l0 (.lst (ns.map V.int))) l0 = some (.lst (ns.map V.int)) ∧ Stp a G (upd G l0 (.lst (ns.map V.int))) ∧ l0 ≠ a := fun hs e => ⟨upd_same, (Stp.refl hs).new e, (hs.ne e).symm⟩
  refine ⟨_, rfl, (by show 8 ≤ sizeLine; decide), fun l0 hl0 => ?_⟩
  obtain ⟨e0, s0, n0⟩ := lst (ns := [0, 0, 0, 0, 1, 2, 3, 17]) hS hl0
  refine ⟨a, l0, _, false, rfl, s0.s, fun _ => n0, SqL.of e0, by decide, by decide, fun v1 H1 hv1 st1 => ?_⟩
  obtain ⟨mo, hmo, rfl⟩ := List.mem_map.mp hv1
  have hmo17 : 0 ≤ mo ∧ mo ≤ 17 := by
    simp at hmo
    omega
  have s1 := s0.trans st1
  refine ⟨_, rfl, _, rfl, (by show 8 ≤ sizeLine; decide), fun l1 hl1 => ?_⟩
  obtain ⟨e1, s1', n1⟩ := lst (ns := [0, 1, 2, 2, 3, 3, 3, 3]) s1.s hl1
  refine ⟨a, l1, _, false, rfl, s1'.s, fun _ => n1, SqL.of e1, by decide, by decide, fun v2 H2 hv2 st2 => ?_⟩
  obtain ⟨co, hco, rfl⟩ := List.mem_map.mp hv2
  have hco3 : 0 ≤ co ∧ co ≤ 3 := by
    simp at hco
    omega
  have s2 := (s1.trans s1').trans st2
  refine ⟨_, _, rfl, ?_⟩
  refine ⟨fun σ G => ∃ n m : Nat, σ = [some (.ref a), some (.int l), some (.int 5), some (.int m), some (.int n), none, none, none, none, none, none, none, none, none] ∧ Stp a H G ∧ n ≤ 3 ∧ m ≤ 17 ∧ n + m ≤ 20 ∧ l ≤ n, ?_, ?_⟩
  · refine ⟨_, rfl, _, _, rfl, rfl, _, rfl, ite2 (fun h => ?_) (fun h => ?_)⟩
    · have h3 : 3 < mo := of_decide_eq_true h
      refine ⟨_, rfl, _, _, rfl, ?_⟩
      refine ⟨(if 2 < if co > (l : Int) then co else (l : Int) then 2 else if co > (l : Int) then co else (l : Int)).toNat, mo.toNat, ?_, s2, by split <;> split <;> omega, by omega, by split <;> split <;> omega, by split <;> split <;> omega⟩
      have e1 : ((mo.toNat : Nat) : Int) = mo := by omega
      have e2 : (((if 2 < if co > (l : Int) then co else (l : Int) then 2 else if co > (l : Int) then co else (l : Int)).toNat : Nat) : Int) = (if 2 < if co > (l : Int) then co else (l : Int) then 2 else if co > (l : Int) then co else (l : Int)) := by split <;> split <;> omega
      rw [e1, e2]
      rfl
    · have h3 : ¬ 3 < mo := fun z => h (decide_eq_true z)
      refine ⟨(if co > (l : Int) then co else (l : Int)).toNat, mo.toNat, ?_, s2, by split <;> omega, by omega, by split <;> omega, by split <;> omega⟩
      have e1 : ((mo.toNat : Nat) : Int) = mo := by omega
      have e2 : (((if co > (l : Int) then co else (l : Int)).toNat : Nat) : Int) = (if co > (l : Int) then co else (l : Int)) := by split <;> omega
      rw [e1, e2]
      rfl
  clear s2 st2 s1' s1 st1 s0 e0 e1
  rintro σ G ⟨n, m, rfl, sG, hn3, hm17, hnm, hln⟩
  refine ⟨(by show 0 ≤ sizeLine; decide), fun L hL => ?_⟩
  have sL := sG.new (o := .lst []) hL
  refine ⟨_, rfl, (by show 6 ≤ sizeLine; decide), fun l2 hl2 => ?_⟩
  obtain ⟨e2, s2', n2⟩ := lst (ns := [1, 2, 3, 4, 4, 4]) sL.s hl2
  refine ⟨a, l2, _, false, rfl, s2'.s, fun _ => n2, SqL.of e2, by decide, by decide, fun v3 H3 hv3 st3 => ?_⟩
  obtain ⟨tn, htn, rfl⟩ := List.mem_map.mp hv3
  have htn4 : 1 ≤ tn ∧ tn ≤ 4 := by
    simp at htn
    omega
  have naL : a ≠ L := sG.s.ne hL
  have hL0 : H L = none := sG.free hL
  have s3 := (sL.trans s2').trans st3
  have eL3 : H3 L = some (.lst []) := (s2'.trans st3).k _ _ naL.symm upd_same
  refine ⟨_, rfl, by omega, by omega, for_range (lo := 0) (fun i σ F => (∃ y z : Option V, σ = [some (.ref a), some (.int l), some (.int 5), some (.int m), some (.int n), some (.ref L), y, z, none, none, none, none, none, none]) ∧ Stp a H F ∧ ∃ Ss, TPts F L Ss ∧ Ss.length = i ∧ ∀ s ∈ Ss, s ∈ gridL (List.replicate n [0, 4]))
    ⟨⟨_, _, rfl⟩, s3, [], TPts.nil eL3, rfl, fun s h => by simp at h⟩ ?_ ?_⟩
  · rintro i σ F hi ⟨⟨y, z, rfl⟩, sF, Ss, tS, lS, gS⟩
    obtain ⟨as, eS, hA⟩ := id tS
    refine ⟨_, rfl, .inl ⟨rfl, _, SqL.of eS⟩, ?_⟩
    refine ⟨_, rfl, _, rfl, by omega, by omega, fun D hD => ?_⟩
    have naD : a ≠ D := sF.s.ne hD
    refine lc_it walk_range (LcP (fun F1 => Stp a F F1) (fun _ y _ => ∃ k : Int, y = .int k ∧ 0 ≤ k ∧ k ≤ 4) D) ⟨(Stp.refl sF.s).new hD, [], upd_same, rfl, fun j y e => by simp at e⟩ (fun _ _ _ _ => trivial) ?_ ?_
    · rintro j x F1 F2 hj PF ⟨rfl, rfl⟩
      refine ⟨rfl, tyes ?_⟩
      refine ⟨_, rfl, _, rfl, a, 5, rfl, PF.1.s, by decide, fun d F3 st4 d0 d1 => ?_⟩
      exact lcp_step PF (fun o e => st4.k _ _ naD.symm e) (lt_line (by omega)) (fun o => (PF.1.trans st4).put sF.s hD) (fun _ _ _ h => h) fun _ => ⟨d, rfl, d0, by omega⟩
    · intro F1 PF
      obtain ⟨sF1, acc, h1, h2, h3⟩ := PF
      obtain ⟨ns, rfl⟩ := ints_of fun j y e => by
        obtain ⟨k, e, _⟩ := h3 j y e
        exact ⟨k, e⟩
      rw [List.length_map] at h2
      refine ⟨D, _, rfl, .inl ⟨SqL.of h1, fun t ht => ?_⟩⟩
      have sT := sF1.new (o := .tup (ns.map V.int)) ht
      have eS2 := sT.k _ _ naL.symm eS
      refine ⟨L, _, _, rfl, rfl, eS2, lt_line (by rw [List.length_map, hA.1]; omega), ⟨_, _, rfl⟩, (sF.trans sT).put hS hL0, Ss ++ [ns], TPts.push (hA.stp sT sF.s) (Same.refl _) eS2 upd_same, by rw [List.length_append, lS]; rfl, fun s hs => ?_⟩
      rcases List.mem_append.mp hs with h4 | h4
      · exact gS s h4
      · rw [List.mem_singleton.mp h4]
        refine grid_rep.mpr ⟨by omega, fun k hk => ?_⟩
        have ek : ns[k]? = some (ns[k]'(by omega)) := List.getElem?_eq_getElem _
        obtain ⟨v, e, v0, v1⟩ := h3 k _ (map_get ek)
        rw [List.getD_eq_getElem?_getD, ek]
        cases e
        exact ⟨v0, v1⟩
  rintro σ F ⟨⟨y, z, rfl⟩, sF, Ss, tS, lS, gS⟩
  have neS : Ss ≠ [] := fun z => by
    rw [z] at lS
    simp at lS
    omega
  have fS : ∀ r ∈ Ss, r.length = n := fun r hr => (grid_rep.mp (gS r hr)).1
  refine ⟨_, rfl, L, n, Ss, rfl, by omega, tS.pts.mx, fS, by omega, fun vb F2 s2 b2 => ?_⟩
  rw [hull_some neS] at b2
  obtain ⟨pb, rfl, mB⟩ := b2
  have bs := base_full (w := 4) neS gS
  have sF2 := sF.same s2
  refine ⟨_, rfl, _, rfl, ⟨by omega, by omega, by omega, by omega, by omega⟩, fun Z hZ => ?_⟩
  have naZ : a ≠ Z := sF2.s.ne hZ
  have eR : rgV 0 (n : Int) = ((List.range n).map fun i : Nat => (0 : Int) + (i : Int)).map V.int := by
    unfold rgV
    rw [show ((n : Int) - 0).toNat = n by omega, List.map_map]
    rfl
  rw [eR]
  have sZ : Stp a F2 (upd F2 Z (.lst (((List.range n).map fun i : Nat => (0 : Int) + (i : Int)).map V.int))) := (Stp.refl sF2.s).new hZ
  refine ⟨_, rfl, _, rfl, by omega, by omega, for_range (lo := 0) (fun i σ G => (∃ y z : Option V, σ = [some (.ref a), some (.int l), some (.int 5), some (.int m), some (.int n), some (.ref L), y, z, some (.ref pb), some (.ref Z), none, none, none, none]) ∧ Stp a F2 G ∧ ∃ S : List Int, G Z = some (.lst (S.map V.int)) ∧ S.length = n + i ∧ ∀ s ∈ S, -1 ≤ s ∧ s ≤ (n : Int) - 1)
    ⟨⟨_, _, rfl⟩, sZ, _, upd_same, by rw [List.length_map, List.length_range]; rfl, fun s hs => by
      obtain ⟨k, hk, rfl⟩ := List.mem_map.mp hs
      rw [List.mem_range] at hk
      omega⟩ ?_ ?_⟩
  · rintro i σ G hi ⟨⟨y, z, rfl⟩, sG2, S, eZ, lS2, hS2⟩
    refine ⟨_, rfl, .inl ⟨rfl, _, SqL.of eZ⟩, ?_⟩
    refine ⟨_, rfl, _, rfl, Z, _, rfl, .inl (SqL.of eZ), _, _, rfl, rfl, a, _, rfl, sG2.s, by rw [List.length_map]; omega, fun d G3 st3 d0 d1 => ?_⟩
    refine ⟨_, rfl, _, rfl, _, _, rfl, rfl, a, _, rfl, st3.s, by omega, fun e G4 st4 e0 e1 => ⟨_, _, rfl, rfl, ?_⟩⟩
    rw [List.length_map] at d1
    have eZ4 := (st3.trans st4).k _ _ naZ.symm eZ
    refine ⟨Z, S.map V.int, d, .int (e - 1), rfl, rfl, eZ4, lt_line (by rw [List.length_map]; omega), d0, by omega, ?_⟩
    refine ⟨⟨_, _, rfl⟩, (sG2.trans (st3.trans st4)).put sF2.s hZ, S.take d.toNat ++ [e - 1] ++ S.drop d.toNat, ?_, ?_, fun s hs => ?_⟩
    · rw [List.map_append, List.map_append, List.map_take, List.map_drop]
      exact upd_same
    · rw [List.length_append, List.length_append, List.length_take, List.length_drop]
      show min d.toNat S.length + 1 + (S.length - d.toNat) = _
      omega
    · rcases List.mem_append.mp hs with h1 | h1
      · rcases List.mem_append.mp h1 with h2 | h2
        · exact hS2 s (List.mem_of_mem_take h2)
        · rw [List.mem_singleton.mp h2]
          omega
      · exact hS2 s (List.mem_of_mem_drop h1)
  rintro σ G ⟨⟨y, z, rfl⟩, sG2, S, eZ, lS2, hS2⟩
  refine ⟨_, rfl, Z, rfl, ⟨_, SqL.of eZ⟩, fun D hD => ?_⟩
  have naD : a ≠ D := sG2.s.ne hD
  refine lc_it (walk_list (xs := S.map V.int)) (LcP (fun F1 => Stp a G F1) (fun _ y _ => ∃ k : Int, y = .int k) D) ⟨(Stp.refl sG2.s).new hD, [], upd_same, rfl, fun j y e => by simp at e⟩ (fun _ _ _ PF => SqL.of (PF.1.k _ _ naZ.symm eZ)) ?_ ?_
  · rintro j x F1 F3 hj PF ⟨rfl, ex⟩
    rw [List.length_map] at hj
    refine ⟨rfl, tyes ?_⟩
    refine ⟨_, rfl, a, rfl, PF.1.s, fun r F4 st4 => ?_⟩
    exact lcp_step PF (fun o e => st4.k _ _ naD.symm e) (lt_line (by omega)) (fun o => (PF.1.trans st4).put sG2.s hD) (fun _ _ _ h => h) fun _ => ⟨r, rfl⟩
  intro F4 PF
  obtain ⟨sF4, acc, h1, h2, h3⟩ := PF
  obtain ⟨Tm, rfl⟩ := ints_of h3
  rw [List.length_map, List.length_map] at h2
  have eZ5 := sF4.k _ _ naZ.symm eZ
  have mB5 := Mx.stp2 (sG2.trans sF4) sF2.s mB
  have s5 := sF2.trans (sG2.trans sF4)
  refine ⟨(by show 0 ≤ sizeLine; decide), fun L3 hL3 => ?_⟩
  have n3 : F4 L3 = none := hL3
  refine ⟨_, rfl, _, _, rfl, rfl, (by show 2 ≤ sizeLine; decide), fun pt hpt => ⟨(by show 1 ≤ sizeLine; decide), fun l4 hl4 => ?_⟩⟩
  refine ⟨_, rfl, l4, n, _, rfl, rfl, upd_same, by omega, by omega, (by rw [sizeLine_eq]; show 1 * (n : Int).toNat ≤ _; omega), fun l5 hl5 => ?_⟩
  rw [Int.toNat_natCast, rep_ref]
  have eD5 := h1
  have sN : Same F4 (upd (upd (upd (upd F4 L3 (.lst [])) pt (.tup [.int 0, .int (5 - 1)])) l4 (.lst [.ref pt])) l5 (.lst ((List.replicate n pt).map V.ref))) := (((Same.new hL3 _).trans (Same.new hpt _)).trans (Same.new hl4 _)).trans (Same.new hl5 _)
  have eP5 : (upd (upd (upd (upd F4 L3 (.lst [])) pt (.tup [.int 0, .int (5 - 1)])) l4 (.lst [.ref pt])) l5 (.lst ((List.replicate n pt).map V.ref))) pt = some (.tup [.int 0, .int (5 - 1)]) := (Same.new hl5 _) _ _ ((Same.new hl4 _) _ _ upd_same)
  have eL5 : (upd (upd (upd (upd F4 L3 (.lst [])) pt (.tup [.int 0, .int (5 - 1)])) l4 (.lst [.ref pt])) l5 (.lst ((List.replicate n pt).map V.ref))) L3 = some (.lst []) := (Same.new hl5 _) _ _ ((Same.new hl4 _) _ _ ((Same.new hpt _) _ _ upd_same))
  have mR : Mx false true K (upd (upd (upd (upd F4 L3 (.lst [])) pt (.tup [.int 0, .int (5 - 1)])) l4 (.lst [.ref pt])) l5 (.lst ((List.replicate n pt).map V.ref))) l5 (List.replicate n [0, 4]) := ⟨List.replicate n pt, SqL.of upd_same, by rw [List.length_replicate, List.length_replicate], fun i b r e1 e2 => by
    rw [List.getElem?_replicate] at e1 e2
    split at e1
    · cases e1
      split at e2
      · cases e2
        exact SqT.of eP5
      · rename_i g1 g2
        exact absurd g1 g2
    · cases e1⟩
  generalize (upd (upd (upd (upd F4 L3 (.lst [])) pt (.tup [.int 0, .int (5 - 1)])) l4 (.lst [.ref pt])) l5 (.lst ((List.replicate n pt).map V.ref))) = F5 at sN eP5 eL5 mR
  refine ⟨l5, List.replicate n [0, 4], rfl, mR, fun r hr => ?_, by rw [List.length_replicate]; exact hn3, fun x F6 s6 tx => ?_⟩
  · rw [List.eq_of_mem_replicate hr]
    exact ⟨0, 4, rfl, by decide, by decide, by decide, fun _ => by decide⟩
  have gl : (gridL (List.replicate n [0, 4])).length ≤ 125 := by
    have h := grid_len (Rs := List.replicate n [0, 4]) (fun r hr => by
      rw [List.eq_of_mem_replicate hr]
      exact ⟨0, 4, rfl, by decide, by decide, by decide, fun _ => by decide⟩) n (by rw [List.length_replicate]; exact Nat.le_refl _)
    have e : (List.replicate n [(0 : Int), 4]).take n = List.replicate n [0, 4] := List.take_of_length_le (by rw [List.length_replicate]; exact Nat.le_refl _)
    rw [e] at h
    exact Nat.le_trans h (Nat.le_trans (Nat.pow_le_pow_right (by decide) hn3) (by decide))
  obtain ⟨ms, eM, hM⟩ := id tx
  have kS : ∀ k < S.length + 1, kap S k < n + 1 := fun k hk => by
    cases k with
    | zero => exact Nat.zero_lt_succ n
    | succ k =>
      show (S.getD k 0 + 1).toNat < n + 1
      have g := hS2 (S.getD k 0) (by rw [List.getD_eq_getElem?_getD, List.getElem?_eq_getElem (by omega : k < S.length)]; exact List.getElem_mem _)
      omega
  have dg : ∀ i < n + 1, getM (hullM n Ss) i i = 0 := fun i hi => (hull_clo neS).d i hi
  have sN6 := sN.trans s6
  have mB6 := (mB5.same sN6)
  have eZ6 := sN6 _ _ eZ5
  have eD6 := sN6 _ _ eD5
  have eL6 := s6 _ _ eL5
  have s56 := s5.same sN6
  have h3F : ∀ {F7 : Hp}, Same F6 F7 → ∀ c o, F4 c = some o → F7 c = some o := fun s c o e => s _ _ (sN6 _ _ e)
  refine ⟨x, rfl, ⟨_, SqL.of eM⟩, ?_⟩
  have nG : gridL (List.replicate n [0, 4]) ≠ [] := fun z => by
    obtain ⟨s, hs⟩ := List.exists_mem_of_ne_nil _ neS
    have := (List.mem_filter.mp (bs.2 s hs)).1
    rw [z] at this
    simp at this
  have nx : x ≠ L3 := fun z => by
    rw [z, eL6] at eM
    cases ms with
    | nil => exact nG (List.length_eq_zero_iff.mp hM.1.symm)
    | cons b bs => cases eM
  have nZ3 : Z ≠ L3 := ne_of_none eZ5 n3
  have nD3 : D ≠ L3 := ne_of_none eD5 n3
  refine for_it (walk_list (xs := ms.map V.ref)) (fun i σ F => (∃ z y12 y13 : Option V, σ = [some (.ref a), some (.int l), some (.int 5), some (.int m), some (.int n), some (.ref L), y, z, some (.ref pb), some (.ref Z), some (.ref D), some (.ref L3), y12, y13]) ∧ But L3 F6 F ∧ TPts F L3 ((((gridL (List.replicate n [0, 4])).take i).filter (inL n (hullM n Ss))).map (shf S Tm)))
    ⟨⟨_, _, _, rfl⟩, (But.of_same (Same.refl _)), TPts.nil eL6⟩ (fun j σ F _ P => SqL.of (P.2.1 _ _ nx eM)) ?_ ?_
  · rintro i v σ F7 F hi ⟨⟨z, y12, y13, rfl⟩, bF, pF⟩ ⟨rfl, ev⟩
    rw [List.length_map, hM.1] at hi
    have er : (gridL (List.replicate n [0, 4]))[i]? = some (gridL (List.replicate n [0, 4]))[i] := List.getElem?_eq_getElem hi
    have mr := grid_rep.mp (List.getElem_mem hi)
    generalize (gridL (List.replicate n [0, 4]))[i] = r at er mr
    have lr := mr.1
    have ea : ms[i]? = some (ms[i]'(by rw [hM.1]; exact hi)) := List.getElem?_eq_getElem _
    generalize ms[i]'(by rw [hM.1]; exact hi) = tp at ea
    rw [map_get ea] at ev
    obtain rfl := Option.some.inj ev
    have ht6 := hM.2 i tp r ea er
    have ntp : tp ≠ L3 := fun z => by rw [z, eL6] at ht6; cases ht6
    have htF := bF _ _ ntp ht6
    refine ⟨_, rfl, _, rfl, pb, tp, hullM n Ss, r, rfl, by omega, mB6.but bF eL6, (by rw [lr]; exact hullM_sz n Ss), (by rw [lr]; exact dg), SqT.of htF, fun b F8 s8 hb => ⟨_, rfl, ite2 (fun h => ?_) (fun h => ?_)⟩⟩
    · have hin : inL n (hullM n Ss) r = true := inL_iff.mpr (by
        have := hb.mp h
        rwa [lr] at this)
      refine ⟨(by show 1 ≤ sizeLine; decide), fun t1 ht1 => ?_⟩
      refine ⟨_, rfl, cat0 (SqT.of upd_same) (SqT.of ((s8.trans (Same.new ht1 _)) _ _ htF)) (by omega) fun zf F9 sa hz => ?_⟩
      have s79 := (s8.trans (Same.new ht1 (.tup [.int 0]))).trans sa
      obtain ⟨as7, e7, hA7⟩ := id (pF.same s79)
      refine ⟨_, rfl, .inl ⟨rfl, _, SqL.of e7⟩, ?_⟩
      have eZ9 := s79 _ _ (bF _ _ nZ3 eZ6)
      have eD9 := s79 _ _ (bF _ _ nD3 eD6)
      refine ⟨_, rfl, Z, _, rfl, .inl (SqL.of eZ9), _, rfl, by omega, by rw [List.length_map]; omega, fun D2 hD2 => ?_⟩
      refine lc_it walk_range (LcP (Same F9) (RInt (shf S Tm r)) D2) (lcp_start hD2) (fun _ _ _ _ => trivial) ?_ ?_
      · rintro k x2 F10 F11 hk PF2 ⟨rfl, rfl⟩
        have hk2 : k < S.length := by
          rw [List.length_map] at hk
          omega
        have gk := kS (k + 1) (by omega)
        have gs := hS2 (S.getD k 0) (by rw [List.getD_eq_getElem?_getD, List.getElem?_eq_getElem hk2]; exact List.getElem_mem _)
        refine ⟨rfl, tyes ?_⟩
        have eAt : atI ((0 :: r).map V.int) (S.getD k 0 + 1) = some (.int (xc r (kap S (k + 1)))) := by
          have e : (S.getD k 0 + 1) = ((kap S (k + 1) : Nat) : Int) := by
            show S.getD k 0 + 1 = (((S.getD k 0 + 1).toNat : Nat) : Int)
            omega
          rw [e]
          exact xc_at lr gk
        refine ⟨_, rfl, _, rfl, _, rfl, Z, _, _, _, rfl, rfl, SqL.of (PF2.1 _ _ eZ9), atI_row hk2, _, _, rfl, rfl, zf, _, _, _, rfl, rfl, Same.tup PF2.1 hz, eAt, _, rfl, _, rfl, D, _, _, _, rfl, rfl, SqL.of (PF2.1 _ _ eD9), atI_row (by omega), _, _, rfl, rfl, ?_⟩
        exact lcp_same PF2 hD2 (Same.refl _) (lt_line (by omega)) RInt.mono ⟨_, mkR_at hk2, rfl⟩
      · intro F10 PF2
        refine ⟨D2, _, rfl, .inl ⟨SqL.of (lcp_ints (K := K) PF2 (by rw [List.length_map, shf_len]; omega)), fun t ht => ?_⟩⟩
        have sT := PF2.1.trans (Same.new ht (.tup ((shf S Tm r).map V.int)))
        have e8 := sT _ _ e7
        refine ⟨L3, _, _, rfl, rfl, e8, lt_line (by rw [List.length_map, hA7.1, List.length_map]; have := List.length_filter_le (inL n (hullM n Ss)) ((gridL (List.replicate n [0, 4])).take i); rw [List.length_take] at this; omega), ?_⟩
        refine ⟨⟨_, _, _, rfl⟩, fun c o nc e => ?_, ?_⟩
        · rw [upd_ne nc]
          exact sT _ _ (s79 _ _ (bF _ _ nc e))
        · rw [take_snoc er, List.filter_append, List.filter_cons_of_pos hin, List.filter_nil, List.map_append]
          exact TPts.push hA7 sT e8 upd_same
    · have hin : ¬ inL n (hullM n Ss) r = true := fun z => h (hb.mpr (by
        rw [lr]
        exact inL_iff.mp z))
      refine ⟨⟨_, _, _, rfl⟩, fun c o nc e => s8 _ _ (bF _ _ nc e), ?_⟩
      rw [take_snoc er, List.filter_append, List.filter_cons_of_neg hin, List.filter_nil, List.append_nil]
      exact pF.same s8
  · rintro σ F ⟨⟨z, y12, y13, rfl⟩, bF, pF⟩
    rw [List.length_map, hM.1, List.take_length] at pF
    have n30 : H L3 = none := s5.free n3
    have sFin : Stp a H F := by
      obtain ⟨x1, x2, x3, e⟩ := s56.s
      exact ⟨⟨x1, x2, x3, bF _ _ (fun z => by rw [z, eL6] at e; cases e) e⟩, fun c o nc e => bF _ _ (ne_of_none e n30) (s56.k _ _ nc e)⟩
    refine ⟨_, rfl, q L3 F S.length _ sFin n30 pF (full_shf bs.1 kS) ?_ (by omega) (by omega) ?_⟩
    · obtain ⟨s, hs⟩ := List.exists_mem_of_ne_nil _ neS
      have hm := List.mem_map_of_mem (f := shf S Tm) (bs.2 s hs)
      exact List.ne_nil_of_mem hm
    · rw [List.length_map]
      exact Nat.le_trans (List.length_filter_le _ _) gl
end
/-! ### a part of the points, a form -/
def spPart24 (K : PySem.W.Frag) : Sp := fun vs H Q _ => ∃ (a p : Addr) (n : Nat) (Ps : List (List Int)), vs = [.ref a, .ref p] ∧ Src H a ∧ TPts H p Ps ∧ Full n Ps ∧ Ps ≠ [] ∧ n ≤ 20 ∧ Ps.length ≤ 125 ∧
  ∀ q H' Qs, Stp a H H' → H q = none → TPts H' q Qs → Full n Qs → Qs ≠ [] → Qs.length ≤ 125 → (∀ r ∈ Qs, r ∈ Ps) → Q (.ref q) H'
theorem src_ne24 {H : Hp} {a p : Addr} {as : List Addr} (h : Src H a) (e : H p = some (.lst (as.map V.ref))) : p ≠ a := fun z => by
  obtain ⟨x, y, w, e2⟩ := h
  rw [z, e2] at e
  cases as with
  | nil => cases e
  | cons b bs => cases e
theorem ints8 {v : V} (h : v ∈ [V.int 0, .int 0, .int 1, .int (-1), .int 1, .int (-1), .int 2, .int (-3)]) : ∃ k : Int, v = .int k ∧ -1000000000 ≤ k ∧ k ≤ 1000000000 := by
  simp only [List.mem_cons, List.not_mem_nil, or_false] at h
  rcases h with h | h | h | h | h | h | h | h <;> exact ⟨_, h, by decide, by decide⟩
theorem ints11 {v : V} (h : v ∈ [V.int 1, .int 1, .int 1, .int (-1), .int (-1), .int 2, .int (-2), .int 3, .int (-3), .int (-7), .int 1000003]) : ∃ k : Int, v = .int k ∧ -1000000000 ≤ k ∧ k ≤ 1000000000 := by
  simp only [List.mem_cons, List.not_mem_nil, or_false] at h
  rcases h with h | h | h | h | h | h | h | h | h | h | h <;> exact ⟨_, h, by decide, by decide⟩
/-- pairs of small numbers -/
def Prs (F : Hp) (ps : List V) : Prop := ∀ v ∈ ps, ∃ (p : Addr) (x y : Int), v = .ref p ∧ F p = some (.tup [.int x, .int y]) ∧ -10 ≤ x ∧ x ≤ 10 ∧ -10 ≤ y ∧ y ≤ 10
theorem Prs.add {F : Hp} {ps : List V} {p : Addr} {x y : Int} (h : Prs F ps) (e : F p = none) (b : -10 ≤ x ∧ x ≤ 10 ∧ -10 ≤ y ∧ y ≤ 10) : Prs (upd F p (.tup [.int x, .int y])) (ps ++ [.ref p]) := fun v hv => by
  rcases List.mem_append.mp hv with h1 | h1
  · obtain ⟨q, x', y', rfl, eq, b'⟩ := h v h1
    exact ⟨q, x', y', rfl, (Same.new e _) _ _ eq, b'⟩
  · rw [List.mem_singleton.mp h1]
    exact ⟨p, x, y, rfl, upd_same, b⟩
theorem cf_set {cs : List Int} {k : Nat} {v : Int} (h : Cf cs) (b : -1000000000 ≤ v ∧ v ≤ 1000000000) : Cf (cs.set k v) := fun c hc => by
  rcases List.mem_or_eq_of_mem_set hc with h1 | h1
  · exact h c h1
  · rw [h1]; exact b
theorem rep_int0 {n : Nat} : (List.replicate n [V.int 0]).flatten = (List.replicate n (0 : Int)).map V.int := by
  induction n with
  | zero => rfl
  | succ n ih => rw [List.replicate_succ, List.replicate_succ, List.flatten_cons, ih, List.map_cons]; rfl
def spForm24 (K : PySem.W.Frag) : Sp := fun vs H Q _ => ∃ (a : Addr) (n : Nat), vs = [.ref a, .int n] ∧ Src H a ∧ n ≤ 20 ∧
  ∀ f H' cs lo hi, Stp a H H' → FormAt K H' f cs lo hi → cs.length = n → Cf cs → lo ≤ hi → Q (.ref f) H'
section
variable {P : Program} {w : World} {K : PySem.W.Frag} {mg : Str → Option Value} {base : Heap}
theorem ok_l_part (T : Txt w K mg) : FnOk P w K mg base CX0 3 T.a_l_part T.d_l_part p_l_part (spPart24 K) := by
  have g_l_one := ok_l_oneG (P := P) (w := w) (K := K) (base := base) T
  have g_l_box := ok_l_box (P := P) (w := w) (K := K) (base := base) T
  have g_l_belongs := ok_l_belongs (P := P) (w := w) (K := K) (base := base) T
  refine T.F_l_part.ok sc_l_part (fun vs H Q E h => ?_) (fun cdv A outer s H vs Q E hr h => ?_)
  · obtain ⟨a, p, n, Ps, rfl, _⟩ := h
    rfl
  obtain ⟨a, p, n, Ps, rfl, hS, tP, fu, ne, hn, lP, q⟩ := h
  refine ⟨_, (pss_cons (ps_set (i := 2) sc_l_part.nd rfl (Or.inr rfl) (pe_call g_l_box (hr.mono (by first | decide | omega)) rfl T.m_l_box T.F_l_box.kp T.b_l_box .nil pass0 (pa_cons (pe_lst (pa_cons (pe_call g_l_one (hr.mono (by first | decide | omega)) rfl T.m_l_one T.F_l_one.kp T.b_l_one .nil pass0 (pa_cons (pv 0) (pa_cons (pv 1) pa_nil))) (pa_cons (pe_call g_l_one (hr.mono (by first | decide | omega)) rfl T.m_l_one T.F_l_one.kp T.b_l_one .nil pass0 (pa_cons (pv 0) (pa_cons (pv 1) pa_nil))) pa_nil))) pa_nil)))
      (pss_one (ps_ret (pe_lc (own := [("_law_point", 3)]) (g := gName 3) rfl sc_l_part.nd (pi_list (pv 1)) (blkOk_by (own := [("_law_point", 3)]) (N := n_l_part) (sc := defScope s_l_part) (by decide +kernel)) (fun _ _ _ _ _ => (pg_name (i := 3) sc_l_part.nd rfl (Or.inl rfl))) (fun _ _ _ _ _ => (pts_one (pt_val (pe_call g_l_belongs (hr.mono (by first | decide | omega)) rfl T.m_l_belongs T.F_l_belongs.kp T.b_l_belongs .nil pass0 (pa_cons (pv 2) (pa_cons (pv 3) pa_nil)))))) (fun _ _ _ _ _ => (pv 3)))))), ?_⟩
  obtain ⟨as, eP, hA⟩ := id tP
  have npa : p ≠ a := src_ne24 hS eP
  have las : 0 < as.length := by rw [hA.1]; exact List.length_pos_iff.mpr ne
  refine ⟨_, rfl, _, rfl, a, p, _, false, rfl, hS, fun _ => npa, SqL.of eP, by rw [List.length_map]; exact las, by rw [List.length_map, hA.1]; omega, fun v1 H1 hv1 st1 => ?_⟩
  obtain ⟨a1, ha1, rfl⟩ := List.mem_map.mp hv1
  obtain ⟨k1, hk1, ek1⟩ := List.getElem_of_mem ha1
  have eP1 := st1.k _ _ npa eP
  refine ⟨_, rfl, _, rfl, a, p, _, false, rfl, st1.s, fun _ => npa, SqL.of eP1, by rw [List.length_map]; exact las, by rw [List.length_map, hA.1]; omega, fun v2 H2 hv2 st2 => ?_⟩
  obtain ⟨a2, ha2, rfl⟩ := List.mem_map.mp hv2
  obtain ⟨k2, hk2, ek2⟩ := List.getElem_of_mem ha2
  have s2 := st1.trans st2
  have hA2 := hA.stp s2 hS
  have eP2 := s2.k _ _ npa eP
  refine ⟨(by show 2 ≤ sizeLine; decide), fun l hl => ?_⟩
  have f1 : Ps[k1]? = some (Ps[k1]'(by rw [← hA.1]; exact hk1)) := List.getElem?_eq_getElem _
  have f2 : Ps[k2]? = some (Ps[k2]'(by rw [← hA.1]; exact hk2)) := List.getElem?_eq_getElem _
  have m1 := List.mem_of_getElem? f1
  have m2 := List.mem_of_getElem? f2
  generalize Ps[k1]'(by rw [← hA.1]; exact hk1) = p1 at f1 m1
  generalize Ps[k2]'(by rw [← hA.1]; exact hk2) = p2 at f2 m2
  have g1 := hA2.2 k1 a1 p1 (by rw [← ek1]; exact List.getElem?_eq_getElem hk1) f1
  have g2 := hA2.2 k2 a2 p2 (by rw [← ek2]; exact List.getElem?_eq_getElem hk2) f2
  have sl := Same.new hl (.lst [.ref a1, .ref a2])
  have mx : Mx false true K (upd H2 l (.lst [.ref a1, .ref a2])) l [p1, p2] := ⟨[a1, a2], SqL.of upd_same, rfl, fun i b r e1 e2 => by
    match i, e1, e2 with
    | 0, e1, e2 =>
      cases e1
      cases e2
      exact SqT.of (sl _ _ g1)
    | 1, e1, e2 =>
      cases e1
      cases e2
      exact SqT.of (sl _ _ g2)
    | i + 2, e1, _ => simp at e1⟩
  refine ⟨l, n, [p1, p2], rfl, by omega, mx, fun r hr => ?_, by show 2 ≤ 1000; decide, fun vb F2 s3 b3 => ?_⟩
  · simp only [List.mem_cons, List.not_mem_nil, or_false] at hr
    rcases hr with rfl | rfl
    · exact fu.len _ m1
    · exact fu.len _ m2
  rw [hull_some (by simp)] at b3
  obtain ⟨pb, rfl, mB⟩ := b3
  have pfu := part_full fu m1 m2
  have dg : ∀ i < n + 1, getM (hullM n [p1, p2]) i i = 0 := fun i hi => (hull_clo (by simp)).d i hi
  have sF2 := (s2.new (o := .lst [.ref a1, .ref a2]) hl).same s3
  have eP3 := s3 _ _ (sl _ _ eP2)
  have hA3 := (hA2.same sl).same s3
  refine ⟨_, rfl, p, rfl, ⟨_, SqL.of eP3⟩, fun D hD => ?_⟩
  refine lc_it (walk_list (xs := as.map V.ref)) (fun i G => Same F2 G ∧ TPts G D ((Ps.take i).filter (inL n (hullM n [p1, p2])))) ⟨Same.new hD _, TPts.nil upd_same⟩ (fun i G _ P => SqL.of (P.1 _ _ eP3)) ?_ ?_
  · rintro i y F0 F hi ⟨sF, pF⟩ ⟨rfl, ex⟩
    rw [List.length_map, hA3.1] at hi
    have er : Ps[i]? = some Ps[i] := List.getElem?_eq_getElem hi
    have lq := fu.len _ (List.getElem_mem hi)
    generalize Ps[i] = r at er lq
    have ea : as[i]? = some (as[i]'(by rw [hA3.1]; exact hi)) := List.getElem?_eq_getElem _
    generalize as[i]'(by rw [hA3.1]; exact hi) = tq at ea
    rw [map_get ea] at ex
    obtain rfl := Option.some.inj ex
    have htq := sF _ _ (hA3.2 i tq r ea er)
    refine ⟨rfl, ?_⟩
    refine ⟨_, rfl, _, rfl, pb, tq, hullM n [p1, p2], r, rfl, by omega, mB.same sF, (by rw [lq]; exact hullM_sz n _), (by rw [lq]; exact dg), SqT.of htq, fun b F8 s8 hb => ⟨_, rfl, ite2 (fun h => ?_) (fun h => ?_)⟩⟩
    · have hin : inL n (hullM n [p1, p2]) r = true := inL_iff.mpr (by
        have := hb.mp h
        rwa [lq] at this)
      obtain ⟨bs, b1, b2⟩ := id (pF.same s8)
      refine ⟨_, rfl, _, b1, lt_line (by rw [List.length_map, b2.1]; have := List.length_filter_le (inL n (hullM n [p1, p2])) (Ps.take i); rw [List.length_take] at this; omega), fun c o e => ?_, ?_⟩
      · rw [upd_ne (ne_of_none e hD)]
        exact s8 _ _ (sF _ _ e)
      · rw [take_snoc er, List.filter_append, List.filter_cons_of_pos hin, List.filter_nil]
        exact TPts.push b2 (Same.refl _) b1 (s8 _ _ htq)
    · have hin : ¬ inL n (hullM n [p1, p2]) r = true := fun z => h (hb.mpr (by
        rw [lq]
        exact inL_iff.mp z))
      rw [take_snoc er, List.filter_append, List.filter_cons_of_neg hin, List.filter_nil, List.append_nil]
      exact ⟨sF.trans s8, pF.same s8⟩
  · rintro G ⟨sG, pG⟩
    rw [List.length_map, hA3.1, List.take_length] at pG
    exact q D G _ (sF2.same sG) (sF2.free hD) pG pfu.1 (List.ne_nil_of_mem pfu.2) (Nat.le_trans (List.length_filter_le _ _) lP) fun r hr => (List.mem_filter.mp hr).1
theorem ok_l_drawn_form (T : Txt w K mg) : FnOk P w K mg base CX0 3 T.a_l_drawn_form T.d_l_drawn_form p_l_drawn_form (spForm24 K) := by
  have g_l_pick := ok_l_pick (P := P) (w := w) (base := base) T
  have g_l_one := ok_l_oneG (P := P) (w := w) (K := K) (base := base) T
  have g_l_far := ok_l_far (P := P) (w := w) (base := base) T
  refine T.F_l_drawn_form.ok sc_l_drawn_form (fun vs H Q E h => ?_) (fun cdv A outer s H vs Q E hr h => ?_)
  · obtain ⟨a, n, rfl, _⟩ := h
    rfl
  obtain ⟨a, n, rfl, hS, hn, q⟩ := h
  refine ⟨_, (pss_cons (ps_set (i := 2) sc_l_drawn_form.nd rfl (Or.inl rfl) (pe_op op_rep (pe_lst (pa_cons pe_int pa_nil)) (pv 1)))
      (pss_cons (ps_set (i := 3) sc_l_drawn_form.nd rfl (Or.inl rfl) (pe_call g_l_pick (hr.mono (by first | decide | omega)) rfl T.m_l_pick T.F_l_pick.kp T.b_l_pick .nil pass0 (pa_cons (pv 0) (pa_cons pe_int pa_nil))))
      (C8.pss_cut (ps_if (pt_cmpR op_lt (pv 3) pe_int (nomark _)) (pss_one (ps_setLc (i := 2) (own := [("_law_k", 4)]) (g := gName 4) (tt := tYes) rfl sc_l_drawn_form.nd rfl rfl (sw_true rfl rfl rfl (by decide +kernel)) (pi_range1 rfl T.z_range (pa_cons (pv 1) pa_nil)) (blkOk_by (own := [("_law_k", 4)]) (N := n_l_drawn_form) (sc := defScope s_l_drawn_form) (by decide +kernel)) (fun _ _ _ _ _ => (pg_name (i := 4) sc_l_drawn_form.nd rfl (Or.inl rfl))) (fun _ _ _ _ _ => pts_nil) (fun _ _ _ _ _ => (pe_call g_l_one (hr.mono (by first | decide | omega)) rfl T.m_l_one T.F_l_one.kp T.b_l_one .nil pass0 (pa_cons (pv 0) (pa_cons (pe_lst (pa_cons pe_int (pa_cons pe_int (pa_cons pe_int (pa_cons (pe_un un_neg pe_int) (pa_cons pe_int (pa_cons (pe_un un_neg pe_int) (pa_cons pe_int (pa_cons (pe_un un_neg pe_int) pa_nil))))))))) pa_nil)))))) (pss_one (ps_if (PW.pt (pw_and (pt_cmpR op_lt (pv 3) pe_int (nomark _)) (pw_and1 (pt_cmpR op_gt (pv 1) pe_int (nomark _))))) (pss_cons (ps_set (i := 5) sc_l_drawn_form.nd rfl (Or.inl rfl) (pe_call g_l_pick (hr.mono (by first | decide | omega)) rfl T.m_l_pick T.F_l_pick.kp T.b_l_pick .nil pass0 (pa_cons (pv 0) (pa_cons (pv 1) pa_nil))))
      (pss_cons (ps_set (i := 6) sc_l_drawn_form.nd rfl (Or.inl rfl) (pe_call g_l_one (hr.mono (by first | decide | omega)) rfl T.m_l_one T.F_l_one.kp T.b_l_one .nil pass0 (pa_cons (pv 0) (pa_cons (pe_lst (pa_cons (pe_tup (pa_cons pe_int (pa_cons (pe_un un_neg pe_int) pa_nil))) (pa_cons (pe_tup (pa_cons pe_int (pa_cons (pe_un un_neg pe_int) pa_nil))) (pa_cons (pe_tup (pa_cons pe_int (pa_cons (pe_un un_neg pe_int) pa_nil))) (pa_cons (pe_tup (pa_cons pe_int (pa_cons (pe_un un_neg pe_int) pa_nil))) (pa_cons (pe_tup (pa_cons pe_int (pa_cons pe_int pa_nil))) (pa_cons (pe_tup (pa_cons (pe_un un_neg pe_int) (pa_cons (pe_un un_neg pe_int) pa_nil))) (pa_cons (pe_tup (pa_cons pe_int (pa_cons (pe_un un_neg pe_int) pa_nil))) (pa_cons (pe_tup (pa_cons pe_int (pa_cons (pe_un un_neg pe_int) pa_nil))) (pa_cons (pe_tup (pa_cons pe_int (pa_cons (pe_un un_neg pe_int) pa_nil))) pa_nil)))))))))) pa_nil))))
      (pss_cons (ps_asg (pe_ix ix_tup (pv 6) pe_int (fun _ _ => rfl)) (pg_sub (pv 2) (pv 5) set_list))
      (pss_one (ps_asg (pe_ix ix_tup (pv 6) pe_int (fun _ _ => rfl)) (pg_sub (pv 2) (pe_op op_modN (pe_callTy call_int1 rfl T.z_int bt_int (pa_cons (pe_op op_add (pe_op op_add (pv 5) pe_int) (pe_call g_l_pick (hr.mono (by first | decide | omega)) rfl T.m_l_pick T.F_l_pick.kp T.b_l_pick .nil pass0 (pa_cons (pv 0) (pa_cons (pe_op op_sub (pv 1) pe_int) pa_nil)))) pa_nil)) (pv 1)) set_list)))))) (pss_one (ps_if (PW.pt (pw_and (pt_cmpR op_lt (pv 3) pe_int (nomark _)) (pw_and1 (pt_cmpR op_gt (pv 1) pe_int (nomark _))))) (pss_one (ps_asg (pe_call g_l_one (hr.mono (by first | decide | omega)) rfl T.m_l_one T.F_l_one.kp T.b_l_one .nil pass0 (pa_cons (pv 0) (pa_cons (pe_lst (pa_cons pe_int (pa_cons pe_int (pa_cons pe_int (pa_cons (pe_un un_neg pe_int) (pa_cons (pe_un un_neg pe_int) (pa_cons pe_int (pa_cons (pe_un un_neg pe_int) (pa_cons pe_int (pa_cons (pe_un un_neg pe_int) (pa_cons (pe_un un_neg pe_int) (pa_cons pe_int pa_nil)))))))))))) pa_nil))) (pg_sub (pv 2) (pe_call g_l_pick (hr.mono (by first | decide | omega)) rfl T.m_l_pick T.F_l_pick.kp T.b_l_pick .nil pass0 (pa_cons (pv 0) (pa_cons (pv 1) pa_nil))) set_list))) pss_nil)))))
      (pss_cons (ps_set (i := 7) sc_l_drawn_form.nd rfl (Or.inl rfl) (pe_call g_l_far (hr.mono (by first | decide | omega)) rfl T.m_l_far T.F_l_far.kp T.b_l_far .nil pass0 (pa_cons (pv 0) pa_nil)))
      (pss_one (ps_ret (pe_tup (pa_cons (pe_callTy call_tuple_of rfl T.z_tuple bt_tuple (pa_cons (pv 2) pa_nil)) (pa_cons (pv 7) (pa_cons (pe_op op_add (pv 7) (pe_call g_l_one (hr.mono (by first | decide | omega)) rfl T.m_l_one T.F_l_one.kp T.b_l_one .nil pass0 (pa_cons (pv 0) (pa_cons (pe_lst (pa_cons pe_int (pa_cons pe_int (pa_cons pe_int (pa_cons pe_int (pa_cons pe_int (pa_cons pe_int pa_nil))))))) pa_nil)))) pa_nil)))))))))), ?_⟩
  refine ⟨(by show 1 ≤ sizeLine; decide), fun l0 hl0 => ?_⟩
  refine ⟨_, rfl, l0, n, _, rfl, rfl, upd_same, by omega, by omega, (by rw [sizeLine_eq]; show 1 * (n : Int).toNat ≤ _; omega), fun l1 hl1 => ?_⟩
  rw [Int.toNat_natCast, rep_int0]
  have s0 : Stp a H (upd (upd H l0 (.lst [.int 0])) l1 (.lst ((List.replicate n (0 : Int)).map V.int))) := ((Stp.refl hS).new hl0).new hl1
  have n1 : H l1 = none := (Stp.refl hS).new hl0 |>.free hl1
  have na1 : a ≠ l1 := hS.ne n1
  have e1 : (upd (upd H l0 (.lst [.int 0])) l1 (.lst ((List.replicate n (0 : Int)).map V.int))) l1 = some (.lst ((List.replicate n (0 : Int)).map V.int)) := upd_same
  generalize (upd (upd H l0 (.lst [.int 0])) l1 (.lst ((List.replicate n (0 : Int)).map V.int))) = H1 at s0 e1
  refine ⟨_, rfl, a, 8, rfl, s0.s, by decide, fun st H2 st2 st0 st1 => ?_⟩
  have e12 := st2.k _ _ na1.symm e1
  have s2 := s0.trans st2
  refine ⟨fun σ G => ∃ (r : Addr) (cs : List Int) (x4 x5 x6 : Option V), σ = [some (.ref a), some (.int n), some (.ref r), some (.int st), x4, x5, x6, none] ∧ Stp a H G ∧ G r = some (.lst (cs.map V.int)) ∧ r ≠ a ∧ cs.length = n ∧ Cf cs, ?_, ?_⟩
  · have cf0 : Cf (List.replicate n 0) := fun c hc => by
      rw [List.eq_of_mem_replicate hc]
      decide
    have lr0 : (List.replicate n (0 : Int)).length = n := List.length_replicate
    refine ⟨_, rfl, _, _, rfl, rfl, _, rfl, ite2 (fun h => ?_) (fun h => ?_)⟩
    · refine ⟨_, rfl, _, rfl, by omega, by omega, fun D hD => ?_⟩
      have naD : a ≠ D := st2.s.ne hD
      refine lc_it walk_range (LcP (fun F => Stp a H2 F) (fun _ y _ => ∃ k : Int, y = .int k ∧ -1000000000 ≤ k ∧ k ≤ 1000000000) D) ⟨(Stp.refl st2.s).new hD, [], upd_same, rfl, fun j y e => by simp at e⟩ (fun _ _ _ _ => trivial) ?_ ?_
      · rintro j x F F' hj PF ⟨rfl, rfl⟩
        refine ⟨rfl, tyes ?_⟩
        refine ⟨_, rfl, _, rfl, _, rfl, _, rfl, (by show 8 ≤ sizeLine; decide), fun l2 hl2 => ?_⟩
        have s3 := PF.1.new (o := .lst [.int 0, .int 0, .int 1, .int (-1), .int 1, .int (-1), .int 2, .int (-3)]) hl2
        refine ⟨a, l2, [.int 0, .int 0, .int 1, .int (-1), .int 1, .int (-1), .int 2, .int (-3)], false, rfl, s3.s, fun _ => (PF.1.s.ne hl2).symm, SqL.of upd_same, by show 0 < 8; decide, by show 8 < 1000; decide, fun v F3 hv st3 => ?_⟩
        have bv := ints8 hv
        exact lcp_step PF (fun o e => st3.k _ _ naD.symm ((Same.new hl2 _) _ _ e)) (lt_line (by omega)) (fun o => (s3.trans st3).put st2.s hD) (fun _ _ _ h => h) fun _ => bv
      · intro F PF
        obtain ⟨sF, acc, h1, h2, h3⟩ := PF
        obtain ⟨ns, rfl⟩ := ints_of fun j y e => by
          obtain ⟨k, e, _⟩ := h3 j y e
          exact ⟨k, e⟩
        rw [List.length_map] at h2
        refine ⟨D, ns, _, _, _, rfl, s2.trans sF, h1, naD.symm, by omega, fun c hc => ?_⟩
        obtain ⟨k, hk, rfl⟩ := List.getElem_of_mem hc
        obtain ⟨v, e, v0, v1⟩ := h3 k _ (map_get (List.getElem?_eq_getElem hk))
        cases e
        exact ⟨v0, v1⟩
    · refine ⟨_, rfl, _, _, rfl, rfl, _, rfl, ite2 (fun h1 => ⟨_, rfl, _, _, rfl, rfl, _, rfl, ite2 (fun hn0 => ?A) (fun hn0 => ?B)⟩) (fun h1 => ifF rfl ?C)⟩
      case A =>
        have n1g : 1 < n := by
          have : (n : Int) > 1 := of_decide_eq_true hn0
          omega
        refine ⟨_, rfl, _, rfl, a, n, rfl, st2.s, by omega, fun at0 H3 st3 at00 at01 => ?_⟩
        have p0 : Prs H3 [] := fun v hv => by simp at hv
        refine ⟨_, rfl, _, rfl, (by show 2 ≤ sizeLine; decide), fun p1 hp1 => ⟨_, rfl, (by show 2 ≤ sizeLine; decide), fun p2 hp2 => ⟨_, rfl, (by show 2 ≤ sizeLine; decide), fun p3 hp3 => ⟨_, rfl, (by show 2 ≤ sizeLine; decide), fun p4 hp4 => ⟨(by show 2 ≤ sizeLine; decide), fun p5 hp5 => ?_⟩⟩⟩⟩⟩
        refine ⟨_, rfl, _, rfl, (by show 2 ≤ sizeLine; decide), fun p6 hp6 => ⟨_, rfl, (by show 2 ≤ sizeLine; decide), fun p7 hp7 => ⟨_, rfl, (by show 2 ≤ sizeLine; decide), fun p8 hp8 => ⟨_, rfl, (by show 2 ≤ sizeLine; decide), fun p9 hp9 => ⟨(by show 9 ≤ sizeLine; decide), fun l2 hl2 => ?_⟩⟩⟩⟩⟩
        have q1 := p0.add (x := 1) (y := -1) hp1 (by decide)
        have q2 := q1.add (x := 1) (y := -1) hp2 (by decide)
        have q3 := q2.add (x := 1) (y := -1) hp3 (by decide)
        have q4 := q3.add (x := 1) (y := -1) hp4 (by decide)
        have q5 := q4.add (x := 1) (y := 1) hp5 (by decide)
        have q6 := q5.add (x := -1) (y := -1) hp6 (by decide)
        have q7 := q6.add (x := 2) (y := -2) hp7 (by decide)
        have q8 := q7.add (x := 1) (y := -2) hp8 (by decide)
        have q9 := q8.add (x := 2) (y := -1) hp9 (by decide)
        have s9 := ((((((((st3.new (o := .tup [.int 1, .int (-1)]) hp1).new (o := .tup [.int 1, .int (-1)]) hp2).new (o := .tup [.int 1, .int (-1)]) hp3).new (o := .tup [.int 1, .int (-1)]) hp4).new (o := .tup [.int 1, .int 1]) hp5).new (o := .tup [.int (-1), .int (-1)]) hp6).new (o := .tup [.int 2, .int (-2)]) hp7).new (o := .tup [.int 1, .int (-2)]) hp8).new (o := .tup [.int 2, .int (-1)]) hp9
        dsimp only at hl2
        generalize upd (upd (upd (upd (upd (upd (upd (upd (upd H3 p1 (.tup [.int 1, .int (-1)])) p2 (.tup [.int 1, .int (-1)])) p3 (.tup [.int 1, .int (-1)])) p4 (.tup [.int 1, .int (-1)])) p5 (.tup [.int 1, .int 1])) p6 (.tup [.int (-1), .int (-1)])) p7 (.tup [.int 2, .int (-2)])) p8 (.tup [.int 1, .int (-2)])) p9 (.tup [.int 2, .int (-1)]) = H4 at q9 s9 hl2
        have s10 := s9.new (o := .lst [.ref p1, .ref p2, .ref p3, .ref p4, .ref p5, .ref p6, .ref p7, .ref p8, .ref p9]) hl2
        refine ⟨a, l2, [.ref p1, .ref p2, .ref p3, .ref p4, .ref p5, .ref p6, .ref p7, .ref p8, .ref p9], false, rfl, s10.s, fun _ => (s9.s.ne hl2).symm, SqL.of upd_same, by show 0 < 9; decide, by show 9 < 1000; decide, fun v H5 hv st5 => ?_⟩
        obtain ⟨p, x, y, rfl, ep, bx⟩ := q9 v hv
        have npa : p ≠ a := fun z => by
          obtain ⟨x1, y1, w1, e⟩ := s9.s
          rw [z, e] at ep
          cases ep
        have ep5 := st5.k _ _ npa ((Same.new hl2 _) _ _ ep)
        have s5 := s2.trans (s10.trans st5)
        have el5 := (s10.trans st5).k _ _ na1.symm e12
        have npl : p ≠ l1 := fun z => by rw [z, el5] at ep5; cases ep5
        have ix1 : ixN ((List.replicate n (0 : Int)).map V.int).length at0 = some at0.toNat := ixN_int at00 (by rw [List.length_map, lr0]; omega)
        refine ⟨_, rfl, p, _, _, _, rfl, rfl, SqT.of ep5, rfl, _, rfl, _, rfl, l1, _, _, _, rfl, rfl, el5, ix1, ?_⟩
        have e6 : ((List.replicate n (0 : Int)).map V.int).set at0.toNat (.int x) = ((List.replicate n (0 : Int)).set at0.toNat x).map V.int := List.map_set.symm
        rw [e6]
        have s6 := s5.put (o := .lst (((List.replicate n (0 : Int)).set at0.toNat x).map V.int)) hS n1
        have ep6 : (upd H5 l1 (.lst (((List.replicate n (0 : Int)).set at0.toNat x).map V.int))) p = some (.tup [.int x, .int y]) := by rw [upd_ne npl]; exact ep5
        have el6 : (upd H5 l1 (.lst (((List.replicate n (0 : Int)).set at0.toNat x).map V.int))) l1 = some (.lst (((List.replicate n (0 : Int)).set at0.toNat x).map V.int)) := upd_same
        have lr1 : ((List.replicate n (0 : Int)).set at0.toNat x).length = n := by rw [List.length_set, lr0]
        have cf1 := cf_set (k := at0.toNat) (v := x) cf0 (by omega)
        generalize (upd H5 l1 (.lst (((List.replicate n (0 : Int)).set at0.toNat x).map V.int))) = H6 at s6 ep6 el6
        generalize (List.replicate n (0 : Int)).set at0.toNat x = r1 at el6 lr1 cf1
        refine ⟨_, rfl, p, _, _, _, rfl, rfl, SqT.of ep6, rfl, _, rfl, ?_⟩
        refine ⟨_, rfl, _, _, rfl, rfl, _, rfl, _, rfl, _, _, rfl, rfl, a, _, rfl, s6.s, by omega, fun d H7 st7 d0 d1 => ⟨_, _, rfl, rfl, .inl ⟨_, rfl, ?_⟩⟩⟩
        have n0 : (n : Int) ≠ 0 := by omega
        refine ⟨_, rfl, _, _, rfl, rfl, n0, ?_⟩
        have fm : (at0 + 1 + d).fmod (n : Int) = (at0 + 1 + d) % (n : Int) := Int.fmod_eq_emod_of_nonneg _ (by omega)
        have fm0 := Int.emod_nonneg (at0 + 1 + d) n0
        have fm1 := Int.emod_lt_of_pos (at0 + 1 + d) (show (0 : Int) < n by omega)
        dsimp only
        rw [fm]
        generalize (at0 + 1 + d) % (n : Int) = ix at fm0 fm1
        have el7 := st7.k _ _ na1.symm el6
        have ix2 : ixN (r1.map V.int).length ix = some ix.toNat := ixN_int fm0 (by rw [List.length_map, lr1]; omega)
        refine ⟨l1, _, _, _, rfl, rfl, el7, ix2, ?_⟩
        have e7 : (r1.map V.int).set ix.toNat (.int y) = (r1.set ix.toNat y).map V.int := List.map_set.symm
        rw [e7]
        exact ⟨l1, _, _, _, _, rfl, (s6.trans st7).put hS n1, upd_same, na1.symm, by rw [List.length_set, lr1], cf_set cf1 (by omega)⟩
      all_goals
        refine ⟨_, rfl, _, _, rfl, rfl, _, rfl, ite2 (fun h2 => ⟨_, rfl, _, _, rfl, rfl, _, rfl, ite2 (fun hn1 => ?_) (fun hn1 => ?_)⟩) (fun h2 => ifF rfl ?_)⟩
        · have n0 : 0 < n := by
            have : (n : Int) > 0 := of_decide_eq_true hn1
            omega
          refine ⟨_, rfl, _, rfl, _, rfl, _, rfl, _, rfl, _, rfl, (by show 11 ≤ sizeLine; decide), fun l2 hl2 => ?_⟩
          have s3 := (Stp.refl st2.s).new (o := .lst [.int 1, .int 1, .int 1, .int (-1), .int (-1), .int 2, .int (-2), .int 3, .int (-3), .int (-7), .int 1000003]) hl2
          refine ⟨a, l2, [.int 1, .int 1, .int 1, .int (-1), .int (-1), .int 2, .int (-2), .int 3, .int (-3), .int (-7), .int 1000003], false, rfl, s3.s, fun _ => (st2.s.ne hl2).symm, SqL.of upd_same, by show 0 < 11; decide, by show 11 < 1000; decide, fun v H3 hv st3 => ?_⟩
          obtain ⟨k, rfl, k0, k1⟩ := ints11 hv
          refine ⟨_, rfl, _, rfl, _, rfl, a, n, rfl, st3.s, by omega, fun d H4 st4 d0 d1 => ?_⟩
          have el4 := (s3.trans (st3.trans st4)).k _ _ na1.symm e12
          have ix1 : ixN ((List.replicate n (0 : Int)).map V.int).length d = some d.toNat := ixN_int d0 (by rw [List.length_map, lr0]; omega)
          refine ⟨l1, _, _, _, rfl, rfl, el4, ix1, ?_⟩
          have e7 : ((List.replicate n (0 : Int)).map V.int).set d.toNat (.int k) = ((List.replicate n (0 : Int)).set d.toNat k).map V.int := List.map_set.symm
          rw [e7]
          exact ⟨l1, _, _, _, _, rfl, (s2.trans (s3.trans (st3.trans st4))).put hS n1, upd_same, na1.symm, by rw [List.length_set, lr0], cf_set cf0 ⟨k0, k1⟩⟩
        · exact ⟨l1, _, _, _, _, rfl, s2, e12, na1.symm, lr0, cf0⟩
        · exact ⟨l1, _, _, _, _, rfl, s2, e12, na1.symm, lr0, cf0⟩
  rintro σ G ⟨r, cs, x4, x5, x6, rfl, sG, eR, nra, lc, cf⟩
  refine ⟨_, rfl, a, rfl, sG.s, fun low G2 st2 => ?_⟩
  have eR2 := st2.k _ _ nra eR
  refine ⟨_, rfl, r, _, rfl, .inl ⟨SqL.of eR2, fun c hc => ?_⟩⟩
  have s3 := (sG.trans st2).new (o := .tup (cs.map V.int)) hc
  refine ⟨_, rfl, _, rfl, _, rfl, (by show 6 ≤ sizeLine; decide), fun l2 hl2 => ?_⟩
  have st4 := (Stp.refl s3.s).new (o := .lst ([0, 0, 0, 1, 4, 2000].map V.int)) hl2
  refine ⟨a, l2, _, false, rfl, st4.s, fun _ => (s3.s.ne hl2).symm, SqL.of (upd_same (o := .lst ([0, 0, 0, 1, 4, 2000].map V.int))), by decide, by decide, fun v G3 hv st5 => ?_⟩
  obtain ⟨k, hk, rfl⟩ := List.mem_map.mp hv
  have k0 : 0 ≤ k := by
    simp at hk
    omega
  have s5 := (s3.trans st4).trans st5
  refine ⟨_, _, rfl, rfl, (by show 3 ≤ sizeLine; decide), fun f hf => ?_⟩
  have nca : c ≠ a := ((sG.trans st2).s.ne hc).symm
  have ec := (st4.trans st5).k _ _ nca upd_same
  exact q f _ cs low (low + k) (s5.new hf) ⟨c, SqT.of upd_same, SqT.of ((Same.new hf _) _ _ ec)⟩ lc cf (by omega)
end
/-! ### a column set: the points -/
def asgL (k : Nat) (a b : List Int → Int) (Ps : List (List Int)) : List (List Int) := Ps.flatMap fun r => (valsR (a r) (b r)).map fun v => r.set k v
def endsA (k : Nat) (a b : List Int → Int) (Ps : List (List Int)) : List (List Int) := Ps.flatMap fun r => if a r ≤ b r then [r.set k (a r), r.set k (b r)] else []
theorem mem_asg {k : Nat} {a b : List Int → Int} {Ps : List (List Int)} {q : List Int} : q ∈ asgL k a b Ps ↔ ∃ r ∈ Ps, ∃ v, a r ≤ v ∧ v ≤ b r ∧ q = r.set k v := by
  unfold asgL
  rw [List.mem_flatMap]
  constructor
  · rintro ⟨r, hr, h⟩
    obtain ⟨v, hv, e⟩ := List.mem_map.mp h
    have := mem_valsR.mp hv
    exact ⟨r, hr, v, this.1, this.2, e.symm⟩
  · rintro ⟨r, hr, v, h1, h2, e⟩
    exact ⟨r, hr, List.mem_map.mpr ⟨v, mem_valsR.mpr ⟨h1, h2⟩, e.symm⟩⟩
theorem mem_endsA {k : Nat} {a b : List Int → Int} {Ps : List (List Int)} {q : List Int} : q ∈ endsA k a b Ps ↔ ∃ r ∈ Ps, a r ≤ b r ∧ (q = r.set k (a r) ∨ q = r.set k (b r)) := by
  unfold endsA
  rw [List.mem_flatMap]
  refine exists_congr fun r => and_congr Iff.rfl ?_
  split
  · rename_i h
    simp [h]
  · rename_i h
    simp [h]
theorem ends_sub {k : Nat} {a b : List Int → Int} {Ps : List (List Int)} : ∀ q ∈ endsA k a b Ps, q ∈ asgL k a b Ps := fun q hq => by
  obtain ⟨r, hr, h, e | e⟩ := mem_endsA.mp hq
  · exact mem_asg.mpr ⟨r, hr, _, Int.le_refl _, h, e⟩
  · exact mem_asg.mpr ⟨r, hr, _, h, Int.le_refl _, e⟩
theorem hull_asg {n k : Nat} {a b : List Int → Int} {Ps : List (List Int)} (l : ∀ r ∈ Ps, r.length = n) (hk : k < n) : hull n (endsA k a b Ps) = hull n (asgL k a b Ps) := by
  by_cases ne : endsA k a b Ps = []
  · have e : asgL k a b Ps = [] := List.eq_nil_iff_forall_not_mem.mpr fun q hq => by
      obtain ⟨r, hr, v, h1, h2, _⟩ := mem_asg.mp hq
      have m : r.set k (a r) ∈ endsA k a b Ps := mem_endsA.mpr ⟨r, hr, by omega, .inl rfl⟩
      rw [ne] at m
      simp at m
    rw [ne, e]
  · refine hull_between ends_sub ne fun q hq => ?_
    obtain ⟨r, hr, v, h1, h2, rfl⟩ := mem_asg.mp hq
    have m1 : r.set k (a r) ∈ endsA k a b Ps := mem_endsA.mpr ⟨r, hr, by omega, .inl rfl⟩
    have m2 : r.set k (b r) ∈ endsA k a b Ps := mem_endsA.mpr ⟨r, hr, by omega, .inr rfl⟩
    exact free_le (l r hr) hk h1 h2 (fun x hx y hy => hull_le hx hy m1) fun x hx y hy => hull_le hx hy m2
def Ex (cs : List Int) : Prop := numL cs = [] ∨ numL cs = [1]
def aE (cs : List Int) (flo lo : Int) (r : List Int) : Int := max (val cs r + flo) lo
def bE (cs : List Int) (fhi hi : Int) (r : List Int) : Int := min (val cs r + fhi) hi
def minV (cs : List Int) (Ps : List (List Int)) : Int := -(lmax (Ps.map fun p => -(val cs p)))
def maxV (cs : List Int) (Ps : List (List Int)) : Int := lmax (Ps.map fun p => val cs p)
open Classical in
noncomputable def lowF (cs : List Int) (flo : Int) (Ps : List (List Int)) : Int := if IsD cs then flo + minV cs Ps else spanLo (hullM cs.length Ps) cs flo
open Classical in
noncomputable def highF (cs : List Int) (fhi : Int) (Ps : List (List Int)) : Int := if IsD cs then fhi + maxV cs Ps else spanHi (hullM cs.length Ps) cs fhi
open Classical in
noncomputable def asgR (k : Nat) (cs : List Int) (flo fhi lo hi : Int) (Ps : List (List Int)) : List (List Int) :=
  if Ex cs then asgL k (aE cs flo lo) (bE cs fhi hi) Ps else asgL k (fun _ => max (lowF cs flo Ps) lo) (fun _ => min (highF cs fhi Ps) hi) Ps
theorem val_none {cs p : List Int} (e : usedZ cs = []) : val cs p = 0 := by
  rw [val_used, e]
  rfl
theorem minV_is {cs : List Int} {Ps : List (List Int)} {m : Int} (h1 : ∃ p ∈ Ps, m = val cs p) (h2 : ∀ p ∈ Ps, m ≤ val cs p) : minV cs Ps = m := by
  unfold minV
  obtain ⟨p, hp, e⟩ := h1
  have : lmax (Ps.map fun p => -(val cs p)) = -m := lmax_is (List.mem_map.mpr ⟨p, hp, by rw [e]⟩) fun y hy => by
    obtain ⟨q, hq, rfl⟩ := List.mem_map.mp hy
    have := h2 q hq
    omega
  omega
theorem maxV_is {cs : List Int} {Ps : List (List Int)} {m : Int} (h1 : ∃ p ∈ Ps, m = val cs p) (h2 : ∀ p ∈ Ps, val cs p ≤ m) : maxV cs Ps = m := by
  unfold maxV
  obtain ⟨p, hp, e⟩ := h1
  exact lmax_is (List.mem_map.mpr ⟨p, hp, by rw [e]⟩) fun y hy => by
    obtain ⟨q, hq, rfl⟩ := List.mem_map.mp hy
    exact h2 q hq
theorem diff_val {cs p : List Int} {i j : Nat} (d : DiffAt cs i j) : dif i j p = val cs p := by
  obtain ⟨h1, _, h3, _, hv⟩ := d
  have e : ∀ a, 1 ≤ a → (0 :: p).getD a 0 = p.getD (a - 1) 0 := fun a ha => by
    match a, ha with
    | a + 1, _ => rfl
  unfold dif
  rw [e i h1, e j h3, hv]
theorem rng_is {cs : List Int} {flo fhi L G : Int} {Ps : List (List Int)} (ne : Ps ≠ []) (h : RngF (hullM cs.length Ps) cs flo fhi L G) : L = lowF cs flo Ps ∧ G = highF cs fhi Ps := by
  unfold lowF highF
  rcases h with ⟨nd, h1, h2⟩ | ⟨i, j, d, dij, h1, h2⟩
  · rw [if_neg nd, if_neg nd]
    exact ⟨h1, h2⟩
  · rw [if_pos d, if_pos d]
    obtain ⟨i1, i2, j1, j2, _⟩ := id dij
    obtain ⟨r1, hr1, e1⟩ := hull_at (n := cs.length) ne (show j < cs.length + 1 by omega) (show i < cs.length + 1 by omega)
    obtain ⟨r2, hr2, e2⟩ := hull_at (n := cs.length) ne (show i < cs.length + 1 by omega) (show j < cs.length + 1 by omega)
    have neg : ∀ p : List Int, dif j i p = -(val cs p) := fun p => by
      rw [← diff_val dij]
      unfold dif
      omega
    rw [minV_is (m := val cs r1) ⟨r1, hr1, rfl⟩ fun p hp => ?_, maxV_is (m := val cs r2) ⟨r2, hr2, rfl⟩ fun p hp => ?_]
    · rw [h1, h2, ← e1, ← e2, neg, diff_val dij]
      exact ⟨by omega, rfl⟩
    · have := hull_le (n := cs.length) (show i < cs.length + 1 by omega) (show j < cs.length + 1 by omega) hp
      rw [← e2, diff_val dij, diff_val dij] at this
      exact this
    · have := hull_le (n := cs.length) (show j < cs.length + 1 by omega) (show i < cs.length + 1 by omega) hp
      rw [← e1, neg, neg] at this
      omega
theorem num_used {cs : List Int} : numL cs = [] ↔ usedZ cs = [] := by
  unfold numL
  exact List.map_eq_nil_iff
theorem one_used {cs : List Int} (h : numL cs = [1]) : ∃ j, usedZ cs = [j] ∧ j < cs.length ∧ cs.getD j 0 = 1 ∧ ∀ p : List Int, val cs p = p.getD j 0 := by
  unfold numL at h
  have l := congrArg List.length h
  rw [List.length_map] at l
  obtain ⟨j, hu⟩ : ∃ j, usedZ cs = [j] := by
    match hu : usedZ cs, l with
    | [j], _ => exact ⟨j, rfl⟩
  have mj := mem_usedZ.mp (show j ∈ usedZ cs by rw [hu]; simp)
  rw [hu] at h
  have e : cs.getD j 0 = 1 := (List.cons.inj h).1
  refine ⟨j, hu, mj.1, e, fun p => ?_⟩
  rw [val_used, hu]
  show cs.getD j 0 * p.getD j 0 + 0 = _
  rw [e]
  omega
/-- freed, then two bounds: a column set to another one -/
theorem asg_other {n k j : Nat} {flo fhi lo hi : Int} {Ps : List (List Int)} {cs : List Int} (f : Full n Ps) (hk : k < n) (hj : j < n) (kj : k ≠ j) (hv : ∀ p : List Int, val cs p = p.getD j 0) :
    ∃ Q1 Q2, chB freeF (n + 1) (k + 1) lo hi (hull n Ps) = hull n Q1 ∧ bndB (n + 1) (k + 1) (j + 1) fhi (hull n Q1) = hull n Q2 ∧ bndB (n + 1) (j + 1) (k + 1) (-flo) (hull n Q2) = hull n (asgL k (aE cs flo lo) (bE cs fhi hi) Ps) := by
  have h1 := full_free (lo := lo) (hi := hi) (Qs := asgL k (fun _ => lo) (fun _ => hi) Ps) f hk fun q => mem_asg
  have h2 := bound_points (Qs := (asgL k (fun _ => lo) (fun _ => hi) Ps).filter fun q => decide (dif (k + 1) (j + 1) q ≤ fhi)) (i := k + 1) (j := j + 1) (c := fhi) h1.2 (by omega) (by omega) fun q => by
    rw [List.mem_filter, decide_eq_true_eq]
  have h3 := bound_points (Qs := ((asgL k (fun _ => lo) (fun _ => hi) Ps).filter fun q => decide (dif (k + 1) (j + 1) q ≤ fhi)).filter fun q => decide (dif (j + 1) (k + 1) q ≤ -flo)) (i := j + 1) (j := k + 1) (c := -flo) h2.2 (by omega) (by omega) fun q => by
    rw [List.mem_filter, decide_eq_true_eq]
  refine ⟨_, _, h1.1, h2.1, h3.1.trans (hull_congr fun q => ?_)⟩
  rw [List.mem_filter, List.mem_filter, decide_eq_true_eq, decide_eq_true_eq, mem_asg, mem_asg]
  have sk : ∀ (r : List Int) (v : Int), r.length = n → (r.set k v).getD k 0 = v := fun r v l => by
    rw [List.getD_eq_getElem?_getD, List.getElem?_set_self (by omega)]
    rfl
  have sj : ∀ (r : List Int) (v : Int), (r.set k v).getD j 0 = r.getD j 0 := fun r v => by
    rw [List.getD_eq_getElem?_getD, List.getElem?_set_ne kj, ← List.getD_eq_getElem?_getD]
  have d1 : ∀ (r : List Int) (v : Int), r.length = n → dif (k + 1) (j + 1) (r.set k v) = v - r.getD j 0 := fun r v l => by
    show (r.set k v).getD k 0 - (r.set k v).getD j 0 = _
    rw [sk r v l, sj]
  have d2 : ∀ (r : List Int) (v : Int), r.length = n → dif (j + 1) (k + 1) (r.set k v) = r.getD j 0 - v := fun r v l => by
    show (r.set k v).getD j 0 - (r.set k v).getD k 0 = _
    rw [sk r v l, sj]
  constructor
  · rintro ⟨⟨⟨r, hr, v, v1, v2, rfl⟩, g1⟩, g2⟩
    rw [d1 r v (f.len r hr)] at g1
    rw [d2 r v (f.len r hr)] at g2
    refine ⟨r, hr, v, ?_, ?_, rfl⟩
    · unfold aE
      rw [hv]
      omega
    · unfold bE
      rw [hv]
      omega
  · rintro ⟨r, hr, v, v1, v2, rfl⟩
    unfold aE at v1
    unfold bE at v2
    rw [hv] at v1 v2
    refine ⟨⟨⟨r, hr, v, by omega, by omega, rfl⟩, ?_⟩, ?_⟩
    · rw [d1 r v (f.len r hr)]
      omega
    · rw [d2 r v (f.len r hr)]
      omega
/-- shifted, then two bounds -/
theorem asg_self {n k : Nat} {flo fhi lo hi : Int} {Ps : List (List Int)} {cs : List Int} (f : Full n Ps) (hk : k < n) (hv : ∀ p : List Int, val cs p = p.getD k 0) :
    ∃ Q1 Q2, chB shiftF (n + 1) (k + 1) flo fhi (hull n Ps) = hull n Q1 ∧ bndB (n + 1) (k + 1) 0 hi (hull n Q1) = hull n Q2 ∧ bndB (n + 1) 0 (k + 1) (-lo) (hull n Q2) = hull n (asgL k (aE cs flo lo) (bE cs fhi hi) Ps) := by
  have h1 := full_shift (lo := flo) (hi := fhi) (Qs := asgL k (fun r => r.getD k 0 + flo) (fun r => r.getD k 0 + fhi) Ps) f hk fun q => by
    rw [mem_asg]
    constructor
    · rintro ⟨r, hr, v, v1, v2, e⟩
      exact ⟨r, hr, v - r.getD k 0, by omega, by omega, by rw [e]; congr 1; omega⟩
    · rintro ⟨r, hr, v, v1, v2, e⟩
      exact ⟨r, hr, r.getD k 0 + v, by omega, by omega, e⟩
  have h2 := bound_points (Qs := (asgL k (fun r => r.getD k 0 + flo) (fun r => r.getD k 0 + fhi) Ps).filter fun q => decide (dif (k + 1) 0 q ≤ hi)) (i := k + 1) (j := 0) (c := hi) h1.2 (by omega) (by omega) fun q => by
    rw [List.mem_filter, decide_eq_true_eq]
  have h3 := bound_points (Qs := ((asgL k (fun r => r.getD k 0 + flo) (fun r => r.getD k 0 + fhi) Ps).filter fun q => decide (dif (k + 1) 0 q ≤ hi)).filter fun q => decide (dif 0 (k + 1) q ≤ -lo)) (i := 0) (j := k + 1) (c := -lo) h2.2 (by omega) (by omega) fun q => by
    rw [List.mem_filter, decide_eq_true_eq]
  refine ⟨_, _, h1.1, h2.1, h3.1.trans (hull_congr fun q => ?_)⟩
  rw [List.mem_filter, List.mem_filter, decide_eq_true_eq, decide_eq_true_eq, mem_asg, mem_asg]
  have sk : ∀ (r : List Int) (v : Int), r.length = n → (r.set k v).getD k 0 = v := fun r v l => by
    rw [List.getD_eq_getElem?_getD, List.getElem?_set_self (by omega)]
    rfl
  have d1 : ∀ (r : List Int) (v : Int), r.length = n → dif (k + 1) 0 (r.set k v) = v := fun r v l => by
    show (r.set k v).getD k 0 - 0 = _
    rw [sk r v l]
    omega
  have d2 : ∀ (r : List Int) (v : Int), r.length = n → dif 0 (k + 1) (r.set k v) = -v := fun r v l => by
    show 0 - (r.set k v).getD k 0 = _
    rw [sk r v l]
    omega
  constructor
  · rintro ⟨⟨⟨r, hr, v, v1, v2, rfl⟩, g1⟩, g2⟩
    rw [d1 r v (f.len r hr)] at g1
    rw [d2 r v (f.len r hr)] at g2
    refine ⟨r, hr, v, ?_, ?_, rfl⟩
    · unfold aE
      rw [hv]
      omega
    · unfold bE
      rw [hv]
      omega
  · rintro ⟨r, hr, v, v1, v2, rfl⟩
    unfold aE at v1
    unfold bE at v2
    rw [hv] at v1 v2
    refine ⟨⟨⟨r, hr, v, by omega, by omega, rfl⟩, ?_⟩, ?_⟩
    · rw [d1 r v (f.len r hr)]
      omega
    · rw [d2 r v (f.len r hr)]
      omega
theorem hcl {n : Nat} {Qs : List (List Int)} : ∀ M, hull n Qs = some M → Clo (n + 1) (getM M) := fun M e => by
  by_cases ne : Qs = []
  · rw [ne] at e
    cases e
  · rw [hull_some ne] at e
    cases e
    exact hull_clo ne
theorem mx2 {a b : Int} : (if b > a then b else a) = max a b := by split <;> omega
theorem mn2 {a b : Int} : (if b < a then b else a) = min a b := by split <;> omega
/-- freed within told ends -/
theorem asg_free {k : Nat} {flo fhi lo hi : Int} {Ps : List (List Int)} {cs : List Int} (f : Full cs.length Ps) (hk : k < cs.length) (nn : numL cs ≠ [1]) :
    chB freeF (cs.length + 1) (k + 1) (max (lowF cs flo Ps) lo) (min (highF cs fhi Ps) hi) (hull cs.length Ps) = hull cs.length (asgR k cs flo fhi lo hi Ps) := by
  refine (full_free f hk fun q => ?_).1
  unfold asgR
  by_cases ex : Ex cs
  · rw [if_pos ex]
    have e0 : usedZ cs = [] := num_used.mp (ex.elim id fun z => absurd z nn)
    have nd : ¬ IsD cs := fun d => by
      obtain ⟨a, b, e, _⟩ := isD_used d
      rw [e0] at e
      cases e
    have eL : lowF cs flo Ps = flo := by
      unfold lowF spanLo
      rw [if_neg nd, e0]
      exact Int.add_zero _
    have eH : highF cs fhi Ps = fhi := by
      unfold highF spanHi
      rw [if_neg nd, e0]
      exact Int.add_zero _
    rw [mem_asg, eL, eH]
    refine exists_congr fun r => and_congr Iff.rfl (exists_congr fun v => ?_)
    unfold aE bE
    rw [val_none e0, Int.zero_add, Int.zero_add]
  · rw [if_neg ex, mem_asg]
/-! ### a column set: the program -/
def spAssign (K : PySem.W.Frag) : Sp := fun vs H Q _ => ∃ (v : V) (f : Addr) (k : Nat) (cs : List Int) (flo fhi lo hi : Int) (Ps : List (List Int)), vs = [v, .int ((k + 1 : Nat) : Int), .ref f, .int lo, .int hi] ∧ FormAt K H f cs flo fhi ∧ Cf cs ∧ cs.length ≤ 60 ∧ k < cs.length ∧ BoxAt K H v (hull cs.length Ps) ∧ Full cs.length Ps ∧
  ∀ v' H', Same H H' → BoxAt K H' v' (hull cs.length (asgR k cs flo fhi lo hi Ps)) → Q v' H'
theorem asgR_nil {k : Nat} {cs : List Int} {flo fhi lo hi : Int} : asgR k cs flo fhi lo hi [] = [] := by
  unfold asgR
  split <;> rfl
theorem num_coef {cs : List Int} {j : Nat} (h : usedZ cs = [j]) : numL cs = [cs.getD j 0] := by
  unfold numL
  rw [h]
  rfl
section
variable {P : Program} {w : World} {K : PySem.W.Frag} {mg : Str → Option Value} {base : Heap}
theorem ok_assign (T : Txt w K mg) : FnOk P w K mg base CX0 4 T.a_assign T.d_assign p_assign (spAssign K) := by
  have g_used_columns := ok_used_columns (P := P) (w := w) (K := K) (base := base) T
  have g_range_of_form := ok_range_of_form (P := P) (w := w) (K := K) (base := base) T
  have g_free_column := ok_free_column (P := P) (w := w) (K := K) (base := base) T
  have g_shift_column := ok_shift_column (P := P) (w := w) (K := K) (base := base) T
  have g_bound := ok_bound (P := P) (w := w) (K := K) (base := base) T
  refine T.F_assign.ok sc_assign (fun vs H Q E h => ?_) (fun cdv A outer s H vs Q E hr h => ?_)
  · obtain ⟨v, f, k, cs, flo, fhi, lo, hi, Ps, rfl, _⟩ := h
    rfl
  obtain ⟨v, f, k, cs, flo, fhi, lo, hi, Ps, rfl, hF, cf, lc, hk, hB, fu, q⟩ := h
  refine ⟨_, (pss_cons (ps_if (pt_cmpR op_isN (pv 0) pe_non (nomark _)) (pss_one (ps_ret pe_non)) pss_nil)
      (pss_cons (ps_asg (pv 2) (pg_tup rfl (pgs_cons (pg_name (i := 5) sc_assign.nd rfl (Or.inl rfl)) (pgs_cons (pg_name (i := 6) sc_assign.nd rfl (Or.inl rfl)) (pgs_cons (pg_name (i := 7) sc_assign.nd rfl (Or.inl rfl)) pgs_nil)))))
      (pss_cons (ps_set (i := 8) sc_assign.nd rfl (Or.inl rfl) (pe_call g_used_columns (hr.mono (by first | decide | omega)) rfl T.m_used_columns T.F_used_columns.kp T.b_used_columns .nil pass0 (pa_cons (pv 2) pa_nil)))
      (pss_cons (ps_if (PW.pt (pw_and (pt_cmpR op_eq (pe_callB call_len_seq rfl T.z_len PySem.boot_len (pa_cons (pv 8) pa_nil)) pe_int (nomark _)) (pw_and1 (pt_cmpR op_eq (pe_ix ix_tup (pv 5) (pe_op op_sub (pe_ix ix_list (pv 8) pe_int (fun _ _ => rfl)) pe_int) (fun _ _ => rfl)) pe_int (nomark _))))) (pss_cons (ps_if (pt_cmpR op_eq (pe_ix ix_list (pv 8) pe_int (fun _ _ => rfl)) (pv 1) (nomark _)) (pss_cons (ps_set (i := 9) sc_assign.nd rfl (Or.inl rfl) (pe_call g_shift_column (hr.mono (by first | decide | omega)) rfl T.m_shift_column T.F_shift_column.kp T.b_shift_column .nil pass0 (pa_cons (pv 0) (pa_cons (pv 1) (pa_cons (pv 6) (pa_cons (pv 7) pa_nil))))))
      (pss_one (ps_ret (pe_call g_bound (hr.mono (by first | decide | omega)) rfl T.m_bound T.F_bound.kp T.b_bound .nil pass0 (pa_cons (pe_call g_bound (hr.mono (by first | decide | omega)) rfl T.m_bound T.F_bound.kp T.b_bound .nil pass0 (pa_cons (pv 9) (pa_cons (pv 1) (pa_cons pe_int (pa_cons (pv 4) pa_nil))))) (pa_cons pe_int (pa_cons (pv 1) (pa_cons (pe_un un_neg (pv 3)) pa_nil)))))))) pss_nil)
      (pss_cons (ps_set (i := 10) sc_assign.nd rfl (Or.inl rfl) (pe_call g_free_column (hr.mono (by first | decide | omega)) rfl T.m_free_column T.F_free_column.kp T.b_free_column .nil pass0 (pa_cons (pv 0) (pa_cons (pv 1) (pa_cons (pv 3) (pa_cons (pv 4) pa_nil))))))
      (pss_one (ps_ret (pe_call g_bound (hr.mono (by first | decide | omega)) rfl T.m_bound T.F_bound.kp T.b_bound .nil pass0 (pa_cons (pe_call g_bound (hr.mono (by first | decide | omega)) rfl T.m_bound T.F_bound.kp T.b_bound .nil pass0 (pa_cons (pv 10) (pa_cons (pv 1) (pa_cons (pe_ix ix_list (pv 8) pe_int (fun _ _ => rfl)) (pa_cons (pv 7) pa_nil))))) (pa_cons (pe_ix ix_list (pv 8) pe_int (fun _ _ => rfl)) (pa_cons (pv 1) (pa_cons (pe_un un_neg (pv 6)) pa_nil))))))))) pss_nil)
      (pss_cons (ps_asg (pe_call g_range_of_form (hr.mono (by first | decide | omega)) rfl T.m_range_of_form T.F_range_of_form.kp T.b_range_of_form .nil pass0 (pa_cons (pv 2) (pa_cons (pv 0) pa_nil))) (pg_tup rfl (pgs_cons (pg_name (i := 11) sc_assign.nd rfl (Or.inl rfl)) (pgs_cons (pg_name (i := 12) sc_assign.nd rfl (Or.inl rfl)) pgs_nil))))
      (pss_one (ps_ret (pe_call g_free_column (hr.mono (by first | decide | omega)) rfl T.m_free_column T.F_free_column.kp T.b_free_column .nil pass0 (pa_cons (pv 0) (pa_cons (pv 1) (pa_cons (pe_callB (call_max2 rfl) rfl T.z_max bb_max (pa_cons (pv 11) (pa_cons (pv 3) pa_nil))) (pa_cons (pe_callB (call_min2 rfl) rfl T.z_min bb_min (pa_cons (pv 12) (pa_cons (pv 4) pa_nil))) pa_nil)))))))))))), ?_⟩
  obtain ⟨c, hf, hc⟩ := id hF
  by_cases ne : Ps = []
  · subst ne
    obtain rfl : v = .non := hB
    refine ⟨_, rfl, rfl, _, rfl, ifT (by decide) ?_⟩
    refine q .non H (Same.refl _) ?_
    rw [asgR_nil]
    rfl
  have hB0 := hB
  rw [hull_some ne] at hB
  obtain ⟨p, rfl, hM⟩ := hB
  have clo : ∀ M, hull cs.length Ps = some M → Clo (cs.length + 1) (getM M) := fun M e => by rw [hull_some ne] at e; cases e; exact hull_clo ne
  refine ⟨_, rfl, rfl, _, rfl, ifF (by rw [decide_eq_false (fun z => by cases z)]) ?_⟩
  refine ⟨_, rfl, f, _, rfl, hf, rfl, _, _, rfl, _, _, rfl, _, _, rfl, rfl, ?_⟩
  refine ⟨_, rfl, f, cs, flo, fhi, rfl, hF, by omega, fun u H2 s2 hu => ?_⟩
  refine ⟨_, rfl, u, _, rfl, .inl (SqL.of hu), rfl, _, rfl, ite2 (fun h1 => ?_) (fun h1 => ifF rfl ?C)⟩
  · have l1 : (usedZ cs).length = 1 := by
      have := V.int.inj (of_decide_eq_true h1)
      rw [natsU_len] at this
      omega
    obtain ⟨j, eU⟩ : ∃ j, usedZ cs = [j] := by
      match hu : usedZ cs, l1 with
      | [j], _ => exact ⟨j, rfl⟩
    have mj := mem_usedZ.mp (show j ∈ usedZ cs by rw [eU]; simp)
    have eN : natsV (usedN cs) = [.int ((j + 1 : Nat) : Int)] := by
      unfold natsV usedN
      rw [eU]
      rfl
    have hu' := hu
    rw [eN] at hu'
    refine ⟨_, rfl, _, rfl, u, _, _, _, rfl, rfl, SqL.of hu', rfl, _, _, rfl, rfl, c, _, _, _, rfl, rfl, Same.tup s2 hc, coef_at mj.1, rfl, _, rfl, ite2 (fun h2 => ?A) (fun h2 => ?B)⟩
    case A =>
      have e1 : cs.getD j 0 = 1 := V.int.inj (of_decide_eq_true h2)
      have hn : numL cs = [1] := by rw [num_coef eU, e1]
      obtain ⟨j', eU', _, _, hv⟩ := one_used hn
      obtain rfl : j' = j := by
        rw [eU] at eU'
        exact (List.cons.inj eU').1.symm
      have eR : asgR k cs flo fhi lo hi Ps = asgL k (aE cs flo lo) (bE cs fhi hi) Ps := if_pos (.inr hn)
      rw [eR] at q
      refine ⟨_, rfl, u, _, _, _, rfl, rfl, SqL.of hu', rfl, _, rfl, rfl, _, rfl, ite2 (fun h3 => ?_) (fun h3 => ?_)⟩
      · have ej : j' = k := by
          have := V.int.inj (of_decide_eq_true h3)
          omega
        subst ej
        obtain ⟨Q1, Q2, z1, z2, z3⟩ := asg_self (flo := flo) (fhi := fhi) (lo := lo) (hi := hi) fu hk hv
        refine ⟨_, rfl, _, rfl, _, rfl, _, rfl, .ref p, hull cs.length Ps, j' + 1, cs.length + 1, flo, fhi, rfl, hB0.same s2, hull_sz _ _, by omega, by omega, fun v3 H3 s3 b3 => ?_⟩
        rw [z1] at b3
        refine ⟨_, rfl, _, rfl, _, rfl, v3, hull cs.length Q1, cs.length + 1, j' + 1, 0, hi, rfl, b3, hull_sz _ _, hcl, by omega, by omega, by omega, fun v4 H4 s4 b4 => ?_⟩
        rw [z2] at b4
        refine ⟨_, rfl, _, rfl, _, rfl, v4, hull cs.length Q2, cs.length + 1, 0, j' + 1, -lo, rfl, b4, hull_sz _ _, hcl, by omega, by omega, by omega, fun v5 H5 s5 b5 => ?_⟩
        rw [z3] at b5
        exact q v5 H5 (((s2.trans s3).trans s4).trans s5) b5
      · have ej : k ≠ j' := fun z => h3 (decide_eq_true (by rw [z]))
        obtain ⟨Q1, Q2, z1, z2, z3⟩ := asg_other (flo := flo) (fhi := fhi) (lo := lo) (hi := hi) fu hk mj.1 ej hv
        refine ⟨_, rfl, _, rfl, _, rfl, _, rfl, .ref p, hull cs.length Ps, k + 1, cs.length + 1, lo, hi, rfl, hB0.same s2, hull_sz _ _, by omega, by omega, fun v3 H3 s3 b3 => ?_⟩
        rw [z1] at b3
        have hu3 := s3 _ _ hu'
        refine ⟨_, rfl, _, rfl, _, rfl, u, _, _, _, rfl, rfl, SqL.of hu3, rfl, _, rfl, v3, hull cs.length Q1, cs.length + 1, k + 1, j' + 1, fhi, rfl, b3, hull_sz _ _, hcl, by omega, by omega, by omega, fun v4 H4 s4 b4 => ?_⟩
        rw [z2] at b4
        have hu4 := s4 _ _ hu3
        refine ⟨_, rfl, u, _, _, _, rfl, rfl, SqL.of hu4, rfl, _, rfl, _, rfl, _, rfl, v4, hull cs.length Q2, cs.length + 1, j' + 1, k + 1, -flo, rfl, b4, hull_sz _ _, hcl, by omega, by omega, by omega, fun v5 H5 s5 b5 => ?_⟩
        rw [z3] at b5
        exact q v5 H5 (((s2.trans s3).trans s4).trans s5) b5
    case B =>
      have nn : numL cs ≠ [1] := fun z => by
        rw [num_coef eU] at z
        exact h2 (decide_eq_true (congrArg V.int (List.cons.inj z).1))
      refine ⟨_, rfl, _, rfl, f, p, hullM cs.length Ps, cs, flo, fhi, rfl, hF.same s2, cf, lc, hM.same s2, hullM_sz _ _, fun t G2 L U s4 ht r => ?_⟩
      obtain ⟨rfl, rfl⟩ := rng_is ne r
      refine ⟨t, _, rfl, SqT.of ht, rfl, _, _, rfl, _, _, rfl, rfl, ?_⟩
      refine ⟨_, rfl, _, rfl, _, rfl, _, rfl, _, _, rfl, _, rfl, _, rfl, _, _, rfl, .ref p, hull cs.length Ps, k + 1, cs.length + 1, _, _, rfl, hB0.same (s2.trans s4), hull_sz _ _, by omega, by omega, fun v3 H3 s3 b3 => ?_⟩
      rw [mx2, mn2, asg_free fu hk nn] at b3
      exact q v3 H3 ((s2.trans s4).trans s3) b3
  case C =>
    have nn : numL cs ≠ [1] := fun z => by
      have l := congrArg List.length z
      unfold numL at l
      rw [List.length_map] at l
      exact h1 (by rw [natsU_len, l]; rfl)
    refine ⟨_, rfl, _, rfl, f, p, hullM cs.length Ps, cs, flo, fhi, rfl, hF.same s2, cf, lc, hM.same s2, hullM_sz _ _, fun t G2 L U s4 ht r => ?_⟩
    obtain ⟨rfl, rfl⟩ := rng_is ne r
    refine ⟨t, _, rfl, SqT.of ht, rfl, _, _, rfl, _, _, rfl, rfl, ?_⟩
    refine ⟨_, rfl, _, rfl, _, rfl, _, rfl, _, _, rfl, _, rfl, _, rfl, _, _, rfl, .ref p, hull cs.length Ps, k + 1, cs.length + 1, _, _, rfl, hB0.same (s2.trans s4), hull_sz _ _, by omega, by omega, fun v3 H3 s3 b3 => ?_⟩
    rw [mx2, mn2, asg_free fu hk nn] at b3
    exact q v3 H3 ((s2.trans s4).trans s3) b3
end
/-! ### slices of tuples, tracked -/
theorem slT_loT {K : PySem.W.Frag} {H : Hp} {a : Addr} {r : List Int} {c : Int} {Q : VK} (k : Nat) (ec : c = (k : Int)) (h : SqT K H a (r.map V.int)) (h0 : 0 < k) (hk : k ≤ r.length) (q : ∀ p H', Same H H' → H' p = some (.tup ((r.drop k).map V.int)) → Q (.ref p) H') : rSlT K (.ref a) (some c) none H Q := by
  subst ec
  have ec : cutV (r.map V.int) (some (k : Int)) none = (r.drop k).map V.int := by
    rw [cut_lo (by omega) (by rw [List.length_map]; omega), List.map_drop, Int.toNat_natCast]
  refine ⟨a, _, rfl, h, ?_, fun p hp => ?_⟩
  · rintro ⟨z, _⟩
    have e1 : HT.sIx (r.map V.int).length 0 (some (k : Int)) = min k (r.map V.int).length := HT.sIx_nat _ _ k
    rw [e1, List.length_map] at z
    omega
  · refine q p _ (Same.new hp _) ?_
    rw [← ec]
    exact upd_same
theorem slT_hiT {K : PySem.W.Frag} {H : Hp} {a : Addr} {r : List Int} {c : Int} {Q : VK} (k : Nat) (ec : c = (k : Int)) (h : SqT K H a (r.map V.int)) (hk : k < r.length) (q : ∀ p H', Same H H' → H' p = some (.tup ((r.take k).map V.int)) → Q (.ref p) H') : rSlT K (.ref a) none (some c) H Q := by
  subst ec
  have ec : cutV (r.map V.int) none (some (k : Int)) = (r.take k).map V.int := by
    rw [cut_hi (by omega) (by rw [List.length_map]; omega), List.map_take, Int.toNat_natCast]
  refine ⟨a, _, rfl, h, ?_, fun p hp => ?_⟩
  · rintro ⟨_, z⟩
    have e1 : HT.sIx (r.map V.int).length (r.map V.int).length (some (k : Int)) = min k (r.map V.int).length := HT.sIx_nat _ _ k
    rw [e1, List.length_map] at z
    omega
  · refine q p _ (Same.new hp _) ?_
    rw [← ec]
    exact upd_same
theorem put_tup {r : List Int} {k : Nat} {c : Int} (hk : k < r.length) : r.take k ++ [c] ++ r.drop (k + 1) = r.set k c := by
  rw [List.set_eq_take_append_cons_drop, if_pos hk, List.append_assoc]
  rfl
/-! ### the spread of a form over points -/
def oV : Option Int → V
  | none => .non
  | some x => .int x
def geB (cs : List Int) (lo : Int) : Option Int → List Int → Bool
  | none, _ => true
  | some x, r => decide (val cs r + lo ≤ x)
def leB (cs : List Int) (hi : Int) : Option Int → List Int → Bool
  | none, _ => true
  | some x, r => decide (x ≤ val cs r + hi)
def letB (cs : List Int) (lo hi : Int) (l g : Option Int) (r : List Int) : Bool := geB cs lo g r && leB cs hi l r
/-- the least and the greatest of what one column less another is -/
def DMM (cs : List Int) (lo hi : Int) (Ps : List (List Int)) (L G : Int) : Prop := ((∃ p ∈ Ps, L = lo + val cs p) ∧ ∀ p ∈ Ps, L ≤ lo + val cs p) ∧ ((∃ p ∈ Ps, G = hi + val cs p) ∧ ∀ p ∈ Ps, hi + val cs p ≤ G)
theorem val_D {cs : List Int} (d : IsD cs) {k1 k2 : Nat} (m1 : k1 ∈ usedZ cs) (m2 : k2 ∈ usedZ cs) (c1 : cs.getD k1 0 = 1) (c2 : cs.getD k2 0 = -1) (p : List Int) : val cs p = p.getD k1 0 - p.getD k2 0 := by
  obtain ⟨a, b, e, la, lb, nab, alt⟩ := isD_used d
  rw [e] at m1 m2
  simp only [List.mem_cons, List.not_mem_nil, or_false] at m1 m2
  rcases alt with ⟨e1, e2⟩ | ⟨e1, e2⟩
  · have h1 : k1 = a := by
      rcases m1 with h | h
      · exact h
      · rw [h] at c1; omega
    have h2 : k2 = b := by
      rcases m2 with h | h
      · rw [h] at c2; omega
      · exact h
    subst h1
    subst h2
    have := (diffAt_of e la lb e1 e2).1.2.2.2.2 p
    exact this
  · have h1 : k1 = b := by
      rcases m1 with h | h
      · rw [h] at c1; omega
      · exact h
    have h2 : k2 = a := by
      rcases m2 with h | h
      · exact h
      · rw [h] at c2; omega
    subst h1
    subst h2
    have := (diffAt_of' e la lb e1 e2).2.2.2.2 p
    exact this
def spSpread (K : PySem.W.Frag) : Sp := fun vs H Q _ => ∃ (f p : Addr) (cs : List Int) (lo hi : Int) (Ps : List (List Int)), vs = [.ref f, .ref p] ∧ FormAt K H f cs lo hi ∧ Cf cs ∧ cs.length ≤ 20 ∧ TPts H p Ps ∧ Ps ≠ [] ∧ Ps.length ≤ 125 ∧ (∀ r ∈ Ps, r.length = cs.length) ∧
  ∀ t H' L G, Same H H' → H' t = some (.tup [.int L, .int G]) → (¬ IsD cs → L = spanLo (hullM cs.length Ps) cs lo ∧ G = spanHi (hullM cs.length Ps) cs hi) → (IsD cs → DMM cs lo hi Ps L G) → Q (.ref t) H'
def spLets (K : PySem.W.Frag) : Sp := fun vs H Q _ => ∃ (f t : Addr) (cs : List Int) (lo hi : Int) (l g : Option Int) (r : List Int), vs = [.ref f, .ref t, oV l, oV g] ∧ FormAt K H f cs lo hi ∧ Cf cs ∧ cs.length ≤ 20 ∧ SqT K H t (r.map V.int) ∧ r.length = cs.length ∧
  ∀ H', Same H H' → Q (.bl (letB cs lo hi l g r)) H'
theorem isD_ends {cs : List Int} : IsD cs ↔ numL cs = [1, -1] ∨ numL cs = [-1, 1] := by
  constructor
  · intro h
    obtain ⟨a, b, e, _, _, _, alt⟩ := isD_used h
    unfold numL
    rw [e]
    rcases alt with ⟨e1, e2⟩ | ⟨e1, e2⟩
    · left
      show [cs.getD a 0, cs.getD b 0] = _
      rw [e1, e2]
    · right
      show [cs.getD a 0, cs.getD b 0] = _
      rw [e1, e2]
  · rintro (h | h)
    · unfold IsD
      rw [h]
      exact List.Perm.swap _ _ _
    · unfold IsD
      rw [h]
theorem tmin_is {n k : Nat} {c m : Int} {Ps : List (List Int)} (ne : Ps ≠ []) (hk : k < n) (h1 : m ∈ Ps.map fun r => c * r.getD k 0) (h2 : ∀ y ∈ Ps.map (fun r => c * r.getD k 0), m ≤ y) : m = tmin (hullM n Ps) c k := by
  obtain ⟨r1, hr1, e1⟩ := hull_at (n := n) (Ps := Ps) ne (show 0 < n + 1 by omega) (show k + 1 < n + 1 by omega)
  obtain ⟨r2, hr2, e2⟩ := hull_at (n := n) (Ps := Ps) ne (show k + 1 < n + 1 by omega) (show 0 < n + 1 by omega)
  have e1' : 0 - r1.getD k 0 = getM (hullM n Ps) 0 (k + 1) := e1
  have e2' : r2.getD k 0 - 0 = getM (hullM n Ps) (k + 1) 0 := e2
  have g1 := h2 _ (List.mem_map.mpr ⟨r1, hr1, rfl⟩)
  have g2 := h2 _ (List.mem_map.mpr ⟨r2, hr2, rfl⟩)
  obtain ⟨r, hr, e⟩ := List.mem_map.mp h1
  have d1 : dif 0 (k + 1) r ≤ getM (hullM n Ps) 0 (k + 1) := hull_le (by omega) (by omega) hr
  have d2 : dif (k + 1) 0 r ≤ getM (hullM n Ps) (k + 1) 0 := hull_le (by omega) (by omega) hr
  have d1' : 0 - r.getD k 0 ≤ getM (hullM n Ps) 0 (k + 1) := d1
  have d2' : r.getD k 0 - 0 ≤ getM (hullM n Ps) (k + 1) 0 := d2
  unfold tmin
  rw [show -(getM (hullM n Ps) 0 (k + 1)) = r1.getD k 0 by omega, show getM (hullM n Ps) (k + 1) 0 = r2.getD k 0 by omega]
  by_cases c0 : 0 ≤ c
  · have := Int.mul_le_mul_of_nonneg_left (show r1.getD k 0 ≤ r.getD k 0 by omega) c0
    omega
  · have := Int.mul_le_mul_of_nonpos_left (show c ≤ 0 by omega) (show r.getD k 0 ≤ r2.getD k 0 by omega)
    omega
theorem tmax_is {n k : Nat} {c m : Int} {Ps : List (List Int)} (ne : Ps ≠ []) (hk : k < n) (h1 : m ∈ Ps.map fun r => c * r.getD k 0) (h2 : ∀ y ∈ Ps.map (fun r => c * r.getD k 0), y ≤ m) : m = tmax (hullM n Ps) c k := by
  obtain ⟨r1, hr1, e1⟩ := hull_at (n := n) (Ps := Ps) ne (show 0 < n + 1 by omega) (show k + 1 < n + 1 by omega)
  obtain ⟨r2, hr2, e2⟩ := hull_at (n := n) (Ps := Ps) ne (show k + 1 < n + 1 by omega) (show 0 < n + 1 by omega)
  have e1' : 0 - r1.getD k 0 = getM (hullM n Ps) 0 (k + 1) := e1
  have e2' : r2.getD k 0 - 0 = getM (hullM n Ps) (k + 1) 0 := e2
  have g1 := h2 _ (List.mem_map.mpr ⟨r1, hr1, rfl⟩)
  have g2 := h2 _ (List.mem_map.mpr ⟨r2, hr2, rfl⟩)
  obtain ⟨r, hr, e⟩ := List.mem_map.mp h1
  have d1 : dif 0 (k + 1) r ≤ getM (hullM n Ps) 0 (k + 1) := hull_le (by omega) (by omega) hr
  have d2 : dif (k + 1) 0 r ≤ getM (hullM n Ps) (k + 1) 0 := hull_le (by omega) (by omega) hr
  have d1' : 0 - r.getD k 0 ≤ getM (hullM n Ps) 0 (k + 1) := d1
  have d2' : r.getD k 0 - 0 ≤ getM (hullM n Ps) (k + 1) 0 := d2
  unfold tmax
  rw [show -(getM (hullM n Ps) 0 (k + 1)) = r1.getD k 0 by omega, show getM (hullM n Ps) (k + 1) 0 = r2.getD k 0 by omega]
  by_cases c0 : 0 ≤ c
  · have := Int.mul_le_mul_of_nonneg_left (show r.getD k 0 ≤ r2.getD k 0 by omega) c0
    omega
  · have := Int.mul_le_mul_of_nonpos_left (show c ≤ 0 by omega) (show r1.getD k 0 ≤ r.getD k 0 by omega)
    omega
theorem flatI (xs : List Int) : (xs.map V.int).all flatV = true := by
  induction xs with
  | nil => rfl
  | cons x xs ih => rw [List.map_cons, List.all_cons, ih]; rfl
theorem coef0 {cs : List Int} {k : Nat} (h : k < cs.length) : atI (cs.map V.int) (k : Int) = some (.int (cs.getD k 0)) := atI_nat (map_get (by rw [List.getD_eq_getElem?_getD, List.getElem?_eq_getElem h]; rfl))
section
variable {P : Program} {w : World} {K : PySem.W.Frag} {mg : Str → Option Value} {base : Heap}
theorem ok_l_spread (T : Txt w K mg) : FnOk P w K mg base CX0 1 T.a_l_spread T.d_l_spread p_l_spread (spSpread K) := by
  refine T.F_l_spread.ok sc_l_spread (fun vs H Q E h => ?_) (fun cdv A outer s H vs Q E hr h => ?_)
  · obtain ⟨f, p, cs, lo, hi, Ps, rfl, _⟩ := h
    rfl
  obtain ⟨f, p, cs, lo, hi, Ps, rfl, ⟨c, hf, hc⟩, cf, lc, tP, ne, lP, lr, q⟩ := h
  refine ⟨_, (pss_cons (ps_setLc (i := 2) (own := [("_law_k", 3)]) (g := gName 3) rfl sc_l_spread.nd rfl rfl (sw_true rfl rfl rfl (by decide +kernel)) (pi_range1 rfl T.z_range (pa_cons (pe_callB call_len_seq rfl T.z_len PySem.boot_len (pa_cons (pe_ix ix_tup (pv 0) pe_int (fun _ _ => rfl)) pa_nil)) pa_nil)) (blkOk_by (own := [("_law_k", 3)]) (N := n_l_spread) (sc := defScope s_l_spread) (by decide +kernel)) (fun _ _ _ _ _ => (pg_name (i := 3) sc_l_spread.nd rfl (Or.inl rfl))) (fun _ _ _ _ _ => (pts_one (pt_cmpR op_ne (pe_ix (show IxR _ (rIxT K) from ix_tup) (pe_ix (show IxR _ (rIxT K) from ix_tup) (pv 0) pe_int (fun _ _ => rfl)) (pv 3) (fun _ _ => rfl)) pe_int (nomark _)))) (fun _ _ _ _ _ => (pv 3)))
      (pss_cons (ps_setLc (i := 4) (own := [("_law_k", 3)]) (g := gName 3) (tt := tYes) rfl sc_l_spread.nd rfl rfl (sw_true rfl rfl rfl (by decide +kernel)) (pi_list (pv 2)) (blkOk_by (own := [("_law_k", 3)]) (N := n_l_spread) (sc := defScope s_l_spread) (by decide +kernel)) (fun _ _ _ _ _ => (pg_name (i := 3) sc_l_spread.nd rfl (Or.inl rfl))) (fun _ _ _ _ _ => pts_nil) (fun _ _ _ _ _ => (pe_ix (show IxR _ (rIxT K) from ix_tup) (pe_ix (show IxR _ (rIxT K) from ix_tup) (pv 0) pe_int (fun _ _ => rfl)) (pv 3) (fun _ _ => rfl))))
      (pss_cons (ps_if (PW.pt (pw_or (pt_cmpR (op_eqD hr.units) (pv 4) (pe_lst (pa_cons pe_int (pa_cons (pe_un un_neg pe_int) pa_nil))) (nomark _)) (pw_or1 (pt_cmpR (op_eqD hr.units) (pv 4) (pe_lst (pa_cons (pe_un un_neg pe_int) (pa_cons pe_int pa_nil))) (nomark _))))) (pss_cons (ps_set (i := 5) sc_l_spread.nd rfl (Or.inr rfl) (pe_ix ix_list (pv 2) (pe_bm PySem.F.plainAttrs_list PySem.F.slot_list_index PySem.F.type_list_index mt_index (pv 4) (pa_cons pe_int pa_nil)) (fun _ _ => rfl)))
      (pss_cons (ps_set (i := 6) sc_l_spread.nd rfl (Or.inr rfl) (pe_ix ix_list (pv 2) (pe_bm PySem.F.plainAttrs_list PySem.F.slot_list_index PySem.F.type_list_index mt_index (pv 4) (pa_cons (pe_un un_neg pe_int) pa_nil)) (fun _ _ => rfl)))
      (pss_cons (ps_setLc (i := 7) (own := [("_law_point", 8)]) (g := gName 8) (tt := tYes) rfl sc_l_spread.nd rfl rfl (sw_true rfl rfl rfl (by decide +kernel)) (pi_list (pv 1)) (blkOk_by (own := [("_law_point", 8)]) (N := n_l_spread) (sc := defScope s_l_spread) (by decide +kernel)) (fun _ _ _ _ _ => (pg_name (i := 8) sc_l_spread.nd rfl (Or.inl rfl))) (fun _ _ _ _ _ => pts_nil) (fun _ _ _ _ _ => (pe_op op_sub (pe_ix (show IxR _ (rIxT K) from ix_tup) (pv 8) (pv 5) (fun _ _ => rfl)) (pe_ix (show IxR _ (rIxT K) from ix_tup) (pv 8) (pv 6) (fun _ _ => rfl)))))
      (pss_one (ps_ret (pe_tup (pa_cons (pe_op op_add (pe_ix ix_tup (pv 0) pe_int (fun _ _ => rfl)) (pe_callB (cr_min rfl) rfl T.z_min bb_min (pa_cons (pv 7) pa_nil))) (pa_cons (pe_op op_add (pe_ix ix_tup (pv 0) pe_int (fun _ _ => rfl)) (pe_callB (cr_max rfl) rfl T.z_max bb_max (pa_cons (pv 7) pa_nil))) pa_nil)))))))) pss_nil)
      (pss_cons (ps_set (i := 9) sc_l_spread.nd rfl (Or.inl rfl) (pe_ix ix_tup (pv 0) pe_int (fun _ _ => rfl)))
      (pss_cons (ps_set (i := 10) sc_l_spread.nd rfl (Or.inl rfl) (pe_ix ix_tup (pv 0) pe_int (fun _ _ => rfl)))
      (pss_cons (ps_for PassesOwn.never rfl (pi_list (pv 2)) (pg_name (i := 3) sc_l_spread.nd rfl (Or.inr rfl))
        (pss_cons (ps_setLc (i := 7) (own := [("_law_point", 8)]) (g := gName 8) (tt := tYes) rfl sc_l_spread.nd rfl rfl (sw_true rfl rfl rfl (by decide +kernel)) (pi_list (pv 1)) (blkOk_by (own := [("_law_point", 8)]) (N := n_l_spread) (sc := defScope s_l_spread) (by decide +kernel)) (fun _ _ _ _ _ => (pg_name (i := 8) sc_l_spread.nd rfl (Or.inl rfl))) (fun _ _ _ _ _ => pts_nil) (fun _ _ _ _ _ => (pe_op op_mul (pe_ix (show IxR _ (rIxT K) from ix_tup) (pe_ix (show IxR _ (rIxT K) from ix_tup) (pv 0) pe_int (fun _ _ => rfl)) (pv 3) (fun _ _ => rfl)) (pe_ix (show IxR _ (rIxT K) from ix_tup) (pv 8) (pv 3) (fun _ _ => rfl)))))
      (pss_cons (ps_set (i := 9) sc_l_spread.nd rfl (Or.inl rfl) (pe_op op_add (pv 9) (pe_callB (cr_min rfl) rfl T.z_min bb_min (pa_cons (pv 7) pa_nil))))
      (pss_one (ps_set (i := 10) sc_l_spread.nd rfl (Or.inl rfl) (pe_op op_add (pv 10) (pe_callB (cr_max rfl) rfl T.z_max bb_max (pa_cons (pv 7) pa_nil))))))))
      (pss_one (ps_ret (pe_tup (pa_cons (pv 9) (pa_cons (pv 10) pa_nil))))))))))), ?_⟩
  obtain ⟨as, eP, hA⟩ := id tP
  refine ⟨_, rfl, f, _, _, _, rfl, rfl, hf, rfl, c, _, rfl, .inr hc, _, rfl, by omega, by rw [List.length_map]; omega, fun D hD => ?_⟩
  refine lc_it walk_range (fun i G => Same H G ∧ G D = some (.lst (natsV (usedTo cs i)))) ⟨Same.new hD _, upd_same⟩ (fun _ _ _ _ => trivial) ?_ ?_
  · rintro i x G G' hi2 P ⟨rfl, rfl⟩
    rw [List.length_map] at hi2
    have hi3 : i < cs.length := by omega
    refine ⟨rfl, ?_⟩
    refine ⟨_, rfl, f, _, _, _, rfl, rfl, Same.tup P.1 hf, rfl, _, rfl, c, _, _, _, rfl, rfl, Same.tup P.1 hc, (by rw [Int.zero_add]; exact coef0 hi3), rfl, _, rfl, ite2 (fun h => ?_) (fun h => ?_)⟩
    · have nz : cs.getD i 0 ≠ 0 := fun z => by
        rw [z] at h
        exact absurd h (by decide)
      refine ⟨_, rfl, _, P.2, lt_line (by simp only [natsV, List.length_map]; have := usedTo_len (cs := cs) (i := i); omega), fun b o e => ?_, ?_⟩
      · rw [upd_ne (ne_of_none e hD)]
        exact P.1 _ _ e
      · rw [usedTo_yes nz]
        simp only [natsV, List.map_append, Int.zero_add]
        exact upd_same
    · have z : cs.getD i 0 = 0 := by
        by_cases z : cs.getD i 0 = 0
        · exact z
        · exact absurd (by rw [decide_eq_false (fun e => z (V.int.inj e))]; rfl) h
      rw [usedTo_no z]
      exact P
  rintro G ⟨sG, eD⟩
  rw [show (((cs.map V.int).length : Nat) : Int).toNat = cs.length by simp, usedTo_all] at eD
  have lz := usedZ_len (cs := cs)
  have lnz : (natsV (usedZ cs)).length = (usedZ cs).length := by simp [natsV]
  have getZ : ∀ {j k : Nat}, (usedZ cs)[j]? = some k → (natsV (usedZ cs))[j]? = some (.int (k : Int)) := fun e => by
    unfold natsV
    exact map_get e
  refine ⟨_, rfl, D, rfl, ⟨_, SqL.of eD⟩, fun D2 hD2 => ?_⟩
  refine lc_it (walk_list (xs := natsV (usedZ cs))) (LcP (Same G) (RInt (numL cs)) D2) (lcp_start hD2) (fun i G2 _ P => SqL.of (P.1 _ _ eD)) ?_ ?_
  · rintro j x F F' hj P ⟨rfl, ex⟩
    rw [lnz] at hj
    have ek : (usedZ cs)[j]? = some (usedZ cs)[j] := List.getElem?_eq_getElem hj
    have mk := mem_usedZ.mp (List.getElem_mem hj)
    generalize (usedZ cs)[j] = k at ek mk
    rw [getZ ek] at ex
    obtain rfl := Option.some.inj ex
    refine ⟨rfl, tyes ?_⟩
    refine ⟨_, rfl, f, _, _, _, rfl, rfl, Same.tup (sG.trans P.1) hf, rfl, _, rfl, c, _, _, _, rfl, rfl, Same.tup (sG.trans P.1) hc, coef0 mk.1, ?_⟩
    exact lcp_same P hD2 (Same.refl _) (lt_line (by omega)) RInt.mono ⟨_, map_get ek, rfl⟩
  intro F P
  have eE := lcp_ints (K := K) P (by rw [lnz]; simp [numL])
  have sF := sG.trans P.1
  have eU := P.1 _ _ eD
  have tPF := tP.same sF
  obtain ⟨_, ePF, hAF⟩ : ∃ _ : Unit, F p = some (.lst (as.map V.ref)) ∧ TA F as Ps := ⟨(), sF _ _ eP, hA.same sF⟩
  have dcase : IsD cs → ∀ v : Int, v = 1 ∨ v = -1 → ∃ j k : Nat, (numL cs)[j]? = some v ∧ (∀ (m : Nat) (z : Int), m < j → (numL cs)[m]? = some z → z ≠ v) ∧ (usedZ cs)[j]? = some k ∧ k < cs.length ∧ cs.getD k 0 = v := fun d v hv => by
    obtain ⟨a, b, e, la, lb, _, alt⟩ := isD_used d
    have en : numL cs = [cs.getD a 0, cs.getD b 0] := by
      unfold numL
      rw [e]
      rfl
    by_cases z : cs.getD a 0 = v
    · exact ⟨0, a, by rw [en, z]; rfl, fun m z h => absurd h (Nat.not_lt_zero m), by rw [e]; rfl, la, z⟩
    · refine ⟨1, b, ?_, fun m z' h e' => ?_, by rw [e]; rfl, lb, by omega⟩
      · rw [en]
        show some (cs.getD b 0) = some v
        congr 1
        omega
      · have m0 : m = 0 := by omega
        rw [m0, en] at e'
        cases e'
        exact z
  have nd : ∀ {L G : Int}, IsD cs → ¬ IsD cs → L = spanLo (hullM cs.length Ps) cs lo ∧ G = spanHi (hullM cs.length Ps) cs hi := fun d n => absurd d n
  refine ⟨_, rfl, _, rfl, (by show 2 ≤ sizeLine; decide), fun l1 hl1 => ?_⟩
  have sl1 := Same.new hl1 (.lst [.int 1, .int (-1)])
  refine eqI (ys := [1, -1]) (SqL.of (sl1 _ _ eE)) (SqL.of upd_same) ⟨_, rfl, ite2 (fun h1 => ifT rfl ?D1) (fun h1 => ?E1)⟩
  case D1 =>
      have d : IsD cs := isD_ends.mpr (.inl (of_decide_eq_true h1))
      have s2 := sl1
      obtain ⟨j1, k1, n1, m1, u1, lk1, co1⟩ := dcase d 1 (.inl rfl)
      obtain ⟨j2, k2, n2, m2, u2, lk2, co2⟩ := dcase d (-1) (.inr rfl)
      have vD := val_D d (List.mem_of_getElem? u1) (List.mem_of_getElem? u2) co1 co2
      have eE2 := s2 _ _ eE
      have eU2 := s2 _ _ eU
      have eP2 := s2 _ _ ePF
      have hA2 := hAF.same s2
      have sH2 := sF.trans s2
      refine ⟨_, rfl, _, rfl, .inl ⟨rfl, _, SqL.of eE2⟩, D2, _, .int 1, j1, .int 1, rfl, rfl, SqL.of eE2, rfl, flatI _, map_get n1, rfl, fun m z' hm e => ?_, D, _, _, _, rfl, rfl, SqL.of eU2, atI_nat (getZ u1), ?_⟩
      · obtain ⟨z, ez, rfl⟩ := get_int e
        have := m1 m z hm ez
        show (z == (1 : Int)) = false
        simpa using this
      refine ⟨_, rfl, _, rfl, .inl ⟨rfl, _, SqL.of eE2⟩, _, rfl, D2, _, .int (-1), j2, .int (-1), rfl, rfl, SqL.of eE2, rfl, flatI _, map_get n2, rfl, fun m z' hm e => ?_, D, _, _, _, rfl, rfl, SqL.of eU2, atI_nat (getZ u2), ?_⟩
      · obtain ⟨z, ez, rfl⟩ := get_int e
        have := m2 m z hm ez
        show (z == (-1 : Int)) = false
        simpa using this
      refine ⟨_, rfl, p, rfl, ⟨_, SqL.of eP2⟩, fun D3 hD3 => ?_⟩
      refine lc_it (walk_list (xs := as.map V.ref)) (LcP (Same _) (RInt (Ps.map fun r => r.getD k1 0 - r.getD k2 0)) D3) (lcp_start hD3) (fun i G2 _ P => SqL.of (P.1 _ _ eP2)) ?_ ?_
      · rintro j x F1 F' hj P3 ⟨rfl, ex⟩
        rw [List.length_map, hA2.1] at hj
        have er : Ps[j]? = some Ps[j] := List.getElem?_eq_getElem hj
        have lq := lr _ (List.getElem_mem hj)
        generalize Ps[j] = r at er lq
        have ea : as[j]? = some (as[j]'(by rw [hA2.1]; exact hj)) := List.getElem?_eq_getElem _
        generalize as[j]'(by rw [hA2.1]; exact hj) = tq at ea
        rw [map_get ea] at ex
        obtain rfl := Option.some.inj ex
        have htq := P3.1 _ _ (hA2.2 j tq r ea er)
        refine ⟨rfl, tyes ?_⟩
        refine ⟨_, rfl, _, rfl, tq, _, _, _, rfl, rfl, SqT.of htq, coef0 (by omega), _, rfl, _, rfl, tq, _, _, _, rfl, rfl, SqT.of htq, coef0 (by omega), _, _, rfl, rfl, ?_⟩
        exact lcp_same P3 hD3 (Same.refl _) (lt_line (by omega)) RInt.mono ⟨_, map_get er, rfl⟩
      · intro F3 P3
        have ei := lcp_ints (K := K) P3 (by rw [List.length_map, List.length_map, hA2.1])
        have pos : 0 < (Ps.map fun r => r.getD k1 0 - r.getD k2 0).length := by
          rw [List.length_map]
          exact List.length_pos_iff.mpr ne
        have s3 := sH2.trans P3.1
        refine ⟨_, rfl, f, _, _, _, rfl, rfl, Same.tup s3 hf, rfl, _, rfl, D3, _, rfl, SqL.of ei, pos, fun m hm hx => ⟨_, _, rfl, rfl, ?_⟩⟩
        refine ⟨_, rfl, f, _, _, _, rfl, rfl, Same.tup s3 hf, rfl, _, rfl, D3, _, rfl, SqL.of ei, pos, fun m' hm' hx' => ⟨_, _, rfl, rfl, (by show 2 ≤ sizeLine; decide), fun t ht => ?_⟩⟩
        refine q t _ _ _ (s3.trans (Same.new ht _)) upd_same (nd d) fun _ => ⟨⟨?_, fun p hp => ?_⟩, ⟨?_, fun p hp => ?_⟩⟩
        · obtain ⟨p, hp, e⟩ := List.mem_map.mp hm
          exact ⟨p, hp, by rw [vD, e]⟩
        · have := hx _ (List.mem_map.mpr ⟨p, hp, rfl⟩)
          rw [vD]
          omega
        · obtain ⟨p, hp, e⟩ := List.mem_map.mp hm'
          exact ⟨p, hp, by rw [vD, e]⟩
        · have := hx' _ (List.mem_map.mpr ⟨p, hp, rfl⟩)
          rw [vD]
          omega
  case E1 =>
    refine ⟨_, rfl, _, rfl, (by show 2 ≤ sizeLine; decide), fun l2 hl2 => ?_⟩
    have sl2 := sl1.trans (Same.new hl2 (.lst [.int (-1), .int 1]))
    refine eqI (ys := [-1, 1]) (SqL.of (sl2 _ _ eE)) (SqL.of upd_same) ⟨_, rfl, ite2 (fun h2 => ?D2) (fun h2 => ?N)⟩
    case D2 =>
      have d : IsD cs := isD_ends.mpr (.inr (of_decide_eq_true h2))
      have s2 := sl2
      obtain ⟨j1, k1, n1, m1, u1, lk1, co1⟩ := dcase d 1 (.inl rfl)
      obtain ⟨j2, k2, n2, m2, u2, lk2, co2⟩ := dcase d (-1) (.inr rfl)
      have vD := val_D d (List.mem_of_getElem? u1) (List.mem_of_getElem? u2) co1 co2
      have eE2 := s2 _ _ eE
      have eU2 := s2 _ _ eU
      have eP2 := s2 _ _ ePF
      have hA2 := hAF.same s2
      have sH2 := sF.trans s2
      refine ⟨_, rfl, _, rfl, .inl ⟨rfl, _, SqL.of eE2⟩, D2, _, .int 1, j1, .int 1, rfl, rfl, SqL.of eE2, rfl, flatI _, map_get n1, rfl, fun m z' hm e => ?_, D, _, _, _, rfl, rfl, SqL.of eU2, atI_nat (getZ u1), ?_⟩
      · obtain ⟨z, ez, rfl⟩ := get_int e
        have := m1 m z hm ez
        show (z == (1 : Int)) = false
        simpa using this
      refine ⟨_, rfl, _, rfl, .inl ⟨rfl, _, SqL.of eE2⟩, _, rfl, D2, _, .int (-1), j2, .int (-1), rfl, rfl, SqL.of eE2, rfl, flatI _, map_get n2, rfl, fun m z' hm e => ?_, D, _, _, _, rfl, rfl, SqL.of eU2, atI_nat (getZ u2), ?_⟩
      · obtain ⟨z, ez, rfl⟩ := get_int e
        have := m2 m z hm ez
        show (z == (-1 : Int)) = false
        simpa using this
      refine ⟨_, rfl, p, rfl, ⟨_, SqL.of eP2⟩, fun D3 hD3 => ?_⟩
      refine lc_it (walk_list (xs := as.map V.ref)) (LcP (Same _) (RInt (Ps.map fun r => r.getD k1 0 - r.getD k2 0)) D3) (lcp_start hD3) (fun i G2 _ P => SqL.of (P.1 _ _ eP2)) ?_ ?_
      · rintro j x F1 F' hj P3 ⟨rfl, ex⟩
        rw [List.length_map, hA2.1] at hj
        have er : Ps[j]? = some Ps[j] := List.getElem?_eq_getElem hj
        have lq := lr _ (List.getElem_mem hj)
        generalize Ps[j] = r at er lq
        have ea : as[j]? = some (as[j]'(by rw [hA2.1]; exact hj)) := List.getElem?_eq_getElem _
        generalize as[j]'(by rw [hA2.1]; exact hj) = tq at ea
        rw [map_get ea] at ex
        obtain rfl := Option.some.inj ex
        have htq := P3.1 _ _ (hA2.2 j tq r ea er)
        refine ⟨rfl, tyes ?_⟩
        refine ⟨_, rfl, _, rfl, tq, _, _, _, rfl, rfl, SqT.of htq, coef0 (by omega), _, rfl, _, rfl, tq, _, _, _, rfl, rfl, SqT.of htq, coef0 (by omega), _, _, rfl, rfl, ?_⟩
        exact lcp_same P3 hD3 (Same.refl _) (lt_line (by omega)) RInt.mono ⟨_, map_get er, rfl⟩
      · intro F3 P3
        have ei := lcp_ints (K := K) P3 (by rw [List.length_map, List.length_map, hA2.1])
        have pos : 0 < (Ps.map fun r => r.getD k1 0 - r.getD k2 0).length := by
          rw [List.length_map]
          exact List.length_pos_iff.mpr ne
        have s3 := sH2.trans P3.1
        refine ⟨_, rfl, f, _, _, _, rfl, rfl, Same.tup s3 hf, rfl, _, rfl, D3, _, rfl, SqL.of ei, pos, fun m hm hx => ⟨_, _, rfl, rfl, ?_⟩⟩
        refine ⟨_, rfl, f, _, _, _, rfl, rfl, Same.tup s3 hf, rfl, _, rfl, D3, _, rfl, SqL.of ei, pos, fun m' hm' hx' => ⟨_, _, rfl, rfl, (by show 2 ≤ sizeLine; decide), fun t ht => ?_⟩⟩
        refine q t _ _ _ (s3.trans (Same.new ht _)) upd_same (nd d) fun _ => ⟨⟨?_, fun p hp => ?_⟩, ⟨?_, fun p hp => ?_⟩⟩
        · obtain ⟨p, hp, e⟩ := List.mem_map.mp hm
          exact ⟨p, hp, by rw [vD, e]⟩
        · have := hx _ (List.mem_map.mpr ⟨p, hp, rfl⟩)
          rw [vD]
          omega
        · obtain ⟨p, hp, e⟩ := List.mem_map.mp hm'
          exact ⟨p, hp, by rw [vD, e]⟩
        · have := hx' _ (List.mem_map.mpr ⟨p, hp, rfl⟩)
          rw [vD]
          omega
    case N =>
      have nD : ¬ IsD cs := fun d => by
        rcases isD_ends.mp d with z | z
        · exact h1 (decide_eq_true z)
        · exact h2 (decide_eq_true z)
      have s2 := sl2
      have eE2 := s2 _ _ eE
      have eU2 := s2 _ _ eU
      have eP2 := s2 _ _ ePF
      have hA2 := hAF.same s2
      have sH2 := sF.trans s2
      refine ⟨_, rfl, f, _, _, _, rfl, rfl, Same.tup sH2 hf, rfl, ?_⟩
      refine ⟨_, rfl, f, _, _, _, rfl, rfl, Same.tup sH2 hf, rfl, ?_⟩
      refine ⟨_, rfl, D, rfl, ⟨_, SqL.of eU2⟩, ?_⟩
      refine for_it (walk_list (xs := natsV (usedZ cs))) (fun i σ F4 => (∃ x3 x7 : Option V, σ = [some (.ref f), some (.ref p), some (.ref D), x3, some (.ref D2), none, none, x7, none, some (.int (lo + (((usedZ cs).take i).map fun k => tmin (hullM cs.length Ps) (cs.getD k 0) k).sum)), some (.int (hi + (((usedZ cs).take i).map fun k => tmax (hullM cs.length Ps) (cs.getD k 0) k).sum))]) ∧ Same F F4)
        ⟨⟨none, none, by rw [List.take_zero]; show _ = [_, _, _, _, _, _, _, _, _, some (V.int (lo + 0)), some (V.int (hi + 0))]; rw [Int.add_zero, Int.add_zero]; rfl⟩, s2⟩ (fun j σ F4 _ P => SqL.of (P.2 _ _ eU)) ?_ ?_
      · rintro i x σ F0 F4 hi2 ⟨⟨x3, x7, rfl⟩, sF4⟩ ⟨rfl, ex⟩
        rw [lnz] at hi2
        have ek : (usedZ cs)[i]? = some (usedZ cs)[i] := List.getElem?_eq_getElem hi2
        have mk := mem_usedZ.mp (List.getElem_mem hi2)
        generalize (usedZ cs)[i] = k at ek mk
        rw [getZ ek] at ex
        obtain rfl := Option.some.inj ex
        have eP4 := sF4 _ _ ePF
        have hA4 := hAF.same sF4
        have sH4 := sF.trans sF4
        refine ⟨_, rfl, p, rfl, ⟨_, SqL.of eP4⟩, fun D3 hD3 => ?_⟩
        refine lc_it (walk_list (xs := as.map V.ref)) (LcP (Same F4) (RInt (Ps.map fun r => cs.getD k 0 * r.getD k 0)) D3) (lcp_start hD3) (fun i G2 _ P => SqL.of (P.1 _ _ eP4)) ?_ ?_
        · rintro j x F1 F' hj P3 ⟨rfl, ex⟩
          rw [List.length_map, hA4.1] at hj
          have er : Ps[j]? = some Ps[j] := List.getElem?_eq_getElem hj
          have lq := lr _ (List.getElem_mem hj)
          generalize Ps[j] = r at er lq
          have ea : as[j]? = some (as[j]'(by rw [hA4.1]; exact hj)) := List.getElem?_eq_getElem _
          generalize as[j]'(by rw [hA4.1]; exact hj) = tq at ea
          rw [map_get ea] at ex
          obtain rfl := Option.some.inj ex
          have htq := P3.1 _ _ (hA4.2 j tq r ea er)
          have s3 := sH4.trans P3.1
          refine ⟨rfl, tyes ?_⟩
          refine ⟨_, rfl, f, _, _, _, rfl, rfl, Same.tup s3 hf, rfl, _, rfl, c, _, _, _, rfl, rfl, Same.tup s3 hc, coef0 mk.1, _, rfl, _, rfl, tq, _, _, _, rfl, rfl, SqT.of htq, coef0 (by omega), _, _, rfl, rfl, smul_ok (cf.get mk.1), ?_⟩
          exact lcp_same P3 hD3 (Same.refl _) (lt_line (by omega)) RInt.mono ⟨_, map_get er, rfl⟩
        · intro F3 P3
          have ei := lcp_ints (K := K) P3 (by rw [List.length_map, List.length_map, hA4.1])
          have pos : 0 < (Ps.map fun r => cs.getD k 0 * r.getD k 0).length := by
            rw [List.length_map]
            exact List.length_pos_iff.mpr ne
          refine ⟨_, rfl, _, rfl, D3, _, rfl, SqL.of ei, pos, fun m hm hx => ⟨_, _, rfl, rfl, ?_⟩⟩
          refine ⟨_, rfl, _, rfl, D3, _, rfl, SqL.of ei, pos, fun m' hm' hx' => ⟨_, _, rfl, rfl, ?_⟩⟩
          have em := tmin_is (n := cs.length) ne mk.1 hm hx
          have em2 := tmax_is (n := cs.length) ne mk.1 hm' hx'
          have eL : lo + (((usedZ cs).take (i + 1)).map fun k => tmin (hullM cs.length Ps) (cs.getD k 0) k).sum = lo + (((usedZ cs).take i).map fun k => tmin (hullM cs.length Ps) (cs.getD k 0) k).sum + m := by
            rw [take_snoc ek, List.map_append, List.sum_append, em]
            show lo + (_ + (tmin _ (cs.getD k 0) k + 0)) = _
            omega
          have eG : hi + (((usedZ cs).take (i + 1)).map fun k => tmax (hullM cs.length Ps) (cs.getD k 0) k).sum = hi + (((usedZ cs).take i).map fun k => tmax (hullM cs.length Ps) (cs.getD k 0) k).sum + m' := by
            rw [take_snoc ek, List.map_append, List.sum_append, em2]
            show hi + (_ + (tmax _ (cs.getD k 0) k + 0)) = _
            omega
          rw [eL, eG]
          exact ⟨⟨_, _, rfl⟩, sF4.trans P3.1⟩
      · rintro σ F4 ⟨⟨x3, x7, rfl⟩, sF4⟩
        rw [lnz, List.take_length]
        refine ⟨_, rfl, _, rfl, (by show 2 ≤ sizeLine; decide), fun t ht => ?_⟩
        exact q t _ _ _ ((sF.trans sF4).trans (Same.new ht _)) upd_same (fun _ => ⟨rfl, rfl⟩) fun d => absurd d nD
end
/-! ### a column set: the law's points -/
def spWorth (K : PySem.W.Frag) : Sp := fun vs H Q _ => ∃ (f t : Addr) (cs : List Int) (lo hi : Int) (r : List Int), vs = [.ref f, .ref t] ∧ FormAt K H f cs lo hi ∧ Cf cs ∧ cs.length ≤ 20 ∧ SqT K H t (r.map V.int) ∧ r.length = cs.length ∧ ∀ H', Same H H' → Q (.int (val cs r)) H'
def spSetP (K : PySem.W.Frag) : Sp := fun vs H Q _ => ∃ (t : Addr) (r : List Int) (k : Nat) (x : Int), vs = [.ref t, .int (k : Int), .int x] ∧ SqT K H t (r.map V.int) ∧ k < r.length ∧ r.length ≤ 20 ∧ ∀ q H', Same H H' → H' q = some (.tup ((r.set k x).map V.int)) → Q (.ref q) H'
noncomputable def loM (ex : Bool) (cs : List Int) (flo lo : Int) (Ps : List (List Int)) (r : List Int) : Int := if ex = true then aE cs flo lo r else max (lowF cs flo Ps) lo
noncomputable def hiM (ex : Bool) (cs : List Int) (fhi hi : Int) (Ps : List (List Int)) (r : List Int) : Int := if ex = true then bE cs fhi hi r else min (highF cs fhi Ps) hi
def spMov25 (K : PySem.W.Frag) : Sp := fun vs H Q _ => ∃ (p f : Addr) (k : Nat) (cs : List Int) (flo fhi lo hi : Int) (ex : Bool) (Ps : List (List Int)), vs = [.ref p, .int (k : Int), .ref f, .int lo, .int hi, .bl ex] ∧ FormAt K H f cs flo fhi ∧ Cf cs ∧ cs.length ≤ 20 ∧ k < cs.length ∧ TPts H p Ps ∧ Ps ≠ [] ∧ Ps.length ≤ 125 ∧ (∀ r ∈ Ps, r.length = cs.length) ∧
  ∀ q H', Same H H' → TPts H' q (endsA k (loM ex cs flo lo Ps) (hiM ex cs fhi hi Ps) Ps) → Q (.ref q) H'
theorem low_of {cs : List Int} {flo fhi L G : Int} {Ps : List (List Int)} (h1 : ¬ IsD cs → L = spanLo (hullM cs.length Ps) cs flo ∧ G = spanHi (hullM cs.length Ps) cs fhi) (h2 : IsD cs → DMM cs flo fhi Ps L G) : L = lowF cs flo Ps ∧ G = highF cs fhi Ps := by
  unfold lowF highF
  by_cases d : IsD cs
  · rw [if_pos d, if_pos d]
    obtain ⟨⟨⟨p1, m1, e1⟩, a1⟩, ⟨p2, m2, e2⟩, a2⟩ := h2 d
    rw [minV_is (m := val cs p1) ⟨p1, m1, rfl⟩ fun p hp => ?_, maxV_is (m := val cs p2) ⟨p2, m2, rfl⟩ fun p hp => ?_]
    · exact ⟨e1, e2⟩
    · have := a2 p hp
      omega
    · have := a1 p hp
      omega
  · rw [if_neg d, if_neg d]
    exact h1 d
theorem endsA_len {k : Nat} {a b : List Int → Int} : ∀ Ps : List (List Int), (endsA k a b Ps).length ≤ Ps.length * 2
  | [] => by simp [endsA]
  | r :: Ps => by
    have ih := endsA_len (k := k) (a := a) (b := b) Ps
    have e : endsA k a b (r :: Ps) = (if a r ≤ b r then [r.set k (a r), r.set k (b r)] else []) ++ endsA k a b Ps := rfl
    rw [e, List.length_append, List.length_cons]
    split
    · show 2 + _ ≤ _
      omega
    · show 0 + _ ≤ _
      omega
theorem endsA_snoc {k i : Nat} {a b : List Int → Int} {Ps : List (List Int)} {r : List Int} (e : Ps[i]? = some r) : endsA k a b (Ps.take (i + 1)) = endsA k a b (Ps.take i) ++ if a r ≤ b r then [r.set k (a r), r.set k (b r)] else [] := by
  unfold endsA
  rw [take_snoc e, List.flatMap_append]
  simp
section
variable {P : Program} {w : World} {K : PySem.W.Frag} {mg : Str → Option Value} {base : Heap}
theorem ok_l_worth (T : Txt w K mg) : FnOk P w K mg base CX0 1 T.a_l_worth T.d_l_worth p_l_worth (spWorth K) := by
  refine T.F_l_worth.ok sc_l_worth (fun vs H Q E h => ?_) (fun cdv A outer s H vs Q E hr h => ?_)
  · obtain ⟨f, t, cs, lo, hi, r, rfl, _⟩ := h
    rfl
  obtain ⟨f, t, cs, lo, hi, r, rfl, ⟨c, hf, hc⟩, cf, lc, ht, lr, q⟩ := h
  refine ⟨_, (pss_one (ps_ret (pe_callB (cr_sum rfl) rfl T.z_sum bb_sum (pa_cons (pe_lc (own := [("_law_k", 2)]) (g := gName 2) (tt := tYes) rfl sc_l_worth.nd (pi_range1 rfl T.z_range (pa_cons (pe_callB call_len_seq rfl T.z_len PySem.boot_len (pa_cons (pv 1) pa_nil)) pa_nil)) (blkOk_by (own := [("_law_k", 2)]) (N := n_l_worth) (sc := defScope s_l_worth) (by decide +kernel)) (fun _ _ _ _ _ => (pg_name (i := 2) sc_l_worth.nd rfl (Or.inl rfl))) (fun _ _ _ _ _ => pts_nil) (fun _ _ _ _ _ => (pe_op op_mul (pe_ix (show IxR _ (rIxT K) from ix_tup) (pe_ix (show IxR _ (rIxT K) from ix_tup) (pv 0) pe_int (fun _ _ => rfl)) (pv 2) (fun _ _ => rfl)) (pe_ix (show IxR _ (rIxT K) from ix_tup) (pv 1) (pv 2) (fun _ _ => rfl))))) pa_nil)))), ?_⟩
  refine ⟨_, rfl, t, _, rfl, .inr ht, _, rfl, by omega, by rw [List.length_map]; omega, fun D hD => ?_⟩
  refine lc_it walk_range (LcP (Same H) (RInt ((List.range cs.length).map fun k => cs.getD k 0 * r.getD k 0)) D) (lcp_start hD) (fun _ _ _ _ => trivial) ?_ ?_
  · rintro j x F F' hj P ⟨rfl, rfl⟩
    rw [List.length_map] at hj
    have hj2 : j < cs.length := by omega
    have hj3 : j < r.length := by omega
    refine ⟨rfl, tyes ?_⟩
    refine ⟨_, rfl, f, _, _, _, rfl, rfl, Same.tup P.1 hf, rfl, _, rfl, c, _, _, _, rfl, rfl, Same.tup P.1 hc, (by rw [Int.zero_add]; exact coef0 hj2), _, rfl, _, rfl, t, _, _, _, rfl, rfl, Same.tup P.1 ht, (by rw [Int.zero_add]; exact coef0 hj3), _, _, rfl, rfl, smul_ok (cf.get hj2), ?_⟩
    exact lcp_same P hD (Same.refl _) (lt_line (by omega)) RInt.mono ⟨_, map_get (range_get hj2), rfl⟩
  intro F P
  have ei := lcp_ints (K := K) P (by rw [List.length_map, List.length_map, List.length_range]; omega)
  exact ⟨D, _, rfl, SqL.of ei, q F P.1⟩
theorem ok_l_set (T : Txt w K mg) : FnOk P w K mg base CX0 1 T.a_l_set T.d_l_set p_l_set (spSetP K) := by
  refine T.F_l_set.ok sc_l_set (fun vs H Q E h => ?_) (fun cdv A outer s H vs Q E hr h => ?_)
  · obtain ⟨t, r, k, x, rfl, _⟩ := h
    rfl
  obtain ⟨t, r, k, x, rfl, ht, hk, lr, q⟩ := h
  refine ⟨_, (pss_one (ps_ret (pe_op op_catA (pe_op op_catA (pe_slice sl_tup (pv 0) po_none (po_some (pv 1))) (pe_tup (pa_cons (pv 2) pa_nil))) (pe_slice sl_tup (pv 0) (po_some (pe_op op_add (pv 1) pe_int)) po_none)))), ?_⟩
  refine ⟨_, rfl, _, rfl, _, rfl, ?_⟩
  refine slT_hiT (c := (k : Int)) k rfl ht hk fun q1 F1 t1 h1 => ?_
  refine ⟨_, rfl, (by show 1 ≤ sizeLine; decide), fun x1 hx1 => ?_⟩
  have sx := Same.new hx1 (.tup [V.int x])
  refine catT (sx _ _ h1) upd_same (by rw [List.length_map, List.length_take]; show min k r.length + 1 ≤ 1000; omega) fun z1 F3 s3 hz1 => ?_
  refine ⟨_, rfl, _, rfl, _, _, rfl, rfl, _, rfl, ?_⟩
  dsimp only [tNoPart]
  refine slT_loT (k + 1) rfl (Same.tup ((t1.trans sx).trans s3) ht) (by omega) (by omega) fun w F4 s4 hw => ?_
  refine catT (s4 _ _ hz1) hw (by rw [List.length_append, List.length_map, List.length_map, List.length_take, List.length_drop]; show min k r.length + 1 + _ ≤ 1000; omega) fun z2 F5 s5 hz2 => ?_
  refine q z2 F5 ((((t1.trans sx).trans s3).trans s4).trans s5) ?_
  rw [hz2, ← put_tup (r := r) (k := k) (c := x) hk, List.map_append, List.map_append]
  rfl
theorem ok_l_moved (T : Txt w K mg) : FnOk P w K mg base CX0 2 T.a_l_moved T.d_l_moved p_l_moved (spMov25 K) := by
  have g_l_spread := ok_l_spread (P := P) (w := w) (K := K) (base := base) T
  have g_l_worth := ok_l_worth (P := P) (w := w) (K := K) (base := base) T
  have g_l_set := ok_l_set (P := P) (w := w) (K := K) (base := base) T
  refine T.F_l_moved.ok sc_l_moved (fun vs H Q E h => ?_) (fun cdv A outer s H vs Q E hr h => ?_)
  · obtain ⟨p, f, k, cs, flo, fhi, lo, hi, ex, Ps, rfl, _⟩ := h
    rfl
  obtain ⟨p, f, k, cs, flo, fhi, lo, hi, ex, Ps, rfl, hF, cf, lc, hk, tP, ne, lP, lr, q⟩ := h
  refine ⟨_, (pss_cons (ps_set (i := 6) sc_l_moved.nd rfl (Or.inl rfl) (pe_call g_l_spread (hr.mono (by first | decide | omega)) rfl T.m_l_spread T.F_l_spread.kp T.b_l_spread .nil pass0 (pa_cons (pv 2) (pa_cons (pv 0) pa_nil))))
      (pss_cons (ps_set (i := 7) sc_l_moved.nd rfl (Or.inl rfl) (pe_lst pa_nil))
      (pss_cons (ps_for PassesOwn.never rfl (pi_list (pv 0)) (pg_name (i := 8) sc_l_moved.nd rfl (Or.inl rfl))
        (pss_cons (ps_set (i := 9) sc_l_moved.nd rfl (Or.inl rfl) (pe_ix ix_tup (pv 6) pe_int (fun _ _ => rfl)))
      (pss_cons (ps_set (i := 10) sc_l_moved.nd rfl (Or.inl rfl) (pe_ix ix_tup (pv 6) pe_int (fun _ _ => rfl)))
      (C8.pss_cut (ps_if (pt_val (pv 5)) (pss_cons (ps_set (i := 9) sc_l_moved.nd rfl (Or.inl rfl) (pe_op op_add (pe_call g_l_worth (hr.mono (by first | decide | omega)) rfl T.m_l_worth T.F_l_worth.kp T.b_l_worth .nil pass0 (pa_cons (pv 2) (pa_cons (pv 8) pa_nil))) (pe_ix ix_tup (pv 2) pe_int (fun _ _ => rfl))))
      (pss_one (ps_set (i := 10) sc_l_moved.nd rfl (Or.inl rfl) (pe_op op_add (pe_call g_l_worth (hr.mono (by first | decide | omega)) rfl T.m_l_worth T.F_l_worth.kp T.b_l_worth .nil pass0 (pa_cons (pv 2) (pa_cons (pv 8) pa_nil))) (pe_ix ix_tup (pv 2) pe_int (fun _ _ => rfl)))))) pss_nil)
      (pss_one (ps_if (pt_cmpR op_le (pe_callB (call_max2 rfl) rfl T.z_max bb_max (pa_cons (pv 9) (pa_cons (pv 3) pa_nil))) (pe_callB (call_min2 rfl) rfl T.z_min bb_min (pa_cons (pv 10) (pa_cons (pv 4) pa_nil))) (nomark _)) (pss_cons (ps_expr (pe_bm PySem.F.plainAttrs_list PySem.F.slot_list_append PySem.F.type_list_append mt_append (pv 7) (pa_cons (pe_call g_l_set (hr.mono (by first | decide | omega)) rfl T.m_l_set T.F_l_set.kp T.b_l_set .nil pass0 (pa_cons (pv 8) (pa_cons (pv 1) (pa_cons (pe_callB (call_max2 rfl) rfl T.z_max bb_max (pa_cons (pv 9) (pa_cons (pv 3) pa_nil))) pa_nil)))) pa_nil)))
      (pss_one (ps_expr (pe_bm PySem.F.plainAttrs_list PySem.F.slot_list_append PySem.F.type_list_append mt_append (pv 7) (pa_cons (pe_call g_l_set (hr.mono (by first | decide | omega)) rfl T.m_l_set T.F_l_set.kp T.b_l_set .nil pass0 (pa_cons (pv 8) (pa_cons (pv 1) (pa_cons (pe_callB (call_min2 rfl) rfl T.z_min bb_min (pa_cons (pv 10) (pa_cons (pv 4) pa_nil))) pa_nil)))) pa_nil))))) pss_nil))))))
      (pss_one (ps_ret (pv 7)))))), ?_⟩
  refine ⟨_, rfl, _, rfl, f, p, cs, flo, fhi, Ps, rfl, hF, cf, lc, tP, ne, lP, lr, fun t G L U s1 ht z1 z2 => ?_⟩
  obtain ⟨rfl, rfl⟩ := low_of z1 z2
  refine ⟨(by show 0 ≤ sizeLine; decide), fun D hD => ?_⟩
  have s0 := s1.trans (Same.new hD (.lst []))
  have ht0 := (Same.new hD (.lst [])) _ _ ht
  have hD0 : G D = none := hD
  obtain ⟨as, eP, hA⟩ := id (tP.same s1)
  have eP0 := (Same.new hD (.lst [])) _ _ eP
  have tE0 : TPts (upd G D (.lst [])) D (endsA k (loM ex cs flo lo Ps) (hiM ex cs fhi hi Ps) (Ps.take 0)) := TPts.nil upd_same
  have sG0 := Same.new hD (.lst [])
  refine ⟨_, rfl, p, rfl, ⟨_, SqL.of eP0⟩, ?_⟩
  refine for_it (walk_list (xs := as.map V.ref)) (fun i σ F => (∃ y8 y9 y10 : Option V, σ = [some (.ref p), some (.int (k : Int)), some (.ref f), some (.int lo), some (.int hi), some (.bl ex), some (.ref t), some (.ref D), y8, y9, y10]) ∧ Same G F ∧ TPts F D (endsA k (loM ex cs flo lo Ps) (hiM ex cs fhi hi Ps) (Ps.take i)))
    ⟨⟨_, _, _, rfl⟩, sG0, tE0⟩ (fun j σ F _ P => SqL.of (P.2.1 _ _ eP)) ?_ ?_
  · rintro i v σ F0 F hi2 ⟨⟨y8, y9, y10, rfl⟩, sF, tF⟩ ⟨rfl, ex1⟩
    rw [List.length_map, hA.1] at hi2
    have er : Ps[i]? = some Ps[i] := List.getElem?_eq_getElem hi2
    have lq := lr _ (List.getElem_mem hi2)
    generalize Ps[i] = r at er lq
    have ea : as[i]? = some (as[i]'(by rw [hA.1]; exact hi2)) := List.getElem?_eq_getElem _
    generalize as[i]'(by rw [hA.1]; exact hi2) = tq at ea
    rw [map_get ea] at ex1
    obtain rfl := Option.some.inj ex1
    have htq := sF _ _ (hA.2 i tq r ea er)
    have htF := sF _ _ ht
    have hFF := (hF.same s1).same sF
    obtain ⟨c, hf, hc⟩ := id hFF
    refine ⟨_, rfl, t, _, _, _, rfl, rfl, SqT.of htF, rfl, ?_⟩
    refine ⟨_, rfl, t, _, _, _, rfl, rfl, SqT.of htF, rfl, ?_⟩
    refine ⟨fun σ F1 => ∃ (x y : Int), σ = [some (.ref p), some (.int (k : Int)), some (.ref f), some (.int lo), some (.int hi), some (.bl ex), some (.ref t), some (.ref D), some (.ref tq), some (.int x), some (.int y)] ∧ Same F F1 ∧ max x lo = loM ex cs flo lo Ps r ∧ min y hi = hiM ex cs fhi hi Ps r, ?_, ?_⟩
    · cases ex with
      | false =>
        refine ⟨_, rfl, _, rfl, ifF rfl ?_⟩
        exact ⟨_, _, rfl, Same.refl _, rfl, rfl⟩
      | true =>
        refine ⟨_, rfl, _, rfl, ifT rfl ?_⟩
        refine ⟨_, rfl, _, rfl, f, tq, cs, flo, fhi, r, rfl, hFF, cf, lc, SqT.of htq, lq, fun F1 s2 => ?_⟩
        refine ⟨_, rfl, f, _, _, _, rfl, rfl, Same.tup s2 hf, rfl, _, _, rfl, rfl, ?_⟩
        refine ⟨_, rfl, _, rfl, f, tq, cs, flo, fhi, r, rfl, hFF.same s2, cf, lc, SqT.of (s2 _ _ htq), lq, fun F2 s3 => ?_⟩
        refine ⟨_, rfl, f, _, _, _, rfl, rfl, Same.tup (s2.trans s3) hf, rfl, _, _, rfl, rfl, ?_⟩
        exact ⟨_, _, rfl, s2.trans s3, rfl, rfl⟩
    rintro σ F1 ⟨x, y, rfl, s2, hx, hy⟩
    have htq1 := s2 _ _ htq
    have tF1 := tF.same s2
    have la := endsA_len (k := k) (a := loM ex cs flo lo Ps) (b := hiM ex cs fhi hi Ps) (Ps.take i)
    rw [List.length_take] at la
    have sn := endsA_snoc (k := k) (a := loM ex cs flo lo Ps) (b := hiM ex cs fhi hi Ps) er
    refine ⟨_, rfl, _, rfl, _, _, rfl, _, rfl, _, rfl, _, _, rfl, _, _, rfl, rfl, _, rfl, ite2 (fun h => ?_) (fun h => ?_)⟩
    · have h' : loM ex cs flo lo Ps r ≤ hiM ex cs fhi hi Ps r := by
        have := of_decide_eq_true h
        rwa [mx2, mn2, hx, hy] at this
      rw [sn, if_pos h']
      obtain ⟨bs, b1, b2⟩ := id tF1
      refine ⟨_, rfl, .inl ⟨rfl, _, SqL.of b1⟩, ?_⟩
      refine ⟨_, rfl, _, rfl, _, rfl, _, rfl, _, _, rfl, tq, r, k, _, rfl, SqT.of htq1, by omega, by omega, fun z F2 s4 hz => ?_⟩
      rw [mx2, hx] at hz
      have e2 := s4 _ _ b1
      refine ⟨D, _, _, rfl, rfl, e2, lt_line (by rw [List.length_map, b2.1]; omega), ?_⟩
      have t2 := TPts.push b2 s4 e2 hz
      have htq2 : (upd F2 D (.lst (bs.map V.ref ++ [.ref z]))) tq = some (.tup (r.map V.int)) := by
        rw [upd_ne (fun q => by have := s4 _ _ htq1; rw [q, e2] at this; cases this)]
        exact s4 _ _ htq1
      have sD : Same G (upd F2 D (.lst (bs.map V.ref ++ [.ref z]))) := fun c o e => by
        rw [upd_ne (ne_of_none e hD0)]
        exact s4 _ _ (s2 _ _ (sF _ _ e))
      generalize (upd F2 D (.lst (bs.map V.ref ++ [.ref z]))) = F3 at t2 htq2 sD
      obtain ⟨bs2, b12, b22⟩ := id t2
      refine ⟨_, rfl, .inl ⟨rfl, _, SqL.of b12⟩, ?_⟩
      refine ⟨_, rfl, _, rfl, _, rfl, _, rfl, _, _, rfl, tq, r, k, _, rfl, SqT.of htq2, by omega, by omega, fun z2 F4 s5 hz2 => ?_⟩
      rw [mn2, hy] at hz2
      have e3 := s5 _ _ b12
      refine ⟨D, _, _, rfl, rfl, e3, lt_line (by rw [List.length_map, b22.1, List.length_append]; show _ + 1 ≤ _; omega), ?_⟩
      refine ⟨⟨_, _, _, rfl⟩, fun c o e => ?_, ?_⟩
      · rw [upd_ne (ne_of_none e hD0)]
        exact s5 _ _ (sD _ _ e)
      · have t3 := TPts.push b22 s5 e3 hz2
        rw [List.append_assoc] at t3
        exact t3
    · have h' : ¬ loM ex cs flo lo Ps r ≤ hiM ex cs fhi hi Ps r := fun z => h (by
        rw [mx2, mn2, hx, hy]
        exact decide_eq_true z)
      rw [sn, if_neg h', List.append_nil]
      exact ⟨⟨_, _, _, rfl⟩, sF.trans s2, tF1⟩
  · rintro σ F ⟨⟨y8, y9, y10, rfl⟩, sF, tF⟩
    rw [List.length_map, hA.1, List.take_length] at tF
    exact ⟨_, rfl, q D F (s1.trans sF) tF⟩
end
/-! ### spans of fewer points -/
theorem tmin_le {n k : Nat} {c : Int} {Ps : List (List Int)} {r : List Int} (hr : r ∈ Ps) (hk : k < n) : tmin (hullM n Ps) c k ≤ c * r.getD k 0 ∧ ∃ s ∈ Ps, tmin (hullM n Ps) c k = c * s.getD k 0 := by
  have ne : Ps ≠ [] := List.ne_nil_of_mem hr
  obtain ⟨r1, hr1, e1⟩ := hull_at (n := n) (Ps := Ps) ne (show 0 < n + 1 by omega) (show k + 1 < n + 1 by omega)
  obtain ⟨r2, hr2, e2⟩ := hull_at (n := n) (Ps := Ps) ne (show k + 1 < n + 1 by omega) (show 0 < n + 1 by omega)
  have e1' : 0 - r1.getD k 0 = getM (hullM n Ps) 0 (k + 1) := e1
  have e2' : r2.getD k 0 - 0 = getM (hullM n Ps) (k + 1) 0 := e2
  have d1 : dif 0 (k + 1) r ≤ getM (hullM n Ps) 0 (k + 1) := hull_le (by omega) (by omega) hr
  have d2 : dif (k + 1) 0 r ≤ getM (hullM n Ps) (k + 1) 0 := hull_le (by omega) (by omega) hr
  have d1' : 0 - r.getD k 0 ≤ getM (hullM n Ps) 0 (k + 1) := d1
  have d2' : r.getD k 0 - 0 ≤ getM (hullM n Ps) (k + 1) 0 := d2
  unfold tmin
  rw [show -(getM (hullM n Ps) 0 (k + 1)) = r1.getD k 0 by omega, show getM (hullM n Ps) (k + 1) 0 = r2.getD k 0 by omega]
  refine ⟨?_, ?_⟩
  · by_cases c0 : 0 ≤ c
    · have := Int.mul_le_mul_of_nonneg_left (show r1.getD k 0 ≤ r.getD k 0 by omega) c0
      omega
    · have := Int.mul_le_mul_of_nonpos_left (show c ≤ 0 by omega) (show r.getD k 0 ≤ r2.getD k 0 by omega)
      omega
  · by_cases h : c * r1.getD k 0 ≤ c * r2.getD k 0
    · exact ⟨r1, hr1, by omega⟩
    · exact ⟨r2, hr2, by omega⟩
theorem sum_le {f g : Nat → Int} : ∀ xs : List Nat, (∀ k ∈ xs, f k ≤ g k) → (xs.map f).sum ≤ (xs.map g).sum
  | [], _ => Int.le_refl _
  | x :: xs, h => by
    have h1 := h x List.mem_cons_self
    have h2 := sum_le xs fun k hk => h k (List.mem_cons_of_mem _ hk)
    rw [List.map_cons, List.map_cons, List.sum_cons, List.sum_cons]
    omega
theorem span_val {cs : List Int} {lo : Int} {Ps : List (List Int)} {r : List Int} (hr : r ∈ Ps) : spanLo (hullM cs.length Ps) cs lo ≤ val cs r + lo := by
  unfold spanLo
  rw [val_used]
  have := sum_le (f := fun k => tmin (hullM cs.length Ps) (cs.getD k 0) k) (g := fun k => cs.getD k 0 * r.getD k 0) (usedZ cs) fun k hk => (tmin_le hr (mem_usedZ.mp hk).1).1
  omega
theorem span_mono {cs : List Int} {lo : Int} {Ps Qs : List (List Int)} {q : List Int} (hq : q ∈ Qs) (sub : ∀ r ∈ Qs, r ∈ Ps) : spanLo (hullM cs.length Ps) cs lo ≤ spanLo (hullM cs.length Qs) cs lo := by
  unfold spanLo
  have := sum_le (f := fun k => tmin (hullM cs.length Ps) (cs.getD k 0) k) (g := fun k => tmin (hullM cs.length Qs) (cs.getD k 0) k) (usedZ cs) fun k hk => by
    obtain ⟨s, hs, e⟩ := (tmin_le (c := cs.getD k 0) hq (mem_usedZ.mp hk).1).2
    show _ ≤ tmin (hullM cs.length Qs) (cs.getD k 0) k
    rw [e]
    exact (tmin_le (sub s hs) (mem_usedZ.mp hk).1).1
  omega
/-! ### ends of fewer points -/
theorem tmax_ge {n k : Nat} {c : Int} {Ps : List (List Int)} {r : List Int} (hr : r ∈ Ps) (hk : k < n) : c * r.getD k 0 ≤ tmax (hullM n Ps) c k ∧ ∃ s ∈ Ps, tmax (hullM n Ps) c k = c * s.getD k 0 := by
  have ne : Ps ≠ [] := List.ne_nil_of_mem hr
  obtain ⟨r1, hr1, e1⟩ := hull_at (n := n) (Ps := Ps) ne (show 0 < n + 1 by omega) (show k + 1 < n + 1 by omega)
  obtain ⟨r2, hr2, e2⟩ := hull_at (n := n) (Ps := Ps) ne (show k + 1 < n + 1 by omega) (show 0 < n + 1 by omega)
  have e1' : 0 - r1.getD k 0 = getM (hullM n Ps) 0 (k + 1) := e1
  have e2' : r2.getD k 0 - 0 = getM (hullM n Ps) (k + 1) 0 := e2
  have d1 : dif 0 (k + 1) r ≤ getM (hullM n Ps) 0 (k + 1) := hull_le (by omega) (by omega) hr
  have d2 : dif (k + 1) 0 r ≤ getM (hullM n Ps) (k + 1) 0 := hull_le (by omega) (by omega) hr
  have d1' : 0 - r.getD k 0 ≤ getM (hullM n Ps) 0 (k + 1) := d1
  have d2' : r.getD k 0 - 0 ≤ getM (hullM n Ps) (k + 1) 0 := d2
  unfold tmax
  rw [show -(getM (hullM n Ps) 0 (k + 1)) = r1.getD k 0 by omega, show getM (hullM n Ps) (k + 1) 0 = r2.getD k 0 by omega]
  refine ⟨?_, ?_⟩
  · by_cases c0 : 0 ≤ c
    · have := Int.mul_le_mul_of_nonneg_left (show r.getD k 0 ≤ r2.getD k 0 by omega) c0
      omega
    · have := Int.mul_le_mul_of_nonpos_left (show c ≤ 0 by omega) (show r1.getD k 0 ≤ r.getD k 0 by omega)
      omega
  · by_cases h : c * r1.getD k 0 ≤ c * r2.getD k 0
    · exact ⟨r2, hr2, by omega⟩
    · exact ⟨r1, hr1, by omega⟩
theorem spanH_val {cs : List Int} {hi : Int} {Ps : List (List Int)} {r : List Int} (hr : r ∈ Ps) : val cs r + hi ≤ spanHi (hullM cs.length Ps) cs hi := by
  unfold spanHi
  rw [val_used]
  have := sum_le (f := fun k => cs.getD k 0 * r.getD k 0) (g := fun k => tmax (hullM cs.length Ps) (cs.getD k 0) k) (usedZ cs) fun k hk => (tmax_ge hr (mem_usedZ.mp hk).1).1
  omega
theorem spanH_mono {cs : List Int} {hi : Int} {Ps Qs : List (List Int)} {q : List Int} (hq : q ∈ Qs) (sub : ∀ r ∈ Qs, r ∈ Ps) : spanHi (hullM cs.length Qs) cs hi ≤ spanHi (hullM cs.length Ps) cs hi := by
  unfold spanHi
  have := sum_le (f := fun k => tmax (hullM cs.length Qs) (cs.getD k 0) k) (g := fun k => tmax (hullM cs.length Ps) (cs.getD k 0) k) (usedZ cs) fun k hk => by
    obtain ⟨s, hs, e⟩ := (tmax_ge (c := cs.getD k 0) hq (mem_usedZ.mp hk).1).2
    show tmax (hullM cs.length Qs) (cs.getD k 0) k ≤ _
    rw [e]
    exact (tmax_ge (sub s hs) (mem_usedZ.mp hk).1).1
  omega
theorem minV_le {cs : List Int} {Ps : List (List Int)} {r : List Int} (hr : r ∈ Ps) : minV cs Ps ≤ val cs r ∧ ∃ s ∈ Ps, minV cs Ps = val cs s := by
  unfold minV
  have h1 := lmax_le (List.mem_map_of_mem (f := fun p => -(val cs p)) hr)
  have h2 := lmax_mem (xs := Ps.map fun p => -(val cs p)) (fun z => by rw [List.map_eq_nil_iff] at z; rw [z] at hr; simp at hr)
  obtain ⟨s, hs, e⟩ := List.mem_map.mp h2
  exact ⟨by omega, s, hs, by omega⟩
theorem maxV_ge {cs : List Int} {Ps : List (List Int)} {r : List Int} (hr : r ∈ Ps) : val cs r ≤ maxV cs Ps ∧ ∃ s ∈ Ps, maxV cs Ps = val cs s := by
  unfold maxV
  have h1 := lmax_le (List.mem_map_of_mem (f := fun p => val cs p) hr)
  have h2 := lmax_mem (xs := Ps.map fun p => val cs p) (fun z => by rw [List.map_eq_nil_iff] at z; rw [z] at hr; simp at hr)
  obtain ⟨s, hs, e⟩ := List.mem_map.mp h2
  exact ⟨h1, s, hs, e.symm⟩
theorem low_le {cs : List Int} {flo : Int} {Ps : List (List Int)} {r : List Int} (hr : r ∈ Ps) : lowF cs flo Ps ≤ val cs r + flo := by
  unfold lowF
  split
  · have := (minV_le (cs := cs) hr).1
    omega
  · exact span_val hr
theorem high_ge {cs : List Int} {fhi : Int} {Ps : List (List Int)} {r : List Int} (hr : r ∈ Ps) : val cs r + fhi ≤ highF cs fhi Ps := by
  unfold highF
  split
  · have := (maxV_ge (cs := cs) hr).1
    omega
  · exact spanH_val hr
theorem low_mono {cs : List Int} {flo : Int} {Ps Qs : List (List Int)} {q : List Int} (hq : q ∈ Qs) (sub : ∀ r ∈ Qs, r ∈ Ps) : lowF cs flo Ps ≤ lowF cs flo Qs := by
  unfold lowF
  split
  · obtain ⟨s, hs, e⟩ := (minV_le (cs := cs) hq).2
    have := (minV_le (cs := cs) (sub s hs)).1
    omega
  · exact span_mono hq sub
theorem high_mono {cs : List Int} {fhi : Int} {Ps Qs : List (List Int)} {q : List Int} (hq : q ∈ Qs) (sub : ∀ r ∈ Qs, r ∈ Ps) : highF cs fhi Qs ≤ highF cs fhi Ps := by
  unfold highF
  split
  · obtain ⟨s, hs, e⟩ := (maxV_ge (cs := cs) hq).2
    have := (maxV_ge (cs := cs) (sub s hs)).1
    omega
  · exact spanH_mono hq sub
theorem asgR_sub {k : Nat} {cs : List Int} {flo fhi lo hi : Int} {Ps Qs : List (List Int)} (sub : ∀ r ∈ Qs, r ∈ Ps) : ∀ q ∈ asgR k cs flo fhi lo hi Qs, q ∈ asgR k cs flo fhi lo hi Ps := fun q hq => by
  unfold asgR at *
  by_cases ex : Ex cs
  · rw [if_pos ex] at *
    obtain ⟨r, hr, v, h1, h2, e⟩ := mem_asg.mp hq
    exact mem_asg.mpr ⟨r, sub r hr, v, h1, h2, e⟩
  · rw [if_neg ex] at *
    obtain ⟨r, hr, v, h1, h2, e⟩ := mem_asg.mp hq
    have l1 := low_mono (cs := cs) (flo := flo) hr sub
    have l2 := high_mono (cs := cs) (fhi := fhi) hr sub
    exact mem_asg.mpr ⟨r, sub r hr, v, by omega, by omega, e⟩
theorem asgR_ends {k : Nat} {cs : List Int} {flo fhi lo hi : Int} {ex : Bool} {Ps : List (List Int)} (l : ∀ r ∈ Ps, r.length = cs.length) (hk : k < cs.length) (h : ex = true ↔ Ex cs) :
    hull cs.length (endsA k (loM ex cs flo lo Ps) (hiM ex cs fhi hi Ps) Ps) = hull cs.length (asgR k cs flo fhi lo hi Ps) := by
  rw [hull_asg l hk]
  congr 1
  unfold asgR
  by_cases e : Ex cs
  · rw [if_pos e]
    have e1 := h.mpr e
    subst e1
    rfl
  · rw [if_neg e]
    have e1 : ex = false := by
      cases ex with
      | false => rfl
      | true => exact absurd (h.mp rfl) e
    subst e1
    rfl
theorem asgR_exact {k : Nat} {cs : List Int} {flo fhi lo hi : Int} {Ps : List (List Int)} : ∀ q ∈ endsA k (loM true cs flo lo Ps) (hiM true cs fhi hi Ps) Ps, q ∈ asgR k cs flo fhi lo hi Ps := fun q hq => by
  obtain ⟨r, hr, v, h1, h2, e⟩ := mem_asg.mp (ends_sub q hq)
  have g1 : aE cs flo lo r ≤ v := h1
  have g2 : v ≤ bE cs fhi hi r := h2
  unfold asgR
  by_cases ex : Ex cs
  · rw [if_pos ex]
    exact mem_asg.mpr ⟨r, hr, v, g1, g2, e⟩
  · rw [if_neg ex]
    have l1 := low_le (cs := cs) (flo := flo) hr
    have l2 := high_ge (cs := cs) (fhi := fhi) hr
    unfold aE at g1
    unfold bE at g2
    exact mem_asg.mpr ⟨r, hr, v, by omega, by omega, e⟩
/-! ### forms and ends drawn -/
def spTgt (K : PySem.W.Frag) : Sp := fun vs H Q _ => ∃ (a : Addr) (n k : Nat), vs = [.ref a, .int n, .int k] ∧ Src H a ∧ n ≤ 20 ∧ k < n ∧
  ∀ f H' cs lo hi, Stp a H H' → FormAt K H' f cs lo hi → cs.length = n → Cf cs → Q (.ref f) H'
def spLow25 (K : PySem.W.Frag) : Sp := fun vs H Q _ => ∃ (a f p : Addr) (cs : List Int) (lo hi : Int) (Ps : List (List Int)), vs = [.ref a, .ref f, .ref p] ∧ Src H a ∧ FormAt K H f cs lo hi ∧ Cf cs ∧ cs.length ≤ 20 ∧ TPts H p Ps ∧ Ps ≠ [] ∧ Ps.length ≤ 125 ∧ (∀ r ∈ Ps, r.length = cs.length) ∧
  ∀ (x : Int) H', Stp a H H' → Q (.int x) H'
theorem FormAt.stp {K : PySem.W.Frag} {a f : Addr} {H H' : Hp} {cs : List Int} {lo hi : Int} (s : Stp a H H') (hs : Src H a) (h : FormAt K H f cs lo hi) : FormAt K H' f cs lo hi := by
  obtain ⟨c, h1, h2⟩ := h
  exact ⟨c, s.rd h1 hs, s.rd h2 hs⟩
section
variable {P : Program} {w : World} {K : PySem.W.Frag} {mg : Str → Option Value} {base : Heap}
theorem ok_l_target_form (T : Txt w K mg) : FnOk P w K mg base CX0 4 T.a_l_target_form T.d_l_target_form p_l_target_form (spTgt K) := by
  have g_l_pick := ok_l_pick (P := P) (w := w) (base := base) T
  have g_l_drawn_form := ok_l_drawn_form (P := P) (w := w) (K := K) (base := base) T
  refine T.F_l_target_form.ok sc_l_target_form (fun vs H Q E h => ?_) (fun cdv A outer s H vs Q E hr h => ?_)
  · obtain ⟨a, n, k, rfl, _⟩ := h
    rfl
  obtain ⟨a, n, k, rfl, hS, hn, hk, q⟩ := h
  refine ⟨_, (pss_cons (ps_set (i := 3) sc_l_target_form.nd rfl (Or.inl rfl) (pe_call g_l_drawn_form (hr.mono (by first | decide | omega)) rfl T.m_l_drawn_form T.F_l_drawn_form.kp T.b_l_drawn_form .nil pass0 (pa_cons (pv 0) (pa_cons (pv 1) pa_nil))))
      (pss_cons (ps_if (pt_cmpR op_gt (pe_call g_l_pick (hr.mono (by first | decide | omega)) rfl T.m_l_pick T.F_l_pick.kp T.b_l_pick .nil pass0 (pa_cons (pv 0) (pa_cons pe_int pa_nil))) pe_int (nomark _)) (pss_one (ps_ret (pv 3))) pss_nil)
      (pss_cons (ps_set (i := 4) sc_l_target_form.nd rfl (Or.inl rfl) (pe_op op_rep (pe_lst (pa_cons pe_int pa_nil)) (pv 1)))
      (pss_cons (ps_set (i := 5) sc_l_target_form.nd rfl (Or.inl rfl) (pv 2))
      (C8.pss_cut (ps_if (pt_cmpR op_eq (pe_call g_l_pick (hr.mono (by first | decide | omega)) rfl T.m_l_pick T.F_l_pick.kp T.b_l_pick .nil pass0 (pa_cons (pv 0) (pa_cons pe_int pa_nil))) pe_int (nomark _)) (pss_one (ps_set (i := 5) sc_l_target_form.nd rfl (Or.inl rfl) (pe_call g_l_pick (hr.mono (by first | decide | omega)) rfl T.m_l_pick T.F_l_pick.kp T.b_l_pick .nil pass0 (pa_cons (pv 0) (pa_cons (pv 1) pa_nil))))) pss_nil)
      (pss_cons (ps_asg pe_int (pg_sub (pv 4) (pv 5) set_list))
      (pss_one (ps_ret (pe_tup (pa_cons (pe_callTy call_tuple_of rfl T.z_tuple bt_tuple (pa_cons (pv 4) pa_nil)) (pa_cons (pe_ix ix_tup (pv 3) pe_int (fun _ _ => rfl)) (pa_cons (pe_ix ix_tup (pv 3) pe_int (fun _ _ => rfl)) pa_nil)))))))))))), ?_⟩
  refine ⟨_, rfl, _, rfl, a, n, rfl, hS, hn, fun f H1 cs lo hi st1 hF lcs cf le => ?_⟩
  refine ⟨_, rfl, a, 3, rfl, st1.s, by decide, fun d H2 st2 d0 d1 => ⟨_, _, rfl, rfl, _, rfl, ite2 (fun h => ?_) (fun h => ?_)⟩⟩
  · exact ⟨_, rfl, q f H2 cs lo hi (st1.trans st2) (hF.stp st2 st1.s) lcs cf⟩
  have s2 := st1.trans st2
  refine ⟨(by show 1 ≤ sizeLine; decide), fun l0 hl0 => ?_⟩
  refine ⟨_, rfl, l0, n, _, rfl, rfl, upd_same, by omega, by omega, (by rw [sizeLine_eq]; show 1 * (n : Int).toNat ≤ _; omega), fun l1 hl1 => ?_⟩
  rw [Int.toNat_natCast, rep_int0]
  have s0 : Stp a H2 (upd (upd H2 l0 (.lst [.int 0])) l1 (.lst ((List.replicate n (0 : Int)).map V.int))) := ((Stp.refl st2.s).new hl0).new hl1
  have n1 : H2 l1 = none := (Stp.refl st2.s).new hl0 |>.free hl1
  have na1 : a ≠ l1 := st2.s.ne n1
  have e1 : (upd (upd H2 l0 (.lst [.int 0])) l1 (.lst ((List.replicate n (0 : Int)).map V.int))) l1 = some (.lst ((List.replicate n (0 : Int)).map V.int)) := upd_same
  generalize (upd (upd H2 l0 (.lst [.int 0])) l1 (.lst ((List.replicate n (0 : Int)).map V.int))) = H3 at s0 e1
  refine ⟨_, rfl, ?_⟩
  refine ⟨fun σ G => ∃ c : Nat, σ = [some (.ref a), some (.int n), some (.int k), some (.ref f), some (.ref l1), some (.int c)] ∧ c < n ∧ Stp a H3 G, ?_, ?_⟩
  · refine ⟨_, rfl, a, 2, rfl, s0.s, by decide, fun d2 H4 st4 d20 d21 => ⟨rfl, _, rfl, ite2 (fun h2 => ?_) (fun h2 => ?_)⟩⟩
    · refine ⟨_, rfl, _, rfl, a, n, rfl, st4.s, by omega, fun d3 H5 st5 d30 d31 => ?_⟩
      exact ⟨d3.toNat, by rw [show ((d3.toNat : Nat) : Int) = d3 by omega]; rfl, by omega, st4.trans st5⟩
    · exact ⟨k, rfl, hk, st4⟩
  rintro σ G ⟨c, rfl, hc, sG⟩
  have e1G := sG.k _ _ na1.symm e1
  have ix1 : ixN ((List.replicate n (0 : Int)).map V.int).length (c : Int) = some c := by
    have := ixN_int (n := ((List.replicate n (0 : Int)).map V.int).length) (c := (c : Int)) (by omega) (by rw [List.length_map, List.length_replicate]; omega)
    exact this
  refine ⟨_, rfl, _, rfl, l1, _, _, _, rfl, rfl, e1G, ix1, ?_⟩
  have e7 : ((List.replicate n (0 : Int)).map V.int).set c (.int 1) = ((List.replicate n (0 : Int)).set c 1).map V.int := List.map_set.symm
  rw [e7]
  have s02 := s0.trans sG
  have s6 := s02.put (o := .lst (((List.replicate n (0 : Int)).set c 1).map V.int)) st2.s n1
  have eL : (upd G l1 (.lst (((List.replicate n (0 : Int)).set c 1).map V.int))) l1 = some (.lst (((List.replicate n (0 : Int)).set c 1).map V.int)) := upd_same
  obtain ⟨cc, hf, hcc⟩ := ((hF.stp st2 st1.s).stp s6 st2.s)
  generalize (upd G l1 (.lst (((List.replicate n (0 : Int)).set c 1).map V.int))) = G2 at s6 eL hf hcc
  have lr1 : ((List.replicate n (0 : Int)).set c 1).length = n := by rw [List.length_set, List.length_replicate]
  have cf1 : Cf ((List.replicate n (0 : Int)).set c 1) := cf_set (fun x hx => by rw [List.eq_of_mem_replicate hx]; decide) (by decide)
  refine ⟨_, rfl, l1, _, rfl, .inl ⟨SqL.of eL, fun t ht => ?_⟩⟩
  have st := Same.new ht (.tup (((List.replicate n (0 : Int)).set c 1).map V.int))
  refine ⟨_, rfl, f, _, _, _, rfl, rfl, Same.tup st hf, rfl, _, rfl, f, _, _, _, rfl, rfl, Same.tup st hf, rfl, (by show 3 ≤ sizeLine; decide), fun g hg => ?_⟩
  exact q g _ _ lo hi ((s2.trans s6).new ht |>.new hg) ⟨t, SqT.of upd_same, SqT.of ((Same.new hg _) _ _ upd_same)⟩ lr1 cf1
theorem ok_l_low (T : Txt w K mg) : FnOk P w K mg base CX0 3 T.a_l_low T.d_l_low p_l_low (spLow25 K) := by
  have g_l_pick := ok_l_pick (P := P) (w := w) (base := base) T
  have g_l_one := ok_l_oneG (P := P) (w := w) (K := K) (base := base) T
  have g_l_worth := ok_l_worth (P := P) (w := w) (K := K) (base := base) T
  have g_l_spread := ok_l_spread (P := P) (w := w) (K := K) (base := base) T
  refine T.F_l_low.ok sc_l_low (fun vs H Q E h => ?_) (fun cdv A outer s H vs Q E hr h => ?_)
  · obtain ⟨a, f, p, cs, lo, hi, Ps, rfl, _⟩ := h
    rfl
  obtain ⟨a, f, p, cs, lo, hi, Ps, rfl, hS, hF, cf, lc, tP, ne, lP, lr, q⟩ := h
  refine ⟨_, (pss_cons (ps_set (i := 3) sc_l_low.nd rfl (Or.inl rfl) (pe_call g_l_worth (hr.mono (by first | decide | omega)) rfl T.m_l_worth T.F_l_worth.kp T.b_l_worth .nil pass0 (pa_cons (pv 1) (pa_cons (pe_call g_l_one (hr.mono (by first | decide | omega)) rfl T.m_l_one T.F_l_one.kp T.b_l_one .nil pass0 (pa_cons (pv 0) (pa_cons (pv 2) pa_nil))) pa_nil))))
      (pss_cons (ps_set (i := 4) sc_l_low.nd rfl (Or.inl rfl) (pe_call g_l_spread (hr.mono (by first | decide | omega)) rfl T.m_l_spread T.F_l_spread.kp T.b_l_spread .nil pass0 (pa_cons (pv 1) (pa_cons (pv 2) pa_nil))))
      (pss_one (ps_ret (pe_op op_sub (pe_op op_add (pe_call g_l_one (hr.mono (by first | decide | omega)) rfl T.m_l_one T.F_l_one.kp T.b_l_one .nil pass0 (pa_cons (pv 0) (pa_cons (pe_lst (pa_cons (pe_op op_add (pv 3) (pe_ix ix_tup (pv 1) pe_int (fun _ _ => rfl))) (pa_cons (pe_op op_add (pv 3) (pe_ix ix_tup (pv 1) pe_int (fun _ _ => rfl))) (pa_cons (pe_ix ix_tup (pv 4) pe_int (fun _ _ => rfl)) (pa_cons (pe_ix ix_tup (pv 4) pe_int (fun _ _ => rfl)) pa_nil))))) pa_nil))) (pe_call g_l_pick (hr.mono (by first | decide | omega)) rfl T.m_l_pick T.F_l_pick.kp T.b_l_pick .nil pass0 (pa_cons (pv 0) (pa_cons pe_int pa_nil)))) pe_int))))), ?_⟩
  obtain ⟨as, eP, hA⟩ := id tP
  have npa : p ≠ a := src_ne24 hS eP
  have las : 0 < as.length := by rw [hA.1]; exact List.length_pos_iff.mpr ne
  refine ⟨_, rfl, _, rfl, _, rfl, a, p, _, false, rfl, hS, fun _ => npa, SqL.of eP, by rw [List.length_map]; exact las, by rw [List.length_map, hA.1]; omega, fun v1 H1 hv1 st1 => ?_⟩
  obtain ⟨t, ha1, rfl⟩ := List.mem_map.mp hv1
  obtain ⟨k1, hk1, ek1⟩ := List.getElem_of_mem ha1
  have hA1 := hA.stp st1 hS
  have f1 : Ps[k1]? = some (Ps[k1]'(by rw [← hA.1]; exact hk1)) := List.getElem?_eq_getElem _
  have m1 := List.mem_of_getElem? f1
  generalize Ps[k1]'(by rw [← hA.1]; exact hk1) = r at f1 m1
  have ht := SqT.of (K := K) (hA1.2 k1 t r (by rw [← ek1]; exact List.getElem?_eq_getElem hk1) f1)
  have lq := lr r m1
  have hF1 := hF.stp st1 hS
  refine ⟨f, t, cs, lo, hi, r, rfl, hF1, cf, lc, ht, lq, fun F s2 => ?_⟩
  have s1 := st1.same s2
  have tP1 := (tP.stp st1 hS npa).same s2
  refine ⟨_, rfl, _, rfl, f, p, cs, lo, hi, Ps, rfl, hF1.same s2, cf, lc, tP1, ne, lP, lr, fun u G3 L U s3 hu _ _ => ?_⟩
  obtain ⟨c, hf, hc⟩ := hF1.same s2
  have hf3 := Same.tup s3 hf
  have s13 := s1.same s3
  refine ⟨_, rfl, _, rfl, _, rfl, f, _, _, _, rfl, rfl, hf3, rfl, _, _, rfl, rfl, ?_⟩
  refine ⟨_, rfl, _, rfl, f, _, _, _, rfl, rfl, hf3, rfl, _, _, rfl, rfl, ?_⟩
  refine ⟨_, rfl, u, _, _, _, rfl, rfl, SqT.of hu, rfl, _, rfl, u, _, _, _, rfl, rfl, SqT.of hu, rfl, (by show 4 ≤ sizeLine; decide), fun l hl => ?_⟩
  have sl := Stp.new (o := .lst [.int (val cs r + lo), .int (val cs r + hi), .int L, .int U]) (Stp.refl s13.s) hl
  refine ⟨a, l, [.int (val cs r + lo), .int (val cs r + hi), .int L, .int U], false, rfl, sl.s, fun _ => (s13.s.ne hl).symm, SqL.of upd_same, by show 0 < 4; decide, by show 4 < 1000; decide, fun v H5 hv st5 => ?_⟩
  obtain ⟨k, rfl⟩ : ∃ k : Int, v = .int k := by
    simp only [List.mem_cons, List.not_mem_nil, or_false] at hv
    rcases hv with h | h | h | h <;> exact ⟨_, h⟩
  refine ⟨_, rfl, a, 13, rfl, st5.s, by decide, fun d H6 st6 _ _ => ⟨_, _, rfl, rfl, _, _, rfl, rfl, ?_⟩⟩
  exact q _ H6 (s13.trans (sl.trans (st5.trans st6)))
end
/-! ### one box within another -/
def Inside (n : Nat) : Option (List (List Int)) → Option (List (List Int)) → Prop
  | none, _ => True
  | some M, some N => ∀ i < n, ∀ j < n, getM M i j ≤ getM N i j
  | some _, none => False
def spIns24 (K : PySem.W.Frag) : Sp := fun vs H Q _ => ∃ (va vb : V) (A B : Option (List (List Int))) (n : Nat), vs = [va, vb] ∧ n ≤ 900 ∧ BoxAt K H va A ∧ BoxAt K H vb B ∧ BSz n A ∧ BSz n B ∧ Inside n A B ∧ Q (.bl true) H
theorem inside_sub {n : Nat} {A B : List (List Int)} (sub : ∀ r ∈ A, r ∈ B) : Inside (n + 1) (hull n A) (hull n B) := by
  by_cases nA : A = []
  · rw [nA]
    exact trivial
  · obtain ⟨r, hr⟩ := List.exists_mem_of_ne_nil _ nA
    have nB : B ≠ [] := List.ne_nil_of_mem (sub r hr)
    rw [hull_some nA, hull_some nB]
    intro i hi j hj
    obtain ⟨s, hs, e⟩ := hull_at (n := n) nA hi hj
    rw [← e]
    exact hull_le hi hj (sub s hs)
/-! ### a number near; one box within another -/
section
variable {P : Program} {w : World} {K : PySem.W.Frag} {mg : Str → Option Value} {base : Heap}
theorem ok_l_inside (T : Txt w K mg) : FnOk P w K mg base CX0 1 T.a_l_inside T.d_l_inside p_l_inside (spIns24 K) := by
  refine T.F_l_inside.ok sc_l_inside (fun vs H Q E h => ?_) (fun cdv A outer s H vs Q E hr h => ?_)
  · obtain ⟨va, vb, A, B, n, rfl, _⟩ := h
    rfl
  obtain ⟨va, vb, A, B, n, rfl, hn, hA, hB, zA, zB, ins, q⟩ := h
  refine ⟨_, (pss_cons (ps_if (PW.pt (pw_or (pt_cmpR op_isN (pv 0) pe_non (nomark _)) (pw_or1 (pt_cmpR op_isN (pv 1) pe_non (nomark _))))) (pss_one (ps_ret (pe_cmpR op_isN (pv 0) pe_non (nomark _)))) pss_nil)
      (pss_cons (ps_for PassesOwn.never rfl (pi_range1 rfl T.z_range (pa_cons (pe_callB call_len_seq rfl T.z_len PySem.boot_len (pa_cons (pv 1) pa_nil)) pa_nil)) (pg_name (i := 2) sc_l_inside.nd rfl (Or.inl rfl))
        (pss_one (ps_for PassesOwn.never rfl (pi_range1 rfl T.z_range (pa_cons (pe_callB call_len_seq rfl T.z_len PySem.boot_len (pa_cons (pv 1) pa_nil)) pa_nil)) (pg_name (i := 3) sc_l_inside.nd rfl (Or.inl rfl))
        (pss_one (ps_if (pt_cmpR op_gt (pe_ix ix_tup (pe_ix ix_tup (pv 0) (pv 2) (fun _ _ => rfl)) (pv 3) (fun _ _ => rfl)) (pe_ix ix_tup (pe_ix ix_tup (pv 1) (pv 2) (fun _ _ => rfl)) (pv 3) (fun _ _ => rfl)) (nomark _)) (pss_one (ps_ret pe_bl)) pss_nil)))))
      (pss_one (ps_ret pe_bl)))), ?_⟩
  cases A with
  | none =>
    obtain rfl : va = .non := hA
    refine ⟨_, rfl, rfl, _, rfl, ifT (by decide) (ifT rfl ?_)⟩
    exact ⟨_, rfl, rfl, q⟩
  | some M =>
    cases B with
    | none => exact ins.elim
    | some N =>
      obtain ⟨pa, rfl, mA⟩ := hA
      obtain ⟨pb, rfl, mB⟩ := hB
      have sA := zA M rfl
      have sB := zB N rfl
      obtain ⟨bs, hbs, lbs, _⟩ := id mB
      refine ⟨_, rfl, rfl, _, rfl, ifF (by rw [decide_eq_false (fun z => by cases z)]) ⟨_, rfl, rfl, _, rfl, ifF (by rw [decide_eq_false (fun z => by cases z)]) ?_⟩⟩
      have lb : ((bs.map V.ref).length) = n := by rw [List.length_map, lbs, sB.1]
      refine ⟨_, rfl, pb, _, rfl, .inr hbs, _, rfl, by omega, by rw [lb]; omega, for_range (lo := 0) (fun i σ G => G = H ∧ ∃ b c : Option V, σ = [some (.ref pa), some (.ref pb), b, c]) ⟨rfl, _, _, rfl⟩ ?_ ?_⟩
      · rintro i σ G hi ⟨rfl, b, c, rfl⟩
        rw [lb] at hi
        refine ⟨_, rfl, pb, _, rfl, .inr hbs, _, rfl, by omega, by rw [lb]; omega, for_range (lo := 0) (fun j σ G' => G' = G ∧ ∃ c : Option V, σ = [some (.ref pa), some (.ref pb), some (.int (0 + (i : Int))), c]) ⟨rfl, _, rfl⟩ ?_ ?_⟩
        · rintro j σ G' hj ⟨rfl, c', rfl⟩
          rw [lb] at hj
          obtain ⟨vs1, a1, r1, x1, x2, x3, x4⟩ := mA.get3 sA (i := i) (j := j) (by omega) (by omega)
          obtain ⟨vs2, a2, r2, y1, y2, y3, y4⟩ := mB.get3 sB (i := i) (j := j) (by omega) (by omega)
          refine ⟨_, rfl, _, rfl, pa, _, _, _, rfl, rfl, x1, (by rw [Int.zero_add]; exact x2), _, rfl, a1, _, _, _, rfl, rfl, x3, (by rw [Int.zero_add]; exact x4), ?_⟩
          refine ⟨_, rfl, _, rfl, pb, _, _, _, rfl, rfl, y1, (by rw [Int.zero_add]; exact y2), _, rfl, a2, _, _, _, rfl, rfl, y3, (by rw [Int.zero_add]; exact y4), _, _, rfl, rfl, _, rfl, ite2 (fun h => ?_) (fun h => ?_)⟩
          · have h' : getM M i j > getM N i j := of_decide_eq_true h
            have := ins i (by omega) j (by omega)
            omega
          · exact ⟨rfl, _, rfl⟩
        · rintro σ G' ⟨rfl, c', rfl⟩
          exact ⟨rfl, _, _, rfl⟩
      · rintro σ G ⟨rfl, b, c, rfl⟩
        exact q
end
/-! ### law k25 -/
def spAsk25 (K : PySem.W.Frag) : Sp := fun vs H Q _ => ∃ (p f : Addr) (k : Nat) (cs : List Int) (flo fhi lo hi : Int) (Ps : List (List Int)), vs = [.ref p, .int (k : Int), .ref f, .int lo, .int hi] ∧ FormAt K H f cs flo fhi ∧ Cf cs ∧ cs.length ≤ 20 ∧ k < cs.length ∧ TPts H p Ps ∧ Full cs.length Ps ∧ Ps ≠ [] ∧ Ps.length ≤ 125 ∧
  ∀ t H' v, Same H H' → H' t = some (.lst [v]) → BoxAt K H' v (hull cs.length (asgR k cs flo fhi lo hi Ps)) → Q (.ref t) H'
def spLaw (K : PySem.W.Frag) : Sp := fun vs H Q _ => ∃ (a : Addr) (ns : List Int), vs = [.ref a] ∧ SqL K H a (ns.map V.int) ∧ ns.length ≤ 63 ∧ ∀ H', Q (.bl true) H'
def AskT (K : PySem.W.Frag) (n : Nat) (F : Hp) (t : Addr) : Prop := ∃ (k : Nat) (f : Addr) (cs : List Int) (flo fhi lo hi : Int), F t = some (.tup [.int (k : Int), .ref f, .int lo, .int hi]) ∧ FormAt K F f cs flo fhi ∧ Cf cs ∧ cs.length = n ∧ k < n
theorem AskT.same {K : PySem.W.Frag} {n : Nat} {F F' : Hp} {t : Addr} (s : Same F F') (h : AskT K n F t) : AskT K n F' t := by
  obtain ⟨k, f, cs, flo, fhi, lo, hi, h1, h2, h3⟩ := h
  exact ⟨k, f, cs, flo, fhi, lo, hi, s _ _ h1, h2.same s, h3⟩
theorem AskT.stp {K : PySem.W.Frag} {n : Nat} {a t : Addr} {F F' : Hp} (s : Stp a F F') (hs : Src F a) (h : AskT K n F t) : AskT K n F' t := by
  obtain ⟨k, f, cs, flo, fhi, lo, hi, h1, h2, h3⟩ := h
  refine ⟨k, f, cs, flo, fhi, lo, hi, s.k _ _ (fun z => ?_) h1, h2.stp s hs, h3⟩
  obtain ⟨x, y, w, e⟩ := hs
  rw [z, e] at h1
  cases h1
theorem FormAt.put {K : PySem.W.Frag} {L f : Addr} {F : Hp} {xs ys : List V} {cs : List Int} {lo hi : Int} (e : F L = some (.lst xs)) (h : FormAt K F f cs lo hi) : FormAt K (upd F L (.lst ys)) f cs lo hi := by
  obtain ⟨c, h1, h2⟩ := h
  have b : But L F (upd F L (.lst ys)) := fun c o n e => by rw [upd_ne n]; exact e
  exact ⟨c, sqT_but b e h1, sqT_but b e h2⟩
theorem AskT.put {K : PySem.W.Frag} {n : Nat} {L t : Addr} {F : Hp} {xs ys : List V} (e : F L = some (.lst xs)) (h : AskT K n F t) : AskT K n (upd F L (.lst ys)) t := by
  obtain ⟨k, f, cs, flo, fhi, lo, hi, h1, h2, h3⟩ := h
  exact ⟨k, f, cs, flo, fhi, lo, hi, by rw [upd_ne (fun z => by rw [z, e] at h1; cases h1)]; exact h1, h2.put e, h3⟩
theorem slT_tail {K : PySem.W.Frag} {H : Hp} {a : Addr} {xs : List V} {Q : VK} (h : SqT K H a xs) (h0 : 1 ≤ xs.length) (q : ∀ p H', Same H H' → H' p = some (.tup (xs.drop 1)) → Q (.ref p) H') : rSlT K (.ref a) (some 1) none H Q := by
  have ec : cutV xs (some (1 : Int)) none = xs.drop 1 := cut_lo (r := 1) (by decide) (by show 1 ≤ _; exact h0)
  refine ⟨a, _, rfl, h, ?_, fun p hp => ?_⟩
  · rintro ⟨z, _⟩
    have e1 : HT.sIx xs.length 0 (some ((1 : Nat) : Int)) = min 1 xs.length := HT.sIx_nat _ _ 1
    have e2 : HT.sIx xs.length 0 (some (1 : Int)) = min 1 xs.length := e1
    rw [e2] at z
    omega
  · refine q p _ (Same.new hp _) ?_
    rw [← ec]
    exact upd_same
section
variable {P : Program} {w : World} {K : PySem.W.Frag} {mg : Str → Option Value} {base : Heap}
theorem ok_l_asked (T : Txt w K mg) : FnOk P w K mg base CX0 5 T.a_l_asked T.d_l_asked p_l_asked (spAsk25 K) := by
  have g_l_box := ok_l_box (P := P) (w := w) (K := K) (base := base) T
  have g_assign := ok_assign (P := P) (w := w) (K := K) (base := base) T
  have g_l_same := ok_l_same (P := P) (w := w) (K := K) (base := base) T 3
  have g_l_moved := ok_l_moved (P := P) (w := w) (K := K) (base := base) T
  have g_l_belongs := ok_l_belongs (P := P) (w := w) (K := K) (base := base) T
  refine T.F_l_asked.ok sc_l_asked (fun vs H Q E h => ?_) (fun cdv A outer s H vs Q E hr h => ?_)
  · obtain ⟨p, f, k, cs, flo, fhi, lo, hi, Ps, rfl, _⟩ := h
    rfl
  obtain ⟨p, f, k, cs, flo, fhi, lo, hi, Ps, rfl, hF, cf, lc, hk, tP, fu, ne, lP, q⟩ := h
  refine ⟨_, (pss_cons (ps_setLc (i := 5) (own := [("_law_number", 6)]) (g := gName 6) rfl sc_l_asked.nd rfl rfl (sw_true rfl rfl rfl (by decide +kernel)) (pi_tup (pe_ix ix_tup (pv 2) pe_int (fun _ _ => rfl))) (blkOk_by (own := [("_law_number", 6)]) (N := n_l_asked) (sc := defScope s_l_asked) (by decide +kernel)) (fun _ _ _ _ _ => (pg_name (i := 6) sc_l_asked.nd rfl (Or.inl rfl))) (fun _ _ _ _ _ => (pts_one (pt_cmpR op_ne (pv 6) pe_int (nomark _)))) (fun _ _ _ _ _ => (pv 6)))
      (pss_cons (ps_set (i := 7) sc_l_asked.nd rfl (Or.inl rfl) (pe_call g_assign (hr.mono (by first | decide | omega)) rfl T.m_assign T.F_assign.kp T.b_assign .nil pass0 (pa_cons (pe_call g_l_box (hr.mono (by first | decide | omega)) rfl T.m_l_box T.F_l_box.kp T.b_l_box .nil pass0 (pa_cons (pv 0) pa_nil)) (pa_cons (pe_op op_add (pv 1) pe_int) (pa_cons (pv 2) (pa_cons (pv 3) (pa_cons (pv 4) pa_nil)))))))
      (pss_cons (ps_if (pt_not (pt_val (pe_call g_l_same (hr.mono (by first | decide | omega)) rfl T.m_l_same T.F_l_same.kp T.b_l_same .nil pass0 (pa_cons (pv 7) (pa_cons (pe_call g_l_box (hr.mono (by first | decide | omega)) rfl T.m_l_box T.F_l_box.kp T.b_l_box .nil pass0 (pa_cons (pe_call g_l_moved (hr.mono (by first | decide | omega)) rfl T.m_l_moved T.F_l_moved.kp T.b_l_moved .nil pass0 (pa_cons (pv 0) (pa_cons (pv 1) (pa_cons (pv 2) (pa_cons (pv 3) (pa_cons (pv 4) (pa_cons (pe_or (pe_cmpR (op_eqL0 hr.units0) (pv 5) (pe_lst pa_nil) (nomark _)) (pe_one (pe_cmpR (op_eqD hr.units) (pv 5) (pe_lst (pa_cons pe_int pa_nil)) (nomark _)))) pa_nil))))))) pa_nil)) pa_nil))))) (pss_one (ps_ret (pe_lst pa_nil))) pss_nil)
      (pss_cons (ps_for PassesOwn.never rfl (pi_list (pe_call g_l_moved (hr.mono (by first | decide | omega)) rfl T.m_l_moved T.F_l_moved.kp T.b_l_moved .nil pass0 (pa_cons (pv 0) (pa_cons (pv 1) (pa_cons (pv 2) (pa_cons (pv 3) (pa_cons (pv 4) (pa_cons pe_bl pa_nil)))))))) (pg_name (i := 8) sc_l_asked.nd rfl (Or.inl rfl))
        (pss_one (ps_if (PW.pt (pw_or (pt_cmpR op_isN (pv 7) pe_non (nomark _)) (pw_or1 (pt_not (pt_val (pe_call g_l_belongs (hr.mono (by first | decide | omega)) rfl T.m_l_belongs T.F_l_belongs.kp T.b_l_belongs .nil pass0 (pa_cons (pv 7) (pa_cons (pv 8) pa_nil)))))))) (pss_one (ps_ret (pe_lst pa_nil))) pss_nil)))
      (pss_one (ps_ret (pe_lst (pa_cons (pv 7) pa_nil)))))))), ?_⟩
  obtain ⟨c, hf, hc⟩ := id hF
  refine ⟨_, rfl, f, _, _, _, rfl, rfl, hf, rfl, c, rfl, ⟨_, hc⟩, fun D hD => ?_⟩
  refine lc_it (walk_tup (xs := cs.map V.int)) (fun i G => Same H G ∧ G D = some (.lst (((usedTo cs i).map fun k => cs.getD k 0).map V.int))) ⟨Same.new hD _, upd_same⟩ (fun i G _ P => Same.tup P.1 hc) ?_ ?_
  · rintro i x G G' hi2 P ⟨rfl, ex⟩
    obtain ⟨k, ek, rfl⟩ := get_int ex
    rw [List.length_map] at hi2
    have gk : cs.getD i 0 = k := by rw [List.getD_eq_getElem?_getD, ek]; rfl
    refine ⟨rfl, ?_⟩
    refine ⟨_, rfl, rfl, _, rfl, ite2 (fun h => ?_) (fun h => ?_)⟩
    · have nz : cs.getD i 0 ≠ 0 := fun z => by
        rw [gk] at z
        rw [z] at h
        exact absurd h (by decide)
      refine ⟨_, rfl, _, P.2, lt_line (by simp only [List.length_map]; have := usedTo_len (cs := cs) (i := i); omega), fun b o e => ?_, ?_⟩
      · rw [upd_ne (ne_of_none e hD)]
        exact P.1 _ _ e
      · rw [usedTo_yes nz, List.map_append, List.map_append]
        show upd _ D _ D = some (.lst (_ ++ [V.int (cs.getD i 0)]))
        rw [gk]
        exact upd_same
    · have z : cs.getD i 0 = 0 := by
        rw [gk]
        by_cases z : k = 0
        · exact z
        · exact absurd (by rw [decide_eq_false (fun e => z (V.int.inj e))]; rfl) h
      rw [usedTo_no z]
      exact P
  rintro G ⟨sG, eD⟩
  rw [List.length_map, usedTo_all] at eD
  have eD : G D = some (.lst ((numL cs).map V.int)) := eD
  refine ⟨_, rfl, p, cs.length, Ps, rfl, by omega, (tP.same sG).pts.mx, fu.len, by omega, fun vb G1 s1 b1 => ?_⟩
  have sG1 := sG.trans s1
  refine ⟨_, rfl, _, _, rfl, rfl, _, rfl, _, rfl, _, rfl, vb, f, k, cs, flo, fhi, lo, hi, Ps, rfl, hF.same sG1, cf, by omega, hk, b1, fu, fun va G2 s2 b2 => ?_⟩
  have sG2 := sG1.trans s2
  have eD2 := s2 _ _ (s1 _ _ eD)
  have tP2 := tP.same sG2
  refine ⟨_, rfl, _, rfl, _, rfl, _, rfl, _, rfl, _, rfl, ?_⟩
  refine ⟨_, rfl, (by show 0 ≤ sizeLine; decide), fun le hle => ?_⟩
  have sE := Same.new hle (.lst [])
  refine ⟨D, le, _, rfl, rfl, SqL.of (sE _ _ eD2), SqL.of upd_same, _, rfl, ite2 (fun h1 => ?_) (fun h1 => ?_)⟩
  · have sX := sE
    have hex : true = true ↔ Ex cs := ⟨fun _ => .inl (by
      cases e : numL cs with
      | nil => rfl
      | cons x xs => rw [e] at h1; exact absurd h1 (by simp)), fun _ => rfl⟩
    refine ⟨p, f, k, cs, flo, fhi, lo, hi, true, Ps, rfl, hF.same (sG2.trans sX), cf, lc, hk, tP2.same sX, ne, lP, fu.len, fun m G4 s4 tM => ?_⟩
    have lM := endsA_len (k := k) (a := loM true cs flo lo Ps) (b := hiM true cs fhi hi Ps) Ps
    have lenM : ∀ {ex : Bool}, ∀ r ∈ endsA k (loM ex cs flo lo Ps) (hiM ex cs fhi hi Ps) Ps, r.length = cs.length := fun {ex} r hr => by
      obtain ⟨s, hs, _, e | e⟩ := mem_endsA.mp hr
      · rw [e, List.length_set]
        exact fu.len s hs
      · rw [e, List.length_set]
        exact fu.len s hs
    refine ⟨m, cs.length, _, rfl, by omega, tM.pts.mx, lenM, by omega, fun vd G5 s5 b5 => ?_⟩
    rw [asgR_ends fu.len hk hex] at b5
    have sA := sX.trans (s4.trans s5)
    have b2' := b2.same sA
    refine ⟨va, vd, boxD (hull cs.length (asgR k cs flo fhi lo hi Ps)), rfl, b2'.dp, b5.dp, (hull_sz _ _).dok (by omega), _, rfl, ifF rfl ?_⟩
    have sG5 := sG2.trans sA
    refine ⟨_, rfl, _, rfl, _, rfl, _, rfl, _, rfl, p, f, k, cs, flo, fhi, lo, hi, true, Ps, rfl, hF.same sG5, cf, lc, hk, tP.same sG5, ne, lP, fu.len, fun m2 G6 s6 tM2 => ?_⟩
    obtain ⟨ms, eM, hM⟩ := id tM2
    refine ⟨m2, rfl, ⟨_, SqL.of eM⟩, ?_⟩
    refine for_it (walk_list (xs := ms.map V.ref)) (fun i σ F => (∃ y8 y9 : Option V, σ = [some (.ref p), some (.int (k : Int)), some (.ref f), some (.int lo), some (.int hi), some (.ref D), y9, some va, y8]) ∧ Same G6 F) ⟨⟨_, _, rfl⟩, Same.refl _⟩ (fun j σ F _ P => SqL.of (P.2 _ _ eM)) ?_ ?_
    · rintro i v σ F0 F hi2 ⟨⟨y8, y9, rfl⟩, sF⟩ ⟨rfl, ex1⟩
      rw [List.length_map, hM.1] at hi2
      have er : (endsA k (loM true cs flo lo Ps) (hiM true cs fhi hi Ps) Ps)[i]? = some (endsA k (loM true cs flo lo Ps) (hiM true cs fhi hi Ps) Ps)[i] := List.getElem?_eq_getElem hi2
      have mr := List.getElem_mem hi2
      generalize (endsA k (loM true cs flo lo Ps) (hiM true cs fhi hi Ps) Ps)[i] = r at er mr
      have lq := lenM r mr
      have mR := asgR_exact r mr
      have nR : asgR k cs flo fhi lo hi Ps ≠ [] := List.ne_nil_of_mem mR
      have ea : ms[i]? = some (ms[i]'(by rw [hM.1]; exact hi2)) := List.getElem?_eq_getElem _
      generalize ms[i]'(by rw [hM.1]; exact hi2) = tq at ea
      rw [map_get ea] at ex1
      obtain rfl := Option.some.inj ex1
      have htq := sF _ _ (hM.2 i tq r ea er)
      have b6 := (b2'.same s6).same sF
      rw [hull_some nR] at b6
      obtain ⟨pb, rfl, mB⟩ := b6
      refine ⟨_, rfl, rfl, _, rfl, ifF (by rw [decide_eq_false (fun z => by cases z)]) ?_⟩
      refine ⟨_, rfl, _, rfl, pb, tq, hullM cs.length (asgR k cs flo fhi lo hi Ps), r, rfl, by omega, mB, (by rw [lq]; exact hullM_sz _ _), (by rw [lq]; exact fun i hi => (hull_clo nR).d i hi), SqT.of htq, fun b F9 s9 hb => ⟨_, rfl, ?_⟩⟩
      have bt : b = true := hb.mpr (by
        rw [lq]
        exact fun a ha b hb => hull_le ha hb mR)
      subst bt
      exact ifF rfl ⟨⟨_, _, rfl⟩, sF.trans s9⟩
    · rintro σ F ⟨⟨y8, y9, rfl⟩, sF⟩
      refine ⟨_, rfl, (by show 1 ≤ sizeLine; decide), fun t ht => ?_⟩
      exact q t _ va ((sG5.trans (s6.trans sF)).trans (Same.new ht _)) upd_same (((b2'.same s6).same sF).same (Same.new ht _))
  · have n0 : numL cs ≠ [] := fun z => by
      rw [z] at h1
      exact h1 (by rfl)
    refine ⟨_, rfl, (by show 1 ≤ sizeLine; decide), fun l1 hl1 => ?_⟩
    have sX := sE.trans (Same.new hl1 (.lst [.int 1]))
    refine eqI (ys := [1]) (SqL.of (sX _ _ eD2)) (SqL.of upd_same) ?_
    have hex : decide (numL cs = [1]) = true ↔ Ex cs := ⟨fun h => .inr (of_decide_eq_true h), fun h => decide_eq_true (h.elim (fun z => absurd z n0) id)⟩
    refine ⟨p, f, k, cs, flo, fhi, lo, hi, (decide (numL cs = [1])), Ps, rfl, hF.same (sG2.trans sX), cf, lc, hk, tP2.same sX, ne, lP, fu.len, fun m G4 s4 tM => ?_⟩
    have lM := endsA_len (k := k) (a := loM (decide (numL cs = [1])) cs flo lo Ps) (b := hiM (decide (numL cs = [1])) cs fhi hi Ps) Ps
    have lenM : ∀ {ex : Bool}, ∀ r ∈ endsA k (loM ex cs flo lo Ps) (hiM ex cs fhi hi Ps) Ps, r.length = cs.length := fun {ex} r hr => by
      obtain ⟨s, hs, _, e | e⟩ := mem_endsA.mp hr
      · rw [e, List.length_set]
        exact fu.len s hs
      · rw [e, List.length_set]
        exact fu.len s hs
    refine ⟨m, cs.length, _, rfl, by omega, tM.pts.mx, lenM, by omega, fun vd G5 s5 b5 => ?_⟩
    rw [asgR_ends fu.len hk hex] at b5
    have sA := sX.trans (s4.trans s5)
    have b2' := b2.same sA
    refine ⟨va, vd, boxD (hull cs.length (asgR k cs flo fhi lo hi Ps)), rfl, b2'.dp, b5.dp, (hull_sz _ _).dok (by omega), _, rfl, ifF rfl ?_⟩
    have sG5 := sG2.trans sA
    refine ⟨_, rfl, _, rfl, _, rfl, _, rfl, _, rfl, p, f, k, cs, flo, fhi, lo, hi, true, Ps, rfl, hF.same sG5, cf, lc, hk, tP.same sG5, ne, lP, fu.len, fun m2 G6 s6 tM2 => ?_⟩
    obtain ⟨ms, eM, hM⟩ := id tM2
    refine ⟨m2, rfl, ⟨_, SqL.of eM⟩, ?_⟩
    refine for_it (walk_list (xs := ms.map V.ref)) (fun i σ F => (∃ y8 y9 : Option V, σ = [some (.ref p), some (.int (k : Int)), some (.ref f), some (.int lo), some (.int hi), some (.ref D), y9, some va, y8]) ∧ Same G6 F) ⟨⟨_, _, rfl⟩, Same.refl _⟩ (fun j σ F _ P => SqL.of (P.2 _ _ eM)) ?_ ?_
    · rintro i v σ F0 F hi2 ⟨⟨y8, y9, rfl⟩, sF⟩ ⟨rfl, ex1⟩
      rw [List.length_map, hM.1] at hi2
      have er : (endsA k (loM true cs flo lo Ps) (hiM true cs fhi hi Ps) Ps)[i]? = some (endsA k (loM true cs flo lo Ps) (hiM true cs fhi hi Ps) Ps)[i] := List.getElem?_eq_getElem hi2
      have mr := List.getElem_mem hi2
      generalize (endsA k (loM true cs flo lo Ps) (hiM true cs fhi hi Ps) Ps)[i] = r at er mr
      have lq := lenM r mr
      have mR := asgR_exact r mr
      have nR : asgR k cs flo fhi lo hi Ps ≠ [] := List.ne_nil_of_mem mR
      have ea : ms[i]? = some (ms[i]'(by rw [hM.1]; exact hi2)) := List.getElem?_eq_getElem _
      generalize ms[i]'(by rw [hM.1]; exact hi2) = tq at ea
      rw [map_get ea] at ex1
      obtain rfl := Option.some.inj ex1
      have htq := sF _ _ (hM.2 i tq r ea er)
      have b6 := (b2'.same s6).same sF
      rw [hull_some nR] at b6
      obtain ⟨pb, rfl, mB⟩ := b6
      refine ⟨_, rfl, rfl, _, rfl, ifF (by rw [decide_eq_false (fun z => by cases z)]) ?_⟩
      refine ⟨_, rfl, _, rfl, pb, tq, hullM cs.length (asgR k cs flo fhi lo hi Ps), r, rfl, by omega, mB, (by rw [lq]; exact hullM_sz _ _), (by rw [lq]; exact fun i hi => (hull_clo nR).d i hi), SqT.of htq, fun b F9 s9 hb => ⟨_, rfl, ?_⟩⟩
      have bt : b = true := hb.mpr (by
        rw [lq]
        exact fun a ha b hb => hull_le ha hb mR)
      subst bt
      exact ifF rfl ⟨⟨_, _, rfl⟩, sF.trans s9⟩
    · rintro σ F ⟨⟨y8, y9, rfl⟩, sF⟩
      refine ⟨_, rfl, (by show 1 ≤ sizeLine; decide), fun t ht => ?_⟩
      exact q t _ va ((sG5.trans (s6.trans sF)).trans (Same.new ht _)) upd_same (((b2'.same s6).same sF).same (Same.new ht _))
theorem ok_law (T : Txt w K mg) : FnOk P w K mg base CX0 6 T.a_law T.d_law p_law (spLaw K) := by
  have g_l_cell := ok_l_cell (P := P) (w := w) (K := K) (base := base) T
  have g_l_source := ok_l_source (P := P) (w := w) (base := base) T
  have g_l_pick := ok_l_pick (P := P) (w := w) (base := base) T
  have g_l_one := ok_l_oneG (P := P) (w := w) (K := K) (base := base) T
  have g_l_points := ok_l_points (P := P) (w := w) (K := K) (base := base) T
  have g_l_part := ok_l_part (P := P) (w := w) (K := K) (base := base) T
  have g_l_target_form := ok_l_target_form (P := P) (w := w) (K := K) (base := base) T
  have g_l_low := ok_l_low (P := P) (w := w) (K := K) (base := base) T
  have g_l_asked := ok_l_asked (P := P) (w := w) (K := K) (base := base) T
  have g_l_inside := ok_l_inside (P := P) (w := w) (K := K) (base := base) T
  have g_assign := ok_assign (P := P) (w := w) (K := K) (base := base) T
  refine T.F_law.ok sc_law (fun vs H Q E h => ?_) (fun cdv A outer s H vs Q E hr h => ?_)
  · obtain ⟨a, ns, rfl, _⟩ := h
    rfl
  obtain ⟨a, ns, rfl, hS, h63, q⟩ := h
  refine ⟨_, (pss_cons (ps_set (i := 1) sc_law.nd rfl (Or.inl rfl) (pe_call g_l_source (hr.mono (by first | decide | omega)) rfl T.m_l_source T.F_l_source.kp T.b_l_source .nil pass0 (pa_cons (pe_op op_add (pe_op op_add (pe_call g_l_cell (hr.mono (by first | decide | omega)) rfl T.m_l_cell T.F_l_cell.kp T.b_l_cell .nil pass0 (pa_cons (pv 0) (pa_cons pe_int pa_nil))) (pe_op op_mul pe_int (pe_call g_l_cell (hr.mono (by first | decide | omega)) rfl T.m_l_cell T.F_l_cell.kp T.b_l_cell .nil pass0 (pa_cons (pv 0) (pa_cons pe_int pa_nil))))) (pe_op op_mul pe_int (pe_call g_l_cell (hr.mono (by first | decide | omega)) rfl T.m_l_cell T.F_l_cell.kp T.b_l_cell .nil pass0 (pa_cons (pv 0) (pa_cons pe_int pa_nil))))) pa_nil)))
      (pss_cons (ps_set (i := 2) sc_law.nd rfl (Or.inl rfl) (pe_call g_l_points (hr.mono (by first | decide | omega)) rfl T.m_l_points T.F_l_points.kp T.b_l_points .nil pass0 (pa_cons (pv 1) (pa_cons pe_int (pa_cons pe_int pa_nil)))))
      (pss_cons (ps_set (i := 3) sc_law.nd rfl (Or.inl rfl) (pe_call g_l_part (hr.mono (by first | decide | omega)) rfl T.m_l_part T.F_l_part.kp T.b_l_part .nil pass0 (pa_cons (pv 1) (pa_cons (pv 2) pa_nil))))
      (pss_cons (ps_set (i := 4) sc_law.nd rfl (Or.inl rfl) (pe_callB call_len_seq rfl T.z_len PySem.boot_len (pa_cons (pe_ix ix_list (pv 2) pe_int (fun _ _ => rfl)) pa_nil)))
      (pss_cons (ps_set (i := 5) sc_law.nd rfl (Or.inl rfl) (pe_lst pa_nil))
      (pss_cons (ps_for PassesOwn.never rfl (pi_list (pe_lst (pa_cons (pv 2) (pa_cons (pv 3) pa_nil)))) (pg_name (i := 6) sc_law.nd rfl (Or.inl rfl))
        (pss_cons (ps_set (i := 7) sc_law.nd rfl (Or.inl rfl) (pe_call g_l_pick (hr.mono (by first | decide | omega)) rfl T.m_l_pick T.F_l_pick.kp T.b_l_pick .nil pass0 (pa_cons (pv 1) (pa_cons (pv 4) pa_nil))))
      (pss_cons (ps_set (i := 8) sc_law.nd rfl (Or.inl rfl) (pe_call g_l_target_form (hr.mono (by first | decide | omega)) rfl T.m_l_target_form T.F_l_target_form.kp T.b_l_target_form .nil pass0 (pa_cons (pv 1) (pa_cons (pv 4) (pa_cons (pv 7) pa_nil)))))
      (pss_cons (ps_set (i := 9) sc_law.nd rfl (Or.inl rfl) (pe_call g_l_low (hr.mono (by first | decide | omega)) rfl T.m_l_low T.F_l_low.kp T.b_l_low .nil pass0 (pa_cons (pv 1) (pa_cons (pv 8) (pa_cons (pv 6) pa_nil)))))
      (pss_one (ps_expr (pe_bm PySem.F.plainAttrs_list PySem.F.slot_list_append PySem.F.type_list_append mt_append (pv 5) (pa_cons (pe_tup (pa_cons (pv 7) (pa_cons (pv 8) (pa_cons (pv 9) (pa_cons (pe_op op_add (pv 9) (pe_call g_l_one (hr.mono (by first | decide | omega)) rfl T.m_l_one T.F_l_one.kp T.b_l_one .nil pass0 (pa_cons (pv 1) (pa_cons (pe_lst (pa_cons pe_int (pa_cons pe_int (pa_cons pe_int (pa_cons pe_int (pa_cons pe_int (pa_cons (pe_op op_pow pe_int pe_int) pa_nil))))))) pa_nil)))) pa_nil))))) pa_nil))))))))
      (pss_cons (ps_expr (pe_bm PySem.F.plainAttrs_list PySem.F.slot_list_append PySem.F.type_list_append mt_append (pv 5) (pa_cons (pe_op op_catA (pe_tup (pa_cons (pe_call g_l_pick (hr.mono (by first | decide | omega)) rfl T.m_l_pick T.F_l_pick.kp T.b_l_pick .nil pass0 (pa_cons (pv 1) (pa_cons (pv 4) pa_nil))) pa_nil)) (pe_slice sl_tup (pe_ix ix_list (pv 5) pe_int (fun _ _ => rfl)) (po_some pe_int) po_none)) pa_nil)))
      (pss_cons (ps_expr (pe_bm PySem.F.plainAttrs_list PySem.F.slot_list_append PySem.F.type_list_append mt_append (pv 5) (pa_cons (pe_ix ix_list (pv 5) pe_int (fun _ _ => rfl)) pa_nil)))
      (pss_cons (ps_for PassesOwn.never rfl (pi_list (pv 5)) (pg_tup rfl (pgs_cons (pg_name (i := 7) sc_law.nd rfl (Or.inl rfl)) (pgs_cons (pg_name (i := 8) sc_law.nd rfl (Or.inl rfl)) (pgs_cons (pg_name (i := 9) sc_law.nd rfl (Or.inl rfl)) (pgs_cons (pg_name (i := 10) sc_law.nd rfl (Or.inl rfl)) pgs_nil)))))
        (pss_cons (ps_set (i := 11) sc_law.nd rfl (Or.inl rfl) (pe_call g_l_asked (hr.mono (by first | decide | omega)) rfl T.m_l_asked T.F_l_asked.kp T.b_l_asked .nil pass0 (pa_cons (pv 2) (pa_cons (pv 7) (pa_cons (pv 8) (pa_cons (pv 9) (pa_cons (pv 10) pa_nil)))))))
      (pss_cons (ps_set (i := 12) sc_law.nd rfl (Or.inl rfl) (pe_call g_l_asked (hr.mono (by first | decide | omega)) rfl T.m_l_asked T.F_l_asked.kp T.b_l_asked .nil pass0 (pa_cons (pv 3) (pa_cons (pv 7) (pa_cons (pv 8) (pa_cons (pv 9) (pa_cons (pv 10) pa_nil)))))))
      (pss_cons (ps_if (PW.pt (pw_or (pt_cmpR (op_eqL0 hr.units0) (pv 11) (pe_lst pa_nil) (nomark _)) (pw_or (pt_cmpR (op_eqL0 hr.units0) (pv 12) (pe_lst pa_nil) (nomark _)) (pw_or1 (pt_not (pt_val (pe_call g_l_inside (hr.mono (by first | decide | omega)) rfl T.m_l_inside T.F_l_inside.kp T.b_l_inside .nil pass0 (pa_cons (pe_ix ix_list (pv 12) pe_int (fun _ _ => rfl)) (pa_cons (pe_ix ix_list (pv 11) pe_int (fun _ _ => rfl)) pa_nil))))))))) (pss_one (ps_ret pe_bl)) pss_nil)
      (pss_one (ps_if (pt_cmpR op_notN (pe_call g_assign (hr.mono (by first | decide | omega)) rfl T.m_assign T.F_assign.kp T.b_assign .nil pass0 (pa_cons pe_non (pa_cons (pe_op op_add (pv 7) pe_int) (pa_cons (pv 8) (pa_cons (pv 9) (pa_cons (pv 10) pa_nil)))))) pe_non (nomark _)) (pss_one (ps_ret pe_bl)) pss_nil))))))
      (pss_one (ps_ret pe_bl))))))))))), ?_⟩
  refine ⟨_, rfl, a, ns, 0, rfl, hS, by decide, fun c0 => ?_⟩
  refine ⟨_, rfl, a, ns, 1, rfl, hS, by decide, fun c1 => ⟨_, _, rfl, rfl, .inl ⟨by decide, by decide⟩, _, _, rfl, rfl, ?_⟩⟩
  refine ⟨_, rfl, a, ns, 2, rfl, hS, by decide, fun c2 => ⟨_, _, rfl, rfl, .inl ⟨by decide, by decide⟩, _, _, rfl, rfl, ?_⟩⟩
  refine ⟨_, rfl, fun p0 H1 hp0 s1 src => ?_⟩
  refine ⟨_, rfl, p0, 1, rfl, src, by decide, fun pp G1 n Ps st1 hpp tP fu ne hn hn1 lP => ?_⟩
  refine ⟨_, rfl, _, rfl, p0, pp, n, Ps, rfl, st1.s, tP, fu, ne, hn, lP, fun qq G2 Qs st2 hqq tQ fq neq lQ sub => ?_⟩
  have npp : pp ≠ p0 := fun z => by
    rw [z] at hpp
    exact (src.ne hpp) rfl
  have nqq : qq ≠ p0 := fun z => by
    rw [z] at hqq
    exact (st1.s.ne hqq) rfl
  have tP2 := tP.stp st2 st1.s npp
  obtain ⟨as, a0, r0, eP, ea, e0, l0⟩ : ∃ (as : List Addr) (a0 : Addr) (r0 : List Int), G2 pp = some (.lst (as.map V.ref)) ∧ as[0]? = some a0 ∧ G2 a0 = some (.tup (r0.map V.int)) ∧ (r0.map V.int).length = n := by
    obtain ⟨as, e, hA⟩ := id tP2
    have l0 : 0 < Ps.length := List.length_pos_iff.mpr ne
    have er : Ps[0]? = some Ps[0] := List.getElem?_eq_getElem l0
    have ea : as[0]? = some (as[0]'(by rw [hA.1]; exact l0)) := List.getElem?_eq_getElem _
    exact ⟨as, _, _, e, ea, hA.2 0 _ _ ea er, by rw [List.length_map]; exact fu.len _ (List.getElem_mem l0)⟩
  refine ⟨_, rfl, pp, _, _, _, rfl, rfl, SqL.of eP, atI_nat (j := 0) (map_get ea), a0, _, rfl, .inr (SqT.of e0), ?_⟩
  rw [l0]
  refine ⟨(by show 0 ≤ sizeLine; decide), fun L hL => ?_⟩
  have npL : p0 ≠ L := st2.s.ne hL
  refine ⟨_, rfl, _, rfl, (by show 2 ≤ sizeLine; decide), fun l2 hl2 => ⟨l2, rfl, ⟨_, SqL.of upd_same⟩, ?_⟩⟩
  have sL := (Stp.refl st2.s).new (o := .lst []) hL
  have s22 := sL.new (o := .lst [.ref pp, .ref qq]) hl2
  have eL2 := (Same.new hl2 (.lst [.ref pp, .ref qq])) _ _ (upd_same (H := G2) (a := L) (o := .lst []))
  have el2 : (upd (upd G2 L (.lst [])) l2 (.lst [.ref pp, .ref qq])) l2 = some (.lst [.ref pp, .ref qq]) := upd_same
  have np2 : l2 ≠ p0 := (sL.s.ne hl2).symm
  have nL2 : l2 ≠ L := fun z => by rw [z] at hl2; rw [upd_same] at hl2; cases hl2
  generalize (upd (upd G2 L (.lst [])) l2 (.lst [.ref pp, .ref qq])) = G3 at s22 eL2 el2
  refine for_it (walk_list (xs := [V.ref pp, .ref qq])) (fun i σ F => (∃ y6 y7 y8 y9 y10 y11 y12 : Option V, σ = [some (.ref a), some (.ref p0), some (.ref pp), some (.ref qq), some (.int (n : Int)), some (.ref L), y6, y7, y8, y9, y10, y11, y12]) ∧ Stp p0 G2 F ∧ F l2 = some (.lst [.ref pp, .ref qq]) ∧ ∃ ts : List Addr, F L = some (.lst (ts.map V.ref)) ∧ ts.length = i ∧ ∀ t ∈ ts, AskT K n F t) ⟨⟨_, _, _, _, _, _, _, rfl⟩, s22, el2, [], eL2, rfl, fun t h => by simp at h⟩ (fun j σ F _ P => SqL.of P.2.2.1) ?_ ?_
  · rintro i v σ F0 F hi2 ⟨⟨y6, y7, y8, y9, y10, y11, y12, rfl⟩, sF, eF2, ts, eT, lT, aT⟩ ⟨rfl, ex⟩
    obtain ⟨px, Rs, rfl, tR, neR, lR, fR, npx⟩ : ∃ (px : Addr) (Rs : List (List Int)), v = .ref px ∧ TPts F px Rs ∧ Rs ≠ [] ∧ Rs.length ≤ 125 ∧ (∀ r ∈ Rs, r.length = n) ∧ px ≠ p0 := by
      match i, hi2, ex with
      | 0, _, ex =>
        cases ex
        exact ⟨pp, Ps, rfl, tP2.stp sF st2.s npp, ne, lP, fu.len, npp⟩
      | 1, _, ex =>
        cases ex
        exact ⟨qq, Qs, rfl, tQ.stp sF st2.s nqq, neq, lQ, fq.len, nqq⟩
    refine ⟨_, rfl, _, rfl, p0, n, rfl, sF.s, by omega, fun d F1 st1 d0 d1 => ?_⟩
    obtain ⟨k, rfl⟩ : ∃ k : Nat, d = (k : Int) := ⟨d.toNat, by omega⟩
    refine ⟨_, rfl, _, rfl, _, rfl, p0, n, k, rfl, st1.s, hn, by omega, fun f F2 cs flo fhi st2' hF lcs cf => ?_⟩
    have s12 := st1.trans st2'
    refine ⟨_, rfl, _, rfl, _, rfl, p0, f, px, cs, flo, fhi, Rs, rfl, st2'.s, hF, cf, by omega, tR.stp s12 sF.s npx, neR, lR, (by rw [lcs]; exact fR), fun x F3 st3 => ?_⟩
    have s13 := s12.trans st3
    have eT3 := s13.k _ _ npL.symm eT
    refine ⟨_, rfl, .inl ⟨rfl, _, SqL.of eT3⟩, ?_⟩
    refine ⟨_, rfl, _, rfl, _, rfl, _, rfl, _, rfl, _, _, rfl, rfl, ⟨by decide, by decide, by decide⟩, (by show 6 ≤ sizeLine; decide), fun l3 hl3 => ?_⟩
    have sl3 := Stp.new (o := .lst [.int 0, .int 1, .int 2, .int 5, .int 12, .int ((10 : Int) ^ (9 : Int).toNat)]) (Stp.refl st3.s) hl3
    refine ⟨p0, l3, [.int 0, .int 1, .int 2, .int 5, .int 12, .int ((10 : Int) ^ (9 : Int).toNat)], false, rfl, sl3.s, fun _ => (st3.s.ne hl3).symm, SqL.of upd_same, by show 0 < 6; decide, by show 6 < 1000; decide, fun v F4 hv st4 => ?_⟩
    obtain ⟨kk, rfl⟩ : ∃ k : Int, v = .int k := by
      simp only [List.mem_cons, List.not_mem_nil, or_false] at hv
      rcases hv with h | h | h | h | h | h <;> exact ⟨_, h⟩
    refine ⟨_, _, rfl, rfl, (by show 4 ≤ sizeLine; decide), fun t ht => ?_⟩
    have s14 := s13.trans (sl3.trans st4)
    have s15 := s14.new (o := .tup [.int (k : Int), .ref f, .int x, .int (x + kk)]) ht
    have hF5 := (hF.stp (st3.trans (sl3.trans st4)) st2'.s).same (Same.new ht (.tup [.int (k : Int), .ref f, .int x, .int (x + kk)]))
    have eT5 := s15.k _ _ npL.symm eT
    have e25 := s15.k _ _ np2 eF2
    have aT5 : ∀ t' ∈ ts, AskT K n (upd F4 t (.tup [.int (k : Int), .ref f, .int x, .int (x + kk)])) t' := fun t' h => (aT t' h).stp s15 sF.s
    have aN : AskT K n (upd F4 t (.tup [.int (k : Int), .ref f, .int x, .int (x + kk)])) t := ⟨k, f, cs, flo, fhi, x, x + kk, upd_same, hF5, cf, lcs, by omega⟩
    refine ⟨L, _, _, rfl, rfl, eT5, lt_line (by rw [List.length_map, lT]; have : i < 2 := hi2; omega), ?_⟩
    refine ⟨⟨_, _, _, _, _, _, _, rfl⟩, (sF.trans s15).put st2.s hL, by rw [upd_ne nL2]; exact e25, ts ++ [t], by rw [List.map_append]; exact upd_same, by rw [List.length_append, lT]; rfl, fun t' h => ?_⟩
    rcases List.mem_append.mp h with h1 | h1
    · exact (aT5 t' h1).put eT5
    · rw [List.mem_singleton.mp h1]
      exact aN.put eT5
  · rintro σ F ⟨⟨y6, y7, y8, y9, y10, y11, y12, rfl⟩, sF, eF2, ts, eT, lT, aT⟩
    have lT2 : ts.length = 2 := lT
    obtain ⟨t0, t1, rfl⟩ : ∃ t0 t1, ts = [t0, t1] := by
      match ts, lT2 with
      | [t0, t1], _ => exact ⟨t0, t1, rfl⟩
    refine ⟨_, rfl, .inl ⟨rfl, _, SqL.of eT⟩, ?_⟩
    refine ⟨_, rfl, _, rfl, p0, n, rfl, sF.s, by omega, fun d F1 st1 d0 d1 => ⟨(by show 1 ≤ sizeLine; decide), fun w1 hw1 => ?_⟩⟩
    obtain ⟨k, rfl⟩ : ∃ k : Nat, d = (k : Int) := ⟨d.toNat, by omega⟩
    have sw := st1.new (o := .tup [.int (k : Int)]) hw1
    have eT1 := sw.k _ _ npL.symm eT
    have aT1 : ∀ t' ∈ [t0, t1], AskT K n (upd F1 w1 (.tup [.int (k : Int)])) t' := fun t' h => (aT t' h).stp sw sF.s
    obtain ⟨k0, f0, cs0, flo0, fhi0, lo0, hi0, x1, x2, x3, x4, x5⟩ := aT1 t0 (by simp)
    refine ⟨_, rfl, L, _, _, _, rfl, rfl, SqL.of eT1, rfl, _, rfl, ?_⟩
    dsimp only [tNoPart]
    refine slT_tail (SqT.of x1) (by show 1 ≤ 4; decide) fun w2 F2 s2 hw2 => ?_
    refine catT (s2 _ _ upd_same) hw2 (by show 1 + 3 ≤ 1000; decide) fun z F3 s3 hz => ?_
    have s23 := s2.trans s3
    have eT3 := s23 _ _ eT1
    have aT3 : ∀ t' ∈ [t0, t1], AskT K n F3 t' := fun t' h => (aT1 t' h).same s23
    have aZ : AskT K n F3 z := ⟨k, f0, cs0, flo0, fhi0, lo0, hi0, hz, x2.same s23, x3, x4, by omega⟩
    refine ⟨L, _, _, rfl, rfl, eT3, lt_line (by show 2 ≤ 10000000; decide), ?_⟩
    have eT4 : (upd F3 L (.lst ([t0, t1].map V.ref ++ [.ref z]))) L = some (.lst [.ref t0, .ref t1, .ref z]) := upd_same
    have aT4 : ∀ t' ∈ [t0, t1, z], AskT K n (upd F3 L (.lst ([t0, t1].map V.ref ++ [.ref z]))) t' := fun t' h => by
      simp only [List.mem_cons, List.not_mem_nil, or_false] at h
      rcases h with h | h | h
      · exact (aT3 t' (by rw [h]; simp)).put eT3
      · exact (aT3 t' (by rw [h]; simp)).put eT3
      · rw [h]; exact aZ.put eT3
    have s4 : Stp p0 G2 (upd F3 L (.lst ([t0, t1].map V.ref ++ [.ref z]))) := ((sF.trans sw).same s23).put st2.s hL
    generalize (upd F3 L (.lst ([t0, t1].map V.ref ++ [.ref z]))) = F4 at eT4 aT4 s4
    refine ⟨_, rfl, .inl ⟨rfl, _, SqL.of eT4⟩, _, rfl, L, _, _, _, rfl, rfl, SqL.of eT4, rfl, L, _, _, rfl, rfl, eT4, lt_line (by show 3 ≤ 10000000; decide), ?_⟩
    have eT5 : (upd F4 L (.lst ([.ref t0, .ref t1, .ref z] ++ [.ref t0]))) L = some (.lst ([t0, t1, z, t0].map V.ref)) := upd_same
    have aT5 : ∀ t' ∈ [t0, t1, z, t0], AskT K n (upd F4 L (.lst ([.ref t0, .ref t1, .ref z] ++ [.ref t0]))) t' := fun t' h => by
      simp only [List.mem_cons, List.not_mem_nil, or_false] at h
      rcases h with h | h | h | h
      · exact (aT4 t' (by rw [h]; simp)).put eT4
      · exact (aT4 t' (by rw [h]; simp)).put eT4
      · exact (aT4 t' (by rw [h]; simp)).put eT4
      · exact (aT4 t' (by rw [h]; simp)).put eT4
    have s5 : Stp p0 G2 (upd F4 L (.lst ([.ref t0, .ref t1, .ref z] ++ [.ref t0]))) := s4.put st2.s hL
    generalize (upd F4 L (.lst ([.ref t0, .ref t1, .ref z] ++ [.ref t0]))) = F5 at eT5 aT5 s5
    have tP5 := tP2.stp s5 st2.s npp
    have tQ5 := tQ.stp s5 st2.s nqq
    refine ⟨_, rfl, L, rfl, ⟨_, SqL.of eT5⟩, ?_⟩
    generalize [t0, t1, z, t0] = us at eT5 aT5
    refine for_it (walk_list (xs := us.map V.ref)) (fun i σ F => (∃ y6 y7 y8 y9 y10 y11 y12 : Option V, σ = [some (.ref a), some (.ref p0), some (.ref pp), some (.ref qq), some (.int (n : Int)), some (.ref L), y6, y7, y8, y9, y10, y11, y12]) ∧ Same F5 F) ⟨⟨_, _, _, _, _, _, _, rfl⟩, Same.refl _⟩ (fun j σ F _ P => SqL.of (P.2 _ _ eT5)) ?_ ?_
    · rintro i v σ F0 F6 hi3 ⟨⟨y6, y7, y8, y9, y10, y11, y12, rfl⟩, sF6⟩ ⟨rfl, ex⟩
      rw [List.length_map] at hi3
      have eu := List.getElem?_eq_getElem hi3
      have mu := List.getElem_mem hi3
      generalize us[i] = tk at eu mu
      rw [map_get eu] at ex
      obtain rfl := Option.some.inj ex
      obtain ⟨ck, fk, cs, flo, fhi, lo, hi, g1, g2, g3, g4, g5⟩ := (aT5 tk mu).same sF6
      subst g4
      refine ⟨tk, _, rfl, SqT.of g1, rfl, _, _, rfl, _, _, rfl, _, _, rfl, _, _, rfl, rfl, ?_⟩
      refine ⟨_, rfl, _, rfl, _, rfl, _, rfl, _, rfl, pp, fk, ck, cs, flo, fhi, lo, hi, Ps, rfl, g2, g3, by omega, g5, tP5.same sF6, fu, ne, lP, fun w A1 vv sw ew bw => ?_⟩
      refine ⟨_, rfl, _, rfl, _, rfl, _, rfl, _, rfl, qq, fk, ck, cs, flo, fhi, lo, hi, Qs, rfl, g2.same sw, g3, by omega, g5, (tQ5.same sF6).same sw, fq, neq, lQ, fun u A2 uu su eu2 bu => ?_⟩
      refine ⟨_, rfl, (by show 0 ≤ sizeLine; decide), fun le1 hle1 => ?_⟩
      have sA := Same.new hle1 (.lst [])
      refine ⟨w, le1, [vv], rfl, rfl, SqL.of (sA _ _ (su _ _ ew)), SqL.of upd_same, _, rfl, ifF (by rfl) ?_⟩
      refine ⟨_, rfl, (by show 0 ≤ sizeLine; decide), fun le2 hle2 => ?_⟩
      have sB := sA.trans (Same.new hle2 (.lst []))
      refine ⟨u, le2, [uu], rfl, rfl, SqL.of (sB _ _ eu2), SqL.of upd_same, _, rfl, ifF (by rfl) ?_⟩
      have ew3 := sB _ _ (su _ _ ew)
      have eu3 := sB _ _ eu2
      have sAll := (sF6.trans (sw.trans su)).trans sB
      refine ⟨_, rfl, u, _, _, _, rfl, rfl, SqL.of eu3, rfl, _, rfl, w, _, _, _, rfl, rfl, SqL.of ew3, rfl, ?_⟩
      refine ⟨uu, vv, hull cs.length (asgR ck cs flo fhi lo hi Qs), hull cs.length (asgR ck cs flo fhi lo hi Ps), cs.length + 1, rfl, by omega, bu.same sB, bw.same (su.trans sB), hull_sz _ _, hull_sz _ _, inside_sub (asgR_sub sub), _, rfl, ifF rfl ?_⟩
      refine ⟨_, rfl, _, _, rfl, rfl, _, rfl, _, rfl, _, rfl, .non, fk, ck, cs, flo, fhi, lo, hi, [], rfl, g2.same ((sw.trans su).trans sB), g3, by omega, g5, rfl, full_nil, fun v7 A7 s7' b7 => ?_⟩
      rw [asgR_nil] at b7
      obtain rfl : v7 = .non := b7
      refine ⟨rfl, _, rfl, ifF (by decide) ?_⟩
      exact ⟨⟨_, _, _, _, _, _, _, rfl⟩, sAll.trans s7'⟩
    · rintro σ F6 ⟨⟨y6, y7, y8, y9, y10, y11, y12, rfl⟩, sF6⟩
      exact q F6
end
theorem all_mk {l : PySem.W.OpenLaw} {w : World} {K : PySem.W.Frag} {h : Heap} {mg : Str → Option Value} {fa : Addr} (X : K.In h) (G : h.Ns mainGlobals mg) (hfa : mg "law" = some (.ref fa))
    {f_frozen : Addr} {od_frozen an_frozen : Option Addr} {sl_frozen : Array (Option Value)} {oc_frozen kV_frozen dc_frozen pm_frozen cd_frozen ct_frozen : Value}
    (A_frozen : PySem.W.nsIn K mainGlobals "frozen" = some (some (.ref f_frozen))) (L_frozen : K.lookup f_frozen = some ⟨oc_frozen, od_frozen, .func (PySem.W.fnOf "frozen" "frozen" (defArgs s_frozen) (defBody s_frozen) (defScope s_frozen) .none kV_frozen dc_frozen pm_frozen an_frozen cd_frozen ct_frozen), sl_frozen⟩) (C_frozen : PySem.W.codeIn K cd_frozen "frozen" = true) (K_frozen : PySem.W.keepIn K (.ref f_frozen) = true)
    {f_bound : Addr} {od_bound an_bound : Option Addr} {sl_bound : Array (Option Value)} {oc_bound kV_bound dc_bound pm_bound cd_bound ct_bound : Value}
    (A_bound : PySem.W.nsIn K mainGlobals "bound" = some (some (.ref f_bound))) (L_bound : K.lookup f_bound = some ⟨oc_bound, od_bound, .func (PySem.W.fnOf "bound" "bound" (defArgs s_bound) (defBody s_bound) (defScope s_bound) .none kV_bound dc_bound pm_bound an_bound cd_bound ct_bound), sl_bound⟩) (C_bound : PySem.W.codeIn K cd_bound "bound" = true) (K_bound : PySem.W.keepIn K (.ref f_bound) = true)
    {f_range_of : Addr} {od_range_of an_range_of : Option Addr} {sl_range_of : Array (Option Value)} {oc_range_of kV_range_of dc_range_of pm_range_of cd_range_of ct_range_of : Value}
    (A_range_of : PySem.W.nsIn K mainGlobals "range_of" = some (some (.ref f_range_of))) (L_range_of : K.lookup f_range_of = some ⟨oc_range_of, od_range_of, .func (PySem.W.fnOf "range_of" "range_of" (defArgs s_range_of) (defBody s_range_of) (defScope s_range_of) .none kV_range_of dc_range_of pm_range_of an_range_of cd_range_of ct_range_of), sl_range_of⟩) (C_range_of : PySem.W.codeIn K cd_range_of "range_of" = true) (K_range_of : PySem.W.keepIn K (.ref f_range_of) = true)
    {f_with_column : Addr} {od_with_column an_with_column : Option Addr} {sl_with_column : Array (Option Value)} {oc_with_column kV_with_column dc_with_column pm_with_column cd_with_column ct_with_column : Value}
    (A_with_column : PySem.W.nsIn K mainGlobals "with_column" = some (some (.ref f_with_column))) (L_with_column : K.lookup f_with_column = some ⟨oc_with_column, od_with_column, .func (PySem.W.fnOf "with_column" "with_column" (defArgs s_with_column) (defBody s_with_column) (defScope s_with_column) .none kV_with_column dc_with_column pm_with_column an_with_column cd_with_column ct_with_column), sl_with_column⟩) (C_with_column : PySem.W.codeIn K cd_with_column "with_column" = true) (K_with_column : PySem.W.keepIn K (.ref f_with_column) = true)
    {f_free_column : Addr} {od_free_column an_free_column : Option Addr} {sl_free_column : Array (Option Value)} {oc_free_column kV_free_column dc_free_column pm_free_column cd_free_column ct_free_column : Value}
    (A_free_column : PySem.W.nsIn K mainGlobals "free_column" = some (some (.ref f_free_column))) (L_free_column : K.lookup f_free_column = some ⟨oc_free_column, od_free_column, .func (PySem.W.fnOf "free_column" "free_column" (defArgs s_free_column) (defBody s_free_column) (defScope s_free_column) .none kV_free_column dc_free_column pm_free_column an_free_column cd_free_column ct_free_column), sl_free_column⟩) (C_free_column : PySem.W.codeIn K cd_free_column "free_column" = true) (K_free_column : PySem.W.keepIn K (.ref f_free_column) = true)
    {f_shift_column : Addr} {od_shift_column an_shift_column : Option Addr} {sl_shift_column : Array (Option Value)} {oc_shift_column kV_shift_column dc_shift_column pm_shift_column cd_shift_column ct_shift_column : Value}
    (A_shift_column : PySem.W.nsIn K mainGlobals "shift_column" = some (some (.ref f_shift_column))) (L_shift_column : K.lookup f_shift_column = some ⟨oc_shift_column, od_shift_column, .func (PySem.W.fnOf "shift_column" "shift_column" (defArgs s_shift_column) (defBody s_shift_column) (defScope s_shift_column) .none kV_shift_column dc_shift_column pm_shift_column an_shift_column cd_shift_column ct_shift_column), sl_shift_column⟩) (C_shift_column : PySem.W.codeIn K cd_shift_column "shift_column" = true) (K_shift_column : PySem.W.keepIn K (.ref f_shift_column) = true)
    {f_used_columns : Addr} {od_used_columns an_used_columns : Option Addr} {sl_used_columns : Array (Option Value)} {oc_used_columns kV_used_columns dc_used_columns pm_used_columns cd_used_columns ct_used_columns : Value}
    (A_used_columns : PySem.W.nsIn K mainGlobals "used_columns" = some (some (.ref f_used_columns))) (L_used_columns : K.lookup f_used_columns = some ⟨oc_used_columns, od_used_columns, .func (PySem.W.fnOf "used_columns" "used_columns" (defArgs s_used_columns) (defBody s_used_columns) (defScope s_used_columns) .none kV_used_columns dc_used_columns pm_used_columns an_used_columns cd_used_columns ct_used_columns), sl_used_columns⟩) (C_used_columns : PySem.W.codeIn K cd_used_columns "used_columns" = true) (K_used_columns : PySem.W.keepIn K (.ref f_used_columns) = true)
    {f_difference_columns : Addr} {od_difference_columns an_difference_columns : Option Addr} {sl_difference_columns : Array (Option Value)} {oc_difference_columns kV_difference_columns dc_difference_columns pm_difference_columns cd_difference_columns ct_difference_columns : Value}
    (A_difference_columns : PySem.W.nsIn K mainGlobals "difference_columns" = some (some (.ref f_difference_columns))) (L_difference_columns : K.lookup f_difference_columns = some ⟨oc_difference_columns, od_difference_columns, .func (PySem.W.fnOf "difference_columns" "difference_columns" (defArgs s_difference_columns) (defBody s_difference_columns) (defScope s_difference_columns) .none kV_difference_columns dc_difference_columns pm_difference_columns an_difference_columns cd_difference_columns ct_difference_columns), sl_difference_columns⟩) (C_difference_columns : PySem.W.codeIn K cd_difference_columns "difference_columns" = true) (K_difference_columns : PySem.W.keepIn K (.ref f_difference_columns) = true)
    {f_range_of_form : Addr} {od_range_of_form an_range_of_form : Option Addr} {sl_range_of_form : Array (Option Value)} {oc_range_of_form kV_range_of_form dc_range_of_form pm_range_of_form cd_range_of_form ct_range_of_form : Value}
    (A_range_of_form : PySem.W.nsIn K mainGlobals "range_of_form" = some (some (.ref f_range_of_form))) (L_range_of_form : K.lookup f_range_of_form = some ⟨oc_range_of_form, od_range_of_form, .func (PySem.W.fnOf "range_of_form" "range_of_form" (defArgs s_range_of_form) (defBody s_range_of_form) (defScope s_range_of_form) .none kV_range_of_form dc_range_of_form pm_range_of_form an_range_of_form cd_range_of_form ct_range_of_form), sl_range_of_form⟩) (C_range_of_form : PySem.W.codeIn K cd_range_of_form "range_of_form" = true) (K_range_of_form : PySem.W.keepIn K (.ref f_range_of_form) = true)
    {f_assign : Addr} {od_assign an_assign : Option Addr} {sl_assign : Array (Option Value)} {oc_assign kV_assign dc_assign pm_assign cd_assign ct_assign : Value}
    (A_assign : PySem.W.nsIn K mainGlobals "assign" = some (some (.ref f_assign))) (L_assign : K.lookup f_assign = some ⟨oc_assign, od_assign, .func (PySem.W.fnOf "assign" "assign" (defArgs s_assign) (defBody s_assign) (defScope s_assign) .none kV_assign dc_assign pm_assign an_assign cd_assign ct_assign), sl_assign⟩) (C_assign : PySem.W.codeIn K cd_assign "assign" = true) (K_assign : PySem.W.keepIn K (.ref f_assign) = true)
    {f_l_cell : Addr} {od_l_cell an_l_cell : Option Addr} {sl_l_cell : Array (Option Value)} {oc_l_cell kV_l_cell dc_l_cell pm_l_cell cd_l_cell ct_l_cell : Value}
    (A_l_cell : PySem.W.nsIn K mainGlobals "_law_cell" = some (some (.ref f_l_cell))) (L_l_cell : K.lookup f_l_cell = some ⟨oc_l_cell, od_l_cell, .func (PySem.W.fnOf "_law_cell" "_law_cell" (defArgs s_l_cell) (defBody s_l_cell) (defScope s_l_cell) .none kV_l_cell dc_l_cell pm_l_cell an_l_cell cd_l_cell ct_l_cell), sl_l_cell⟩) (C_l_cell : PySem.W.codeIn K cd_l_cell "_law_cell" = true) (K_l_cell : PySem.W.keepIn K (.ref f_l_cell) = true)
    {f_l_source : Addr} {od_l_source an_l_source : Option Addr} {sl_l_source : Array (Option Value)} {oc_l_source kV_l_source dc_l_source pm_l_source cd_l_source ct_l_source : Value}
    (A_l_source : PySem.W.nsIn K mainGlobals "_law_source" = some (some (.ref f_l_source))) (L_l_source : K.lookup f_l_source = some ⟨oc_l_source, od_l_source, .func (PySem.W.fnOf "_law_source" "_law_source" (defArgs s_l_source) (defBody s_l_source) (defScope s_l_source) .none kV_l_source dc_l_source pm_l_source an_l_source cd_l_source ct_l_source), sl_l_source⟩) (C_l_source : PySem.W.codeIn K cd_l_source "_law_source" = true) (K_l_source : PySem.W.keepIn K (.ref f_l_source) = true)
    {f_l_pick : Addr} {od_l_pick an_l_pick : Option Addr} {sl_l_pick : Array (Option Value)} {oc_l_pick kV_l_pick dc_l_pick pm_l_pick cd_l_pick ct_l_pick : Value}
    (A_l_pick : PySem.W.nsIn K mainGlobals "_law_pick" = some (some (.ref f_l_pick))) (L_l_pick : K.lookup f_l_pick = some ⟨oc_l_pick, od_l_pick, .func (PySem.W.fnOf "_law_pick" "_law_pick" (defArgs s_l_pick) (defBody s_l_pick) (defScope s_l_pick) .none kV_l_pick dc_l_pick pm_l_pick an_l_pick cd_l_pick ct_l_pick), sl_l_pick⟩) (C_l_pick : PySem.W.codeIn K cd_l_pick "_law_pick" = true) (K_l_pick : PySem.W.keepIn K (.ref f_l_pick) = true)
    {f_l_one : Addr} {od_l_one an_l_one : Option Addr} {sl_l_one : Array (Option Value)} {oc_l_one kV_l_one dc_l_one pm_l_one cd_l_one ct_l_one : Value}
    (A_l_one : PySem.W.nsIn K mainGlobals "_law_one" = some (some (.ref f_l_one))) (L_l_one : K.lookup f_l_one = some ⟨oc_l_one, od_l_one, .func (PySem.W.fnOf "_law_one" "_law_one" (defArgs s_l_one) (defBody s_l_one) (defScope s_l_one) .none kV_l_one dc_l_one pm_l_one an_l_one cd_l_one ct_l_one), sl_l_one⟩) (C_l_one : PySem.W.codeIn K cd_l_one "_law_one" = true) (K_l_one : PySem.W.keepIn K (.ref f_l_one) = true)
    {f_l_far : Addr} {od_l_far an_l_far : Option Addr} {sl_l_far : Array (Option Value)} {oc_l_far kV_l_far dc_l_far pm_l_far cd_l_far ct_l_far : Value}
    (A_l_far : PySem.W.nsIn K mainGlobals "_law_far" = some (some (.ref f_l_far))) (L_l_far : K.lookup f_l_far = some ⟨oc_l_far, od_l_far, .func (PySem.W.fnOf "_law_far" "_law_far" (defArgs s_l_far) (defBody s_l_far) (defScope s_l_far) .none kV_l_far dc_l_far pm_l_far an_l_far cd_l_far ct_l_far), sl_l_far⟩) (C_l_far : PySem.W.codeIn K cd_l_far "_law_far" = true) (K_l_far : PySem.W.keepIn K (.ref f_l_far) = true)
    {f_l_belongs : Addr} {od_l_belongs an_l_belongs : Option Addr} {sl_l_belongs : Array (Option Value)} {oc_l_belongs kV_l_belongs dc_l_belongs pm_l_belongs cd_l_belongs ct_l_belongs : Value}
    (A_l_belongs : PySem.W.nsIn K mainGlobals "_law_belongs" = some (some (.ref f_l_belongs))) (L_l_belongs : K.lookup f_l_belongs = some ⟨oc_l_belongs, od_l_belongs, .func (PySem.W.fnOf "_law_belongs" "_law_belongs" (defArgs s_l_belongs) (defBody s_l_belongs) (defScope s_l_belongs) .none kV_l_belongs dc_l_belongs pm_l_belongs an_l_belongs cd_l_belongs ct_l_belongs), sl_l_belongs⟩) (C_l_belongs : PySem.W.codeIn K cd_l_belongs "_law_belongs" = true) (K_l_belongs : PySem.W.keepIn K (.ref f_l_belongs) = true)
    {f_l_grid : Addr} {od_l_grid an_l_grid : Option Addr} {sl_l_grid : Array (Option Value)} {oc_l_grid kV_l_grid dc_l_grid pm_l_grid cd_l_grid ct_l_grid : Value}
    (A_l_grid : PySem.W.nsIn K mainGlobals "_law_grid" = some (some (.ref f_l_grid))) (L_l_grid : K.lookup f_l_grid = some ⟨oc_l_grid, od_l_grid, .func (PySem.W.fnOf "_law_grid" "_law_grid" (defArgs s_l_grid) (defBody s_l_grid) (defScope s_l_grid) .none kV_l_grid dc_l_grid pm_l_grid an_l_grid cd_l_grid ct_l_grid), sl_l_grid⟩) (C_l_grid : PySem.W.codeIn K cd_l_grid "_law_grid" = true) (K_l_grid : PySem.W.keepIn K (.ref f_l_grid) = true)
    {f_l_box : Addr} {od_l_box an_l_box : Option Addr} {sl_l_box : Array (Option Value)} {oc_l_box kV_l_box dc_l_box pm_l_box cd_l_box ct_l_box : Value}
    (A_l_box : PySem.W.nsIn K mainGlobals "_law_box" = some (some (.ref f_l_box))) (L_l_box : K.lookup f_l_box = some ⟨oc_l_box, od_l_box, .func (PySem.W.fnOf "_law_box" "_law_box" (defArgs s_l_box) (defBody s_l_box) (defScope s_l_box) .none kV_l_box dc_l_box pm_l_box an_l_box cd_l_box ct_l_box), sl_l_box⟩) (C_l_box : PySem.W.codeIn K cd_l_box "_law_box" = true) (K_l_box : PySem.W.keepIn K (.ref f_l_box) = true)
    {f_l_points : Addr} {od_l_points an_l_points : Option Addr} {sl_l_points : Array (Option Value)} {oc_l_points kV_l_points dc_l_points pm_l_points cd_l_points ct_l_points : Value}
    (A_l_points : PySem.W.nsIn K mainGlobals "_law_points" = some (some (.ref f_l_points))) (L_l_points : K.lookup f_l_points = some ⟨oc_l_points, od_l_points, .func (PySem.W.fnOf "_law_points" "_law_points" (defArgs s_l_points) (defBody s_l_points) (defScope s_l_points) .none kV_l_points dc_l_points pm_l_points an_l_points cd_l_points ct_l_points), sl_l_points⟩) (C_l_points : PySem.W.codeIn K cd_l_points "_law_points" = true) (K_l_points : PySem.W.keepIn K (.ref f_l_points) = true)
    {f_l_part : Addr} {od_l_part an_l_part : Option Addr} {sl_l_part : Array (Option Value)} {oc_l_part kV_l_part dc_l_part pm_l_part cd_l_part ct_l_part : Value}
    (A_l_part : PySem.W.nsIn K mainGlobals "_law_part" = some (some (.ref f_l_part))) (L_l_part : K.lookup f_l_part = some ⟨oc_l_part, od_l_part, .func (PySem.W.fnOf "_law_part" "_law_part" (defArgs s_l_part) (defBody s_l_part) (defScope s_l_part) .none kV_l_part dc_l_part pm_l_part an_l_part cd_l_part ct_l_part), sl_l_part⟩) (C_l_part : PySem.W.codeIn K cd_l_part "_law_part" = true) (K_l_part : PySem.W.keepIn K (.ref f_l_part) = true)
    {f_l_drawn_form : Addr} {od_l_drawn_form an_l_drawn_form : Option Addr} {sl_l_drawn_form : Array (Option Value)} {oc_l_drawn_form kV_l_drawn_form dc_l_drawn_form pm_l_drawn_form cd_l_drawn_form ct_l_drawn_form : Value}
    (A_l_drawn_form : PySem.W.nsIn K mainGlobals "_law_drawn_form" = some (some (.ref f_l_drawn_form))) (L_l_drawn_form : K.lookup f_l_drawn_form = some ⟨oc_l_drawn_form, od_l_drawn_form, .func (PySem.W.fnOf "_law_drawn_form" "_law_drawn_form" (defArgs s_l_drawn_form) (defBody s_l_drawn_form) (defScope s_l_drawn_form) .none kV_l_drawn_form dc_l_drawn_form pm_l_drawn_form an_l_drawn_form cd_l_drawn_form ct_l_drawn_form), sl_l_drawn_form⟩) (C_l_drawn_form : PySem.W.codeIn K cd_l_drawn_form "_law_drawn_form" = true) (K_l_drawn_form : PySem.W.keepIn K (.ref f_l_drawn_form) = true)
    {f_l_spread : Addr} {od_l_spread an_l_spread : Option Addr} {sl_l_spread : Array (Option Value)} {oc_l_spread kV_l_spread dc_l_spread pm_l_spread cd_l_spread ct_l_spread : Value}
    (A_l_spread : PySem.W.nsIn K mainGlobals "_law_spread" = some (some (.ref f_l_spread))) (L_l_spread : K.lookup f_l_spread = some ⟨oc_l_spread, od_l_spread, .func (PySem.W.fnOf "_law_spread" "_law_spread" (defArgs s_l_spread) (defBody s_l_spread) (defScope s_l_spread) .none kV_l_spread dc_l_spread pm_l_spread an_l_spread cd_l_spread ct_l_spread), sl_l_spread⟩) (C_l_spread : PySem.W.codeIn K cd_l_spread "_law_spread" = true) (K_l_spread : PySem.W.keepIn K (.ref f_l_spread) = true)
    {f_l_worth : Addr} {od_l_worth an_l_worth : Option Addr} {sl_l_worth : Array (Option Value)} {oc_l_worth kV_l_worth dc_l_worth pm_l_worth cd_l_worth ct_l_worth : Value}
    (A_l_worth : PySem.W.nsIn K mainGlobals "_law_worth" = some (some (.ref f_l_worth))) (L_l_worth : K.lookup f_l_worth = some ⟨oc_l_worth, od_l_worth, .func (PySem.W.fnOf "_law_worth" "_law_worth" (defArgs s_l_worth) (defBody s_l_worth) (defScope s_l_worth) .none kV_l_worth dc_l_worth pm_l_worth an_l_worth cd_l_worth ct_l_worth), sl_l_worth⟩) (C_l_worth : PySem.W.codeIn K cd_l_worth "_law_worth" = true) (K_l_worth : PySem.W.keepIn K (.ref f_l_worth) = true)
    {f_l_set : Addr} {od_l_set an_l_set : Option Addr} {sl_l_set : Array (Option Value)} {oc_l_set kV_l_set dc_l_set pm_l_set cd_l_set ct_l_set : Value}
    (A_l_set : PySem.W.nsIn K mainGlobals "_law_set" = some (some (.ref f_l_set))) (L_l_set : K.lookup f_l_set = some ⟨oc_l_set, od_l_set, .func (PySem.W.fnOf "_law_set" "_law_set" (defArgs s_l_set) (defBody s_l_set) (defScope s_l_set) .none kV_l_set dc_l_set pm_l_set an_l_set cd_l_set ct_l_set), sl_l_set⟩) (C_l_set : PySem.W.codeIn K cd_l_set "_law_set" = true) (K_l_set : PySem.W.keepIn K (.ref f_l_set) = true)
    {f_l_moved : Addr} {od_l_moved an_l_moved : Option Addr} {sl_l_moved : Array (Option Value)} {oc_l_moved kV_l_moved dc_l_moved pm_l_moved cd_l_moved ct_l_moved : Value}
    (A_l_moved : PySem.W.nsIn K mainGlobals "_law_moved" = some (some (.ref f_l_moved))) (L_l_moved : K.lookup f_l_moved = some ⟨oc_l_moved, od_l_moved, .func (PySem.W.fnOf "_law_moved" "_law_moved" (defArgs s_l_moved) (defBody s_l_moved) (defScope s_l_moved) .none kV_l_moved dc_l_moved pm_l_moved an_l_moved cd_l_moved ct_l_moved), sl_l_moved⟩) (C_l_moved : PySem.W.codeIn K cd_l_moved "_law_moved" = true) (K_l_moved : PySem.W.keepIn K (.ref f_l_moved) = true)
    {f_l_target_form : Addr} {od_l_target_form an_l_target_form : Option Addr} {sl_l_target_form : Array (Option Value)} {oc_l_target_form kV_l_target_form dc_l_target_form pm_l_target_form cd_l_target_form ct_l_target_form : Value}
    (A_l_target_form : PySem.W.nsIn K mainGlobals "_law_target_form" = some (some (.ref f_l_target_form))) (L_l_target_form : K.lookup f_l_target_form = some ⟨oc_l_target_form, od_l_target_form, .func (PySem.W.fnOf "_law_target_form" "_law_target_form" (defArgs s_l_target_form) (defBody s_l_target_form) (defScope s_l_target_form) .none kV_l_target_form dc_l_target_form pm_l_target_form an_l_target_form cd_l_target_form ct_l_target_form), sl_l_target_form⟩) (C_l_target_form : PySem.W.codeIn K cd_l_target_form "_law_target_form" = true) (K_l_target_form : PySem.W.keepIn K (.ref f_l_target_form) = true)
    {f_l_low : Addr} {od_l_low an_l_low : Option Addr} {sl_l_low : Array (Option Value)} {oc_l_low kV_l_low dc_l_low pm_l_low cd_l_low ct_l_low : Value}
    (A_l_low : PySem.W.nsIn K mainGlobals "_law_low" = some (some (.ref f_l_low))) (L_l_low : K.lookup f_l_low = some ⟨oc_l_low, od_l_low, .func (PySem.W.fnOf "_law_low" "_law_low" (defArgs s_l_low) (defBody s_l_low) (defScope s_l_low) .none kV_l_low dc_l_low pm_l_low an_l_low cd_l_low ct_l_low), sl_l_low⟩) (C_l_low : PySem.W.codeIn K cd_l_low "_law_low" = true) (K_l_low : PySem.W.keepIn K (.ref f_l_low) = true)
    {f_l_inside : Addr} {od_l_inside an_l_inside : Option Addr} {sl_l_inside : Array (Option Value)} {oc_l_inside kV_l_inside dc_l_inside pm_l_inside cd_l_inside ct_l_inside : Value}
    (A_l_inside : PySem.W.nsIn K mainGlobals "_law_inside" = some (some (.ref f_l_inside))) (L_l_inside : K.lookup f_l_inside = some ⟨oc_l_inside, od_l_inside, .func (PySem.W.fnOf "_law_inside" "_law_inside" (defArgs s_l_inside) (defBody s_l_inside) (defScope s_l_inside) .none kV_l_inside dc_l_inside pm_l_inside an_l_inside cd_l_inside ct_l_inside), sl_l_inside⟩) (C_l_inside : PySem.W.codeIn K cd_l_inside "_law_inside" = true) (K_l_inside : PySem.W.keepIn K (.ref f_l_inside) = true)
    {f_l_same : Addr} {od_l_same an_l_same : Option Addr} {sl_l_same : Array (Option Value)} {oc_l_same kV_l_same dc_l_same pm_l_same cd_l_same ct_l_same : Value}
    (A_l_same : PySem.W.nsIn K mainGlobals "_law_same" = some (some (.ref f_l_same))) (L_l_same : K.lookup f_l_same = some ⟨oc_l_same, od_l_same, .func (PySem.W.fnOf "_law_same" "_law_same" (defArgs s_l_same) (defBody s_l_same) (defScope s_l_same) .none kV_l_same dc_l_same pm_l_same an_l_same cd_l_same ct_l_same), sl_l_same⟩) (C_l_same : PySem.W.codeIn K cd_l_same "_law_same" = true) (K_l_same : PySem.W.keepIn K (.ref f_l_same) = true)
    {f_l_asked : Addr} {od_l_asked an_l_asked : Option Addr} {sl_l_asked : Array (Option Value)} {oc_l_asked kV_l_asked dc_l_asked pm_l_asked cd_l_asked ct_l_asked : Value}
    (A_l_asked : PySem.W.nsIn K mainGlobals "_law_asked" = some (some (.ref f_l_asked))) (L_l_asked : K.lookup f_l_asked = some ⟨oc_l_asked, od_l_asked, .func (PySem.W.fnOf "_law_asked" "_law_asked" (defArgs s_l_asked) (defBody s_l_asked) (defScope s_l_asked) .none kV_l_asked dc_l_asked pm_l_asked an_l_asked cd_l_asked ct_l_asked), sl_l_asked⟩) (C_l_asked : PySem.W.codeIn K cd_l_asked "_law_asked" = true) (K_l_asked : PySem.W.keepIn K (.ref f_l_asked) = true)
    {f_law : Addr} {od_law an_law : Option Addr} {sl_law : Array (Option Value)} {oc_law kV_law dc_law pm_law cd_law ct_law : Value}
    (A_law : PySem.W.nsIn K mainGlobals "law" = some (some (.ref f_law))) (L_law : K.lookup f_law = some ⟨oc_law, od_law, .func (PySem.W.fnOf "law" "law" (defArgs s_law) (defBody s_law) (defScope s_law) .none kV_law dc_law pm_law an_law cd_law ct_law), sl_law⟩) (C_law : PySem.W.codeIn K cd_law "law" = true) (K_law : PySem.W.keepIn K (.ref f_law) = true)
    (Z_bool : PySem.W.nsIn K mainGlobals "bool" = some none)
    (Z_enumerate : PySem.W.nsIn K mainGlobals "enumerate" = some none)
    (Z_int : PySem.W.nsIn K mainGlobals "int" = some none)
    (Z_isinstance : PySem.W.nsIn K mainGlobals "isinstance" = some none)
    (Z_len : PySem.W.nsIn K mainGlobals "len" = some none)
    (Z_list : PySem.W.nsIn K mainGlobals "list" = some none)
    (Z_max : PySem.W.nsIn K mainGlobals "max" = some none)
    (Z_min : PySem.W.nsIn K mainGlobals "min" = some none)
    (Z_range : PySem.W.nsIn K mainGlobals "range" = some none)
    (Z_sorted : PySem.W.nsIn K mainGlobals "sorted" = some none)
    (Z_str : PySem.W.nsIn K mainGlobals "str" = some none)
    (Z_sum : PySem.W.nsIn K mainGlobals "sum" = some none)
    (Z_tuple : PySem.W.nsIn K mainGlobals "tuple" = some none)
    (Z_zip : PySem.W.nsIn K mainGlobals "zip" = some none) :
    ∃ fd : FuncData, (∀ (s : Shared) (v : Value), BindsTo s fd ⟨[v], []⟩ [("_law_script", v)]) ∧ ∀ base : Heap, K.In base → base.Ns mainGlobals mg → FnOk l.prog w K mg base CX0 6 fa fd ["_law_script"] (spLaw K) := by
  have e := hfa.symm.trans (PySem.W.mg_of X G A_law)
  cases e
  let T : Txt w K mg := {
    a_frozen := f_frozen, d_frozen := _, F_frozen := fun_mk (st := s_frozen) L_frozen C_frozen K_frozen, b_frozen := (fun_mk (st := s_frozen) L_frozen C_frozen K_frozen).binds (ps := p_frozen) (fun _ _ _ _ _ _ us hl => match us, hl with | [_], _ => rfl), m_frozen := PySem.W.mg_of X G A_frozen,
    a_bound := f_bound, d_bound := _, F_bound := fun_mk (st := s_bound) L_bound C_bound K_bound, b_bound := (fun_mk (st := s_bound) L_bound C_bound K_bound).binds (ps := p_bound) (fun _ _ _ _ _ _ us hl => match us, hl with | [_, _, _, _], _ => rfl), m_bound := PySem.W.mg_of X G A_bound,
    a_range_of := f_range_of, d_range_of := _, F_range_of := fun_mk (st := s_range_of) L_range_of C_range_of K_range_of, b_range_of := (fun_mk (st := s_range_of) L_range_of C_range_of K_range_of).binds (ps := p_range_of) (fun _ _ _ _ _ _ us hl => match us, hl with | [_, _], _ => rfl), m_range_of := PySem.W.mg_of X G A_range_of,
    a_with_column := f_with_column, d_with_column := _, F_with_column := fun_mk (st := s_with_column) L_with_column C_with_column K_with_column, b_with_column := (fun_mk (st := s_with_column) L_with_column C_with_column K_with_column).binds (ps := p_with_column) (fun _ _ _ _ _ _ us hl => match us, hl with | [_, _, _, _], _ => rfl), m_with_column := PySem.W.mg_of X G A_with_column,
    a_free_column := f_free_column, d_free_column := _, F_free_column := fun_mk (st := s_free_column) L_free_column C_free_column K_free_column, b_free_column := (fun_mk (st := s_free_column) L_free_column C_free_column K_free_column).binds (ps := p_free_column) (fun _ _ _ _ _ _ us hl => match us, hl with | [_, _, _, _], _ => rfl), m_free_column := PySem.W.mg_of X G A_free_column,
    a_shift_column := f_shift_column, d_shift_column := _, F_shift_column := fun_mk (st := s_shift_column) L_shift_column C_shift_column K_shift_column, b_shift_column := (fun_mk (st := s_shift_column) L_shift_column C_shift_column K_shift_column).binds (ps := p_shift_column) (fun _ _ _ _ _ _ us hl => match us, hl with | [_, _, _, _], _ => rfl), m_shift_column := PySem.W.mg_of X G A_shift_column,
    a_used_columns := f_used_columns, d_used_columns := _, F_used_columns := fun_mk (st := s_used_columns) L_used_columns C_used_columns K_used_columns, b_used_columns := (fun_mk (st := s_used_columns) L_used_columns C_used_columns K_used_columns).binds (ps := p_used_columns) (fun _ _ _ _ _ _ us hl => match us, hl with | [_], _ => rfl), m_used_columns := PySem.W.mg_of X G A_used_columns,
    a_difference_columns := f_difference_columns, d_difference_columns := _, F_difference_columns := fun_mk (st := s_difference_columns) L_difference_columns C_difference_columns K_difference_columns, b_difference_columns := (fun_mk (st := s_difference_columns) L_difference_columns C_difference_columns K_difference_columns).binds (ps := p_difference_columns) (fun _ _ _ _ _ _ us hl => match us, hl with | [_], _ => rfl), m_difference_columns := PySem.W.mg_of X G A_difference_columns,
    a_range_of_form := f_range_of_form, d_range_of_form := _, F_range_of_form := fun_mk (st := s_range_of_form) L_range_of_form C_range_of_form K_range_of_form, b_range_of_form := (fun_mk (st := s_range_of_form) L_range_of_form C_range_of_form K_range_of_form).binds (ps := p_range_of_form) (fun _ _ _ _ _ _ us hl => match us, hl with | [_, _], _ => rfl), m_range_of_form := PySem.W.mg_of X G A_range_of_form,
    a_assign := f_assign, d_assign := _, F_assign := fun_mk (st := s_assign) L_assign C_assign K_assign, b_assign := (fun_mk (st := s_assign) L_assign C_assign K_assign).binds (ps := p_assign) (fun _ _ _ _ _ _ us hl => match us, hl with | [_, _, _, _, _], _ => rfl), m_assign := PySem.W.mg_of X G A_assign,
    a_l_cell := f_l_cell, d_l_cell := _, F_l_cell := fun_mk (st := s_l_cell) L_l_cell C_l_cell K_l_cell, b_l_cell := (fun_mk (st := s_l_cell) L_l_cell C_l_cell K_l_cell).binds (ps := p_l_cell) (fun _ _ _ _ _ _ us hl => match us, hl with | [_, _], _ => rfl), m_l_cell := PySem.W.mg_of X G A_l_cell,
    a_l_source := f_l_source, d_l_source := _, F_l_source := fun_mk (st := s_l_source) L_l_source C_l_source K_l_source, b_l_source := (fun_mk (st := s_l_source) L_l_source C_l_source K_l_source).binds (ps := p_l_source) (fun _ _ _ _ _ _ us hl => match us, hl with | [_], _ => rfl), m_l_source := PySem.W.mg_of X G A_l_source,
    a_l_pick := f_l_pick, d_l_pick := _, F_l_pick := fun_mk (st := s_l_pick) L_l_pick C_l_pick K_l_pick, b_l_pick := (fun_mk (st := s_l_pick) L_l_pick C_l_pick K_l_pick).binds (ps := p_l_pick) (fun _ _ _ _ _ _ us hl => match us, hl with | [_, _], _ => rfl), m_l_pick := PySem.W.mg_of X G A_l_pick,
    a_l_one := f_l_one, d_l_one := _, F_l_one := fun_mk (st := s_l_one) L_l_one C_l_one K_l_one, b_l_one := (fun_mk (st := s_l_one) L_l_one C_l_one K_l_one).binds (ps := p_l_one) (fun _ _ _ _ _ _ us hl => match us, hl with | [_, _], _ => rfl), m_l_one := PySem.W.mg_of X G A_l_one,
    a_l_far := f_l_far, d_l_far := _, F_l_far := fun_mk (st := s_l_far) L_l_far C_l_far K_l_far, b_l_far := (fun_mk (st := s_l_far) L_l_far C_l_far K_l_far).binds (ps := p_l_far) (fun _ _ _ _ _ _ us hl => match us, hl with | [_], _ => rfl), m_l_far := PySem.W.mg_of X G A_l_far,
    a_l_belongs := f_l_belongs, d_l_belongs := _, F_l_belongs := fun_mk (st := s_l_belongs) L_l_belongs C_l_belongs K_l_belongs, b_l_belongs := (fun_mk (st := s_l_belongs) L_l_belongs C_l_belongs K_l_belongs).binds (ps := p_l_belongs) (fun _ _ _ _ _ _ us hl => match us, hl with | [_, _], _ => rfl), m_l_belongs := PySem.W.mg_of X G A_l_belongs,
    a_l_grid := f_l_grid, d_l_grid := _, F_l_grid := fun_mk (st := s_l_grid) L_l_grid C_l_grid K_l_grid, b_l_grid := (fun_mk (st := s_l_grid) L_l_grid C_l_grid K_l_grid).binds (ps := p_l_grid) (fun _ _ _ _ _ _ us hl => match us, hl with | [_], _ => rfl), m_l_grid := PySem.W.mg_of X G A_l_grid,
    a_l_box := f_l_box, d_l_box := _, F_l_box := fun_mk (st := s_l_box) L_l_box C_l_box K_l_box, b_l_box := (fun_mk (st := s_l_box) L_l_box C_l_box K_l_box).binds (ps := p_l_box) (fun _ _ _ _ _ _ us hl => match us, hl with | [_], _ => rfl), m_l_box := PySem.W.mg_of X G A_l_box,
    a_l_points := f_l_points, d_l_points := _, F_l_points := fun_mk (st := s_l_points) L_l_points C_l_points K_l_points, b_l_points := (fun_mk (st := s_l_points) L_l_points C_l_points K_l_points).binds (ps := p_l_points) (fun _ _ _ _ _ _ us hl => match us, hl with | [_, _, _], _ => rfl), m_l_points := PySem.W.mg_of X G A_l_points,
    a_l_part := f_l_part, d_l_part := _, F_l_part := fun_mk (st := s_l_part) L_l_part C_l_part K_l_part, b_l_part := (fun_mk (st := s_l_part) L_l_part C_l_part K_l_part).binds (ps := p_l_part) (fun _ _ _ _ _ _ us hl => match us, hl with | [_, _], _ => rfl), m_l_part := PySem.W.mg_of X G A_l_part,
    a_l_drawn_form := f_l_drawn_form, d_l_drawn_form := _, F_l_drawn_form := fun_mk (st := s_l_drawn_form) L_l_drawn_form C_l_drawn_form K_l_drawn_form, b_l_drawn_form := (fun_mk (st := s_l_drawn_form) L_l_drawn_form C_l_drawn_form K_l_drawn_form).binds (ps := p_l_drawn_form) (fun _ _ _ _ _ _ us hl => match us, hl with | [_, _], _ => rfl), m_l_drawn_form := PySem.W.mg_of X G A_l_drawn_form,
    a_l_spread := f_l_spread, d_l_spread := _, F_l_spread := fun_mk (st := s_l_spread) L_l_spread C_l_spread K_l_spread, b_l_spread := (fun_mk (st := s_l_spread) L_l_spread C_l_spread K_l_spread).binds (ps := p_l_spread) (fun _ _ _ _ _ _ us hl => match us, hl with | [_, _], _ => rfl), m_l_spread := PySem.W.mg_of X G A_l_spread,
    a_l_worth := f_l_worth, d_l_worth := _, F_l_worth := fun_mk (st := s_l_worth) L_l_worth C_l_worth K_l_worth, b_l_worth := (fun_mk (st := s_l_worth) L_l_worth C_l_worth K_l_worth).binds (ps := p_l_worth) (fun _ _ _ _ _ _ us hl => match us, hl with | [_, _], _ => rfl), m_l_worth := PySem.W.mg_of X G A_l_worth,
    a_l_set := f_l_set, d_l_set := _, F_l_set := fun_mk (st := s_l_set) L_l_set C_l_set K_l_set, b_l_set := (fun_mk (st := s_l_set) L_l_set C_l_set K_l_set).binds (ps := p_l_set) (fun _ _ _ _ _ _ us hl => match us, hl with | [_, _, _], _ => rfl), m_l_set := PySem.W.mg_of X G A_l_set,
    a_l_moved := f_l_moved, d_l_moved := _, F_l_moved := fun_mk (st := s_l_moved) L_l_moved C_l_moved K_l_moved, b_l_moved := (fun_mk (st := s_l_moved) L_l_moved C_l_moved K_l_moved).binds (ps := p_l_moved) (fun _ _ _ _ _ _ us hl => match us, hl with | [_, _, _, _, _, _], _ => rfl), m_l_moved := PySem.W.mg_of X G A_l_moved,
    a_l_target_form := f_l_target_form, d_l_target_form := _, F_l_target_form := fun_mk (st := s_l_target_form) L_l_target_form C_l_target_form K_l_target_form, b_l_target_form := (fun_mk (st := s_l_target_form) L_l_target_form C_l_target_form K_l_target_form).binds (ps := p_l_target_form) (fun _ _ _ _ _ _ us hl => match us, hl with | [_, _, _], _ => rfl), m_l_target_form := PySem.W.mg_of X G A_l_target_form,
    a_l_low := f_l_low, d_l_low := _, F_l_low := fun_mk (st := s_l_low) L_l_low C_l_low K_l_low, b_l_low := (fun_mk (st := s_l_low) L_l_low C_l_low K_l_low).binds (ps := p_l_low) (fun _ _ _ _ _ _ us hl => match us, hl with | [_, _, _], _ => rfl), m_l_low := PySem.W.mg_of X G A_l_low,
    a_l_inside := f_l_inside, d_l_inside := _, F_l_inside := fun_mk (st := s_l_inside) L_l_inside C_l_inside K_l_inside, b_l_inside := (fun_mk (st := s_l_inside) L_l_inside C_l_inside K_l_inside).binds (ps := p_l_inside) (fun _ _ _ _ _ _ us hl => match us, hl with | [_, _], _ => rfl), m_l_inside := PySem.W.mg_of X G A_l_inside,
    a_l_same := f_l_same, d_l_same := _, F_l_same := fun_mk (st := s_l_same) L_l_same C_l_same K_l_same, b_l_same := (fun_mk (st := s_l_same) L_l_same C_l_same K_l_same).binds (ps := p_l_same) (fun _ _ _ _ _ _ us hl => match us, hl with | [_, _], _ => rfl), m_l_same := PySem.W.mg_of X G A_l_same,
    a_l_asked := f_l_asked, d_l_asked := _, F_l_asked := fun_mk (st := s_l_asked) L_l_asked C_l_asked K_l_asked, b_l_asked := (fun_mk (st := s_l_asked) L_l_asked C_l_asked K_l_asked).binds (ps := p_l_asked) (fun _ _ _ _ _ _ us hl => match us, hl with | [_, _, _, _, _], _ => rfl), m_l_asked := PySem.W.mg_of X G A_l_asked,
    a_law := fa, d_law := _, F_law := fun_mk (st := s_law) L_law C_law K_law, b_law := (fun_mk (st := s_law) L_law C_law K_law).binds (ps := p_law) (fun _ _ _ _ _ _ us hl => match us, hl with | [_], _ => rfl), m_law := PySem.W.mg_of X G A_law,
    z_bool := PySem.W.mg_none_of X G Z_bool,
    z_enumerate := PySem.W.mg_none_of X G Z_enumerate,
    z_int := PySem.W.mg_none_of X G Z_int,
    z_isinstance := PySem.W.mg_none_of X G Z_isinstance,
    z_len := PySem.W.mg_none_of X G Z_len,
    z_list := PySem.W.mg_none_of X G Z_list,
    z_max := PySem.W.mg_none_of X G Z_max,
    z_min := PySem.W.mg_none_of X G Z_min,
    z_range := PySem.W.mg_none_of X G Z_range,
    z_sorted := PySem.W.mg_none_of X G Z_sorted,
    z_str := PySem.W.mg_none_of X G Z_str,
    z_sum := PySem.W.mg_none_of X G Z_sum,
    z_tuple := PySem.W.mg_none_of X G Z_tuple,
    z_zip := PySem.W.mg_none_of X G Z_zip }
  refine ⟨PySem.W.fnOf "law" "law" (defArgs s_law) (defBody s_law) (defScope s_law) .none kV_law dc_law pm_law an_law cd_law ct_law, fun s v => .of_eq rfl, fun base _ _ => ok_law T⟩
theorem walk {l : PySem.W.OpenLaw} {q : Program} {loose : List Str} {XP : (Str → Option Value) → Heap → Prop} {YP : World → Heap → Prop} {d : DefRec} {K : Params → PySem.W.Frag} (hn : l.most = some 63) (hdf : d.params.defaults = [])
    (hY : ∀ (w : World) (h : Heap), YP w h → (K w.params).In h)
    (F : ∀ (w : World) (mg : Str → Option Value) (fa : Addr) (h : Heap), (K w.params).In h → h.Ns mainGlobals mg → mg d.name = some (.ref fa) →
      ∃ fd : FuncData, (∀ (s : Shared) (u : Value), BindsTo s fd ⟨[u], []⟩ [("_law_script", u)]) ∧ ∀ base : Heap, (K w.params).In base → base.Ns mainGlobals mg → FnOk l.prog w (K w.params) mg base CX0 6 fa fd ["_law_script"] (spLaw (K w.params))) :
    PySem.W.WalkO q loose XP YP l.row.toRowW d [] (fun f vs => PySem.call f vs) :=
  L2.walk_of (n := 63) (k := 6) (x := "_law_script") (CX := fun _ => CX0) (sp := fun w => spLaw (K w.params)) hn (by decide) hdf ⟨rfl, by decide, by decide⟩ hY F (fun _ _ a ns hl _ hS => ⟨a, ns, rfl, hS, hl, fun _ => rfl⟩) fun _ _ _ _ _ z => z
end Mine
open PySem PySem.W PyProof.Rows
set_option maxRecDepth 100000 in
set_option maxHeartbeats 0 in
theorem PySem.Challenge.cw_neverhappens_k25_assign_holds : PySem.Challenge.rw_neverhappens_k25_assign.Holds := by
  w_on; o_law; k_head; (case hw => w_witness2)
  k_fill
  refine Mine.walk (l := PySem.Challenge.rw_neverhappens_k25_assign) rfl rfl (fun w h Y => PySem.W.kIn_of Y) ?F
  case F =>
    intro w mg fa h KX G hmg
    refine' Mine.all_mk KX G hmg ?A_frozen ?L_frozen ?C_frozen ?K_frozen ?A_bound ?L_bound ?C_bound ?K_bound ?A_range_of ?L_range_of ?C_range_of ?K_range_of ?A_with_column ?L_with_column ?C_with_column ?K_with_column ?A_free_column ?L_free_column ?C_free_column ?K_free_column ?A_shift_column ?L_shift_column ?C_shift_column ?K_shift_column ?A_used_columns ?L_used_columns ?C_used_columns ?K_used_columns ?A_difference_columns ?L_difference_columns ?C_difference_columns ?K_difference_columns ?A_range_of_form ?L_range_of_form ?C_range_of_form ?K_range_of_form ?A_assign ?L_assign ?C_assign ?K_assign ?A_l_cell ?L_l_cell ?C_l_cell ?K_l_cell ?A_l_source ?L_l_source ?C_l_source ?K_l_source ?A_l_pick ?L_l_pick ?C_l_pick ?K_l_pick ?A_l_one ?L_l_one ?C_l_one ?K_l_one ?A_l_far ?L_l_far ?C_l_far ?K_l_far ?A_l_belongs ?L_l_belongs ?C_l_belongs ?K_l_belongs ?A_l_grid ?L_l_grid ?C_l_grid ?K_l_grid ?A_l_box ?L_l_box ?C_l_box ?K_l_box ?A_l_points ?L_l_points ?C_l_points ?K_l_points ?A_l_part ?L_l_part ?C_l_part ?K_l_part ?A_l_drawn_form ?L_l_drawn_form ?C_l_drawn_form ?K_l_drawn_form ?A_l_spread ?L_l_spread ?C_l_spread ?K_l_spread ?A_l_worth ?L_l_worth ?C_l_worth ?K_l_worth ?A_l_set ?L_l_set ?C_l_set ?K_l_set ?A_l_moved ?L_l_moved ?C_l_moved ?K_l_moved ?A_l_target_form ?L_l_target_form ?C_l_target_form ?K_l_target_form ?A_l_low ?L_l_low ?C_l_low ?K_l_low ?A_l_inside ?L_l_inside ?C_l_inside ?K_l_inside ?A_l_same ?L_l_same ?C_l_same ?K_l_same ?A_l_asked ?L_l_asked ?C_l_asked ?K_l_asked ?A_law ?L_law ?C_law ?K_law ?Z_bool ?Z_enumerate ?Z_int ?Z_isinstance ?Z_len ?Z_list ?Z_max ?Z_min ?Z_range ?Z_sorted ?Z_str ?Z_sum ?Z_tuple ?Z_zip
    (case A_frozen => k_is)
    (case L_frozen => k_is)
    (case C_frozen => k_is)
    (case K_frozen => k_is)
    (case A_bound => k_is)
    (case L_bound => k_is)
    (case C_bound => k_is)
    (case K_bound => k_is)
    (case A_range_of => k_is)
    (case L_range_of => k_is)
    (case C_range_of => k_is)
    (case K_range_of => k_is)
    (case A_with_column => k_is)
    (case L_with_column => k_is)
    (case C_with_column => k_is)
    (case K_with_column => k_is)
    (case A_free_column => k_is)
    (case L_free_column => k_is)
    (case C_free_column => k_is)
    (case K_free_column => k_is)
    (case A_shift_column => k_is)
    (case L_shift_column => k_is)
    (case C_shift_column => k_is)
    (case K_shift_column => k_is)
    (case A_used_columns => k_is)
    (case L_used_columns => k_is)
    (case C_used_columns => k_is)
    (case K_used_columns => k_is)
    (case A_difference_columns => k_is)
    (case L_difference_columns => k_is)
    (case C_difference_columns => k_is)
    (case K_difference_columns => k_is)
    (case A_range_of_form => k_is)
    (case L_range_of_form => k_is)
    (case C_range_of_form => k_is)
    (case K_range_of_form => k_is)
    (case A_assign => k_is)
    (case L_assign => k_is)
    (case C_assign => k_is)
    (case K_assign => k_is)
    (case A_l_cell => k_is)
    (case L_l_cell => k_is)
    (case C_l_cell => k_is)
    (case K_l_cell => k_is)
    (case A_l_source => k_is)
    (case L_l_source => k_is)
    (case C_l_source => k_is)
    (case K_l_source => k_is)
    (case A_l_pick => k_is)
    (case L_l_pick => k_is)
    (case C_l_pick => k_is)
    (case K_l_pick => k_is)
    (case A_l_one => k_is)
    (case L_l_one => k_is)
    (case C_l_one => k_is)
    (case K_l_one => k_is)
    (case A_l_far => k_is)
    (case L_l_far => k_is)
    (case C_l_far => k_is)
    (case K_l_far => k_is)
    (case A_l_belongs => k_is)
    (case L_l_belongs => k_is)
    (case C_l_belongs => k_is)
    (case K_l_belongs => k_is)
    (case A_l_grid => k_is)
    (case L_l_grid => k_is)
    (case C_l_grid => k_is)
    (case K_l_grid => k_is)
    (case A_l_box => k_is)
    (case L_l_box => k_is)
    (case C_l_box => k_is)
    (case K_l_box => k_is)
    (case A_l_points => k_is)
    (case L_l_points => k_is)
    (case C_l_points => k_is)
    (case K_l_points => k_is)
    (case A_l_part => k_is)
    (case L_l_part => k_is)
    (case C_l_part => k_is)
    (case K_l_part => k_is)
    (case A_l_drawn_form => k_is)
    (case L_l_drawn_form => k_is)
    (case C_l_drawn_form => k_is)
    (case K_l_drawn_form => k_is)
    (case A_l_spread => k_is)
    (case L_l_spread => k_is)
    (case C_l_spread => k_is)
    (case K_l_spread => k_is)
    (case A_l_worth => k_is)
    (case L_l_worth => k_is)
    (case C_l_worth => k_is)
    (case K_l_worth => k_is)
    (case A_l_set => k_is)
    (case L_l_set => k_is)
    (case C_l_set => k_is)
    (case K_l_set => k_is)
    (case A_l_moved => k_is)
    (case L_l_moved => k_is)
    (case C_l_moved => k_is)
    (case K_l_moved => k_is)
    (case A_l_target_form => k_is)
    (case L_l_target_form => k_is)
    (case C_l_target_form => k_is)
    (case K_l_target_form => k_is)
    (case A_l_low => k_is)
    (case L_l_low => k_is)
    (case C_l_low => k_is)
    (case K_l_low => k_is)
    (case A_l_inside => k_is)
    (case L_l_inside => k_is)
    (case C_l_inside => k_is)
    (case K_l_inside => k_is)
    (case A_l_same => k_is)
    (case L_l_same => k_is)
    (case C_l_same => k_is)
    (case K_l_same => k_is)
    (case A_l_asked => k_is)
    (case L_l_asked => k_is)
    (case C_l_asked => k_is)
    (case K_l_asked => k_is)
    (case A_law => k_is)
    (case L_law => k_is)
    (case C_law => k_is)
    (case K_law => k_is)
    (case Z_bool => k_is)
    (case Z_enumerate => k_is)
    (case Z_int => k_is)
    (case Z_isinstance => k_is)
    (case Z_len => k_is)
    (case Z_list => k_is)
    (case Z_max => k_is)
    (case Z_min => k_is)
    (case Z_range => k_is)
    (case Z_sorted => k_is)
    (case Z_str => k_is)
    (case Z_sum => k_is)
    (case Z_tuple => k_is)
    (case Z_zip => k_is)
#print axioms PySem.Challenge.cw_neverhappens_k25_assign_holds
