import PyProof.Rows.All
import Wide.All
import OpenK.AllK
import Wide.FinOn
import HandS.ForMost
import HandS.IsInst
import HandS.FStr
import HandS.Codes
import HandS.Star
import HandS.Zip
import HandS.More
import HandS.Defaults
import HandS.Rev
import HandS.Walk
import HandS.TupAny
import HandS.TupMul
import HandS.Wide
import HandS.Style
import HandS.Iter
import HandS.Conv
import KE.KTurns
import KE.GoesMore
import PySem.Challenge.RW_neverhappens_k18_bound_and_meet
set_option Elab.async false
set_option linter.all false
set_option maxRecDepth 100000
set_option maxHeartbeats 4000000
namespace ZG
open PySem PySem.Spec PyProof.Rows L2
/-! ### zip of two rows, each a list or a tuple; the target any -/
def ItAt (t : Bool) (h : Heap) (i l : Addr) (k : Nat) : Prop := match t with
  | true => h.IsTupleIter i l k
  | false => h.IsListIter i l k
def SeqIs (t : Bool) (h : Heap) (l : Addr) (xs : Array Value) : Prop := match t with
  | true => h.IsTuple l xs
  | false => h.IsList l xs
def Sq (t : Bool) (K : PySem.W.Frag) (H : Hp) (a : Addr) (xs : List V) : Prop := match t with
  | true => SqT K H a xs
  | false => SqL K H a xs
theorem ItAt.on {t : Bool} {h h' : Heap} {i l : Addr} {k : Nat} (x : ItAt t h i l k) (e : ∀ o, h.get? i = some o → h'.get? i = some o) : ItAt t h' i l k := by
  cases t
  · exact Heap.IsListIter.at x e
  · exact Heap.IsTupleIter.at x e
theorem ItAt.get {t : Bool} {h : Heap} {i l : Addr} {k : Nat} (x : ItAt t h i l k) : ∃ o fs, h.get? i = some o ∧ o.data = .fields fs := by
  cases t <;> (obtain ⟨o, e, _, d⟩ := x; exact ⟨o, _, e, d⟩)
theorem SeqIs.on {t : Bool} {h h' : Heap} {b l : Addr} {xs : Array Value} (x : SeqIs t h l xs) (hs : Heap.ExtBut b h h') (ne : l ≠ b) : SeqIs t h' l xs := by
  cases t
  · exact Heap.IsList.extBut x hs ne
  · exact Heap.IsTuple.extBut x hs ne
theorem SeqIs.push {t : Bool} {h : Heap} {l : Addr} {xs : Array Value} (x : SeqIs t h l xs) (o : Obj) : SeqIs t (h.push o) l xs := by
  cases t
  · exact Heap.IsList.push x o
  · exact Heap.IsTuple.push x o
theorem SeqIs.lt {t : Bool} {h : Heap} {l : Addr} {xs : Array Value} (x : SeqIs t h l xs) : l < h.objs.size := by
  cases t <;> (obtain ⟨o, e, _⟩ := x; exact Heap.lt_size e)
abbrev itObj (t : Bool) (l : Addr) : Obj := { cls := .type (if t then "tuple_iterator" else "list_iterator"), data := .fields #[.ref l, .int 0 0] }
theorem itAt_new (t : Bool) {h : Heap} {i l : Addr} (e : h.get? i = some (itObj t l)) : ItAt t h i l 0 := by
  cases t <;> exact ⟨_, e, rfl, rfl⟩
section
variable {prog : Program} {w : World} {A : Around} {E : Value → Shared → Prop} {s : Shared}
theorem nextIn_item {t : Bool} {i l : Addr} {k : Nat} {xs : Array Value} {x : Value} {Q : Value → Shared → Prop} (h1 : ItAt t s.heap i l k) (h2 : SeqIs t s.heap l xs) (hx : xs[k]? = some x)
    (q : ∀ h', ItAt t h' i l (k + 1) → Heap.SameBut i s.heap h' → Q x { s with heap := h' }) : wpAny (model prog w) A (Builtin.SmallTypes.nextOf (.ref i)) Q E s := by
  cases t
  · exact wpAny_nextOf_list_item h1 h2 hx q
  · exact RZ.nextOf_tuple_item h1 h2 hx q
theorem nextIn_end {t : Bool} {i l : Addr} {k : Nat} {xs : Array Value} {Q : Value → Shared → Prop} (hh : A.handled = none) (h1 : ItAt t s.heap i l k) (h2 : SeqIs t s.heap l xs) (hx : xs[k]? = none)
    (q : ∀ h' e, Heap.ExtBut i s.heap h' → (∃ o, h'.get? e = some o ∧ o.cls = .type "StopIteration") → E (.ref e) { s with heap := h' }) : wpAny (model prog w) A (Builtin.SmallTypes.nextOf (.ref i)) Q E s := by
  cases t
  · exact wpAny_nextOf_list_end hh h1 h2 hx q
  · exact RZ.nextOf_tuple_end hh h1 h2 hx q
/-- the zip at z: f0 tells which tuple it gave out -/
abbrev ZipSt (h : Heap) (z TI TO : Addr) (f0 : Value) (f : Bool) : Prop :=
  h.get? z = some { cls := .type "zip", dict := none, data := .fields #[f0, .bool f, .bool false, .ref TI, .ref TO], slots := #[] }
def Gave (f0 : Value) : Prop := f0 = .none ∨ ∃ T : Addr, f0 = rawInt T
theorem gave_free {z TI TO : Addr} {f0 : Value} {f : Bool} {Q : Bool → Shared → Prop} (hz : ZipSt s.heap z TI TO f0 f) (g : Gave f0) (q1 : Q true s)
    (q2 : ∀ h', ZipSt h' z TI TO f0 true → Heap.SameBut z s.heap h' → Q false { s with heap := h' }) : wpAny (model prog w) A (Builtin.SmallTypes.ownedTupleIsFree (.ref z)) Q E s := by
  unfold Builtin.SmallTypes.ownedTupleIsFree
  rcases g with rfl | ⟨T, rfl⟩
  · exact wpAny_bind (wpAny_field hz rfl (x := .none) rfl (wpAny_pure q1))
  refine wpAny_bind (wpAny_field hz rfl (x := rawInt T) rfl ?_)
  show wpAny _ _ (loadIfAlive ((T : Int).toNat) >>= _) _ _ _
  rw [Int.toNat_natCast]
  have k : ∀ {Q' : Option Obj → Shared → Prop}, Q' (s.heap.get? T) s → wpAny (model prog w) A (loadIfAlive T) Q' E s := fun h => fun _ _ _ => h
  refine wpAny_bind (k ?_)
  cases s.heap.get? T with
  | none =>
    simp only [Option.isNone_none, if_true]
    exact wpAny_pure q1
  | some oT =>
    simp only [Option.isNone_some, Bool.false_eq_true, if_false]
    refine wpAny_bind (wpAny_field hz rfl (x := .bool f) rfl ?_)
    cases f with
    | true =>
      rw [if_neg (show ¬ ((Value.bool true != Value.bool true) = true) from Bool.false_ne_true)]
      exact wpAny_pure (q2 s.heap hz (Heap.SameBut.refl _ _))
    | false =>
      rw [if_pos (show (Value.bool false != Value.bool true) = true from rfl)]
      exact wpAny_bind (wpAny_setField_rec hz (by simp) fun h₁ z1 s1 => wpAny_pure (q2 h₁ z1 s1))
/-- a zip that has an item left -/
theorem zipG_item {t1 t2 : Bool} {z TI TO i1 i2 l1 l2 : Addr} {f0 : Value} {f : Bool} {k1 k2 : Nat} {xs ys : Array Value} {x y a b : Value} {Q : Option Value → Shared → Prop} (D : ZipApart z TI TO i1 i2 l1 l2)
    (hz : ZipSt s.heap z TI TO f0 f) (g : Gave f0) (hTI : IsPair s.heap TI (.ref i1) (.ref i2)) (hTO : IsPair s.heap TO a b)
    (h1 : ItAt t1 s.heap i1 l1 k1) (h2 : ItAt t2 s.heap i2 l2 k2) (hl1 : SeqIs t1 s.heap l1 xs) (hl2 : SeqIs t2 s.heap l2 ys) (hx : xs[k1]? = some x) (hy : ys[k2]? = some y)
    (hQ : ∀ h' f0' f', ZipSt h' z TI TO f0' f' → Gave f0' → (∃ a b, IsPair h' TO a b) → ItAt t1 h' i1 l1 (k1 + 1) → ItAt t2 h' i2 l2 (k2 + 1) → IsPair h' s.heap.objs.size x y → h'.objs.size = s.heap.objs.size + 1 →
      (∀ c o, c ≠ z → c ≠ TO → c ≠ i1 → c ≠ i2 → s.heap.get? c = some o → h'.get? c = some o) → Q (some (.ref s.heap.objs.size)) { s with heap := h' }) :
    wpAny (model prog w) A (pyNext (.ref z)) Q E s := by
  have hT : s.TypeIs (.ref z) "zip" := ⟨_, hz, rfl⟩
  unfold pyNext
  refine wpAny_bind (wpAny_attempt (wpAny_callSpecial?_slot (name := Str.ofString "__next__") hT F.slot_zip_next (wpAny_call_entry F.slot_zip_next hT F.entry_zip_next ?_ (F.args_zip_next_1 _))))
  show wpAny _ _ (field (.ref z) 2 >>= _) _ _ _
  refine wpAny_bind (wpAny_field hz rfl (x := .bool false) rfl ?_)
  show wpAny _ _ (field (.ref z) 3 >>= _) _ _ _
  refine wpAny_bind (wpAny_field hz rfl (x := .ref TI) rfl ?_)
  refine wpAny_bind (wpAny_seqItems hTI rfl ?_)
  refine wpAny_bind (gave_free (z := z) hz g ?free fun u1 z1 s1 => ?held)
  case free =>
    simp only [if_true]
    refine wpAny_bind (wpAny_rule ?_)
    refine wpAny_bind (wpAny_field hz rfl (x := .ref TO) rfl ?_)
    refine wpAny_bind (wpAny_setField_rec hz (by simp) fun u1 z1 s1 => ?_)
    replace z1 : ZipSt u1 z TI TO .ellipsis f := z1
    refine wpAny_bind ?_
    simp only [List.zipIdx_cons, List.zipIdx_nil, List.forIn_cons, List.forIn_nil]
    refine wpAny_bind (wpAny_bind (wpAny_onRaise ?_))
    show wpAny _ _ (Builtin.SmallTypes.nextOf (.ref i1) >>= _) _ _ _
    refine wpAny_bind (nextIn_item (h1.on fun o e => s1.extBut _ _ D.i1z e) (hl1.on s1.extBut D.l1z) hx fun u2 a2 s2 => wpAny_pure ?_)
    have p2 : IsPair u2 TO a b := s2.extBut _ _ D.TOi1 (s1.extBut _ _ D.TOz hTO)
    refine wpAny_bind (wpAny_seqItems p2 rfl ?_)
    refine wpAny_bind (wpAny_updateSeq_pair p2 fun u3 p3 s3 => ?_)
    replace p3 : IsPair u3 TO x b := p3
    refine wpAny_bind (wpAny_letGo (wpAny_pure ?_))
    refine wpAny_bind (wpAny_bind (wpAny_onRaise ?_))
    show wpAny _ _ (Builtin.SmallTypes.nextOf (.ref i2) >>= _) _ _ _
    refine wpAny_bind (nextIn_item (h2.on fun o e => s3.extBut _ _ D.TOi2.symm (s2.extBut _ _ D.i12.symm (s1.extBut _ _ D.i2z e)))
      (((hl2.on s1.extBut D.l2z).on s2.extBut D.l2i1).on s3.extBut D.l2TO) hy fun u4 a4 s4 => wpAny_pure ?_)
    have p4 : IsPair u4 TO x b := s4.extBut _ _ D.TOi2 p3
    refine wpAny_bind (wpAny_seqItems p4 rfl ?_)
    refine wpAny_bind (wpAny_updateSeq_pair p4 fun u5 p5 s5 => ?_)
    replace p5 : IsPair u5 TO x y := p5
    refine wpAny_bind (wpAny_letGo (wpAny_pure (wpAny_pure ?_)))
    refine wpAny_bind (wpAny_seqItems p5 rfl ?_)
    refine wpAny_bind (wpAny_newTuple ?_)
    have sz : u5.objs.size = s.heap.objs.size := by rw [s5.1, s4.1, s3.1, s2.1, s1.1]
    have z5 : ZipSt u5 z TI TO .ellipsis f := s5.extBut _ _ D.TOz.symm (s4.extBut _ _ D.i2z.symm (s3.extBut _ _ D.TOz.symm (s2.extBut _ _ D.i1z.symm z1)))
    have k5 : ∀ c o, c ≠ z → c ≠ TO → c ≠ i1 → c ≠ i2 → s.heap.get? c = some o → u5.get? c = some o := fun c o c1 c2 c3 c4 e =>
      s5.extBut _ _ c2 (s4.extBut _ _ c4 (s3.extBut _ _ c2 (s2.extBut _ _ c3 (s1.extBut _ _ c1 e))))
    have b1 : ItAt t1 u5 i1 l1 (k1 + 1) := a2.on fun o e => s5.extBut _ _ D.TOi1.symm (s4.extBut _ _ D.i12 (s3.extBut _ _ D.TOi1.symm e))
    have b2 : ItAt t2 u5 i2 l2 (k2 + 1) := a4.on fun o e => s5.extBut _ _ D.TOi2.symm e
    have zl : z < u5.objs.size := Heap.lt_size z5
    show wpAny _ _ (Builtin.SmallTypes.ownedTupleHandOut (.ref z) (.ref u5.objs.size) >>= _) _ _ _
    refine wpAny_bind ?_
    unfold Builtin.SmallTypes.ownedTupleHandOut
    have z6 : ZipSt (u5.push { cls := .type "tuple", data := .seq #[x, y] }) z TI TO .ellipsis f := Heap.get?_push_of_some _ z5
    refine wpAny_bind (wpAny_setField_rec z6 (by simp) fun u7 z7 s7 => ?_)
    replace z7 : ZipSt u7 z TI TO (rawInt u5.objs.size) f := z7
    refine wpAny_setField_rec z7 (by simp) fun u8 z8 s8 => ?_
    replace z8 : ZipSt u8 z TI TO (rawInt u5.objs.size) false := z8
    have up : ∀ c o, c ≠ z → u5.get? c = some o → u8.get? c = some o := fun c o c1 e => s8.extBut _ _ c1 (s7.extBut _ _ c1 (Heap.get?_push_of_some _ e))
    have t8 : IsPair u8 u5.objs.size x y := s8.extBut _ _ (Nat.ne_of_gt zl) (s7.extBut _ _ (Nat.ne_of_gt zl) (Heap.get?_push_size _ rfl))
    have n8 : u8.objs.size = u5.objs.size + 1 := by rw [s8.1, s7.1, Heap.size_push]
    rw [sz] at z8 t8 n8
    refine wpAny_pure ⟨_, rfl, wpAny_pure ?_⟩
    show Q (some (.ref u5.objs.size)) _
    rw [sz]
    exact hQ u8 _ _ z8 (.inr ⟨_, rfl⟩) ⟨_, _, up _ _ D.TOz p5⟩ (b1.on fun o e => up _ o D.i1z e) (b2.on fun o e => up _ o D.i2z e) t8 n8 fun c o c1 c2 c3 c4 e => up c o c1 (k5 c o c1 c2 c3 c4 e)
  case held =>
    simp only [Bool.false_eq_true, if_false]
    refine wpAny_bind ?_
    rw [← Array.forIn_toList]
    simp only [List.forIn_cons, List.forIn_nil]
    refine wpAny_bind (wpAny_bind (wpAny_holding ?_))
    show wpAny _ _ (Builtin.SmallTypes.nextOf (.ref i1) >>= _) _ _ _
    refine wpAny_bind (nextIn_item (s := { s with heap := u1 }) (h1.on fun o e => s1.extBut _ _ D.i1z e) (hl1.on s1.extBut D.l1z) hx fun u2 a2 s2 => wpAny_pure ?_)
    refine wpAny_pure ?_
    refine wpAny_bind (wpAny_bind (wpAny_holding ?_))
    show wpAny _ _ (Builtin.SmallTypes.nextOf (.ref i2) >>= _) _ _ _
    refine wpAny_bind (nextIn_item (s := { s with heap := u2 }) (h2.on fun o e => s2.extBut _ _ D.i12.symm (s1.extBut _ _ D.i2z e)) ((hl2.on s1.extBut D.l2z).on s2.extBut D.l2i1) hy fun u3 a3 s3 => wpAny_pure ?_)
    refine wpAny_pure (wpAny_pure ?_)
    show wpAny _ _ (newTuple [x, y] >>= _) _ _ _
    refine wpAny_bind (wpAny_newTuple ?_)
    have sz : u3.objs.size = s.heap.objs.size := by rw [s3.1, s2.1, s1.1]
    have z3 : ZipSt u3 z TI TO f0 true := s3.extBut _ _ D.i2z.symm (s2.extBut _ _ D.i1z.symm z1)
    have k3 : ∀ c o, c ≠ z → c ≠ TO → c ≠ i1 → c ≠ i2 → s.heap.get? c = some o → u3.get? c = some o := fun c o c1 _ c2 c3 e => s3.extBut _ _ c3 (s2.extBut _ _ c2 (s1.extBut _ _ c1 e))
    have b1 : ItAt t1 u3 i1 l1 (k1 + 1) := a2.on fun o e => s3.extBut _ _ D.i12 e
    refine wpAny_pure ⟨_, rfl, wpAny_pure ?_⟩
    show Q (some (.ref u3.objs.size)) _
    have hp : IsPair (u3.push { cls := .type "tuple", data := .seq #[x, y] }) u3.objs.size x y := Heap.get?_push_size _ rfl
    have n4 : (u3.push { cls := .type "tuple", data := .seq #[x, y] }).objs.size = u3.objs.size + 1 := Heap.size_push ..
    have pTO : IsPair u3 TO a b := s3.extBut _ _ D.TOi2 (s2.extBut _ _ D.TOi1 (s1.extBut _ _ D.TOz hTO))
    rw [sz] at hp n4 ⊢
    exact hQ _ _ _ (Heap.get?_push_of_some _ z3) g ⟨a, b, Heap.get?_push_of_some _ pTO⟩ (b1.on fun o e => Heap.get?_push_of_some _ e) (a3.on fun o e => Heap.get?_push_of_some _ e) hp n4 fun c o c1 c2 c3 c4 e => Heap.get?_push_of_some _ (k3 c o c1 c2 c3 c4 e)
/-- a zip that is through -/
theorem zipG_end {t1 t2 : Bool} {z TI TO i1 i2 l1 l2 : Addr} {f0 : Value} {f : Bool} {k1 k2 : Nat} {xs ys : Array Value} {a b : Value} {Q : Option Value → Shared → Prop} (hh : A.handled = none) (D : ZipApart z TI TO i1 i2 l1 l2)
    (hz : ZipSt s.heap z TI TO f0 f) (g : Gave f0) (hTI : IsPair s.heap TI (.ref i1) (.ref i2)) (hTO : IsPair s.heap TO a b)
    (h1 : ItAt t1 s.heap i1 l1 k1) (h2 : ItAt t2 s.heap i2 l2 k2) (hl1 : SeqIs t1 s.heap l1 xs) (hl2 : SeqIs t2 s.heap l2 ys) (hend : xs[k1]? = none ∨ ys[k2]? = none)
    (hQ : ∀ h', (∀ c o, c ≠ z → c ≠ TO → c ≠ i1 → c ≠ i2 → s.heap.get? c = some o → h'.get? c = some o) → Q none { s with heap := h' }) :
    wpAny (model prog w) A (pyNext (.ref z)) Q E s := by
  have hT : s.TypeIs (.ref z) "zip" := ⟨_, hz, rfl⟩
  have fin : ∀ (h' : Heap) (e : Addr), (∀ c o, c ≠ z → c ≠ TO → c ≠ i1 → c ≠ i2 → s.heap.get? c = some o → h'.get? c = some o) → (∃ o, h'.get? e = some o ∧ o.cls = .type "StopIteration") →
      wpAny (model prog w) A (isInstance (.ref e) (.type "StopIteration")) (fun v s' => v = true ∧ s' = { s with heap := h' }) E { s with heap := h' } := fun h' e _ he => by
    obtain ⟨o, ho, hc⟩ := he
    exact wpAny_isInstance (T := "StopIteration") (b := true) ⟨o, ho, hc⟩ isSubtype_stop ⟨rfl, rfl⟩
  unfold pyNext
  refine wpAny_bind (wpAny_attempt (wpAny_callSpecial?_slot (name := Str.ofString "__next__") hT F.slot_zip_next (wpAny_call_entry F.slot_zip_next hT F.entry_zip_next ?_ (F.args_zip_next_1 _))))
  show wpAny _ _ (field (.ref z) 2 >>= _) _ _ _
  refine wpAny_bind (wpAny_field hz rfl (x := .bool false) rfl ?_)
  show wpAny _ _ (field (.ref z) 3 >>= _) _ _ _
  refine wpAny_bind (wpAny_field hz rfl (x := .ref TI) rfl ?_)
  refine wpAny_bind (wpAny_seqItems hTI rfl ?_)
  refine wpAny_bind (gave_free (z := z) hz g ?free fun u1 z1 s1 => ?held)
  case free =>
    simp only [if_true]
    refine wpAny_bind (wpAny_rule ?_)
    refine wpAny_bind (wpAny_field hz rfl (x := .ref TO) rfl ?_)
    refine wpAny_bind (wpAny_setField_rec hz (by simp) fun u1 z1 s1 => ?_)
    replace z1 : ZipSt u1 z TI TO .ellipsis f := z1
    refine wpAny_bind ?_
    simp only [List.zipIdx_cons, List.zipIdx_nil, List.forIn_cons, List.forIn_nil]
    refine wpAny_bind (wpAny_bind (wpAny_onRaise ?_))
    show wpAny _ _ (Builtin.SmallTypes.nextOf (.ref i1) >>= _) _ _ _
    cases hx : xs[k1]? with
    | none =>
      refine wpAny_bind (nextIn_end hh (h1.on fun o e => s1.extBut _ _ D.i1z e) (hl1.on s1.extBut D.l1z) hx fun u2 e s2 he => ?_)
      obtain ⟨oe, hoe, hce⟩ := he
      have z2 : ZipSt u2 z TI TO .ellipsis f := s2 _ _ D.i1z.symm z1
      have hez : e ≠ z := fun x => by subst x; rw [z2] at hoe; cases hoe; simp at hce
      refine wpAny_setField_rec z2 (by simp) fun u3 _ s3 => ?_
      refine wpAny_bind (wpAny_isInstance (T := "StopIteration") (b := true) ⟨oe, s3.extBut _ _ hez hoe, hce⟩ isSubtype_stop ?_)
      exact wpAny_pure (hQ u3 fun c o c1 _ c3 _ x => s3.extBut _ _ c1 (s2 _ _ c3 (s1.extBut _ _ c1 x)))
    | some x =>
      have hy : ys[k2]? = none := by rcases hend with h | h; rw [hx] at h; cases h; exact h
      refine wpAny_bind (nextIn_item (h1.on fun o e => s1.extBut _ _ D.i1z e) (hl1.on s1.extBut D.l1z) hx fun u2 a2 s2 => wpAny_pure ?_)
      have p2 : IsPair u2 TO a b := s2.extBut _ _ D.TOi1 (s1.extBut _ _ D.TOz hTO)
      refine wpAny_bind (wpAny_seqItems p2 rfl ?_)
      refine wpAny_bind (wpAny_updateSeq_pair p2 fun u3 p3 s3 => ?_)
      refine wpAny_bind (wpAny_letGo (wpAny_pure ?_))
      refine wpAny_bind (wpAny_bind (wpAny_onRaise ?_))
      show wpAny _ _ (Builtin.SmallTypes.nextOf (.ref i2) >>= _) _ _ _
      refine wpAny_bind (nextIn_end hh (h2.on fun o e => s3.extBut _ _ D.TOi2.symm (s2.extBut _ _ D.i12.symm (s1.extBut _ _ D.i2z e)))
        (((hl2.on s1.extBut D.l2z).on s2.extBut D.l2i1).on s3.extBut D.l2TO) hy fun u4 e s4 he => ?_)
      obtain ⟨oe, hoe, hce⟩ := he
      have z4 : ZipSt u4 z TI TO .ellipsis f := s4 _ _ D.i2z.symm (s3.extBut _ _ D.TOz.symm (s2.extBut _ _ D.i1z.symm z1))
      have hez : e ≠ z := fun x => by subst x; rw [z4] at hoe; cases hoe; simp at hce
      refine wpAny_setField_rec z4 (by simp) fun u5 _ s5 => ?_
      refine wpAny_bind (wpAny_isInstance (T := "StopIteration") (b := true) ⟨oe, s5.extBut _ _ hez hoe, hce⟩ isSubtype_stop ?_)
      exact wpAny_pure (hQ u5 fun c o c1 c2 c3 c4 x => s5.extBut _ _ c1 (s4 _ _ c4 (s3.extBut _ _ c2 (s2.extBut _ _ c3 (s1.extBut _ _ c1 x)))))
  case held =>
    simp only [Bool.false_eq_true, if_false]
    refine wpAny_bind ?_
    rw [← Array.forIn_toList]
    simp only [List.forIn_cons, List.forIn_nil]
    refine wpAny_bind (wpAny_bind (wpAny_holding ?_))
    show wpAny _ _ (Builtin.SmallTypes.nextOf (.ref i1) >>= _) _ _ _
    cases hx : xs[k1]? with
    | none =>
      refine wpAny_bind (nextIn_end (s := { s with heap := u1 }) hh (h1.on fun o e => s1.extBut _ _ D.i1z e) (hl1.on s1.extBut D.l1z) hx fun u2 e s2 he => ?_)
      obtain ⟨oe, hoe, hce⟩ := he
      refine wpAny_bind (wpAny_isInstance (T := "StopIteration") (b := true) ⟨oe, hoe, hce⟩ isSubtype_stop ?_)
      exact wpAny_pure (hQ u2 fun c o c1 _ c3 _ x => s2 _ _ c3 (s1.extBut _ _ c1 x))
    | some x =>
      have hy : ys[k2]? = none := by rcases hend with h | h; rw [hx] at h; cases h; exact h
      refine wpAny_bind (nextIn_item (s := { s with heap := u1 }) (h1.on fun o e => s1.extBut _ _ D.i1z e) (hl1.on s1.extBut D.l1z) hx fun u2 a2 s2 => wpAny_pure ?_)
      refine wpAny_pure ?_
      refine wpAny_bind (wpAny_bind (wpAny_holding ?_))
      show wpAny _ _ (Builtin.SmallTypes.nextOf (.ref i2) >>= _) _ _ _
      refine wpAny_bind (nextIn_end (s := { s with heap := u2 }) hh (h2.on fun o e => s2.extBut _ _ D.i12.symm (s1.extBut _ _ D.i2z e)) ((hl2.on s1.extBut D.l2z).on s2.extBut D.l2i1) hy fun u3 e s3 he => ?_)
      obtain ⟨oe, hoe, hce⟩ := he
      refine wpAny_bind (wpAny_isInstance (T := "StopIteration") (b := true) ⟨oe, hoe, hce⟩ isSubtype_stop ?_)
      exact wpAny_pure (hQ u3 fun c o c1 _ c3 c4 x => s3 _ _ c4 (s2.extBut _ _ c3 (s1.extBut _ _ c1 x)))
/-- what is done with the tuple that it gave out ahead of a target -/
theorem goG {tg : Expr} {z TI TO T : Addr} {f0 : Value} {f : Bool} {Q : Unit → Shared → Prop} (hz : ZipSt s.heap z TI TO f0 f) (g : Gave f0)
    (hQ : ∀ h' f0', ZipSt h' z TI TO f0' f → Gave f0' → Heap.SameBut z s.heap h' → Q () { s with heap := h' }) : wpAny (model prog w) A (letOwnedTupleGo tg (.ref z) (.ref T)) Q E s := by
  have q0 : Q () s := hQ s.heap f0 hz g (Heap.SameBut.refl _ _)
  unfold letOwnedTupleGo
  cases tg <;> first
    | exact wpAny_pure q0
    | (refine wpAny_bind (wpAny_load hz ?_)
       show wpAny _ _ (if (["enumerate", "zip", "dict_itemiterator", "dict_reverseitemiterator", "odict_iterator", "itertools.zip_longest", "itertools.pairwise"].contains "zip" && (#[f0, .bool f, .bool false, .ref TI, .ref TO] : Array Value)[0]? == some (rawInt T)) = true then _ else _) Q E s
       split
       · refine wpAny_bind (wpAny_rule ?_)
         show wpAny _ _ (setField (.ref z) 0 .none) Q E s
         exact wpAny_setField_rec hz (by simp) fun h' z' s' => hQ h' .none z' (.inl rfl) s'
       · exact wpAny_pure q0)
abbrev zG1 (t : Bool) (h : Heap) (l1 : Addr) : Heap := h.push (itObj t l1)
abbrev zG2 (t1 t2 : Bool) (h : Heap) (l1 l2 : Addr) : Heap := (zG1 t1 h l1).push (itObj t2 l2)
abbrev zG3 (t1 t2 : Bool) (h : Heap) (l1 l2 : Addr) : Heap := (zG2 t1 t2 h l1 l2).push { cls := .type "tuple", data := .seq #[.ref h.objs.size, .ref (zG1 t1 h l1).objs.size] }
abbrev zG4 (t1 t2 : Bool) (h : Heap) (l1 l2 : Addr) : Heap := (zG3 t1 t2 h l1 l2).push { cls := .type "tuple", data := .seq #[.none, .none] }
abbrev zG5 (t1 t2 : Bool) (h : Heap) (l1 l2 : Addr) : Heap := (zG4 t1 t2 h l1 l2).push { cls := .type "zip", data := .fields #[.none, .bool false, .bool false, .ref (zG2 t1 t2 h l1 l2).objs.size, .ref (zG3 t1 t2 h l1 l2).objs.size] }
theorem iterG {t : Bool} {l : Addr} {xs : Array Value} {Q : Value → Shared → Prop} (hl : SeqIs t s.heap l xs) (q : Q (.ref s.heap.objs.size) { s with heap := s.heap.push (itObj t l) }) : wpAny (model prog w) A (pyIter (.ref l)) Q E s := by
  cases t
  · exact wpAny_pyIter_list hl q
  · exact wpAny_pyIter_tuple hl q
end
theorem meets_zipG (t1 t2 : Bool) (l1 l2 : Addr) (xs ys : Array Value) :
    Meets (Builtin.«zip.__new__» ⟨[.type "zip", .ref l1, .ref l2], []⟩) (fun _ R s => SeqIs t1 s.heap l1 xs ∧ SeqIs t2 s.heap l2 ys ∧
      R (.ok (.ret (.ref (zG4 t1 t2 s.heap l1 l2).objs.size))) { s with heap := zG5 t1 t2 s.heap l1 l2 }) :=
  .of_wp fun prog w A R s h => by
    obtain ⟨hp, g, d, tk, os⟩ := s
    obtain ⟨hl1, hl2, h⟩ := h
    have hsub := sub_zip
    have q1 : SeqIs t1 (Shared.heap ⟨hp, g, d, tk, os⟩) l1 xs := hl1
    have q2 : SeqIs t2 (Shared.heap ⟨hp.push (itObj t1 l1), g, d, tk, os⟩) l2 ys := SeqIs.push hl2 _
    wp_walk using iterG q1, iterG q2
    exact ⟨_, rfl, h⟩
theorem call_zipG {prog : Program} {w : World} {A : Around} {E : Value → Shared → Prop} {s : Shared} {t1 t2 : Bool} {l1 l2 : Addr} {xs ys : Array Value} {Q : Value → Shared → Prop} (hl1 : SeqIs t1 s.heap l1 xs) (hl2 : SeqIs t2 s.heap l2 ys)
    (h : ∀ h', ZipSt h' (s.heap.objs.size + 4) (s.heap.objs.size + 2) (s.heap.objs.size + 3) .none false → IsPair h' (s.heap.objs.size + 2) (.ref s.heap.objs.size) (.ref (s.heap.objs.size + 1)) →
      IsPair h' (s.heap.objs.size + 3) .none .none → ItAt t1 h' s.heap.objs.size l1 0 → ItAt t2 h' (s.heap.objs.size + 1) l2 0 →
      (∀ c o, s.heap.get? c = some o → h'.get? c = some o) → Q (.ref (s.heap.objs.size + 4)) { s with heap := h' }) :
    wpAny (model prog w) A (call (.type "zip") [.ref l1, .ref l2]) Q E s := by
  refine callType_new F.called_zip (by decide) (F.typeCall_zip_2 _ _) (F.newCall_zip_2 _ _) (fun obj => F.args_object_init_3 obj _ _) F.entry_zip_new (meets_zipG t1 t2 l1 l2 xs ys) ⟨hl1, hl2, ?_⟩
  have z1 : (zG1 t1 s.heap l1).objs.size = s.heap.objs.size + 1 := Heap.size_push ..
  have z2 : (zG2 t1 t2 s.heap l1 l2).objs.size = s.heap.objs.size + 2 := by rw [Heap.size_push, z1]
  have z3 : (zG3 t1 t2 s.heap l1 l2).objs.size = s.heap.objs.size + 3 := by rw [Heap.size_push, z2]
  have z4 : (zG4 t1 t2 s.heap l1 l2).objs.size = s.heap.objs.size + 4 := by rw [Heap.size_push, z3]
  have g5 : (zG5 t1 t2 s.heap l1 l2).get? (zG4 t1 t2 s.heap l1 l2).objs.size = some _ := Heap.get?_push_size _ rfl
  have g4 : (zG5 t1 t2 s.heap l1 l2).get? (zG3 t1 t2 s.heap l1 l2).objs.size = some _ := Heap.get?_push_of_some _ (Heap.get?_push_size _ rfl)
  have g3 : (zG5 t1 t2 s.heap l1 l2).get? (zG2 t1 t2 s.heap l1 l2).objs.size = some _ := Heap.get?_push_of_some _ (Heap.get?_push_of_some _ (Heap.get?_push_size _ rfl))
  have g2 : (zG5 t1 t2 s.heap l1 l2).get? (zG1 t1 s.heap l1).objs.size = some (itObj t2 l2) := Heap.get?_push_of_some _ (Heap.get?_push_of_some _ (Heap.get?_push_of_some _ (Heap.get?_push_size _ (by cases t2 <;> rfl))))
  have g1 : (zG5 t1 t2 s.heap l1 l2).get? s.heap.objs.size = some (itObj t1 l1) := Heap.get?_push_of_some _ (Heap.get?_push_of_some _ (Heap.get?_push_of_some _ (Heap.get?_push_of_some _ (Heap.get?_push_size _ (by cases t1 <;> rfl)))))
  show _ ∧ _
  rw [z2, z3, z4] at g5
  rw [z1, z2] at g3
  rw [z3] at g4
  rw [z1] at g2
  rw [z4]
  exact ⟨⟨_, g5, rfl⟩, h _ g5 g3 g4 (itAt_new t1 g1) (itAt_new t2 g2) fun c o x =>
    Heap.get?_push_of_some _ (Heap.get?_push_of_some _ (Heap.get?_push_of_some _ (Heap.get?_push_of_some _ (Heap.get?_push_of_some _ x))))⟩
theorem Sq.at {X : Cx} {pins : List (Addr × Obj)} {σ : L2.St} {H : Hp} {s : Shared} {t : Bool} {a : Addr} {xs : List V} (I : Inv X pins σ H s) (h : Sq t X.K H a xs) : ∃ its : List Value, Vals xs its ∧ SeqIs t s.heap a its.toArray := by
  cases t
  · obtain ⟨its, r, p, _⟩ := I.list h
    exact ⟨its, r, p.isList⟩
  · obtain ⟨its, r, p, _⟩ := I.tuple h
    exact ⟨its, r, p⟩
theorem Sq.inj {X : Cx} {pins : List (Addr × Obj)} {σ : L2.St} {H : Hp} {s : Shared} {t : Bool} {a : Addr} {xs ys : List V} (I : Inv X pins σ H s) (h : Sq t X.K H a xs) (h' : Sq t X.K H a ys) : xs = ys := by
  cases t
  · exact I.list_inj h h'
  · exact I.tuple_inj h h'
/-- the rows at a and b as they stand at each turn, the items in new pairs -/
def ItzG (K : PySem.W.Frag) (t1 t2 : Bool) (a b : Addr) : It :=
  ⟨fun i H => ∃ (xs ys : List V) (x y : V), Sq t1 K H a xs ∧ Sq t2 K H b ys ∧ xs[i]? = some x ∧ ys[i]? = some y,
    fun i H v H' => ∃ T x y, v = .ref T ∧ H T = none ∧ H' = upd H T (.tup [x, y]) ∧ (∀ xs, Sq t1 K H a xs → xs[i]? = some x) ∧ ∀ ys, Sq t2 K H b ys → ys[i]? = some y,
    fun i H => ∃ xs ys : List V, Sq t1 K H a xs ∧ Sq t2 K H b ys ∧ (xs.length ≤ i ∨ ys.length ≤ i)⟩
theorem turn_zipG {P : Program} {w : World} {K : PySem.W.Frag} {tg : Expr} {t1 t2 : Bool} {a b z TI TO i1 i2 : Addr} (D : ZipApart z TI TO i1 i2 a b) :
    Turn P w K tg (ItzG K t1 t2 a b) [z, TI, TO, i1, i2] z (fun i h => (∃ f0 f, ZipSt h z TI TO f0 f ∧ Gave f0) ∧ IsPair h TI (.ref i1) (.ref i2) ∧ (∃ x y, IsPair h TO x y) ∧ ItAt t1 h i1 a i ∧ ItAt t2 h i2 b i) where
  mem := by simp
  obj := fun i h st c hc => by
    obtain ⟨⟨f0, f, hz, _⟩, hTI, ⟨x, y, hTO⟩, h1, h2⟩ := st
    obtain ⟨o1, fs1, e1, d1⟩ := h1.get
    obtain ⟨o2, fs2, e2, d2⟩ := h2.get
    have e' : c = z ∨ c = TI ∨ c = TO ∨ c = i1 ∨ c = i2 := by simpa using hc
    rcases e' with q | q | q | q | q
    · rw [q]; exact ⟨_, hz, fun v q => nomatch q⟩
    · rw [q]; exact ⟨_, hTI, fun v q => nomatch q⟩
    · rw [q]; exact ⟨_, hTO, fun v q => nomatch q⟩
    · rw [q]; exact ⟨o1, e1, fun v q => by rw [d1] at q; cases q⟩
    · rw [q]; exact ⟨o2, e2, fun v q => by rw [d2] at q; cases q⟩
  keep := fun i h h' st k => by
    obtain ⟨⟨f0, f, hz, g⟩, hTI, ⟨x, y, hTO⟩, h1, h2⟩ := st
    exact ⟨⟨f0, f, k z (by simp) _ hz, g⟩, k TI (by simp) _ hTI, ⟨x, y, k TO (by simp) _ hTO⟩, h1.on fun o q => k i1 (by simp) o q, h2.on fun o q => k i2 (by simp) o q⟩
  item := by
    intro X hP hw hK hc i pins s σ H E I hf st hg
    subst hP hw hK
    obtain ⟨⟨f0, f, hz, g⟩, hTI, ⟨x0, y0, hTO⟩, h1, h2⟩ := st
    obtain ⟨xs, ys, x, y, hqx, hqy, hx, hy⟩ := hg
    obtain ⟨its, rv, p⟩ := hqx.at I
    obtain ⟨its2, rv2, p2⟩ := hqy.at I
    obtain ⟨u, hu, ru⟩ := rv.get hx
    obtain ⟨u2, hu2, ru2⟩ := rv2.get hy
    have hzl : z < s.heap.objs.size := Heap.lt_size hz
    refine zipG_item D hz g hTI hTO h1 h2 p p2 (x := u) (y := u2) (by simpa using hu) (by simpa using hu2) fun h' f0' f' z' g' TO' h1' h2' hT hsz hk => ?_
    refine ⟨_, rfl, goG (s := { s with heap := h' }) z' g' fun h'' f0'' z'' g'' sb => ?_⟩
    have hT2 : h''.get? s.heap.objs.size = some { cls := .type "tuple", data := .seq #[u, u2] } := (sb.2 _ (Nat.ne_of_gt hzl)).trans hT
    have new : ObjOk X.prog X.w (upd H s.heap.objs.size (.tup [x, y])) h'' s.heap.objs.size (.tup [x, y]) :=
      ⟨by show 2 ≤ sizeLine; decide, [u, u2], .cons ru (.cons ru2 .nil), ⟨_, hT2, rfl, _, rfl⟩⟩
    have I1 : Inv X pins σ (upd H s.heap.objs.size (.tup [x, y])) { s with heap := h'' } :=
      I.turnedNew (t' := s.toks) (ch := [z, TI, TO, i1, i2]) (fun c o hb q => (sb.2 c (fun q' => hb (by simp [q']))).trans (hk c o (fun q' => hb (by simp [q'])) (fun q' => hb (by simp [q'])) (fun q' => hb (by simp [q'])) (fun q' => hb (by simp [q'])) q)) hf (Nat.le_refl _) new
    have TI' : IsPair h' TI (.ref i1) (.ref i2) := hk _ _ D.TIz D.TITO D.TIi1 D.TIi2 hTI
    obtain ⟨x1, y1, TO'⟩ := TO'
    refine ⟨.ref s.heap.objs.size, _, I1, rfl, ⟨_, x, y, rfl, I.hok.fresh (Nat.le_refl _), rfl, fun l hl => by rw [hl.inj I hqx]; exact hx, fun l hl => by rw [hl.inj I hqy]; exact hy⟩, ⟨⟨_, _, z'', g''⟩, ?_, ⟨x1, y1, ?_⟩, ?_, ?_⟩, fun c hcm => ?_⟩
    · exact (sb.2 _ D.TIz).trans TI'
    · exact (sb.2 _ D.TOz).trans TO'
    · exact h1'.on fun o q => (sb.2 _ D.i1z).trans q
    · exact h2'.on fun o q => (sb.2 _ D.i2z).trans q
    · have hlt : c < s.heap.objs.size := by
        obtain ⟨o1, _, e1, _⟩ := h1.get
        obtain ⟨o2, _, e2, _⟩ := h2.get
        have e' : c = z ∨ c = TI ∨ c = TO ∨ c = i1 ∨ c = i2 := by simpa using hcm
        rcases e' with q | q | q | q | q
        · rw [q]; exact hzl
        · rw [q]; exact Heap.lt_size hTI
        · rw [q]; exact Heap.lt_size hTO
        · rw [q]; exact Heap.lt_size e1
        · rw [q]; exact Heap.lt_size e2
      rw [upd_ne (Nat.ne_of_lt hlt)]
      exact (hf c hcm).1
  done := by
    intro X hP hw hK hc i pins s σ H E I hf st hg
    subst hP hw hK
    obtain ⟨⟨f0, f, hz, g⟩, hTI, ⟨x0, y0, hTO⟩, h1, h2⟩ := st
    obtain ⟨xs, ys, hqx, hqy, hend⟩ := hg
    obtain ⟨its, rv, p⟩ := hqx.at I
    obtain ⟨its2, rv2, p2⟩ := hqy.at I
    have l1 := rv.length
    have l2 := rv2.length
    have he : its.toArray[i]? = none ∨ its2.toArray[i]? = none := by
      rcases hend with q | q
      · exact .inl (by simp; omega)
      · exact .inr (by simp; omega)
    exact zipG_end (I.ok.hd hc) D hz g hTI hTO h1 h2 p p2 he fun h' hk => ⟨rfl, I.turnedL (t' := s.toks) (ch := [z, TI, TO, i1, i2]) (fun c o hb q =>
      hk c o (fun q' => hb (by simp [q'])) (fun q' => hb (by simp [q'])) (fun q' => hb (by simp [q'])) (fun q' => hb (by simp [q'])) q) hf⟩
  self := fun A i s Q E st h => by
    obtain ⟨⟨f0, f, hz, g⟩, _⟩ := st
    have hT : s.TypeIs (.ref z) "zip" := ⟨_, hz, rfl⟩
    refine wpAny_pyIter_slot hT F.slot_zip_iter (wpAny_call_entry F.slot_zip_iter hT F.entry_zip_iter ?_ (F.args_zip_iter_1 _))
    show wpAny _ _ (ret (.ref z)) _ _ s
    exact wpAny_pure ⟨_, rfl, "zip", _, hT, F.slot_zip_next.lookup, h⟩
def iZipG (K : PySem.W.Frag) (ta : TA) : TI := fun σ H R => ta σ H fun vs H1 => ∃ (t1 t2 : Bool) (a b : Addr) (xs ys : List V), vs = [.ref a, .ref b] ∧ Sq t1 K H1 a xs ∧ Sq t2 K H1 b ys ∧ R (ItzG K t1 t2 a b) H1
theorem pi_zipG {X : Cx} {tg e e2 : Expr} {ta : TA} {p pos : Pos} (hg : Gl X "zip") (hm : X.mg "zip" = none) (ha : PA X [e, e2] ta)
    (hs : starEach [e, e2] X.env = (false, eval e X.env) :: starEach [e2] X.env := by rfl) (hpl : (backTo pos (starEach [e2] X.env)).any (·.1) = false := by rfl) :
    PI X tg (.Call (.Name "zip" p) [e, e2] [] pos) (iZipG X.K ta) := by
  refine ⟨fun pins s σ H R I h => ?_⟩
  refine Call_ (ld_blt I hg hm PyProof.Rows.boot_zip (PyProof.Rows.callWith_type1 (thn (ha.run pos pins s σ H _ I h) fun us s1 ⟨vs, H1, I1, r1, q1⟩ => ?_) hs hpl))
  obtain ⟨t1, t2, a, b, xs, ys, ex, hqx, hqy, q⟩ := q1
  subst ex
  cases r1 with
  | cons r rr =>
    cases rr with
    | cons r' rr =>
      cases rr
      cases r
      cases r'
      obtain ⟨its, rv, p1⟩ := hqx.at I1
      obtain ⟨its2, rv2, p2⟩ := hqy.at I1
      refine call_zipG p1 p2 fun h' hz hTI hTO h1 h2 hk => ?_
      have hT : Shared.TypeIs { s1 with heap := h' } (.ref (s1.heap.objs.size + 4)) "zip" := ⟨_, hz, rfl⟩
      refine wpAny_pyIter_slot hT F.slot_zip_iter (wpAny_call_entry F.slot_zip_iter hT F.entry_zip_iter ?_ (F.args_zip_iter_1 _))
      show wpAny _ _ (ret (.ref _)) _ _ _
      refine wpAny_pure ⟨_, rfl, "zip", _, hT, F.slot_zip_next.lookup, ?_⟩
      have I2 : Inv X pins σ H1 { s1 with heap := h' } := I1.kept (t' := s1.toks) hk
      refine ⟨s1.heap.objs.size + 4, [s1.heap.objs.size + 4, s1.heap.objs.size + 2, s1.heap.objs.size + 3, s1.heap.objs.size, s1.heap.objs.size + 1], _, _, H1, rfl, I2, turn_zipG (PySem.W.ktu_apart s1.heap.objs.size a b p1.lt p2.lt), ⟨⟨_, _, hz, .inl rfl⟩, hTI, ⟨_, _, hTO⟩, h1, h2⟩, fun c hcm => ?_, q⟩
      have e' : c = s1.heap.objs.size + 4 ∨ c = s1.heap.objs.size + 2 ∨ c = s1.heap.objs.size + 3 ∨ c = s1.heap.objs.size ∨ c = s1.heap.objs.size + 1 := by simpa using hcm
      have hle : s1.heap.objs.size ≤ c := by
        rcases e' with z | z | z | z | z <;> (rw [z]; omega)
      exact I1.fpOk hle (I1.hok.fresh hle)
theorem walk_zipG {K : PySem.W.Frag} {t1 t2 : Bool} {a b : Addr} {xs ys : List V} {n : Nat} (hn : n = min xs.length ys.length) : Walk (ItzG K t1 t2 a b) n (fun H => Sq t1 K H a xs ∧ Sq t2 K H b ys) (YPair (fun i => xs[i]?) (fun i => ys[i]?)) := by
  subst hn
  refine ⟨fun i _ hi q => ?_, fun _ q => ⟨xs, ys, q.1, q.2, by omega⟩, fun i H v H' _ q y => ?_⟩
  · have h1 : i < xs.length := by omega
    have h2 : i < ys.length := by omega
    exact ⟨xs, ys, xs[i], ys[i], q.1, q.2, by simp [h1], by simp [h2]⟩
  · obtain ⟨T, x, z, h1, h2, h3, h4, h5⟩ := y
    exact ⟨T, x, z, h1, h2, h3, h4 xs q.1, h5 ys q.2⟩
end ZG
namespace EnT
open PySem PySem.Spec PyProof.Rows L2
/-! ### enumerate over a tuple -/
theorem meets_enumT (l : Addr) (items : Array Value) :
    Meets (Builtin.«enumerate.__new__» ⟨[.type "enumerate", .ref l], []⟩) (fun _ R s => s.heap.IsTuple l items ∧
      R (.ok (.ret (.ref (s.heap.push { cls := .type "tuple_iterator", data := .fields #[.ref l, .int 0 0] }).objs.size)))
        { s with heap := (s.heap.push { cls := .type "tuple_iterator", data := .fields #[.ref l, .int 0 0] }).push { cls := .type "enumerate", data := .fields #[.none, .bool false, .ref s.heap.objs.size, rawInt 0, .none, .none] } }) :=
  .of_wp fun prog w A R s h => by
    obtain ⟨hp, g, d, tk, os⟩ := s; obtain ⟨hl, h⟩ := h
    have hsub := sub_enumerate
    have q1 : ∀ {A' : Around} {E : Value → Shared → Prop} {Q : Value → Shared → Prop}, Q (.ref hp.objs.size) ⟨hp.push { cls := .type "tuple_iterator", data := .fields #[.ref l, .int 0 0] }, g, d, tk, os⟩ → wpAny (model prog w) A' (pyIter (.ref l)) Q E ⟨hp, g, d, tk, os⟩ :=
      fun q => wpAny_pyIter_tuple (s := ⟨hp, g, d, tk, os⟩) hl q
    wp_walk using q1
    refine wpAny_stack_any fun st => wpAny_pure ?_
    split
    · rename_i c _ _ _ _ _
      cases (c == Value.type "enumerate")
      · wp_walk using q1
        exact ⟨_, rfl, h⟩
      · wp_walk using q1
        exact ⟨_, rfl, h⟩
    · wp_walk using q1
      exact ⟨_, rfl, h⟩
theorem call_enumT {prog : Program} {w : World} {A : Around} {E : Value → Shared → Prop} {s : Shared} {l : Addr} {items : Array Value} {Q : Value → Shared → Prop} (hL : s.heap.IsTuple l items)
    (h : ∀ h', IsEnum h' (s.heap.objs.size + 1) s.heap.objs.size 0 .none → h'.IsTupleIter s.heap.objs.size l 0 → h'.objs.size = s.heap.objs.size + 2 →
      (∀ b o, s.heap.get? b = some o → h'.get? b = some o) → Q (.ref (s.heap.objs.size + 1)) { s with heap := h' }) :
    wpAny (model prog w) A (call (.type "enumerate") [.ref l]) Q E s := by
  refine callType_new F.called_enumerate (by decide) (F.typeCall_enumerate_1 _) (F.newCall_enumerate_1 _) (fun obj => F.args_object_init_2 obj _) F.entry_enumerate_new
    (meets_enumT l items) ⟨hL, ?_⟩
  have hz : (s.heap.push { cls := .type "tuple_iterator", data := .fields #[.ref l, .int 0 0] }).objs.size = s.heap.objs.size + 1 := Heap.size_push ..
  show _ ∧ _
  rw [hz]
  have he : IsEnum ((s.heap.push { cls := .type "tuple_iterator", data := .fields #[.ref l, .int 0 0] }).push
      { cls := .type "enumerate", data := .fields #[.none, .bool false, .ref s.heap.objs.size, rawInt 0, .none, .none] }) (s.heap.objs.size + 1) s.heap.objs.size 0 .none := by
    have := Heap.get?_push_size (s.heap.push { cls := .type "tuple_iterator", data := .fields #[.ref l, .int 0 0] })
      (o := { cls := .type "enumerate", data := .fields #[.none, .bool false, .ref s.heap.objs.size, rawInt 0, .none, .none] }) rfl
    rw [hz] at this; exact this
  refine ⟨⟨_, he, rfl⟩, h _ he ⟨_, Heap.get?_push_of_some _ (Heap.get?_push_size _ rfl), rfl, rfl⟩ (by rw [Heap.size_push, hz]) fun b o x => Heap.get?_push_of_some _ (Heap.get?_push_of_some _ x)⟩
/-- the tuple at a as it stands at each turn, each item in a new pair -/
def IteT (K : PySem.W.Frag) (a : Addr) : It :=
  ⟨fun i H => ∃ (xs : List V) (x : V), SqT K H a xs ∧ xs[i]? = some x, fun i H v H' => ∃ T x, v = .ref T ∧ H T = none ∧ H' = upd H T (.tup [.int (i : Nat), x]) ∧ ∀ xs, SqT K H a xs → xs[i]? = some x, fun i H => ∃ xs : List V, SqT K H a xs ∧ xs.length ≤ i⟩
theorem enumT_end {prog : Program} {w : World} {A : Around} {E : Value → Shared → Prop} {s : Shared} {e it t : Addr} {i : Nat} {items : Array Value} {old : Value} {Q : Option Value → Shared → Prop} (hh : A.handled = none)
    (he : IsEnum s.heap e it i old) (hit : s.heap.IsTupleIter it t i) (ht : s.heap.IsTuple t items) (hx : items[i]? = none)
    (hQ : ∀ h', Heap.ExtBut it s.heap h' → Q none { s with heap := h' }) : wpAny (model prog w) A (pyNext (.ref e)) Q E s := by
  have hT : s.TypeIs (.ref e) "enumerate" := ⟨_, he, rfl⟩
  unfold pyNext
  refine wpAny_bind (wpAny_attempt (wpAny_callSpecial?_slot (name := Str.ofString "__next__") hT F.slot_enumerate_next
    (wpAny_call_entry F.slot_enumerate_next hT F.entry_enumerate_next ?_ (F.args_enumerate_next_1 _))))
  show wpAny _ _ (field (.ref e) 2 >>= _) _ _ _
  refine wpAny_bind (wpAny_field he rfl (x := .ref it) rfl ?_)
  refine wpAny_bind (wpAny_nextOf_tuple_end (A := A.in1) hh hit ht hx fun h' x he' hx' => ?_)
  obtain ⟨o, ho, hc⟩ := hx'
  refine wpAny_bind (wpAny_isInstance (T := "StopIteration") (b := true) ⟨o, ho, hc⟩ isSubtype_stop ?_)
  exact wpAny_pure (hQ _ he')
theorem turn_enumT {P : Program} {w : World} {K : PySem.W.Frag} {elts : List Expr} {kk : Nat} {tpos : Pos} (a e it : Addr) :
    Turn P w K (.Tuple elts kk tpos) (IteT K a) [e, it] e (fun i h => (∃ old, IsEnum h e it ((i : Nat) : Int) old) ∧ h.IsTupleIter it a i ∧ e ≠ it) where
  mem := by simp
  obj := fun i h st b hb => by
    obtain ⟨⟨old, he⟩, ⟨o, ho, hc, hd⟩, _⟩ := st
    have e' : b = e ∨ b = it := by simpa using hb
    rcases e' with z | z
    · rw [z]; exact ⟨_, he, fun v q => nomatch q⟩
    · rw [z]; exact ⟨o, ho, fun v q => by rw [hd] at q; cases q⟩
  keep := fun i h h' st k => let ⟨⟨old, he⟩, hi, hne⟩ := st; ⟨⟨old, k e (by simp) _ he⟩, hi.at fun o q => k it (by simp) o q, hne⟩
  item := by
    intro X hP hw hK hc i pins s σ H E I hf st hg
    subst hP hw hK
    obtain ⟨⟨old, he⟩, hit, hne⟩ := st
    obtain ⟨xs, x, hq, hx⟩ := hg
    obtain ⟨its, rv, p, hz⟩ := I.tuple hq
    obtain ⟨u, hu, ru⟩ := rv.get hx
    have hel : e < s.heap.objs.size := Heap.lt_size he
    have hil : it < s.heap.objs.size := by obtain ⟨_, q, _⟩ := hit; exact Heap.lt_size q
    have hT0 : s.heap.IsTuple a its.toArray := p
    have nae : e ≠ a := fun z => by
      obtain ⟨o, ho, hcl, _⟩ := hT0
      rw [← z, he] at ho
      obtain rfl := Option.some.inj ho
      exact absurd (show Value.type "enumerate" = Value.type "tuple" from hcl) (by decide)
    have nai : a ≠ it := fun z => by
      obtain ⟨o, ho, hcl, _⟩ := hT0
      obtain ⟨o2, ho2, hcl2, _⟩ := hit
      rw [z, ho2] at ho
      obtain rfl := Option.some.inj ho
      rw [hcl2] at hcl
      exact absurd (show Value.type "tuple_iterator" = Value.type "tuple" from hcl) (by decide)
    refine wpAny_pyNext_enum_itemD (i := i) (Draws.tuple (A := X.A.in1) (I.ok.hd hc) it a nai its.toArray) he ⟨hit, hT0⟩ (by
      have := (List.getElem?_eq_some_iff.mp hu).1
      simpa using this) hne (by simp [hne, nae]) fun y h' tk hy ho hst' hT hsz hk => ?_
    have ey : y = u := by
      have hy' : its[i]? = some y := by simpa using hy
      rw [hu] at hy'
      exact (Option.some.inj hy').symm
    subst ey
    refine ⟨_, rfl, wpAny_letOwnedTupleGo_enum (s := { s with heap := h', toks := tk + 1 }) ho fun h'' he' sb => ?_⟩
    have hT2 : h''.get? s.heap.objs.size = some { cls := .type "tuple", data := .seq #[.int i tk, y] } := (sb.2 _ (Nat.ne_of_gt hel)).trans hT
    have new : ObjOk X.prog X.w (upd H s.heap.objs.size (.tup [.int (i : Nat), x])) h'' s.heap.objs.size (.tup [.int (i : Nat), x]) :=
      ⟨by show 2 ≤ sizeLine; decide, [.int i tk, y], .cons ⟨_, rfl⟩ (.cons ru .nil), ⟨_, hT2, rfl, _, rfl⟩⟩
    have I1 : Inv X pins σ (upd H s.heap.objs.size (.tup [.int (i : Nat), x])) { s with heap := h'', toks := tk + 1 } :=
      I.turnedNew (ch := [e, it]) (fun b ob hb q => (sb.2 b (fun z => hb (by simp [z]))).trans (hk b ob (fun z => hb (by simp [z])) (fun z => hb (by simp [z])) q)) hf (Nat.le_refl _) new
    refine ⟨.ref s.heap.objs.size, _, I1, rfl, ⟨_, x, rfl, I.hok.fresh (Nat.le_refl _), rfl, fun ys hy => by rw [I.tuple_inj hy hq]; exact hx⟩, ⟨⟨y, ?_⟩, hst'.1.at fun o q => (sb.2 it (Ne.symm hne)).trans q, hne⟩, fun b hb => ?_⟩
    · have e1 : ((i + 1 : Nat) : Int) = (i : Int) + 1 := by omega
      rw [e1]; exact he'
    · have hb' : b < s.heap.objs.size := by
        have e' : b = e ∨ b = it := by simpa using hb
        rcases e' with z | z
        · rw [z]; exact hel
        · rw [z]; exact hil
      rw [upd_ne (Nat.ne_of_lt hb')]
      exact (hf b hb).1
  done := by
    intro X hP hw hK hc i pins s σ H E I hf st hg
    subst hP hw hK
    obtain ⟨⟨old, he⟩, hit, hne⟩ := st
    obtain ⟨xs, hq, hx⟩ := hg
    obtain ⟨its, rv, p, hz⟩ := I.tuple hq
    obtain ⟨f0, f1, f2, f3, f4, f5⟩ := hf it (by simp)
    have hl := rv.length
    exact enumT_end (I.ok.hd hc) he hit p (by simp; omega) fun h' eb => ⟨rfl, I.turned (t' := s.toks) (fun b o hb q => eb b o hb q) f0 f1 f3 f4 f5⟩
  self := fun A i s Q E st h => let ⟨⟨_, he⟩, _⟩ := st; wpAny_pyIter_enum he h
def iEnumT (K : PySem.W.Frag) (ta : TA) : TI := fun σ H R => ta σ H fun vs H1 => ∃ a xs, vs = [.ref a] ∧ SqT K H1 a xs ∧ R (IteT K a) H1
theorem pi_enumT {X : Cx} {e : Expr} {ta : TA} {p pos tpos : Pos} {elts : List Expr} {kk : Nat} (hg : Gl X "enumerate") (hm : X.mg "enumerate" = none) (ha : PA X [e] ta) (hs : starEach [e] X.env = [(false, eval e X.env)] := by rfl) :
    PI X (.Tuple elts kk tpos) (.Call (.Name "enumerate" p) [e] [] pos) (iEnumT X.K ta) := by
  refine ⟨fun pins s σ H R I h => ?_⟩
  refine Call_ (ld_blt I hg hm boot_enumerate (PyProof.Rows.callWith_type1 (thn (ha.run pos pins s σ H _ I h) fun us s1 ⟨vs, H1, I1, r1, q1⟩ => ?_) hs rfl))
  obtain ⟨a, xs, ex, hq, q⟩ := q1
  subst ex
  cases r1 with
  | cons r rr =>
    cases rr
    cases r
    obtain ⟨its, rv, p', hz⟩ := I1.tuple hq
    refine call_enumT (show s1.heap.IsTuple a its.toArray from p') fun h' he hit hsz hk => wpAny_pyIter_enum he ?_
    have I2 : Inv X pins σ H1 { s1 with heap := h' } := I1.kept (t' := s1.toks) hk
    refine ⟨s1.heap.objs.size + 1, [s1.heap.objs.size + 1, s1.heap.objs.size], _, _, H1, rfl, I2, turn_enumT a (s1.heap.objs.size + 1) s1.heap.objs.size, ⟨⟨.none, he⟩, hit, Nat.succ_ne_self _⟩, fun b hb => ?_, q⟩
    have e' : b = s1.heap.objs.size + 1 ∨ b = s1.heap.objs.size := by simpa using hb
    have hle : s1.heap.objs.size ≤ b := by
      rcases e' with z | z
      · rw [z]; exact Nat.le_add_right _ _
      · rw [z]; exact Nat.le_refl _
    exact I1.fpOk hle (I1.hok.fresh hle)
/-- a loop over enumerate of a tuple -/
theorem for_enumT {K : PySem.W.Frag} {a : Addr} {xs : List V} {g : TG} {tb : TS} {D : Ends} {σ : L2.St} {H : Hp} (Pv : Nat → L2.St → Hp → Prop) (h0 : Pv 0 σ H) (hq : ∀ i σ H, Pv i σ H → SqT K H a xs)
    (hs : ∀ (i : Nat) (x : V) (T : Addr) (σ : L2.St) (H : Hp), xs[i]? = some x → Pv i σ H → H T = none → g (.ref T) σ (upd H T (.tup [.int (i : Nat), x])) fun σ2 H2 => tb { D with nx := Pv (i + 1), ct := Pv (i + 1), bk := D.nx } σ2 H2) (hd : ∀ σ H, Pv xs.length σ H → D.nx σ H) :
    ∃ W : Nat → Nat → L2.St → Hp → Prop, (∃ m, W 0 m σ H) ∧ ∀ i m σ H, W i m σ H →
      ((IteT K a).stop i H ∧ D.nx σ H) ∨ ((IteT K a).go i H ∧ ∃ N : L2.St → Hp → Prop, (∀ σ' H', N σ' H' → ∃ m', m' < m ∧ W (i + 1) m' σ' H') ∧ ∀ v H', (IteT K a).yld i H v H' → g v σ H' fun σ2 H2 => tb { D with nx := N, ct := N, bk := D.nx } σ2 H2) := by
  refine ⟨fun i m σ H => m = xs.length - i ∧ i ≤ xs.length ∧ Pv i σ H, ⟨xs.length, rfl, Nat.zero_le _, h0⟩, ?_⟩
  rintro i m σ H ⟨rfl, hi, p⟩
  have q := hq i σ H p
  rcases Nat.lt_or_ge i xs.length with hlt | hge
  · have ex := List.getElem?_eq_getElem hlt
    refine .inr ⟨⟨xs, _, q, ex⟩, Pv (i + 1), fun σ' H' p' => ⟨xs.length - (i + 1), by omega, rfl, hlt, p'⟩, ?_⟩
    rintro v H' ⟨T, x, rfl, hT, rfl, f1⟩
    exact hs i x T σ H (f1 xs q) p hT
  · have e : i = xs.length := by omega
    subst e
    exact .inl ⟨⟨xs, q, hge⟩, hd σ H p⟩
/-! ### enumerate over a list or a tuple -/
def ItEG (K : PySem.W.Frag) (t : Bool) (a : Addr) : It := match t with
  | true => IteT K a
  | false => Ite K a
def iEnumG (K : PySem.W.Frag) (ta : TA) : TI := fun σ H R => ta σ H fun vs H1 => ∃ (t : Bool) (a : Addr) (xs : List V), vs = [.ref a] ∧ ZG.Sq t K H1 a xs ∧ R (ItEG K t a) H1
theorem pi_enumG {X : Cx} {e : Expr} {ta : TA} {p pos tpos : Pos} {elts : List Expr} {kk : Nat} (hg : Gl X "enumerate") (hm : X.mg "enumerate" = none) (ha : PA X [e] ta) (hs : starEach [e] X.env = [(false, eval e X.env)] := by rfl) :
    PI X (.Tuple elts kk tpos) (.Call (.Name "enumerate" p) [e] [] pos) (iEnumG X.K ta) := by
  refine ⟨fun pins s σ H R I h => ?_⟩
  refine Call_ (ld_blt I hg hm boot_enumerate (PyProof.Rows.callWith_type1 (thn (ha.run pos pins s σ H _ I h) fun us s1 ⟨vs, H1, I1, r1, q1⟩ => ?_) hs rfl))
  obtain ⟨t, a, xs, ex, hq, q⟩ := q1
  subst ex
  have hle : ∀ b, b ∈ [s1.heap.objs.size + 1, s1.heap.objs.size] → s1.heap.objs.size ≤ b := fun b hb => by
    have e' : b = s1.heap.objs.size + 1 ∨ b = s1.heap.objs.size := by simpa using hb
    rcases e' with z | z
    · rw [z]; exact Nat.le_add_right _ _
    · rw [z]; exact Nat.le_refl _
  cases r1 with
  | cons r rr =>
    cases rr
    cases r
    cases t with
    | true =>
      obtain ⟨its, rv, p', hz⟩ := I1.tuple hq
      refine call_enumT (show s1.heap.IsTuple a its.toArray from p') fun h' he hit hsz hk => wpAny_pyIter_enum he ?_
      have I2 : Inv X pins σ H1 { s1 with heap := h' } := I1.kept (t' := s1.toks) hk
      exact ⟨s1.heap.objs.size + 1, [s1.heap.objs.size + 1, s1.heap.objs.size], _, _, H1, rfl, I2, turn_enumT a (s1.heap.objs.size + 1) s1.heap.objs.size, ⟨⟨.none, he⟩, hit, Nat.succ_ne_self _⟩, fun b hb => I1.fpOk (hle b hb) (I1.hok.fresh (hle b hb)), q⟩
    | false =>
      obtain ⟨its, rv, p', hz⟩ := I1.list hq
      refine call_enumerate_list p'.isList fun h' he hit hsz hk => wpAny_pyIter_enum he ?_
      have I2 : Inv X pins σ H1 { s1 with heap := h' } := I1.kept (t' := s1.toks) hk
      exact ⟨s1.heap.objs.size + 1, [s1.heap.objs.size + 1, s1.heap.objs.size], _, _, H1, rfl, I2, turn_enum a (s1.heap.objs.size + 1) s1.heap.objs.size, ⟨⟨.none, he⟩, hit, Nat.succ_ne_self _⟩, fun b hb => I1.fpOk (hle b hb) (I1.hok.fresh (hle b hb)), q⟩
theorem walk_enumG {K : PySem.W.Frag} {t : Bool} {a : Addr} {xs : List V} : Walk (ItEG K t a) xs.length (fun H => ZG.Sq t K H a xs) (YPair (fun i => some (.int (i : Nat))) (fun i => xs[i]?)) := by
  cases t with
  | false => exact walk_enum
  | true =>
    refine ⟨fun i H hi q => ⟨xs, xs[i], q, List.getElem?_eq_getElem hi⟩, fun H q => ⟨xs, q, Nat.le_refl _⟩, fun i H v H' _ q y => ?_⟩
    obtain ⟨T, x, h1, h2, h3, h4⟩ := y
    exact ⟨T, .int (i : Nat), x, h1, h2, h3, rfl, h4 xs q⟩
end EnT
namespace MxT
open PySem PySem.Spec PyProof.Rows L2
/-! ### max and min of a tuple of whole numbers -/
section
variable {prog : Program} {w : World} {A : Around} {E : Value → Shared → Prop} {s : Shared} {l : Addr} {its : List Value} {ns : List Int} {Q : Value → Shared → Prop}
theorem old_keptT {h' : Heap} (hk : ∀ b o, b ∉ [s.heap.objs.size] → (s.heap.push { cls := .type "tuple_iterator", data := .fields #[.ref l, .int 0 0] }).get? b = some o → h'.get? b = some o) :
    ∀ b o, s.heap.get? b = some o → h'.get? b = some o := fun b o e =>
  hk b o (fun z => absurd (Heap.lt_size e) ((List.mem_singleton.mp z) ▸ Nat.lt_irrefl _)) (Heap.get?_push_of_some _ e)
theorem maxT_raw (hh : A.handled = none) (hl : s.heap.IsTuple l its.toArray) (hi : IntsAre its ns) (hne : 0 < ns.length)
    (h : ∀ h' tk M t', (∀ b o, s.heap.get? b = some o → h'.get? b = some o) → M ∈ ns → (∀ a, a ∈ ns → a ≤ M) → Q (.int M t') { s with heap := h', toks := tk }) : wpAny (model prog w) A (call (.builtin "max") [.ref l]) Q E s := by
  obtain ⟨xs, e⟩ := hi.allInts.items
  have hn : numsOf (intItems xs).toList = ns := by rw [← e]; exact hi.numsOf
  rw [nums_intItems] at hn
  subst hn
  rw [e] at hl
  have hsz : 0 < xs.size := by simpa using hne
  have hlt : l < s.heap.objs.size := by
    obtain ⟨_, e, _⟩ := hl
    exact Heap.lt_size e
  refine PySem.call_max_walk (wpAny_pyIter_tuple hl ?_)
  refine ⟨_, _, _, _, _, _, _, rfl, Walks.tuple (A := A.in1) hh _ l (Nat.ne_of_lt hlt) (intItems xs), ⟨⟨_, Heap.get?_push_size _ rfl, rfl, rfl⟩, hl.push _⟩, fun b hb => ?_, by simpa [intItems] using hsz, CmpOf.ints_gt (numAt xs) (fun _ _ => intItems_at), fun v h' tk hv hk => ?_⟩
  · show b < (s.heap.push _).objs.size
    rw [Heap.size_push]
    have hb' : b = s.heap.objs.size ∨ b = l := by simpa using hb
    rcases hb' with z | z
    · rw [z]; exact Nat.lt_succ_self _
    · rw [z]; exact Nat.lt_succ_of_lt hlt
  · have hv' : (intItems xs)[argBest (fun i j => decide (numAt xs i > numAt xs j)) (xs.size - 1)]? = some v := by simpa [intItems] using hv
    obtain ⟨t, rfl⟩ := intItems_at hv'
    obtain ⟨h1, h2⟩ := argBest_gt (numAt xs) (xs.size - 1)
    refine h h' tk _ t (old_keptT hk) ?_ fun a ha => ?_
    · rw [numAt_eq]; exact PySem.getD_mem (by rw [List.length_map, Array.length_toList]; omega)
    · obtain ⟨j, hj, rfl⟩ := mem_getD ha
      have hj2 : j < xs.size := by simpa using hj
      rw [← numAt_eq]; exact h2 j (by omega)
theorem minT_raw (hh : A.handled = none) (hl : s.heap.IsTuple l its.toArray) (hi : IntsAre its ns) (hne : 0 < ns.length)
    (h : ∀ h' tk M t', (∀ b o, s.heap.get? b = some o → h'.get? b = some o) → M ∈ ns → (∀ a, a ∈ ns → M ≤ a) → Q (.int M t') { s with heap := h', toks := tk }) : wpAny (model prog w) A (call (.builtin "min") [.ref l]) Q E s := by
  obtain ⟨xs, e⟩ := hi.allInts.items
  have hn : numsOf (intItems xs).toList = ns := by rw [← e]; exact hi.numsOf
  rw [nums_intItems] at hn
  subst hn
  rw [e] at hl
  have hsz : 0 < xs.size := by simpa using hne
  have hlt : l < s.heap.objs.size := by
    obtain ⟨_, e, _⟩ := hl
    exact Heap.lt_size e
  refine PySem.call_min_walk (wpAny_pyIter_tuple hl ?_)
  refine ⟨_, _, _, _, _, _, _, rfl, Walks.tuple (A := A.in1) hh _ l (Nat.ne_of_lt hlt) (intItems xs), ⟨⟨_, Heap.get?_push_size _ rfl, rfl, rfl⟩, hl.push _⟩, fun b hb => ?_, by simpa [intItems] using hsz, CmpOf.ints_lt (numAt xs) (fun _ _ => intItems_at), fun v h' tk hv hk => ?_⟩
  · show b < (s.heap.push _).objs.size
    rw [Heap.size_push]
    have hb' : b = s.heap.objs.size ∨ b = l := by simpa using hb
    rcases hb' with z | z
    · rw [z]; exact Nat.lt_succ_self _
    · rw [z]; exact Nat.lt_succ_of_lt hlt
  · have hv' : (intItems xs)[argBest (fun i j => decide (numAt xs i < numAt xs j)) (xs.size - 1)]? = some v := by simpa [intItems] using hv
    obtain ⟨t, rfl⟩ := intItems_at hv'
    obtain ⟨h1, h2⟩ := argBest_lt (numAt xs) (xs.size - 1)
    refine h h' tk _ t (old_keptT hk) ?_ fun a ha => ?_
    · rw [numAt_eq]; exact PySem.getD_mem (by rw [List.length_map, Array.length_toList]; omega)
    · obtain ⟨j, hj, rfl⟩ := mem_getD ha
      have hj2 : j < xs.size := by simpa using hj
      rw [← numAt_eq]; exact h2 j (by omega)
end
section
variable {X : Cx}
def rMaxT (K : PySem.W.Frag) : List V → Hp → VK → Prop := fun vs H Q => ∃ (a : Addr) (ns : List Int), vs = [V.ref a] ∧ SqT K H a (ns.map V.int) ∧ 0 < ns.length ∧ ∀ m, m ∈ ns → (∀ y, y ∈ ns → y ≤ m) → Q (.int m) H
def rMinT (K : PySem.W.Frag) : List V → Hp → VK → Prop := fun vs H Q => ∃ (a : Addr) (ns : List Int), vs = [V.ref a] ∧ SqT K H a (ns.map V.int) ∧ 0 < ns.length ∧ ∀ m, m ∈ ns → (∀ y, y ∈ ns → m ≤ y) → Q (.int m) H
theorem call_maxT (hc : X.calm = true) : CallR X (.builtin "max") (rMaxT X.K) := by
  intro pins s σ H vs us Q I r h
  obtain ⟨a, ns, rfl, hs, hne, q⟩ := h
  obtain ⟨its, rv, hl, _⟩ := I.tuple hs
  rw [Vals.ref1 r]
  exact maxT_raw (I.ok.hd hc) hl rv.ints hne fun h' tk m t' hk h1 h2 => ⟨.int _, H, I.kept hk, ⟨_, rfl⟩, q m h1 h2⟩
theorem call_minT (hc : X.calm = true) : CallR X (.builtin "min") (rMinT X.K) := by
  intro pins s σ H vs us Q I r h
  obtain ⟨a, ns, rfl, hs, hne, q⟩ := h
  obtain ⟨its, rv, hl, _⟩ := I.tuple hs
  rw [Vals.ref1 r]
  exact minT_raw (I.ok.hd hc) hl rv.ints hne fun h' tk m t' hk h1 h2 => ⟨.int _, H, I.kept hk, ⟨_, rfl⟩, q m h1 h2⟩
end
end MxT
namespace Mine
open PySem L2
open ZG (Sq ItzG walk_zipG)
def top (i : Nat) : Stmt := PySem.Challenge.pw_neverhappens_k18_bound_and_meet.main.body.getD i (.Pass ⟨0, 0, 0, 0⟩)
abbrev s_close : Stmt := top 1
abbrev s_has_contradiction : Stmt := top 2
abbrev s_shortened : Stmt := top 3
abbrev s_frozen : Stmt := top 4
abbrev s_range_box : Stmt := top 5
abbrev s_bound : Stmt := top 6
abbrev s_meet_boxes : Stmt := top 7
abbrev s_l_cell : Stmt := top 9
abbrev s_l_source : Stmt := top 10
abbrev s_l_pick : Stmt := top 11
abbrev s_l_hull : Stmt := top 12
abbrev s_l_belongs : Stmt := top 13
abbrev s_l_grid : Stmt := top 14
abbrev s_l_same : Stmt := top 15
abbrev s_l_points : Stmt := top 16
abbrev s_l_fits : Stmt := top 17
abbrev s_l_number : Stmt := top 18
abbrev s_l_bounded : Stmt := top 19
abbrev s_l_size : Stmt := top 20
abbrev s_l_drawn_box : Stmt := top 21
abbrev s_l_wide_box : Stmt := top 22
abbrev s_l_part : Stmt := top 23
abbrev s_l_meets : Stmt := top 24
abbrev s_l_bounds : Stmt := top 25
abbrev s_l_ranges : Stmt := top 26
abbrev s_l_asks_small : Stmt := top 27
abbrev s_l_asks_wide : Stmt := top 28
abbrev s_l_chain : Stmt := top 29
abbrev s_l_asks_chain : Stmt := top 30
abbrev s_law : Stmt := top 31
abbrev p_close : List Str := ["matrix"]
abbrev p_has_contradiction : List Str := ["rows"]
abbrev p_shortened : List Str := ["rows", "middle"]
abbrev p_frozen : List Str := ["rows"]
abbrev p_range_box : List Str := ["ranges"]
abbrev p_bound : List Str := ["box", "i", "j", "most"]
abbrev p_meet_boxes : List Str := ["a", "b"]
abbrev p_l_cell : List Str := ["_law_script", "_law_at"]
abbrev p_l_source : List Str := ["_law_cell_here"]
abbrev p_l_pick : List Str := ["_law_source_here", "_law_size_here"]
abbrev p_l_hull : List Str := ["_law_points_here", "_law_size_here"]
abbrev p_l_belongs : List Str := ["_law_matrix", "_law_point"]
abbrev p_l_grid : List Str := ["_law_ranges_here"]
abbrev p_l_same : List Str := ["_law_actual", "_law_due"]
abbrev p_l_points : List Str := ["_law_matrix"]
abbrev p_l_fits : List Str := ["_law_matrix", "_law_point", "_law_c", "_law_value"]
abbrev p_l_number : List Str := ["_law_source_here"]
abbrev p_l_bounded : List Str := ["_law_matrix", "_law_i", "_law_j", "_law_number_here"]
abbrev p_l_size : List Str := ["_law_source_here"]
abbrev p_l_drawn_box : List Str := ["_law_source_here", "_law_size_here"]
abbrev p_l_wide_box : List Str := ["_law_source_here", "_law_size_here", "_law_shared"]
abbrev p_l_part : List Str := ["_law_source_here", "_law_box", "_law_i", "_law_j"]
abbrev p_l_meets : List Str := ["_law_first", "_law_second", "_law_due"]
abbrev p_l_bounds : List Str := ["_law_box", "_law_i", "_law_j", "_law_number_here", "_law_due"]
abbrev p_l_ranges : List Str := ["_law_source_here", "_law_size_here", "_law_listed"]
abbrev p_l_asks_small : List Str := ["_law_source_here", "_law_other"]
abbrev p_l_asks_wide : List Str := ["_law_source_here", "_law_other"]
abbrev p_l_chain : List Str := ["_law_source_here", "_law_order", "_law_first", "_law_sums"]
abbrev p_l_asks_chain : List Str := ["_law_source_here"]
abbrev p_law : List Str := ["_law_script"]
/-- what the program's top leaves: where each def stands -/
structure Txt (w : World) (K : PySem.W.Frag) (mg : Str → Option Value) where
  a_close : Addr
  d_close : FuncData
  F_close : Fun K "close" "close" s_close a_close d_close
  b_close : Binds K d_close p_close []
  m_close : mg "close" = some (.ref a_close)
  a_has_contradiction : Addr
  d_has_contradiction : FuncData
  F_has_contradiction : Fun K "has_contradiction" "has_contradiction" s_has_contradiction a_has_contradiction d_has_contradiction
  b_has_contradiction : Binds K d_has_contradiction p_has_contradiction []
  m_has_contradiction : mg "has_contradiction" = some (.ref a_has_contradiction)
  a_shortened : Addr
  d_shortened : FuncData
  F_shortened : Fun K "shortened" "shortened" s_shortened a_shortened d_shortened
  b_shortened : Binds K d_shortened p_shortened []
  m_shortened : mg "shortened" = some (.ref a_shortened)
  a_frozen : Addr
  d_frozen : FuncData
  F_frozen : Fun K "frozen" "frozen" s_frozen a_frozen d_frozen
  b_frozen : Binds K d_frozen p_frozen []
  m_frozen : mg "frozen" = some (.ref a_frozen)
  a_range_box : Addr
  d_range_box : FuncData
  F_range_box : Fun K "range_box" "range_box" s_range_box a_range_box d_range_box
  b_range_box : Binds K d_range_box p_range_box []
  m_range_box : mg "range_box" = some (.ref a_range_box)
  a_bound : Addr
  d_bound : FuncData
  F_bound : Fun K "bound" "bound" s_bound a_bound d_bound
  b_bound : Binds K d_bound p_bound []
  m_bound : mg "bound" = some (.ref a_bound)
  a_meet_boxes : Addr
  d_meet_boxes : FuncData
  F_meet_boxes : Fun K "meet_boxes" "meet_boxes" s_meet_boxes a_meet_boxes d_meet_boxes
  b_meet_boxes : Binds K d_meet_boxes p_meet_boxes []
  m_meet_boxes : mg "meet_boxes" = some (.ref a_meet_boxes)
  a_l_cell : Addr
  d_l_cell : FuncData
  F_l_cell : Fun K "_law_cell" "_law_cell" s_l_cell a_l_cell d_l_cell
  b_l_cell : Binds K d_l_cell p_l_cell []
  m_l_cell : mg "_law_cell" = some (.ref a_l_cell)
  a_l_source : Addr
  d_l_source : FuncData
  F_l_source : Fun K "_law_source" "_law_source" s_l_source a_l_source d_l_source
  b_l_source : Binds K d_l_source p_l_source []
  m_l_source : mg "_law_source" = some (.ref a_l_source)
  a_l_pick : Addr
  d_l_pick : FuncData
  F_l_pick : Fun K "_law_pick" "_law_pick" s_l_pick a_l_pick d_l_pick
  b_l_pick : Binds K d_l_pick p_l_pick []
  m_l_pick : mg "_law_pick" = some (.ref a_l_pick)
  a_l_hull : Addr
  d_l_hull : FuncData
  F_l_hull : Fun K "_law_hull" "_law_hull" s_l_hull a_l_hull d_l_hull
  b_l_hull : Binds K d_l_hull p_l_hull []
  m_l_hull : mg "_law_hull" = some (.ref a_l_hull)
  a_l_belongs : Addr
  d_l_belongs : FuncData
  F_l_belongs : Fun K "_law_belongs" "_law_belongs" s_l_belongs a_l_belongs d_l_belongs
  b_l_belongs : Binds K d_l_belongs p_l_belongs []
  m_l_belongs : mg "_law_belongs" = some (.ref a_l_belongs)
  a_l_grid : Addr
  d_l_grid : FuncData
  F_l_grid : Fun K "_law_grid" "_law_grid" s_l_grid a_l_grid d_l_grid
  b_l_grid : Binds K d_l_grid p_l_grid []
  m_l_grid : mg "_law_grid" = some (.ref a_l_grid)
  a_l_same : Addr
  d_l_same : FuncData
  F_l_same : Fun K "_law_same" "_law_same" s_l_same a_l_same d_l_same
  b_l_same : Binds K d_l_same p_l_same []
  m_l_same : mg "_law_same" = some (.ref a_l_same)
  a_l_points : Addr
  d_l_points : FuncData
  F_l_points : Fun K "_law_points" "_law_points" s_l_points a_l_points d_l_points
  b_l_points : Binds K d_l_points p_l_points []
  m_l_points : mg "_law_points" = some (.ref a_l_points)
  a_l_fits : Addr
  d_l_fits : FuncData
  F_l_fits : Fun K "_law_fits" "_law_fits" s_l_fits a_l_fits d_l_fits
  b_l_fits : Binds K d_l_fits p_l_fits []
  m_l_fits : mg "_law_fits" = some (.ref a_l_fits)
  a_l_number : Addr
  d_l_number : FuncData
  F_l_number : Fun K "_law_number" "_law_number" s_l_number a_l_number d_l_number
  b_l_number : Binds K d_l_number p_l_number []
  m_l_number : mg "_law_number" = some (.ref a_l_number)
  a_l_bounded : Addr
  d_l_bounded : FuncData
  F_l_bounded : Fun K "_law_bounded" "_law_bounded" s_l_bounded a_l_bounded d_l_bounded
  b_l_bounded : Binds K d_l_bounded p_l_bounded []
  m_l_bounded : mg "_law_bounded" = some (.ref a_l_bounded)
  a_l_size : Addr
  d_l_size : FuncData
  F_l_size : Fun K "_law_size" "_law_size" s_l_size a_l_size d_l_size
  b_l_size : Binds K d_l_size p_l_size []
  m_l_size : mg "_law_size" = some (.ref a_l_size)
  a_l_drawn_box : Addr
  d_l_drawn_box : FuncData
  F_l_drawn_box : Fun K "_law_drawn_box" "_law_drawn_box" s_l_drawn_box a_l_drawn_box d_l_drawn_box
  b_l_drawn_box : Binds K d_l_drawn_box p_l_drawn_box []
  m_l_drawn_box : mg "_law_drawn_box" = some (.ref a_l_drawn_box)
  a_l_wide_box : Addr
  d_l_wide_box : FuncData
  F_l_wide_box : Fun K "_law_wide_box" "_law_wide_box" s_l_wide_box a_l_wide_box d_l_wide_box
  b_l_wide_box : Binds K d_l_wide_box p_l_wide_box []
  m_l_wide_box : mg "_law_wide_box" = some (.ref a_l_wide_box)
  a_l_part : Addr
  d_l_part : FuncData
  F_l_part : Fun K "_law_part" "_law_part" s_l_part a_l_part d_l_part
  b_l_part : Binds K d_l_part p_l_part []
  m_l_part : mg "_law_part" = some (.ref a_l_part)
  a_l_meets : Addr
  d_l_meets : FuncData
  F_l_meets : Fun K "_law_meets" "_law_meets" s_l_meets a_l_meets d_l_meets
  b_l_meets : Binds K d_l_meets p_l_meets []
  m_l_meets : mg "_law_meets" = some (.ref a_l_meets)
  a_l_bounds : Addr
  d_l_bounds : FuncData
  F_l_bounds : Fun K "_law_bounds" "_law_bounds" s_l_bounds a_l_bounds d_l_bounds
  b_l_bounds : Binds K d_l_bounds p_l_bounds []
  m_l_bounds : mg "_law_bounds" = some (.ref a_l_bounds)
  a_l_ranges : Addr
  d_l_ranges : FuncData
  F_l_ranges : Fun K "_law_ranges" "_law_ranges" s_l_ranges a_l_ranges d_l_ranges
  b_l_ranges : Binds K d_l_ranges p_l_ranges []
  m_l_ranges : mg "_law_ranges" = some (.ref a_l_ranges)
  a_l_asks_small : Addr
  d_l_asks_small : FuncData
  F_l_asks_small : Fun K "_law_asks_small" "_law_asks_small" s_l_asks_small a_l_asks_small d_l_asks_small
  b_l_asks_small : Binds K d_l_asks_small p_l_asks_small []
  m_l_asks_small : mg "_law_asks_small" = some (.ref a_l_asks_small)
  a_l_asks_wide : Addr
  d_l_asks_wide : FuncData
  F_l_asks_wide : Fun K "_law_asks_wide" "_law_asks_wide" s_l_asks_wide a_l_asks_wide d_l_asks_wide
  b_l_asks_wide : Binds K d_l_asks_wide p_l_asks_wide []
  m_l_asks_wide : mg "_law_asks_wide" = some (.ref a_l_asks_wide)
  a_l_chain : Addr
  d_l_chain : FuncData
  F_l_chain : Fun K "_law_chain" "_law_chain" s_l_chain a_l_chain d_l_chain
  b_l_chain : Binds K d_l_chain p_l_chain []
  m_l_chain : mg "_law_chain" = some (.ref a_l_chain)
  a_l_asks_chain : Addr
  d_l_asks_chain : FuncData
  F_l_asks_chain : Fun K "_law_asks_chain" "_law_asks_chain" s_l_asks_chain a_l_asks_chain d_l_asks_chain
  b_l_asks_chain : Binds K d_l_asks_chain p_l_asks_chain []
  m_l_asks_chain : mg "_law_asks_chain" = some (.ref a_l_asks_chain)
  a_law : Addr
  d_law : FuncData
  F_law : Fun K "law" "law" s_law a_law d_law
  b_law : Binds K d_law p_law []
  m_law : mg "law" = some (.ref a_law)
  z_abs : mg "abs" = none
  z_any : mg "any" = none
  z_bool : mg "bool" = none
  z_enumerate : mg "enumerate" = none
  z_int : mg "int" = none
  z_isinstance : mg "isinstance" = none
  z_len : mg "len" = none
  z_list : mg "list" = none
  z_max : mg "max" = none
  z_min : mg "min" = none
  z_range : mg "range" = none
  z_str : mg "str" = none
  z_tuple : mg "tuple" = none
  z_zip : mg "zip" = none
abbrev n_close : List Str := ["matrix", "rows", "i", "row", "j", "most", "middle"]
theorem sc_close : FnScope n_close p_close (defScope s_close) := ⟨rfl, rfl, rfl, by decide +kernel, rfl, by decide +kernel, by decide +kernel⟩
abbrev n_has_contradiction : List Str := ["rows", "at", "row"]
theorem sc_has_contradiction : FnScope n_has_contradiction p_has_contradiction (defScope s_has_contradiction) := ⟨rfl, rfl, rfl, by decide +kernel, rfl, by decide +kernel, by decide +kernel⟩
abbrev n_shortened : List Str := ["rows", "middle", "through", "row", "most", "second"]
theorem sc_shortened : FnScope n_shortened p_shortened (defScope s_shortened) := ⟨rfl, rfl, rfl, by decide +kernel, rfl, by decide +kernel, by decide +kernel⟩
abbrev n_frozen : List Str := ["rows", "row"]
theorem sc_frozen : FnScope n_frozen p_frozen (defScope s_frozen) := ⟨rfl, rfl, rfl, by decide +kernel, rfl, by decide +kernel, by decide +kernel⟩
abbrev n_range_box : List Str := ["ranges", "low", "high", "ends", "i", "_", "j"]
theorem sc_range_box : FnScope n_range_box p_range_box (defScope s_range_box) := ⟨rfl, rfl, rfl, by decide +kernel, rfl, by decide +kernel, by decide +kernel⟩
abbrev n_bound : List Str := ["box", "i", "j", "most", "behind", "second", "row", "old"]
theorem sc_bound : FnScope n_bound p_bound (defScope s_bound) := ⟨rfl, rfl, rfl, by decide +kernel, rfl, by decide +kernel, by decide +kernel⟩
abbrev n_meet_boxes : List Str := ["a", "b", "row", "other", "pair"]
theorem sc_meet_boxes : FnScope n_meet_boxes p_meet_boxes (defScope s_meet_boxes) := ⟨rfl, rfl, rfl, by decide +kernel, rfl, by decide +kernel, by decide +kernel⟩
abbrev n_l_cell : List Str := ["_law_script", "_law_at"]
theorem sc_l_cell : FnScope n_l_cell p_l_cell (defScope s_l_cell) := ⟨rfl, rfl, rfl, by decide +kernel, rfl, by decide +kernel, by decide +kernel⟩
abbrev n_l_source : List Str := ["_law_cell_here"]
theorem sc_l_source : FnScope n_l_source p_l_source (defScope s_l_source) := ⟨rfl, rfl, rfl, by decide +kernel, rfl, by decide +kernel, by decide +kernel⟩
abbrev n_l_pick : List Str := ["_law_source_here", "_law_size_here", "_law_k", "_law_digit", "_law_mixed"]
theorem sc_l_pick : FnScope n_l_pick p_l_pick (defScope s_l_pick) := ⟨rfl, rfl, rfl, by decide +kernel, rfl, by decide +kernel, by decide +kernel⟩
abbrev n_l_hull : List Str := ["_law_points_here", "_law_size_here", "_law_rows", "_law_i", "_law_row", "_law_j", "_law_point"]
theorem sc_l_hull : FnScope n_l_hull p_l_hull (defScope s_l_hull) := ⟨rfl, rfl, rfl, by decide +kernel, rfl, by decide +kernel, by decide +kernel⟩
abbrev n_l_belongs : List Str := ["_law_matrix", "_law_point", "_law_full", "_law_i", "_law_j"]
theorem sc_l_belongs : FnScope n_l_belongs p_l_belongs (defScope s_l_belongs) := ⟨rfl, rfl, rfl, by decide +kernel, rfl, by decide +kernel, by decide +kernel⟩
abbrev n_l_grid : List Str := ["_law_ranges_here", "_law_points_here", "_law_pair", "_law_longer", "_law_point", "_law_value"]
theorem sc_l_grid : FnScope n_l_grid p_l_grid (defScope s_l_grid) := ⟨rfl, rfl, rfl, by decide +kernel, rfl, by decide +kernel, by decide +kernel⟩
abbrev n_l_same : List Str := ["_law_actual", "_law_due", "_law_k"]
theorem sc_l_same : FnScope n_l_same p_l_same (defScope s_l_same) := ⟨rfl, rfl, rfl, by decide +kernel, rfl, by decide +kernel, by decide +kernel⟩
abbrev n_l_points : List Str := ["_law_matrix", "_law_i", "_law_points_here", "_law_c", "_law_longer", "_law_point", "_law_value"]
theorem sc_l_points : FnScope n_l_points p_l_points (defScope s_l_points) := ⟨rfl, rfl, rfl, by decide +kernel, rfl, by decide +kernel, by decide +kernel⟩
abbrev n_l_fits : List Str := ["_law_matrix", "_law_point", "_law_c", "_law_value", "_law_k"]
theorem sc_l_fits : FnScope n_l_fits p_l_fits (defScope s_l_fits) := ⟨rfl, rfl, rfl, by decide +kernel, rfl, by decide +kernel, by decide +kernel⟩
abbrev n_l_number : List Str := ["_law_source_here", "_law_unit"]
theorem sc_l_number : FnScope n_l_number p_l_number (defScope s_l_number) := ⟨rfl, rfl, rfl, by decide +kernel, rfl, by decide +kernel, by decide +kernel⟩
abbrev n_l_bounded : List Str := ["_law_matrix", "_law_i", "_law_j", "_law_number_here", "_law_rows", "_law_k", "_law_start", "_law_m"]
theorem sc_l_bounded : FnScope n_l_bounded p_l_bounded (defScope s_l_bounded) := ⟨rfl, rfl, rfl, by decide +kernel, rfl, by decide +kernel, by decide +kernel⟩
abbrev n_l_size : List Str := ["_law_source_here", "_law_size_here"]
theorem sc_l_size : FnScope n_l_size p_l_size (defScope s_l_size) := ⟨rfl, rfl, rfl, by decide +kernel, rfl, by decide +kernel, by decide +kernel⟩
abbrev n_l_drawn_box : List Str := ["_law_source_here", "_law_size_here", "_law_points_here", "_law_first", "_law_at", "_law_k", "_law_c"]
theorem sc_l_drawn_box : FnScope n_l_drawn_box p_l_drawn_box (defScope s_l_drawn_box) := ⟨rfl, rfl, rfl, by decide +kernel, rfl, by decide +kernel, by decide +kernel⟩
abbrev n_l_wide_box : List Str := ["_law_source_here", "_law_size_here", "_law_shared", "_law_points_here", "_law_k", "_law_c"]
theorem sc_l_wide_box : FnScope n_l_wide_box p_l_wide_box (defScope s_l_wide_box) := ⟨rfl, rfl, rfl, by decide +kernel, rfl, by decide +kernel, by decide +kernel⟩
abbrev n_l_part : List Str := ["_law_source_here", "_law_box", "_law_i", "_law_j", "_law_choice"]
theorem sc_l_part : FnScope n_l_part p_l_part (defScope s_l_part) := ⟨rfl, rfl, rfl, by decide +kernel, rfl, by decide +kernel, by decide +kernel⟩
abbrev n_l_meets : List Str := ["_law_first", "_law_second", "_law_due"]
theorem sc_l_meets : FnScope n_l_meets p_l_meets (defScope s_l_meets) := ⟨rfl, rfl, rfl, by decide +kernel, rfl, by decide +kernel, by decide +kernel⟩
abbrev n_l_bounds : List Str := ["_law_box", "_law_i", "_law_j", "_law_number_here", "_law_due"]
theorem sc_l_bounds : FnScope n_l_bounds p_l_bounds (defScope s_l_bounds) := ⟨rfl, rfl, rfl, by decide +kernel, rfl, by decide +kernel, by decide +kernel⟩
abbrev n_l_ranges : List Str := ["_law_source_here", "_law_size_here", "_law_listed", "_law_pairs", "_law_k", "_law_low", "_law_at", "_law_full", "_law_rows", "_law_i", "_law_row", "_law_j"]
theorem sc_l_ranges : FnScope n_l_ranges p_l_ranges (defScope s_l_ranges) := ⟨rfl, rfl, rfl, by decide +kernel, rfl, by decide +kernel, by decide +kernel⟩
abbrev n_l_asks_small : List Str := ["_law_source_here", "_law_other", "_law_size_here", "_law_first", "_law_second", "_law_kept", "_law_point", "_law_i", "_law_j", "_law_number_here"]
theorem sc_l_asks_small : FnScope n_l_asks_small p_l_asks_small (defScope s_l_asks_small) := ⟨rfl, rfl, rfl, by decide +kernel, rfl, by decide +kernel, by decide +kernel⟩
abbrev n_l_asks_wide : List Str := ["_law_source_here", "_law_other", "_law_size_here", "_law_shared", "_law_c", "_law_first", "_law_second", "_law_due", "_law_i", "_law_j", "_law_number_here"]
theorem sc_l_asks_wide : FnScope n_l_asks_wide p_l_asks_wide (defScope s_l_asks_wide) := ⟨rfl, rfl, rfl, by decide +kernel, rfl, by decide +kernel, by decide +kernel⟩
abbrev n_l_chain : List Str := ["_law_source_here", "_law_order", "_law_first", "_law_sums", "_law_size_here", "_law_rows", "_law_i", "_law_j", "_law_k", "_law_row"]
theorem sc_l_chain : FnScope n_l_chain p_l_chain (defScope s_l_chain) := ⟨rfl, rfl, rfl, by decide +kernel, rfl, by decide +kernel, by decide +kernel⟩
abbrev n_l_asks_chain : List Str := ["_law_source_here", "_law_left", "_law_order", "_law_k", "_law_sums", "_law_first", "_law_second", "_law_rows", "_law_row", "_law_a", "_law_b"]
theorem sc_l_asks_chain : FnScope n_l_asks_chain p_l_asks_chain (defScope s_l_asks_chain) := ⟨rfl, rfl, rfl, by decide +kernel, rfl, by decide +kernel, by decide +kernel⟩
abbrev n_law : List Str := ["_law_script", "_law_source_here"]
theorem sc_law : FnScope n_law p_law (defScope s_law) := ⟨rfl, rfl, rfl, by decide +kernel, rfl, by decide +kernel, by decide +kernel⟩
/-! ### a list against the empty one -/
def rEqL0 (K : PySem.W.Frag) (neg : Bool) : R2 := fun x y H Q => ∃ (a b : Addr) (xs : List V), x = .ref a ∧ y = .ref b ∧ SqL K H a xs ∧ SqL K H b [] ∧ Q (.bl (if neg then !xs.isEmpty else xs.isEmpty)) H
theorem op_neL0 {X : Cx} (hu : X.A.units < cLine) : OpR X (compareOp .NotEq) (rEqL0 X.K true) := by
  intro pins s σ H x y v u Q I rx ry h
  obtain ⟨a, b, xs, rfl, rfl, ha, hb, q⟩ := h
  obtain rfl : v = Value.ref a := rx
  obtain rfl : u = Value.ref b := ry
  obtain ⟨its, r1, t1, _⟩ := I.list ha
  obtain ⟨its2, r2, t2, _⟩ := I.list hb
  cases r2
  cases r1 with
  | nil => exact SeqAt.RcNeAt.lists (e := fun _ => true) t1.isList t2.isList rfl hu (fun j h1 h2 => absurd h2 (by simp)) _ _ _ _ ⟨.bl _, H, I, rfl, q⟩
  | cons _ _ => exact SeqAt.RcNeAt.lists_lengths t1.isList t2.isList (by simp) hu _ _ _ _ ⟨.bl _, H, I, rfl, q⟩
theorem op_eqL0 {X : Cx} (hu : X.A.units < cLine) : OpR X (compareOp .Eq) (rEqL0 X.K false) := by
  intro pins s σ H x y v u Q I rx ry h
  obtain ⟨a, b, xs, rfl, rfl, ha, hb, q⟩ := h
  obtain rfl : v = Value.ref a := rx
  obtain rfl : u = Value.ref b := ry
  obtain ⟨its, r1, t1, _⟩ := I.list ha
  obtain ⟨its2, r2, t2, _⟩ := I.list hb
  cases r2
  cases r1 with
  | nil => exact SeqAt.eq_listAt (e := fun _ => true) t1.isList t2.isList rfl hu (fun j h1 h2 => absurd h2 (by simp)) ⟨.bl _, H, I, rfl, q⟩
  | cons _ _ => exact SeqAt.eq_list_lengthsAt t1.isList t2.isList (by simp) hu ⟨.bl _, H, I, rfl, q⟩
/-! ### built-in names -/
theorem bt_int : bootBuiltins "int" = some (.type "int") := by decide +kernel
theorem bt_str : bootBuiltins "str" = some (.type "str") := by decide +kernel
theorem bt_bool : bootBuiltins "bool" = some (.type "bool") := by decide +kernel
theorem bt_tuple : bootBuiltins "tuple" = some (.type "tuple") := by decide +kernel
theorem bt_list : bootBuiltins "list" = some (.type "list") := by decide +kernel
theorem bt_dict : bootBuiltins "dict" = some (.type "dict") := by decide +kernel
theorem bb_max : bootBuiltins "max" = some (.builtin "max") := by decide +kernel
theorem bb_min : bootBuiltins "min" = some (.builtin "min") := by decide +kernel
theorem bb_isinstance : bootBuiltins "isinstance" = some (.builtin "isinstance") := by decide +kernel
/-! ### a source of draws: a list of three ints, which draws alone change -/
def Src (H : Hp) (a : Addr) : Prop := ∃ c m k : Int, H a = some (.lst [.int c, .int m, .int k])
/-- a source stands at a, and nothing else that was tracked has changed -/
structure Stp (a : Addr) (H H' : Hp) : Prop where
  s : Src H' a
  k : ∀ b o, b ≠ a → H b = some o → H' b = some o
theorem Stp.refl {a : Addr} {H : Hp} (h : Src H a) : Stp a H H := ⟨h, fun _ _ _ e => e⟩
theorem Stp.trans {a : Addr} {H H1 H2 : Hp} (x : Stp a H H1) (y : Stp a H1 H2) : Stp a H H2 := ⟨y.s, fun b o hb e => y.k b o hb (x.k b o hb e)⟩
theorem Src.ne {a p : Addr} {H : Hp} (h : Src H a) (n : H p = none) : a ≠ p := by
  obtain ⟨c, m, k, h⟩ := h
  exact ne_of_none h n
theorem Stp.free {a p : Addr} {H H' : Hp} (x : Stp a H H') (n : H' p = none) : H p = none := by
  cases q : H p with
  | none => rfl
  | some o =>
    have ne : p ≠ a := fun z => x.s.ne n z.symm
    rw [x.k p o ne q] at n
    cases n
/-- a new object beside the source -/
theorem Stp.new {a p : Addr} {H H' : Hp} {o : HO} (x : Stp a H H') (n : H' p = none) : Stp a H (upd H' p o) := by
  have ne := x.s.ne n
  obtain ⟨c, m, k, h⟩ := x.s
  refine ⟨⟨c, m, k, by rw [upd_ne ne]; exact h⟩, fun b u hb e => ?_⟩
  have e' := x.k b u hb e
  rw [upd_ne (ne_of_none e' n)]
  exact e'
theorem Stp.same {a : Addr} {H H' H2 : Hp} (x : Stp a H H') (s : Same H' H2) : Stp a H H2 := by
  obtain ⟨c, m, k, h⟩ := x.s
  exact ⟨⟨c, m, k, s _ _ h⟩, fun b o hb e => s b o (x.k b o hb e)⟩
theorem Stp.of_same {a : Addr} {H H' : Hp} (h : Src H a) (s : Same H H') : Stp a H H' := (Stp.refl h).same s
theorem Same.new {H : Hp} {p : Addr} (h : H p = none) (o : HO) : Same H (upd H p o) := fun b u q => by rw [upd_ne (ne_of_none q h)]; exact q
/-- a source that is new ahead of its draws: all that was tracked stands -/
theorem Stp.fresh {a : Addr} {H H1 H2 : Hp} (s : Same H H1) (n : H a = none) (x : Stp a H1 H2) : Same H H2 := fun b o e => x.k b o (ne_of_none e n) (s b o e)
theorem Stp.rd {K : PySem.W.Frag} {a p : Addr} {H H' : Hp} {xs : List V} (x : Stp a H H') (h : SqT K H p xs) (hs : Src H a) : SqT K H' p xs := by
  obtain ⟨c, m, k, hs⟩ := hs
  rcases h with (h | ⟨o, h⟩) | h
  · exact .inl (.inl (x.k _ _ (ne_of h hs (by intro z; cases z)) h))
  · exact .inl (.inr ⟨o, x.k _ _ (ne_of h hs (by intro z; cases z)) h⟩)
  · exact .inr h
theorem Stp.rdL {K : PySem.W.Frag} {a p : Addr} {H H' : Hp} {xs : List V} (x : Stp a H H') (h : SqL K H p xs) (ne : p ≠ a) : SqL K H' p xs := by
  rcases h with (h | ⟨o, h⟩) | h
  · exact .inl (.inl (x.k _ _ ne h))
  · exact .inl (.inr ⟨o, x.k _ _ ne h⟩)
  · exact .inr h
theorem Same.tup {K : PySem.W.Frag} {p : Addr} {H H' : Hp} {xs : List V} (x : Same H H') (h : SqT K H p xs) : SqT K H' p xs := by
  rcases h with (h | ⟨o, h⟩) | h
  · exact .inl (.inl (x _ _ h))
  · exact .inl (.inr ⟨o, x _ _ h⟩)
  · exact .inr h
/-! ### numbers -/
theorem ifT {c : Bool} {A B : Prop} (h : c = true) (a : A) : if c = true then A else B := by rw [if_pos h]; exact a
theorem ifF {c : Bool} {A B : Prop} (h : c = false) (b : B) : if c = true then A else B := by rw [h]; exact iteF b
theorem fmod_bd {x m : Int} (h : 0 < m) : 0 ≤ x.fmod m ∧ x.fmod m < m := ⟨Int.fmod_nonneg_of_pos x h, Int.fmod_lt_of_pos x h⟩
theorem fm64 {x m : Int} (h : 0 < m) (h2 : m ≤ 2 ^ 64) : -(2 ^ 64) < x.fmod m ∧ x.fmod m < 2 ^ 64 :=
  ⟨Int.lt_of_lt_of_le (by decide) (fmod_bd h).1, Int.lt_of_lt_of_le (fmod_bd h).2 h2⟩
theorem atI_int {α : Type} {xs : List α} {r : Int} (h0 : 0 ≤ r) (h : r.toNat < xs.length) : atI xs r = some xs[r.toNat] := by
  have e := atI_nat (xs := xs) (j := r.toNat) (List.getElem?_eq_getElem h)
  rwa [Int.toNat_of_nonneg h0] at e
/-! ### the promises of the draws -/
def spCell (K : PySem.W.Frag) : Sp := fun vs H Q _ => ∃ (l : Addr) (ns : List Int) (j : Int), vs = [.ref l, .int j] ∧ SqL K H l (ns.map V.int) ∧ 0 ≤ j ∧ ∀ i : Int, Q (.int i) H
def spSource : Sp := fun vs H Q _ => ∃ c : Int, vs = [.int c] ∧ ∀ p H', H p = none → Same H H' → Src H' p → Q (.ref p) H'
def spPick : Sp := fun vs H Q _ => ∃ (a : Addr) (n : Int), vs = [.ref a, .int n] ∧ Src H a ∧ n < 1073741824 ∧ ∀ (r : Int) (H' : Hp), Stp a H H' → 0 ≤ r → (r < n ∨ r = 0) → Q (.int r) H'
def spOne (K : PySem.W.Frag) : Sp := fun vs H Q _ => ∃ (a : Addr) (row : V), vs = [.ref a, row] ∧ Src H a ∧
  ((∃ (p : Addr) (xs : List V), row = .ref p ∧ p ≠ a ∧ SqL K H p xs ∧ 0 < xs.length ∧ xs.length < 1000 ∧ ∀ v H', v ∈ xs → Stp a H H' → Q v H') ∨
   (∃ z : Str, row = .str z ∧ 0 < z.length ∧ z.length < 1000 ∧ ∀ (c : Nat) H', c ∈ z.cps.toList → Stp a H H' → Q (.str ⟨#[c]⟩) H'))
section
variable {P : Program} {w : World} {K : PySem.W.Frag} {mg : Str → Option Value} {base : Heap}
theorem ok_l_cell (T : Txt w K mg) : FnOk P w K mg base CX0 1 T.a_l_cell T.d_l_cell p_l_cell (spCell K) := by
  refine T.F_l_cell.ok sc_l_cell (fun vs H Q E h => ?_) (fun cdv A outer s H vs Q E hr h => ?_)
  · obtain ⟨l, ns, j, rfl, _⟩ := h
    rfl
  obtain ⟨l, ns, j, rfl, hS, h0, q⟩ := h
  refine ⟨_, (pss_cons (ps_if (pt_cmpR op_lt (pv 1) (pe_callB call_len_seq rfl T.z_len PySem.boot_len (pa_cons (pv 0) pa_nil)) (nomark _)) (pss_one (ps_ret (pe_ix ix_list (pv 0) (pv 1) (fun _ _ => rfl)))) pss_nil)
      (pss_one (ps_ret pe_int))), ?_⟩
  have hl : (ns.map V.int).length = ns.length := List.length_map _
  refine ⟨_, rfl, _, rfl, l, _, rfl, .inl hS, _, _, rfl, rfl, _, rfl, ?_⟩
  refine ite2 (fun c => ?_) (fun c => ?_)
  · have c' : j < (((ns.map V.int).length : Nat) : Int) := of_decide_eq_true c
    rw [hl] at c'
    have hk : j.toNat < ns.length := by omega
    have e := atI_int (xs := ns.map V.int) h0 (by omega)
    rw [List.getElem_map] at e
    exact ⟨_, rfl, _, rfl, l, _, _, _, rfl, rfl, hS, e, q _⟩
  · exact q 0
theorem ok_l_source (T : Txt w K mg) : FnOk P w K mg base CX0 1 T.a_l_source T.d_l_source p_l_source spSource := by
  refine T.F_l_source.ok sc_l_source (fun vs H Q E h => ?_) (fun cdv A outer s H vs Q E hr h => ?_)
  · obtain ⟨c, rfl, _⟩ := h
    rfl
  obtain ⟨c, rfl, q⟩ := h
  refine ⟨_, (pss_one (ps_ret (pe_lst (pa_cons (pv 0) (pa_cons (pv 0) (pa_cons pe_int pa_nil)))))), ?_⟩
  refine ⟨_, rfl, _, rfl, (by show 3 ≤ sizeLine; decide), fun p hp => ?_⟩
  exact q p _ hp (Same.new hp _) ⟨c, c, 0, upd_same⟩
theorem ok_l_pick (T : Txt w K mg) : FnOk P w K mg base CX0 1 T.a_l_pick T.d_l_pick p_l_pick spPick := by
  refine T.F_l_pick.ok sc_l_pick (fun vs H Q E h => ?_) (fun cdv A outer s H vs Q E hr h => ?_)
  · obtain ⟨a, n, rfl, _⟩ := h
    rfl
  obtain ⟨a, n, rfl, ⟨c, m, k, hS⟩, hn, q⟩ := h
  refine ⟨_, (pss_cons (ps_set (i := 2) sc_l_pick.nd rfl (Or.inl rfl) (pe_ix ix_list (pv 0) pe_int (fun _ _ => rfl)))
      (pss_cons (ps_asg (pe_op op_add (pv 2) pe_int) (pg_sub (pv 0) pe_int set_list))
      (pss_cons (ps_if (pt_cmpR op_lt (pv 1) pe_int (nomark _)) (pss_one (ps_ret pe_int)) pss_nil)
      (pss_cons (ps_if (PW.pt (pw_and (pt_cmpR op_ge (pe_ix ix_list (pv 0) pe_int (fun _ _ => rfl)) (pe_op op_pow pe_int pe_int) (nomark _)) (pw_and1 (pt_cmpR op_gt (pe_ix ix_list (pv 0) pe_int (fun _ _ => rfl)) pe_int (nomark _))))) (pss_cons (ps_set (i := 3) sc_l_pick.nd rfl (Or.inl rfl) (pe_op op_modN (pe_callTy call_int1 rfl T.z_int bt_int (pa_cons (pe_ix ix_list (pv 0) pe_int (fun _ _ => rfl)) pa_nil)) (pv 1)))
      (pss_cons (ps_asg (pe_op op_fdivN (pe_ix ix_list (pv 0) pe_int (fun _ _ => rfl)) (pv 1)) (pg_sub (pv 0) pe_int set_list))
      (pss_one (ps_ret (pv 3))))) pss_nil)
      (pss_cons (ps_set (i := 4) sc_l_pick.nd rfl (Or.inl rfl) (pe_op op_modN (pe_callTy call_int1 rfl T.z_int bt_int (pa_cons (pe_op op_add (pe_op op_add (pe_ix ix_list (pv 0) pe_int (fun _ _ => rfl)) (pe_op op_mul pe_int (pv 2))) pe_int) pa_nil)) pe_int))
      (pss_cons (ps_set (i := 4) sc_l_pick.nd rfl (Or.inl rfl) (pe_op op_modN (pe_callTy call_int1 rfl T.z_int bt_int (pa_cons (pe_op op_mul (pv 4) (pe_op op_add (pv 4) pe_int)) pa_nil)) pe_int))
      (pss_cons (ps_set (i := 4) sc_l_pick.nd rfl (Or.inl rfl) (pe_op op_modN (pe_callTy call_int1 rfl T.z_int bt_int (pa_cons (pe_op op_add (pe_op op_mul (pv 4) (pe_op op_add (pv 4) pe_int)) (pe_op op_mul pe_int (pv 2))) pa_nil)) pe_int))
      (pss_one (ps_ret (pe_op op_modN (pe_callTy call_int1 rfl T.z_int bt_int (pa_cons (pe_op op_fdivN (pv 4) pe_int) pa_nil)) (pv 1))))))))))), ?_⟩
  refine ⟨_, rfl, a, _, 2, _, rfl, rfl, SqL.of hS, rfl, ?_⟩
  refine ⟨_, rfl, k, 1, rfl, rfl, _, rfl, a, _, 2, 2, rfl, rfl, hS, rfl, ?_⟩
  have h1 : (upd H a (.lst [.int c, .int m, .int (k + 1)])) a = some (.lst [.int c, .int m, .int (k + 1)]) := upd_same
  have st : Stp a H (upd H a (.lst [.int c, .int m, .int (k + 1)])) := ⟨⟨c, m, k + 1, upd_same⟩, fun b o hb e => by rw [upd_ne hb]; exact e⟩
  refine ⟨_, rfl, n, 2, rfl, rfl, _, rfl, ?_⟩
  refine ite2 (fun _ => ?_) (fun c2 => ?_)
  · exact q 0 _ st (Int.le_refl 0) (.inr rfl)
  have hn2 : ¬ n < 2 := of_decide_eq_false (Bool.eq_false_iff.mpr c2)
  refine ⟨_, rfl, a, _, 0, _, rfl, rfl, SqL.of h1, rfl, 10, 18, rfl, rfl, ⟨by decide, by decide, by decide⟩, _, _, rfl, rfl, _, rfl, ?_⟩
  refine ite2 (fun _ => ⟨_, rfl, a, _, 1, _, rfl, rfl, SqL.of h1, rfl, _, _, rfl, rfl, _, rfl, ite2 (fun _ => ?first) (fun _ => ?second)⟩) (fun _ => iteF ?third)
  case first =>
    refine ⟨_, rfl, a, _, 1, _, rfl, rfl, SqL.of h1, rfl, .inl ⟨_, rfl, ?_⟩⟩
    refine ⟨_, rfl, _, _, rfl, rfl, by omega, ?_⟩
    refine ⟨_, rfl, a, _, 1, _, rfl, rfl, SqL.of h1, rfl, _, rfl, m, n, rfl, rfl, ⟨by omega, by omega⟩, _, rfl, a, _, 1, 1, rfl, rfl, h1, rfl, ?_⟩
    refine ⟨_, rfl, ?_⟩
    have b := fmod_bd (x := m) (m := n) (by omega)
    refine q _ _ ⟨⟨c, m.fdiv n, k + 1, upd_same⟩, fun b o hb e => ?_⟩ b.1 (.inl b.2)
    rw [upd_ne hb]
    exact st.k b o hb e
  all_goals
    refine ⟨_, rfl, a, _, 0, _, rfl, rfl, SqL.of h1, rfl, _, rfl, 7919, k, rfl, rfl, .inl ⟨by decide, by decide⟩, _, _, rfl, rfl, _, _, rfl, rfl, .inl ⟨_, rfl, ?_⟩⟩
    refine ⟨_, _, rfl, rfl, (by intro z; cases z), ?_⟩
    refine ⟨_, rfl, _, rfl, _, _, rfl, rfl, _, _, rfl, rfl, .inl (fm64 (by decide) (by decide)), .inl ⟨_, rfl, ?_⟩⟩
    refine ⟨_, _, rfl, rfl, (by intro z; cases z), ?_⟩
    refine ⟨_, rfl, _, rfl, _, _, rfl, rfl, _, _, rfl, rfl, .inl (fm64 (by decide) (by decide)), _, rfl, 31, k, rfl, rfl, .inl ⟨by decide, by decide⟩, _, _, rfl, rfl, .inl ⟨_, rfl, ?_⟩⟩
    refine ⟨_, _, rfl, rfl, (by intro z; cases z), ?_⟩
    refine ⟨_, rfl, _, _, rfl, rfl, ⟨by decide, by decide⟩, .inl ⟨_, rfl, ?_⟩⟩
    refine ⟨_, rfl, _, _, rfl, rfl, (by omega), ?_⟩
    exact q _ _ st (fmod_bd (by omega)).1 (.inl (fmod_bd (by omega)).2)
end
/-! ### data: equal data are the same to _law_same -/
def Dok : Nat → PyData → Prop
  | 0, _ => False
  | _ + 1, .none => True
  | _ + 1, .bool _ => True
  | _ + 1, .int _ => True
  | _ + 1, .str _ => True
  | n + 1, .tuple ds => ds.length ≤ 100000 ∧ ∀ d ∈ ds, Dok n d
  | n + 1, .list ds => ds.length ≤ 100000 ∧ ∀ d ∈ ds, Dok n d
  | _ + 1, .dict _ => False
theorem dpAll_len {K : PySem.W.Frag} {H : Hp} : ∀ {vs : List V} {ds : List PyData}, DpAll K H vs ds → vs.length = ds.length
  | _, _, .nil => rfl
  | _, _, .cons _ r => congrArg (· + 1) (dpAll_len r)
theorem dpAll_get {K : PySem.W.Frag} {H : Hp} : ∀ {vs : List V} {ds : List PyData} {i : Nat} {d : PyData}, DpAll K H vs ds → ds[i]? = some d → ∃ v, vs[i]? = some v ∧ Dp K H v d
  | _, _, _, _, .nil, e => by simp at e
  | _, _, 0, d, .cons h _, e => by
    simp at e
    subst e
    exact ⟨_, rfl, h⟩
  | _, _, i + 1, d, .cons _ r, e => by
    obtain ⟨v, h1, h2⟩ := dpAll_get (i := i) r (by simpa using e)
    exact ⟨v, by simpa using h1, h2⟩
theorem tyL {K : PySem.W.Frag} {H : Hp} {a : Addr} {xs : List V} (h : SqL K H a xs) : TyX K H (.ref a) (.type "list") := by
  rcases h with (h | ⟨o, h⟩) | ⟨o, its, n, h, c, _⟩
  · exact .base (.lst h)
  · exact .base (.frz h)
  · exact .kList h c
theorem tyT {K : PySem.W.Frag} {H : Hp} {a : Addr} {xs : List V} (h : SqT K H a xs) : TyX K H (.ref a) (.type "tuple") := by
  rcases h with (h | ⟨o, h⟩) | ⟨o, its, n, h, c, _⟩
  · exact .base (.tup h)
  · exact .fTuple h
  · exact .kTuple h c
theorem isi {K : PySem.W.Frag} {H : Hp} {Q : VK} {x : V} {t c : String} (b : Bool) (ty : TyX K H x (.type t)) (kb : kitB t c = some b) (q : Q (.bl b) H) : rIsi K [x, .ty c] H Q := ⟨x, .ty c, _, _, b, rfl, .ty c, ty, kit_ty kb, q⟩
theorem kb_nt : kitB "NoneType" "tuple" = some false := by decide +kernel
theorem kb_nl : kitB "NoneType" "list" = some false := by decide +kernel
theorem kb_bt : kitB "bool" "tuple" = some false := by decide +kernel
theorem kb_bl : kitB "bool" "list" = some false := by decide +kernel
theorem kb_bb : kitB "bool" "bool" = some true := by decide +kernel
theorem kb_it : kitB "int" "tuple" = some false := by decide +kernel
theorem kb_il : kitB "int" "list" = some false := by decide +kernel
theorem kb_ib : kitB "int" "bool" = some false := by decide +kernel
theorem kb_ii : kitB "int" "int" = some true := by decide +kernel
theorem kb_st : kitB "str" "tuple" = some false := by decide +kernel
theorem kb_sl : kitB "str" "list" = some false := by decide +kernel
theorem kb_sb : kitB "str" "bool" = some false := by decide +kernel
theorem kb_si : kitB "str" "int" = some false := by decide +kernel
theorem kb_ss : kitB "str" "str" = some true := by decide +kernel
theorem kb_tt : kitB "tuple" "tuple" = some true := by decide +kernel
theorem kb_tl : kitB "tuple" "list" = some false := by decide +kernel
theorem kb_lt : kitB "list" "tuple" = some false := by decide +kernel
theorem kb_ll : kitB "list" "list" = some true := by decide +kernel
def spSame (K : PySem.W.Frag) (n : Nat) : Sp := fun vs H Q _ => ∃ (x y : V) (d : PyData), vs = [x, y] ∧ Dp K H x d ∧ Dp K H y d ∧ Dok n d ∧ Q (.bl true) H
section
variable {P : Program} {w : World} {K : PySem.W.Frag} {mg : Str → Option Value} {base : Heap}
theorem ok_l_same0 (T : Txt w K mg) : FnOk P w K mg base CX0 0 T.a_l_same T.d_l_same p_l_same (spSame K 0) := by
  have no : ∀ vs H Q E, ¬ spSame K 0 vs H Q E := fun vs H Q E h => by
    obtain ⟨x, y, d, _, _, _, h, _⟩ := h
    exact h
  exact ⟨fun vs H Q E h => absurd h (no vs H Q E), fun A outer s H args us vs Q E _ _ _ _ h => absurd h (no vs H Q E)⟩
/-- the part for two lists or two tuples -/
theorem same_seq {n : Nat} {H : Hp} {p r : Addr} {xs ys : List V} {ds : List PyData} (h1 : SqL K H p xs ∨ SqT K H p xs) (h2 : SqL K H r ys ∨ SqT K H r ys) (d1 : DpAll K H xs ds) (d2 : DpAll K H ys ds)
    (hd : ∀ d ∈ ds, Dok n d) {i : Nat} (hi : i < ds.length) {R : V → Hp → Prop} (q : R (.bl true) H) :
    tCall (spSame K n) [] E0 (tCons (tOp (rIx K) (tVar 0) (tVar 2)) (tCons (tOp (rIx K) (tVar 1) (tVar 2)) tNil)) [some (.ref p), some (.ref r), some (.int (0 + (i : Int)))] H R := by
  obtain ⟨x, e1, q1⟩ := dpAll_get (i := i) d1 (List.getElem?_eq_getElem hi)
  obtain ⟨y, e2, q2⟩ := dpAll_get (i := i) d2 (List.getElem?_eq_getElem hi)
  have a1 : atI xs (0 + (i : Int)) = some x := by rw [Int.zero_add]; exact atI_nat e1
  have a2 : atI ys (0 + (i : Int)) = some y := by rw [Int.zero_add]; exact atI_nat e2
  have k2 : tOp (rIx K) (tVar 1) (tVar 2) [some (.ref p), some (.ref r), some (.int (0 + (i : Int)))] H (fun v H' => tNil [some (.ref p), some (.ref r), some (.int (0 + (i : Int)))] H' fun vs H'' => spSame K n ((x :: v :: vs) ++ []) H'' R E0) := by
    refine ⟨_, rfl, _, rfl, ?_⟩
    have z : spSame K n [x, y] H R E0 := ⟨x, y, _, rfl, q1, q2, hd _ (List.getElem_mem hi), q⟩
    rcases h2 with h2 | h2
    · exact .inl ⟨r, _, _, _, rfl, rfl, h2, a2, z⟩
    · exact .inr (.inl ⟨r, _, _, _, rfl, rfl, h2, a2, z⟩)
  refine ⟨_, rfl, _, rfl, ?_⟩
  rcases h1 with h1 | h1
  · exact .inl ⟨p, _, _, _, rfl, rfl, h1, a1, k2⟩
  · exact .inr (.inl ⟨p, _, _, _, rfl, rfl, h1, a1, k2⟩)
theorem ok_l_same (T : Txt w K mg) : ∀ n : Nat, FnOk P w K mg base CX0 n T.a_l_same T.d_l_same p_l_same (spSame K n)
  | 0 => ok_l_same0 T
  | n + 1 => by
    have g_l_same := ok_l_same T n
    refine T.F_l_same.ok sc_l_same (fun vs H Q E h => ?_) (fun cdv A outer s H vs Q E hr h => ?_)
    · obtain ⟨x, y, d, rfl, _⟩ := h
      rfl
    obtain ⟨x, y, d, rfl, hx, hy, hd, q⟩ := h
    refine ⟨_, (pss_cons (ps_if (PW.pt (pw_or (pt_val (pe_callB call_isi rfl T.z_isinstance bb_isinstance (pa_cons (pv 1) (pa_cons (pe_bltn (v := .ty "tuple") rfl T.z_tuple bt_tuple rfl) pa_nil)))) (pw_or1 (pt_val (pe_callB call_isi rfl T.z_isinstance bb_isinstance (pa_cons (pv 1) (pa_cons (pe_bltn (v := .ty "list") rfl T.z_list bt_list rfl) pa_nil))))))) (pss_cons (ps_if (PW.pt (pw_or (pt_cmpR op_ne (pe_callB call_isi rfl T.z_isinstance bb_isinstance (pa_cons (pv 1) (pa_cons (pe_bltn (v := .ty "tuple") rfl T.z_tuple bt_tuple rfl) pa_nil))) (pe_callB call_isi rfl T.z_isinstance bb_isinstance (pa_cons (pv 0) (pa_cons (pe_bltn (v := .ty "tuple") rfl T.z_tuple bt_tuple rfl) pa_nil))) (nomark _)) (pw_or1 (pt_cmpR op_ne (pe_callB call_isi rfl T.z_isinstance bb_isinstance (pa_cons (pv 1) (pa_cons (pe_bltn (v := .ty "list") rfl T.z_list bt_list rfl) pa_nil))) (pe_callB call_isi rfl T.z_isinstance bb_isinstance (pa_cons (pv 0) (pa_cons (pe_bltn (v := .ty "list") rfl T.z_list bt_list rfl) pa_nil))) (nomark _))))) (pss_one (ps_ret pe_bl)) pss_nil)
      (pss_cons (ps_if (pt_cmpR op_ne (pe_callB call_len_seq rfl T.z_len PySem.boot_len (pa_cons (pv 0) pa_nil)) (pe_callB call_len_seq rfl T.z_len PySem.boot_len (pa_cons (pv 1) pa_nil)) (nomark _)) (pss_one (ps_ret pe_bl)) pss_nil)
      (pss_cons (ps_for PassesOwn.never rfl (pi_range1 rfl T.z_range (pa_cons (pe_callB call_len_seq rfl T.z_len PySem.boot_len (pa_cons (pv 1) pa_nil)) pa_nil)) (pg_name (i := 2) sc_l_same.nd rfl (Or.inl rfl))
        (pss_one (ps_if (pt_not (pt_val (pe_call g_l_same (hr.mono (by first | decide | omega)) rfl T.m_l_same T.F_l_same.kp T.b_l_same .nil pass0 (pa_cons (pe_ix ix_seq (pv 0) (pv 2) (fun _ _ => rfl)) (pa_cons (pe_ix ix_seq (pv 1) (pv 2) (fun _ _ => rfl)) pa_nil))))) (pss_one (ps_ret pe_bl)) pss_nil)))
      (pss_one (ps_ret pe_bl))))) pss_nil)
      (pss_cons (ps_if (pt_cmpR op_isN (pv 1) pe_non (nomark _)) (pss_one (ps_ret (pe_cmpR op_isN (pv 0) pe_non (nomark _)))) pss_nil)
      (pss_cons (ps_if (pt_val (pe_callB call_isi rfl T.z_isinstance bb_isinstance (pa_cons (pv 1) (pa_cons (pe_bltn (v := .ty "bool") rfl T.z_bool bt_bool rfl) pa_nil)))) (pss_one (ps_ret (pe_and (pe_callB call_isi rfl T.z_isinstance bb_isinstance (pa_cons (pv 0) (pa_cons (pe_bltn (v := .ty "bool") rfl T.z_bool bt_bool rfl) pa_nil))) (pe_one (pe_cmpR op_eq (pv 0) (pv 1) (nomark _)))))) pss_nil)
      (pss_cons (ps_if (pt_val (pe_callB call_isi rfl T.z_isinstance bb_isinstance (pa_cons (pv 1) (pa_cons (pe_bltn (v := .ty "int") rfl T.z_int bt_int rfl) pa_nil)))) (pss_one (ps_ret (pe_and (pe_callB call_isi rfl T.z_isinstance bb_isinstance (pa_cons (pv 0) (pa_cons (pe_bltn (v := .ty "int") rfl T.z_int bt_int rfl) pa_nil))) (pe_and (pe_not (pe_callB call_isi rfl T.z_isinstance bb_isinstance (pa_cons (pv 0) (pa_cons (pe_bltn (v := .ty "bool") rfl T.z_bool bt_bool rfl) pa_nil)))) (pe_one (pe_cmpR op_eq (pv 0) (pv 1) (nomark _))))))) pss_nil)
      (pss_one (ps_ret (pe_and (pe_callB call_isi rfl T.z_isinstance bb_isinstance (pa_cons (pv 0) (pa_cons (pe_bltn (v := .ty "str") rfl T.z_str bt_str rfl) pa_nil))) (pe_one (pe_cmpR op_eq (pv 0) (pv 1) (nomark _)))))))))), ?_⟩
    cases hx with
    | non =>
      cases hy
      refine ⟨_, rfl, _, _, _, _, false, rfl, .ty _, (.base .non), kit_ty kb_nt, ⟨_, rfl, iteF ⟨_, rfl, _, _, _, _, false, rfl, .ty _, (.base .non), kit_ty kb_nl, ⟨_, rfl, iteF ?_⟩⟩⟩⟩
      refine ⟨_, rfl, rfl, _, rfl, iteT ?_⟩
      exact ⟨_, rfl, rfl, q⟩
    | bl b =>
      cases hy
      refine ⟨_, rfl, _, _, _, _, false, rfl, .ty _, (.base (.bl _)), kit_ty kb_bt, ⟨_, rfl, iteF ⟨_, rfl, _, _, _, _, false, rfl, .ty _, (.base (.bl _)), kit_ty kb_bl, ⟨_, rfl, iteF ?_⟩⟩⟩⟩
      refine ⟨_, rfl, rfl, _, rfl, iteF ?_⟩
      refine ⟨_, rfl, _, _, _, _, true, rfl, .ty _, (.base (.bl _)), kit_ty kb_bb, ⟨_, rfl, iteT ?_⟩⟩
      refine ⟨_, rfl, _, _, _, _, true, rfl, .ty _, (.base (.bl _)), kit_ty kb_bb, ⟨_, rfl, iteT ?_⟩⟩
      refine ⟨_, rfl, _, rfl, rfl, ?_⟩
      rw [decide_eq_true rfl]
      exact q
    | int b =>
      cases hy
      refine ⟨_, rfl, _, _, _, _, false, rfl, .ty _, (.base (.int _)), kit_ty kb_it, ⟨_, rfl, iteF ⟨_, rfl, _, _, _, _, false, rfl, .ty _, (.base (.int _)), kit_ty kb_il, ⟨_, rfl, iteF ?_⟩⟩⟩⟩
      refine ⟨_, rfl, rfl, _, rfl, iteF ?_⟩
      refine ⟨_, rfl, _, _, _, _, false, rfl, .ty _, (.base (.int _)), kit_ty kb_ib, ⟨_, rfl, iteF ?_⟩⟩
      refine ⟨_, rfl, _, _, _, _, true, rfl, .ty _, (.base (.int _)), kit_ty kb_ii, ⟨_, rfl, iteT ?_⟩⟩
      refine ⟨_, rfl, _, _, _, _, true, rfl, .ty _, (.base (.int _)), kit_ty kb_ii, ⟨_, rfl, iteT ?_⟩⟩
      refine ⟨_, rfl, _, _, _, _, false, rfl, .ty _, (.base (.int _)), kit_ty kb_ib, ⟨_, rfl, _, rfl, iteT ?_⟩⟩
      refine ⟨_, rfl, _, rfl, rfl, ?_⟩
      rw [decide_eq_true rfl]
      exact q
    | str b =>
      cases hy
      refine ⟨_, rfl, _, _, _, _, false, rfl, .ty _, (.base (.str _)), kit_ty kb_st, ⟨_, rfl, iteF ⟨_, rfl, _, _, _, _, false, rfl, .ty _, (.base (.str _)), kit_ty kb_sl, ⟨_, rfl, iteF ?_⟩⟩⟩⟩
      refine ⟨_, rfl, rfl, _, rfl, iteF ?_⟩
      refine ⟨_, rfl, _, _, _, _, false, rfl, .ty _, (.base (.str _)), kit_ty kb_sb, ⟨_, rfl, iteF ?_⟩⟩
      refine ⟨_, rfl, _, _, _, _, false, rfl, .ty _, (.base (.str _)), kit_ty kb_si, ⟨_, rfl, iteF ?_⟩⟩
      refine ⟨_, rfl, _, _, _, _, true, rfl, .ty _, (.base (.str _)), kit_ty kb_ss, ⟨_, rfl, iteT ?_⟩⟩
      refine ⟨_, rfl, _, rfl, rfl, ?_⟩
      rw [decide_eq_true rfl]
      exact q
    | @lst p xs ds h1 d1 =>
      cases hy with
      | @lst r ys _ h2 d2 =>
      have l1 := dpAll_len d1
      have l2 := dpAll_len d2
      obtain ⟨hlen, hd⟩ := hd
      refine ⟨_, rfl, _, _, _, _, false, rfl, .ty _, (tyL h2), kit_ty kb_lt, ⟨_, rfl, iteF ⟨_, rfl, _, _, _, _, true, rfl, .ty _, (tyL h2), kit_ty kb_ll, ⟨_, rfl, iteT ?_⟩⟩⟩⟩
      refine ⟨_, rfl, _, _, _, _, false, rfl, .ty _, (tyL h2), kit_ty kb_lt, ⟨_, rfl, _, _, _, _, false, rfl, .ty _, (tyL h1), kit_ty kb_lt, ⟨rfl, _, rfl, iteF ?_⟩⟩⟩
      refine ⟨_, rfl, _, _, _, _, true, rfl, .ty _, (tyL h2), kit_ty kb_ll, ⟨_, rfl, _, _, _, _, true, rfl, .ty _, (tyL h1), kit_ty kb_ll, ⟨rfl, _, rfl, iteF ?_⟩⟩⟩
      refine ⟨_, rfl, p, _, rfl, .inl h1, _, rfl, r, _, rfl, .inl h2, rfl, _, rfl, ?_⟩
      refine iteNS (congrArg V.int (by omega)) ?_
      refine ⟨_, rfl, r, _, rfl, .inl h2, _, rfl, by omega, by omega, for_range (lo := 0) (fun i σ H' => H' = H ∧ ∃ v : Option V, σ = [some (.ref p), some (.ref r), v]) ⟨rfl, none, rfl⟩ ?_ ?_⟩
      · rintro i σ H' hi ⟨rfl, v, rfl⟩
        refine same_seq (.inl h1) (.inl h2) d1 d2 hd (by omega) ⟨_, rfl, iteF ?_⟩
        exact ⟨rfl, _, rfl⟩
      · rintro σ H' ⟨rfl, v, rfl⟩
        exact q
    | @tup p xs ds h1 d1 =>
      cases hy with
      | @tup r ys _ h2 d2 =>
      have l1 := dpAll_len d1
      have l2 := dpAll_len d2
      obtain ⟨hlen, hd⟩ := hd
      refine ⟨_, rfl, _, _, _, _, true, rfl, .ty _, (tyT h2), kit_ty kb_tt, ⟨_, rfl, iteT ?_⟩⟩
      refine ⟨_, rfl, _, _, _, _, true, rfl, .ty _, (tyT h2), kit_ty kb_tt, ⟨_, rfl, _, _, _, _, true, rfl, .ty _, (tyT h1), kit_ty kb_tt, ⟨rfl, _, rfl, iteF ?_⟩⟩⟩
      refine ⟨_, rfl, _, _, _, _, false, rfl, .ty _, (tyT h2), kit_ty kb_tl, ⟨_, rfl, _, _, _, _, false, rfl, .ty _, (tyT h1), kit_ty kb_tl, ⟨rfl, _, rfl, iteF ?_⟩⟩⟩
      refine ⟨_, rfl, p, _, rfl, .inr h1, _, rfl, r, _, rfl, .inr h2, rfl, _, rfl, ?_⟩
      refine iteNS (congrArg V.int (by omega)) ?_
      refine ⟨_, rfl, r, _, rfl, .inr h2, _, rfl, by omega, by omega, for_range (lo := 0) (fun i σ H' => H' = H ∧ ∃ v : Option V, σ = [some (.ref p), some (.ref r), v]) ⟨rfl, none, rfl⟩ ?_ ?_⟩
      · rintro i σ H' hi ⟨rfl, v, rfl⟩
        refine same_seq (.inr h1) (.inr h2) d1 d2 hd (by omega) ⟨_, rfl, iteF ?_⟩
        exact ⟨rfl, _, rfl⟩
      · rintro σ H' ⟨rfl, v, rfl⟩
        exact q
end
/-! ### rows and matrices of whole numbers -/
open ZG (Sq ItzG walk_zipG)
theorem Sq.same {K : PySem.W.Frag} {t : Bool} {p : Addr} {H H' : Hp} {xs : List V} (s : Same H H') (h : Sq t K H p xs) : Sq t K H' p xs := by
  cases t
  · exact s.seq h
  · exact Same.tup s h
theorem Sq.upd_same {K : PySem.W.Frag} {p : Addr} {H : Hp} {xs : List V} : Sq false K (upd H p (.lst xs)) p xs := SqL.of L2.upd_same
theorem Sq.upd_sameT {K : PySem.W.Frag} {p : Addr} {H : Hp} {xs : List V} : Sq true K (upd H p (.tup xs)) p xs := SqT.of L2.upd_same
/-- what stood stands but at D -/
def But (D : Addr) (H H' : Hp) : Prop := ∀ b o, b ≠ D → H b = some o → H' b = some o
theorem But.of_same {D : Addr} {H H' : Hp} (s : Same H H') : But D H H' := fun b o _ e => s b o e
theorem But.upd {D : Addr} {H : Hp} (o : HO) : But D H (upd H D o) := fun b u ne e => by rw [upd_ne ne]; exact e
theorem But.trans {D : Addr} {H H1 H2 : Hp} (a : But D H H1) (b : But D H1 H2) : But D H H2 := fun c o ne e => b c o ne (a c o ne e)
theorem Sq.but {K : PySem.W.Frag} {t : Bool} {p D : Addr} {H H' : Hp} {xs : List V} (s : But D H H') (ne : p ≠ D) (h : Sq t K H p xs) : Sq t K H' p xs := by
  cases t
  · rcases h with (h | ⟨o, h⟩) | h
    · exact .inl (.inl (s _ _ ne h))
    · exact .inl (.inr ⟨o, s _ _ ne h⟩)
    · exact .inr h
  · rcases h with (h | ⟨o, h⟩) | h
    · exact .inl (.inl (s _ _ ne h))
    · exact .inl (.inr ⟨o, s _ _ ne h⟩)
    · exact .inr h
/-- a matrix at p: rows of kind t2 in a row of kind t1 -/
def Mx (t1 t2 : Bool) (K : PySem.W.Frag) (H : Hp) (p : Addr) (M : List (List Int)) : Prop :=
  ∃ as : List Addr, Sq t1 K H p (as.map V.ref) ∧ as.length = M.length ∧ ∀ (i : Nat) (a : Addr) (r : List Int), as[i]? = some a → M[i]? = some r → Sq t2 K H a (r.map V.int)
theorem Mx.same {t1 t2 : Bool} {K : PySem.W.Frag} {H H' : Hp} {p : Addr} {M : List (List Int)} (s : Same H H') (h : Mx t1 t2 K H p M) : Mx t1 t2 K H' p M := by
  obtain ⟨as, h1, h2, h3⟩ := h
  exact ⟨as, Sq.same s h1, h2, fun i a r e1 e2 => Sq.same s (h3 i a r e1 e2)⟩
/-- its i-th row -/
theorem Mx.row {t1 t2 : Bool} {K : PySem.W.Frag} {H : Hp} {p : Addr} {M : List (List Int)} (h : Mx t1 t2 K H p M) : ∃ vs : List V, Sq t1 K H p vs ∧ vs.length = M.length ∧ ∀ (i : Nat) (v : V), vs[i]? = some v → ∃ (a : Addr) (r : List Int), v = .ref a ∧ M[i]? = some r ∧ Sq t2 K H a (r.map V.int) := by
  obtain ⟨as, h1, h2, h3⟩ := h
  refine ⟨as.map V.ref, h1, by rw [List.length_map]; exact h2, fun i v e => ?_⟩
  rw [List.getElem?_map] at e
  cases ea : as[i]? with
  | none => rw [ea] at e; cases e
  | some a =>
    rw [ea] at e
    cases e
    have hi : i < M.length := by
      have := (List.getElem?_eq_some_iff.mp ea).1
      omega
    exact ⟨a, M[i], rfl, List.getElem?_eq_getElem hi, h3 i a _ ea (List.getElem?_eq_getElem hi)⟩
theorem refs_of {K : PySem.W.Frag} {t2 : Bool} {H : Hp} : ∀ {ys : List V} {M : List (List Int)}, ys.length = M.length → (∀ (j : Nat) (y : V), ys[j]? = some y → ∃ (a : Addr) (r : List Int), y = .ref a ∧ M[j]? = some r ∧ Sq t2 K H a (r.map V.int)) →
    ∃ as : List Addr, ys = as.map V.ref ∧ as.length = M.length ∧ ∀ (i : Nat) (a : Addr) (r : List Int), as[i]? = some a → M[i]? = some r → Sq t2 K H a (r.map V.int)
  | [], [], _, _ => ⟨[], rfl, rfl, fun i a r e => by simp at e⟩
  | [], _ :: _, h, _ => by simp at h
  | _ :: _, [], h, _ => by simp at h
  | y :: ys, r :: M, h, k => by
    obtain ⟨as, e1, e2, e3⟩ := refs_of (ys := ys) (M := M) (by simpa using h) (fun j z e => by
      obtain ⟨a, r', h1, h2, h3⟩ := k (j + 1) z (by simpa using e)
      exact ⟨a, r', h1, by simpa using h2, h3⟩)
    obtain ⟨a, r', h1, h2, h3⟩ := k 0 y rfl
    have er : r = r' := by simpa using h2
    subst er
    subst h1 e1
    refine ⟨a :: as, rfl, by simp [e2], fun i b q e4 e5 => ?_⟩
    cases i with
    | zero =>
      cases e4
      cases e5
      exact h3
    | succ i => exact e3 i b q (by simpa using e4) (by simpa using e5)
theorem Mx.of {t1 t2 : Bool} {K : PySem.W.Frag} {H : Hp} {p : Addr} {ys : List V} {M : List (List Int)} (h : Sq t1 K H p ys) (l : ys.length = M.length) (k : ∀ (j : Nat) (y : V), ys[j]? = some y → ∃ (a : Addr) (r : List Int), y = .ref a ∧ M[j]? = some r ∧ Sq t2 K H a (r.map V.int)) : Mx t1 t2 K H p M := by
  obtain ⟨as, rfl, e2, e3⟩ := refs_of l k
  exact ⟨as, h, e2, e3⟩
theorem ys_ints {ns : List Int} : ∀ {ys : List V}, ys.length = ns.length → (∀ (j : Nat) (y : V), ys[j]? = some y → ∃ c, ns[j]? = some c ∧ y = .int c) → ys = ns.map V.int := by
  induction ns with
  | nil =>
    intro ys l _
    cases ys with
    | nil => rfl
    | cons _ _ => simp at l
  | cons n ns ih =>
    intro ys l k
    cases ys with
    | nil => simp at l
    | cons y ys =>
      obtain ⟨c, h1, h2⟩ := k 0 y rfl
      have e : n = c := by simpa using h1
      subst e h2
      rw [ih (ys := ys) (by simpa using l) (fun j z e => by
        obtain ⟨c, h1, h2⟩ := k (j + 1) z (by simpa using e)
        exact ⟨c, by simpa using h1, h2⟩)]
      rfl
/-- tuple(..) of a list or a tuple -/
def rTupOf (K : PySem.W.Frag) : List V → Hp → VK → Prop := fun xs H Q => ∃ p ys, xs = [.ref p] ∧ ((SqL K H p ys ∧ ∀ l, H l = none → Q (.ref l) (upd H l (.tup ys))) ∨ (SqT K H p ys ∧ Q (.ref p) H))
def rLenOf (K : PySem.W.Frag) : List V → Hp → VK → Prop := fun xs H Q => ∃ p ys, xs = [.ref p] ∧ (SqL K H p ys ∨ SqT K H p ys) ∧ Q (.int ys.length) H
/-- as data -/
def rowD (r : List Int) : PyData := .tuple (r.map PyData.int)
def matD (M : List (List Int)) : PyData := .tuple (M.map rowD)
theorem dp_ints {K : PySem.W.Frag} {H : Hp} : ∀ r : List Int, DpAll K H (r.map V.int) (r.map PyData.int)
  | [] => .nil
  | _ :: r => .cons (.int _) (dp_ints r)
theorem dp_rows {K : PySem.W.Frag} {H : Hp} : ∀ {as : List Addr} {M : List (List Int)}, as.length = M.length → (∀ (i : Nat) (a : Addr) (r : List Int), as[i]? = some a → M[i]? = some r → Sq true K H a (r.map V.int)) → DpAll K H (as.map V.ref) (M.map rowD)
  | [], [], _, _ => .nil
  | [], _ :: _, h, _ => by simp at h
  | _ :: _, [], h, _ => by simp at h
  | a :: as, r :: M, h, k => .cons (.tup (k 0 a r rfl rfl) (dp_ints r)) (dp_rows (by simpa using h) fun i b q e1 e2 => k (i + 1) b q (by simpa using e1) (by simpa using e2))
theorem Mx.dp {K : PySem.W.Frag} {H : Hp} {p : Addr} {M : List (List Int)} (h : Mx true true K H p M) : Dp K H (.ref p) (matD M) := by
  obtain ⟨as, h1, h2, h3⟩ := h
  exact .tup h1 (dp_rows h2 h3)
/-- all its rows have n numbers, n of them -/
def Sz (n : Nat) (M : List (List Int)) : Prop := M.length = n ∧ ∀ r ∈ M, r.length = n
theorem Sz.dok {n : Nat} {M : List (List Int)} (h : Sz n M) (hn : n ≤ 1000) : Dok 3 (matD M) := by
  refine ⟨by rw [List.length_map, h.1]; omega, fun d hd => ?_⟩
  obtain ⟨r, hr, rfl⟩ := List.mem_map.mp hd
  refine ⟨by rw [List.length_map, h.2 r hr]; omega, fun d hd => ?_⟩
  obtain ⟨c, _, rfl⟩ := List.mem_map.mp hd
  trivial
/-- a box: None, or a matrix -/
def BoxAt (K : PySem.W.Frag) (H : Hp) (v : V) : Option (List (List Int)) → Prop
  | none => v = .non
  | some M => ∃ p, v = .ref p ∧ Mx true true K H p M
def boxD : Option (List (List Int)) → PyData
  | none => .none
  | some M => matD M
theorem BoxAt.same {K : PySem.W.Frag} {H H' : Hp} {v : V} {B : Option (List (List Int))} (s : Same H H') (h : BoxAt K H v B) : BoxAt K H' v B := by
  cases B with
  | none => exact h
  | some M =>
    obtain ⟨p, e, h⟩ := h
    exact ⟨p, e, h.same s⟩
theorem BoxAt.dp {K : PySem.W.Frag} {H : Hp} {v : V} {B : Option (List (List Int))} (h : BoxAt K H v B) : Dp K H v (boxD B) := by
  cases B with
  | none =>
    obtain rfl : v = .non := h
    exact .non
  | some M =>
    obtain ⟨p, rfl, h⟩ := h
    exact h.dp
def BSz (n : Nat) (B : Option (List (List Int))) : Prop := ∀ M, B = some M → Sz n M
theorem BSz.dok {n : Nat} {B : Option (List (List Int))} (h : BSz n B) (hn : n ≤ 1000) : Dok 3 (boxD B) := by
  cases B with
  | none => trivial
  | some M => exact (h M rfl).dok hn
/-! ### comprehensions that leave what stood -/
def LcP (S : Hp → Prop) (R : Nat → V → Hp → Prop) (D : Addr) (i : Nat) (H : Hp) : Prop := S H ∧ ∃ acc : List V, H D = some (.lst acc) ∧ acc.length = i ∧ ∀ (j : Nat) (y : V), acc[j]? = some y → R j y H
theorem lcp_step {S : Hp → Prop} {R : Nat → V → Hp → Prop} {D : Addr} {i : Nat} {H H4 : Hp} {y : V} (P : LcP S R D i H) (e : ∀ o, H D = some o → H4 D = some o) (hi : i < sizeLine) (s : ∀ o, S (upd H4 D o)) (m : ∀ (j : Nat) (z : V) (o : HO), R j z H → R j z (upd H4 D o)) (r : ∀ o, R i y (upd H4 D o)) :
    ∃ acc, H4 D = some (.lst acc) ∧ acc.length < sizeLine ∧ LcP S R D (i + 1) (upd H4 D (.lst (acc ++ [y]))) := by
  obtain ⟨_, acc, h1, h2, h3⟩ := P
  refine ⟨acc, e _ h1, by omega, s _, _, upd_same, by simp [h2], fun j z ez => ?_⟩
  by_cases hj : j < i
  · rw [List.getElem?_append_left (by omega)] at ez
    exact m j z _ (h3 j z ez)
  · rw [List.getElem?_append_right (by omega)] at ez
    have ej : j = i := by
      have := (List.getElem?_eq_some_iff.mp ez).1
      simp at this
      omega
    subst ej
    rw [h2, Nat.sub_self] at ez
    have ez' : y = z := by simpa using ez
    rw [← ez']
    exact r _
/-- what the step of a comprehension that only makes new objects is to reach -/
theorem lcp_same {R : Nat → V → Hp → Prop} {D : Addr} {i : Nat} {H1 H H4 : Hp} {y : V} (P : LcP (Same H1) R D i H) (hD : H1 D = none) (s : Same H H4) (hi : i < sizeLine) (mono : ∀ (j : Nat) (z : V) (G G' : Hp), R j z G → But D G G' → R j z G') (r : R i y H4) :
    ∃ acc, H4 D = some (.lst acc) ∧ acc.length < sizeLine ∧ LcP (Same H1) R D (i + 1) (upd H4 D (.lst (acc ++ [y]))) :=
  lcp_step P (fun o e => s _ _ e) hi (fun o b u e => by rw [upd_ne (ne_of_none e hD)]; exact s _ _ (P.1 _ _ e)) (fun j z o q => mono j z _ _ q ((But.of_same s).trans (But.upd o))) fun o => mono i y _ _ r (But.upd o)
theorem lcp_start {R : Nat → V → Hp → Prop} {D : Addr} {H1 : Hp} (hD : H1 D = none) : LcP (Same H1) R D 0 (upd H1 D (.lst [])) :=
  ⟨fun b u e => by rw [upd_ne (ne_of_none e hD)]; exact e, [], upd_same, rfl, fun j y e => by simp at e⟩
/-- its numbers -/
def RInt (ns : List Int) : Nat → V → Hp → Prop := fun j y _ => ∃ c, ns[j]? = some c ∧ y = .int c
theorem RInt.mono {ns : List Int} {D : Addr} : ∀ (j : Nat) (z : V) (G G' : Hp), RInt ns j z G → But D G G' → RInt ns j z G' := fun _ _ _ _ h _ => h
/-- its rows -/
def RRow (K : PySem.W.Frag) (t : Bool) (M : List (List Int)) (D : Addr) : Nat → V → Hp → Prop := fun j y H => ∃ (a : Addr) (r : List Int), y = .ref a ∧ M[j]? = some r ∧ a ≠ D ∧ Sq t K H a (r.map V.int)
theorem RRow.mono {K : PySem.W.Frag} {t : Bool} {M : List (List Int)} {D : Addr} : ∀ (j : Nat) (z : V) (G G' : Hp), RRow K t M D j z G → But D G G' → RRow K t M D j z G' := by
  rintro j z G G' ⟨a, r, h1, h2, h3, h4⟩ b
  exact ⟨a, r, h1, h2, h3, Sq.but b h3 h4⟩
theorem lcp_ints {K : PySem.W.Frag} {S : Hp → Prop} {ns : List Int} {D : Addr} {n : Nat} {H : Hp} (P : LcP S (RInt ns) D n H) (hn : n = ns.length) : H D = some (.lst (ns.map V.int)) := by
  obtain ⟨_, acc, h1, h2, h3⟩ := P
  rw [h1, ys_ints (ns := ns) (by omega) h3]
theorem lcp_rows {K : PySem.W.Frag} {S : Hp → Prop} {t : Bool} {M : List (List Int)} {D : Addr} {n : Nat} {H : Hp} (P : LcP S (RRow K t M D) D n H) (hn : n = M.length) : Mx false t K H D M := by
  obtain ⟨_, acc, h1, h2, h3⟩ := P
  exact Mx.of (t1 := false) (SqL.of h1) (by omega) fun j y e => by
    obtain ⟨a, r, q1, q2, _, q3⟩ := h3 j y e
    exact ⟨a, r, q1, q2, q3⟩
theorem LcP.ne {S : Hp → Prop} {R : Nat → V → Hp → Prop} {D l : Addr} {i : Nat} {H : Hp} (P : LcP S R D i H) (hl : H l = none) : l ≠ D := by
  obtain ⟨_, acc, h, _⟩ := P
  exact fun z => absurd (z ▸ hl) (by rw [h]; intro z; cases z)
theorem lt_line {n : Nat} (h : n ≤ 10000000) : n < sizeLine := by rw [sizeLine_eq]; omega
/-- a comprehension without a test -/
theorem tyes {σ : L2.St} {H : Hp} {A B : Hp → Prop} (h : A H) : tYes σ H (fun b H3 => if b = true then A H3 else B H3) := by
  show if true = true then A H else B H
  rw [if_pos rfl]
  exact h
theorem get_int {r : List Int} {j : Nat} {v : V} (e : (r.map V.int)[j]? = some v) : ∃ k, r[j]? = some k ∧ v = .int k := by
  rw [List.getElem?_map] at e
  cases h : r[j]? with
  | none => rw [h] at e; cases e
  | some k => rw [h] at e; cases e; exact ⟨k, rfl, rfl⟩
theorem Sz.get {n i : Nat} {M : List (List Int)} {r : List Int} (h : Sz n M) (e : M[i]? = some r) : r.length = n := h.2 r (List.mem_of_getElem? e)
theorem zw_get {α β γ : Type} {f : α → β → γ} {xs : List α} {ys : List β} {i : Nat} {x : α} {y : β} (e1 : xs[i]? = some x) (e2 : ys[i]? = some y) : (List.zipWith f xs ys)[i]? = some (f x y) := by
  rw [List.getElem?_zipWith, e1, e2]
theorem lcp_put {R : Nat → V → Hp → Prop} {D : Addr} {i : Nat} {H1 H H4 : Hp} {y : V} {acc : List V} (P : LcP (Same H1) R D i H) (e : H D = some (.lst acc)) (hD : H1 D = none) (s : Same H H4) (hi : i < sizeLine) (mono : ∀ (j : Nat) (z : V) (G G' : Hp), R j z G → But D G G' → R j z G') (r : R i y H4) :
    LcP (Same H1) R D (i + 1) (upd H4 D (.lst (acc ++ [y]))) := by
  obtain ⟨acc', h1, _, h3⟩ := lcp_same P hD s hi mono r
  have := s _ _ e
  rw [this] at h1
  cases h1
  exact h3
/-- (0,) and the numbers of a row -/
theorem cat0 {K : PySem.W.Frag} {H : Hp} {t a : Addr} {r : List Int} {Q : VK} (h1 : SqT K H t [.int 0]) (h2 : SqT K H a (r.map V.int)) (hz : r.length ≤ 1000) (q : ∀ z H', Same H H' → SqT K H' z ((0 :: r).map V.int) → Q (.ref z) H') : rCatT K (.ref t) (.ref a) H Q := by
  refine ⟨t, a, _, _, rfl, rfl, h1, h2, by simp, ?_, fun e => ?_, fun ne p hp => ?_⟩
  · rw [List.length_map, sizeLine_eq]
    simp
    omega
  · have e' : r = [] := List.map_eq_nil_iff.mp e
    subst e'
    exact q t H (Same.refl H) h1
  · exact q p _ (Same.new hp _) (SqT.of upd_same)
theorem atI_row {r : List Int} {i : Nat} (h : i < r.length) : atI (r.map V.int) (0 + (i : Int)) = some (.int (r.getD i 0)) := by
  rw [Int.zero_add]
  refine atI_nat ?_
  rw [List.getElem?_map, List.getElem?_eq_getElem h]
  simp [List.getD, h]
theorem LcP.acc {S : Hp → Prop} {R : Nat → V → Hp → Prop} {D : Addr} {i : Nat} {H : Hp} (P : LcP S R D i H) : ∃ acc : List V, H D = some (.lst acc) ∧ acc.length = i := by
  obtain ⟨_, acc, h1, h2, _⟩ := P
  exact ⟨acc, h1, h2⟩
theorem map_get {α β : Type} {f : α → β} {xs : List α} {i : Nat} {x : α} (e : xs[i]? = some x) : (xs.map f)[i]? = some (f x) := by rw [List.getElem?_map, e]; rfl
/-! ### entries of a matrix -/
def getM (M : List (List Int)) (i j : Nat) : Int := (M.getD i []).getD j 0
theorem getM_of {M : List (List Int)} {i j : Nat} {r : List Int} {k : Int} (h1 : M[i]? = some r) (h2 : r[j]? = some k) : getM M i j = k := by
  simp [getM, List.getD_eq_getElem?_getD, h1, h2]
theorem Sz.at {n i : Nat} {M : List (List Int)} (h : Sz n M) (hi : i < n) : ∃ r, M[i]? = some r ∧ r.length = n := by
  have hi' : i < M.length := by rw [h.1]; exact hi
  exact ⟨M[i], List.getElem?_eq_getElem hi', h.2 _ (List.getElem_mem hi')⟩
theorem Sz.at2 {n i j : Nat} {M : List (List Int)} (h : Sz n M) (hi : i < n) (hj : j < n) : ∃ r, M[i]? = some r ∧ r.length = n ∧ r[j]? = some (getM M i j) := by
  obtain ⟨r, e, l⟩ := h.at hi
  have hj' : j < r.length := by omega
  refine ⟨r, e, l, ?_⟩
  rw [getM_of e (List.getElem?_eq_getElem hj')]
  exact List.getElem?_eq_getElem hj'
theorem split_lt {n : Nat} {c : Nat → Prop} : (∀ i < n + 1, c i) ↔ (∀ i < n, c i) ∧ c n := by
  constructor
  · exact fun h => ⟨fun i hi => h i (by omega), h n (by omega)⟩
  · rintro ⟨h1, h2⟩ i hi
    by_cases e : i = n
    · rw [e]; exact h2
    · exact h1 i (by omega)
theorem ixN_int {n : Nat} {c : Int} (h0 : 0 ≤ c) (h : c < (n : Int)) : ixN n c = some c.toNat := by
  unfold ixN
  rw [if_pos h0, if_pos h]
/-! ### closed matrices, and the best one below a matrix -/
def mkR (n : Nat) (f : Nat → Int) : List Int := (List.range n).map f
def mkM (n : Nat) (f : Nat → Nat → Int) : List (List Int) := (List.range n).map fun i => mkR n (f i)
theorem range_at {n i : Nat} (h : i < n) : (List.range n)[i]? = some i := by simp [h]
theorem mkR_at {n i : Nat} {f : Nat → Int} (h : i < n) : (mkR n f)[i]? = some (f i) := map_get (range_at h)
theorem mkM_at {n i : Nat} {f : Nat → Nat → Int} (h : i < n) : (mkM n f)[i]? = some (mkR n (f i)) := map_get (range_at h)
theorem mkR_len {n : Nat} {f : Nat → Int} : (mkR n f).length = n := by simp [mkR]
theorem mkM_sz {n : Nat} {f : Nat → Nat → Int} : Sz n (mkM n f) := by
  refine ⟨by simp [mkM], fun r hr => ?_⟩
  obtain ⟨i, _, rfl⟩ := List.mem_map.mp hr
  exact mkR_len
theorem mkM_get {n i j : Nat} {f : Nat → Nat → Int} (hi : i < n) (hj : j < n) : getM (mkM n f) i j = f i j := getM_of (mkM_at hi) (mkR_at hj)
theorem sz_ext {n : Nat} {M N : List (List Int)} (h1 : Sz n M) (h2 : Sz n N) (e : ∀ i < n, ∀ j < n, getM M i j = getM N i j) : M = N := by
  refine List.ext_getElem? fun i => ?_
  by_cases hi : i < n
  · obtain ⟨r, e1, l1⟩ := h1.at hi
    obtain ⟨r', e2, l2⟩ := h2.at hi
    rw [e1, e2]
    congr 1
    refine List.ext_getElem? fun j => ?_
    by_cases hj : j < n
    · have a1 : r[j]? = some (r[j]'(by omega)) := List.getElem?_eq_getElem _
      have a2 : r'[j]? = some (r'[j]'(by omega)) := List.getElem?_eq_getElem _
      rw [a1, a2, ← getM_of e1 a1, ← getM_of e2 a2, e i hi j hj]
    · rw [List.getElem?_eq_none (by omega), List.getElem?_eq_none (by omega)]
  · rw [List.getElem?_eq_none (by rw [h1.1]; omega), List.getElem?_eq_none (by rw [h2.1]; omega)]
theorem mkM_congr {n : Nat} {f g : Nat → Nat → Int} (h : ∀ i < n, ∀ j < n, f i j = g i j) : mkM n f = mkM n g := sz_ext mkM_sz mkM_sz fun i hi j hj => by rw [mkM_get hi hj, mkM_get hi hj, h i hi j hj]
theorem mkM_self {n : Nat} {M : List (List Int)} (h : Sz n M) : mkM n (getM M) = M := sz_ext mkM_sz h fun i hi j hj => mkM_get hi hj
structure Clo (n : Nat) (C : Nat → Nat → Int) : Prop where
  d : ∀ i < n, C i i = 0
  t : ∀ i < n, ∀ j < n, ∀ k < n, C i j ≤ C i k + C k j
def LeF (n : Nat) (C D : Nat → Nat → Int) : Prop := ∀ i < n, ∀ j < n, C i j ≤ D i j
theorem LeF.trans {n : Nat} {A B C : Nat → Nat → Int} (h : LeF n A B) (k : LeF n B C) : LeF n A C := fun i hi j hj => Int.le_trans (h i hi j hj) (k i hi j hj)
theorem LeF.refl {n : Nat} (A : Nat → Nat → Int) : LeF n A A := fun _ _ _ _ => Int.le_refl _
/-- the greatest closed matrix below D; none if there is no closed one below D -/
def Best (n : Nat) (D : Nat → Nat → Int) : Option (List (List Int)) → Prop
  | none => ∀ C, Clo n C → ¬ LeF n C D
  | some R => Sz n R ∧ Clo n (getM R) ∧ LeF n (getM R) D ∧ ∀ C, Clo n C → LeF n C D → LeF n C (getM R)
theorem Best.sz {n : Nat} {D : Nat → Nat → Int} {B : Option (List (List Int))} (h : Best n D B) : BSz n B := by
  intro M e
  subst e
  exact h.1
theorem Best.uniq {n : Nat} {D : Nat → Nat → Int} : ∀ {B B' : Option (List (List Int))}, Best n D B → Best n D B' → B = B'
  | none, none, _, _ => rfl
  | none, some R, h, k => absurd k.2.2.1 (h _ k.2.1)
  | some R, none, h, k => absurd h.2.2.1 (k _ h.2.1)
  | some R, some R', h, k => by
    have e : R = R' := sz_ext h.1 k.1 fun i hi j hj => by
      have h1 := k.2.2.2 _ h.2.1 h.2.2.1 i hi j hj
      have h2 := h.2.2.2 _ k.2.1 k.2.2.1 i hi j hj
      omega
    rw [e]
/-- only what is closed and below counts -/
theorem Best.congr {n : Nat} {D E : Nat → Nat → Int} (h : ∀ C, Clo n C → (LeF n C D ↔ LeF n C E)) : ∀ {B : Option (List (List Int))}, Best n D B → Best n E B
  | none, k => fun C hC hE => k C hC ((h C hC).mpr hE)
  | some R, k => ⟨k.1, k.2.1, (h _ k.2.1).mp k.2.2.1, fun C hC hE => k.2.2.2 C hC ((h C hC).mpr hE)⟩
theorem Best.self {n : Nat} {R : List (List Int)} (z : Sz n R) (c : Clo n (getM R)) : Best n (getM R) (some R) := ⟨z, c, LeF.refl _, fun _ _ h => h⟩
/-! ### shortening through each column in turn -/
def fw0 (n : Nat) (D : Nat → Nat → Int) : Nat → Nat → Int := fun i j => if i = j then min (D i j) 0 else D i j
def fwS (k : Nat) (D : Nat → Nat → Int) : Nat → Nat → Int := fun i j => min (D i j) (D i k + D k j)
/-- what holds ahead of the turn with column k -/
structure Fw (n : Nat) (D0 : Nat → Nat → Int) (k : Nat) (D : Nat → Nat → Int) : Prop where
  d : ∀ i < n, D i i ≤ 0
  le : LeF n D D0
  gr : ∀ C, Clo n C → LeF n C D0 → LeF n C D
  t : (∀ i < n, 0 ≤ D i i) → ∀ m < k, ∀ i < n, ∀ j < n, D i j ≤ D i m + D m j
theorem Fw.start {n : Nat} (D0 : Nat → Nat → Int) : Fw n D0 0 (fw0 n D0) where
  d := fun i hi => by
    unfold fw0
    rw [if_pos rfl]
    omega
  le := fun i hi j hj => by
    unfold fw0
    split <;> omega
  gr := fun C hC h i hi j hj => by
    unfold fw0
    have a := h i hi j hj
    split
    · rename_i e
      subst e
      have b := hC.d i hi
      omega
    · exact a
  t := fun _ m hm => by omega
theorem Fw.step {n k : Nat} {D0 D : Nat → Nat → Int} (h : Fw n D0 k D) (hk : k < n) (pos : ∀ i < n, 0 ≤ D i i) : Fw n D0 (k + 1) (fwS k D) where
  d := fun i hi => by
    have a := h.d i hi
    unfold fwS
    omega
  le := fun i hi j hj => by
    have a := h.le i hi j hj
    unfold fwS
    omega
  gr := fun C hC hl i hi j hj => by
    have a := h.gr C hC hl i hi j hj
    have b := h.gr C hC hl i hi k hk
    have c := h.gr C hC hl k hk j hj
    have e := hC.t i hi j hj k hk
    unfold fwS
    omega
  t := fun _ m hm i hi j hj => by
    have T := h.t pos
    have pk := pos k hk
    unfold fwS
    by_cases e : m = k
    · subst e
      omega
    · have hmk : m < k := by omega
      have mn : m < n := by omega
      have a1 := T m hmk i hi j hj
      have a2 := T m hmk k hk j hj
      have a3 := T m hmk i hi k hk
      have a4 := T m hmk k hk k hk
      omega
theorem Fw.done {n : Nat} {D0 D : Nat → Nat → Int} (h : Fw n D0 n D) (pos : ∀ i < n, 0 ≤ D i i) : Best n D0 (some (mkM n D)) := by
  have c : Clo n (getM (mkM n D)) := ⟨fun i hi => by
    rw [mkM_get hi hi]
    have := pos i hi
    have := h.d i hi
    omega, fun i hi j hj k hk => by
    rw [mkM_get hi hj, mkM_get hi hk, mkM_get hk hj]
    exact h.t pos k hk i hi j hj⟩
  refine ⟨mkM_sz, c, fun i hi j hj => ?_, fun C hC hl i hi j hj => ?_⟩
  · rw [mkM_get hi hj]
    exact h.le i hi j hj
  · rw [mkM_get hi hj]
    exact h.gr C hC hl i hi j hj
theorem Fw.bad {n k i : Nat} {D0 D : Nat → Nat → Int} (h : Fw n D0 k D) (hi : i < n) (neg : D i i < 0) : Best n D0 none := fun C hC hl => by
  have a := h.gr C hC hl i hi i hi
  have b := hC.d i hi
  omega
theorem Fw.congr {n k : Nat} {D0 D E : Nat → Nat → Int} (h : Fw n D0 k D) (hk : k ≤ n) (e : ∀ i < n, ∀ j < n, D i j = E i j) : Fw n D0 k E where
  d := fun i hi => by rw [← e i hi i hi]; exact h.d i hi
  le := fun i hi j hj => by rw [← e i hi j hj]; exact h.le i hi j hj
  gr := fun C hC hl i hi j hj => by rw [← e i hi j hj]; exact h.gr C hC hl i hi j hj
  t := fun pos m hm i hi j hj => by
    have mn : m < n := by omega
    rw [← e i hi j hj, ← e i hi m mn, ← e m mn j hj]
    exact h.t (fun i hi => by rw [e i hi i hi]; exact pos i hi) m hm i hi j hj
/-! ### close -/
theorem bb_any : bootBuiltins "any" = some (.builtin "any") := by decide +kernel
theorem bb_all : bootBuiltins "all" = some (.builtin "all") := by decide +kernel
def spFrozen (K : PySem.W.Frag) : Sp := fun vs H Q _ => ∃ (p : Addr) (M : List (List Int)), vs = [.ref p] ∧ Mx false false K H p M ∧ M.length ≤ 1000 ∧ ∀ q H', Same H H' → Mx true true K H' q M → Q (.ref q) H'
def spContra (K : PySem.W.Frag) : Sp := fun vs H Q _ => ∃ (p : Addr) (M : List (List Int)) (n : Nat), vs = [.ref p] ∧ Mx false false K H p M ∧ Sz n M ∧ n ≤ 900 ∧ ∀ b H', Same H H' → (b = true ↔ ∃ i < n, getM M i i < 0) → Q (.bl b) H'
def spShort (K : PySem.W.Frag) : Sp := fun vs H Q _ => ∃ (p : Addr) (M : List (List Int)) (n k : Nat), vs = [.ref p, .int k] ∧ Mx false false K H p M ∧ Sz n M ∧ n ≤ 900 ∧ k < n ∧ ∀ q H', Same H H' → Mx false false K H' q (mkM n (fwS k (getM M))) → Q (.ref q) H'
def spClose (K : PySem.W.Frag) : Sp := fun vs H Q _ => ∃ (t1 t2 : Bool) (p : Addr) (M : List (List Int)) (n : Nat), vs = [.ref p] ∧ Mx t1 t2 K H p M ∧ Sz n M ∧ n ≤ 900 ∧ ∀ v H' B, Same H H' → BoxAt K H' v B → Best n (getM M) B → Q v H'
theorem Mx.getT {t1 t2 : Bool} {K : PySem.W.Frag} {H : Hp} {p : Addr} {M : List (List Int)} {i : Nat} {r : List Int} (h : Mx t1 t2 K H p M) (e : M[i]? = some r) : ∃ (vs : List V) (a : Addr), Sq t1 K H p vs ∧ atI vs (i : Int) = some (.ref a) ∧ Sq t2 K H a (r.map V.int) := by
  obtain ⟨as, h1, h2, h3⟩ := h
  have hi : i < M.length := (List.getElem?_eq_some_iff.mp e).1
  have ea : as[i]? = some (as[i]'(by omega)) := List.getElem?_eq_getElem _
  exact ⟨_, _, h1, atI_nat (map_get ea), h3 i _ r ea e⟩
/-- a list of truth values at D, k of them; one holds if and only if A -/
def AnyP (H1 : Hp) (D : Addr) (k : Nat) (A : Prop) (H : Hp) : Prop := Same H1 H ∧ ∃ bs : List Bool, H D = some (.lst (bs.map V.bl)) ∧ bs.length = k ∧ (bs.any id = true ↔ A)
theorem AnyP.start {H1 : Hp} {D : Addr} {A : Prop} (hD : H1 D = none) (a : ¬ A) : AnyP H1 D 0 A (upd H1 D (.lst [])) :=
  ⟨Same.new hD _, [], upd_same, rfl, ⟨fun z => by simp at z, fun z => absurd z a⟩⟩
theorem AnyP.imp {H1 H : Hp} {D : Addr} {k k' : Nat} {A A' : Prop} (h : AnyP H1 D k A H) (ek : k = k') (e : A ↔ A') : AnyP H1 D k' A' H := by
  obtain ⟨s, bs, h1, h2, h3⟩ := h
  exact ⟨s, bs, h1, by omega, h3.trans e⟩
theorem AnyP.push {H1 H H4 : Hp} {D : Addr} {k : Nat} {A : Prop} {b : Bool} (h : AnyP H1 D k A H) (hD : H1 D = none) (s : Same H H4) (hk : k < sizeLine) :
    ∃ acc, H4 D = some (.lst acc) ∧ acc.length < sizeLine ∧ AnyP H1 D (k + 1) (A ∨ b = true) (upd H4 D (.lst (acc ++ [.bl b]))) := by
  obtain ⟨s1, bs, h1, h2, h3⟩ := h
  refine ⟨_, s _ _ h1, by rw [List.length_map]; omega, fun c u e => by rw [upd_ne (ne_of_none e hD)]; exact s _ _ (s1 _ _ e), bs ++ [b], by rw [List.map_append]; exact upd_same, by simp [h2], ?_⟩
  rw [List.any_append, Bool.or_eq_true, h3]
  simp
theorem ex_lt {n : Nat} {c : Nat → Prop} : (∃ i < n + 1, c i) ↔ (∃ i < n, c i) ∨ c n := by
  constructor
  · rintro ⟨i, hi, h⟩
    by_cases e : i = n
    · exact .inr (e ▸ h)
    · exact .inl ⟨i, by omega, h⟩
  · rintro (⟨i, hi, h⟩ | h)
    · exact ⟨i, by omega, h⟩
    · exact ⟨n, by omega, h⟩
section
variable {P : Program} {w : World} {K : PySem.W.Frag} {mg : Str → Option Value} {base : Heap}
theorem ok_frozen (T : Txt w K mg) : FnOk P w K mg base CX0 1 T.a_frozen T.d_frozen p_frozen (spFrozen K) := by
  refine T.F_frozen.ok sc_frozen (fun vs H Q E h => ?_) (fun cdv A outer s H vs Q E hr h => ?_)
  · obtain ⟨p, M, rfl, _⟩ := h
    rfl
  obtain ⟨p, M, rfl, hM, hn, q⟩ := h
  refine ⟨_, (pss_one (ps_ret (pe_callTy call_tuple_of rfl T.z_tuple bt_tuple (pa_cons (pe_lc (own := [("row", 1)]) (g := gName 1) (tt := tYes) rfl sc_frozen.nd (pi_list (pv 0)) (blkOk_by (own := [("row", 1)]) (N := n_frozen) (sc := defScope s_frozen) (by decide +kernel)) (fun _ _ _ _ _ => (pg_name (i := 1) sc_frozen.nd rfl (Or.inl rfl))) (fun _ _ _ _ _ => pts_nil) (fun _ _ _ _ _ => (pe_callTy (show CallR _ _ (rTupOf K) from call_tuple_of) rfl T.z_tuple bt_tuple (pa_cons (pv 1) pa_nil)))) pa_nil)))), ?_⟩
  obtain ⟨vs, hv, hl, hrow⟩ := hM.row
  refine ⟨_, rfl, p, rfl, ⟨vs, hv⟩, fun D hD => ?_⟩
  refine lc_it (walk_list (xs := vs)) (LcP (Same H) (RRow K true M D) D) (lcp_start hD) (fun i G _ P => P.1.seq hv) ?_ ?_
  · rintro i x G G' hi P ⟨rfl, ex⟩
    obtain ⟨a, r, rfl, er, ha⟩ := hrow i x ex
    refine ⟨rfl, tyes ?_⟩
    refine ⟨_, rfl, a, _, rfl, .inl ⟨P.1.seq ha, fun l hl => ?_⟩⟩
    exact lcp_same P hD (Same.new hl _) (lt_line (by omega)) RRow.mono ⟨l, r, rfl, er, P.ne hl, Sq.upd_sameT⟩
  · intro G P
    obtain ⟨as, h1, h2, h3⟩ := lcp_rows P hl
    refine ⟨D, _, rfl, .inl ⟨h1, fun l hl => ?_⟩⟩
    exact q l _ (P.1.trans (Same.new hl _)) ⟨as, Sq.upd_sameT, h2, fun i a r e1 e2 => Sq.same (Same.new hl _) (h3 i a r e1 e2)⟩
theorem ok_has_contradiction (T : Txt w K mg) : FnOk P w K mg base CX0 1 T.a_has_contradiction T.d_has_contradiction p_has_contradiction (spContra K) := by
  refine T.F_has_contradiction.ok sc_has_contradiction (fun vs H Q E h => ?_) (fun cdv A outer s H vs Q E hr h => ?_)
  · obtain ⟨p, M, n, rfl, _⟩ := h
    rfl
  obtain ⟨p, M, n, rfl, hM, sM, hn, q⟩ := h
  refine ⟨_, (pss_one (ps_ret (pe_callB (cr_any rfl) rfl T.z_any bb_any (pa_cons (pe_lc (own := [("at", 1), ("row", 2)]) (g := gTup K 2 (gCons (gName 1) (gCons (gName 2) gNil))) (tt := tYes) rfl sc_has_contradiction.nd (EnT.pi_enumG (by rfl) T.z_enumerate (pa_cons (pv 0) pa_nil)) (blkOk_by (own := [("at", 1), ("row", 2)]) (N := n_has_contradiction) (sc := defScope s_has_contradiction) (by decide +kernel)) (fun _ _ _ _ _ => (pg_tup rfl (pgs_cons (pg_name (i := 1) sc_has_contradiction.nd rfl (Or.inl rfl)) (pgs_cons (pg_name (i := 2) sc_has_contradiction.nd rfl (Or.inl rfl)) pgs_nil)))) (fun _ _ _ _ _ => pts_nil) (fun _ _ _ _ _ => (pe_cmpR op_lt (pe_ix (show IxR _ (rIxL K) from ix_list) (pv 2) (pv 1) (fun _ _ => rfl)) pe_int (nomark _)))) pa_nil)))), ?_⟩
  obtain ⟨vs, hv, hl, hrow⟩ := hM.row
  have lv : vs.length = n := by rw [hl, sM.1]
  refine ⟨_, rfl, false, p, _, rfl, hv, fun D hD => ?_⟩
  refine lc_it EnT.walk_enumG (fun i G => AnyP H D i (∃ i' < i, getM M i' i' < 0) G) (AnyP.start hD (by rintro ⟨i, h, _⟩; omega)) (fun i G _ P => Sq.same P.1 hv) ?_ ?_
  · rintro i x G G' hi P ⟨t, u, v, rfl, ht, rfl, eu, ev⟩
    cases eu
    obtain ⟨a, r, rfl, er, ha⟩ := hrow i v ev
    have lr := sM.get er
    have e0 : r[i]? = some (r[i]'(by omega)) := List.getElem?_eq_getElem _
    refine ⟨t, _, rfl, SqT.of upd_same, rfl, _, _, rfl, _, _, rfl, rfl, ?_⟩
    refine ⟨rfl, tyes ?_⟩
    refine ⟨_, rfl, _, rfl, a, _, _, _, rfl, rfl, (P.1.trans (Same.new ht _)).seq ha, atI_nat (map_get e0), _, _, rfl, rfl, ?_⟩
    obtain ⟨acc, z1, z2, z3⟩ := P.push (b := decide (r[i]'(by omega) < 0)) hD (Same.new ht (.tup [.int i, .ref a])) (lt_line (by omega))
    refine ⟨acc, z1, z2, z3.imp rfl ?_⟩
    rw [ex_lt, getM_of er e0, decide_eq_true_eq]
  · rintro G ⟨sG, bs, h1, h2, h3⟩
    rw [lv] at h3
    exact ⟨D, bs, rfl, SqL.of h1, q _ _ sG h3⟩
theorem ok_shortened (T : Txt w K mg) : FnOk P w K mg base CX0 1 T.a_shortened T.d_shortened p_shortened (spShort K) := by
  refine T.F_shortened.ok sc_shortened (fun vs H Q E h => ?_) (fun cdv A outer s H vs Q E hr h => ?_)
  · obtain ⟨p, M, n, k, rfl, _⟩ := h
    rfl
  obtain ⟨p, M, n, k, rfl, hM, sM, hn, hk, q⟩ := h
  refine ⟨_, (pss_cons (ps_set (i := 2) sc_shortened.nd rfl (Or.inr rfl) (pe_ix ix_list (pv 0) (pv 1) (fun _ _ => rfl)))
      (pss_one (ps_ret (pe_lc (own := [("row", 3)]) (g := gName 3) (tt := tYes) rfl sc_shortened.nd (pi_list (pv 0)) (blkOk_by (own := [("row", 3)]) (N := n_shortened) (sc := defScope s_shortened) (by decide +kernel)) (fun _ _ _ _ _ => (pg_name (i := 3) sc_shortened.nd rfl (Or.inr rfl))) (fun _ _ _ _ _ => pts_nil) (fun _ _ _ _ _ => (pe_lc (own := [("most", 4), ("second", 5)]) (g := gTup K 2 (gCons (gName 4) (gCons (gName 5) gNil))) (tt := tYes) rfl sc_shortened.nd (show PI _ _ _ (ZG.iZipG K _) from (ZG.pi_zipG (by rfl) T.z_zip (pa_cons (pv 3) (pa_cons (pv 2) pa_nil)))) (blkOk_by (own := [("most", 4), ("second", 5)]) (N := n_shortened) (sc := relS _ (defScope s_shortened)) (by decide +kernel)) (fun _ _ _ _ _ => (pg_tup rfl (pgs_cons (pg_name (i := 4) sc_shortened.nd rfl (Or.inl rfl)) (pgs_cons (pg_name (i := 5) sc_shortened.nd rfl (Or.inl rfl)) pgs_nil)))) (fun _ _ _ _ _ => pts_nil) (fun _ _ _ _ _ => (pe_callB (call_min2 rfl) rfl T.z_min bb_min (pa_cons (pv 4) (pa_cons (pe_op op_add (pe_ix (show IxR _ (rIxL K) from ix_list) (pv 3) (pv 1) (fun _ _ => rfl)) (pv 5)) pa_nil)))))))))), ?_⟩
  obtain ⟨rk, ek, lk⟩ := sM.at hk
  obtain ⟨vs0, ak, g1, g2, g3⟩ := hM.getT ek
  obtain ⟨vs, hv, hl, hrow⟩ := hM.row
  have lv : vs.length = n := by rw [hl, sM.1]
  refine ⟨_, rfl, _, rfl, p, _, _, _, rfl, rfl, g1, g2, ?_⟩
  refine ⟨_, rfl, p, rfl, ⟨vs, hv⟩, fun D hD => ?_⟩
  refine lc_it (walk_list (xs := vs)) (LcP (Same H) (RRow K false (mkM n (fwS k (getM M))) D) D) (lcp_start hD) (fun i G _ P => P.1.seq hv) ?_ ?_
  · rintro i x G G' hi P ⟨rfl, ex⟩
    rw [lv] at hi
    obtain ⟨a, r, rfl, er, ha⟩ := hrow i x ex
    have lr := sM.get er
    refine ⟨rfl, tyes ?_⟩
    have ha2 := Sq.same P.1 ha
    have hk2 := Sq.same P.1 g3
    refine ⟨_, rfl, _, rfl, false, false, a, ak, _, _, rfl, ha2, hk2, fun D2 hD2 => ?_⟩
    refine lc_it (walk_zipG (n := n) (by rw [List.length_map, List.length_map]; omega)) (LcP (Same G') (RInt (mkR n (fwS k (getM M) i))) D2) (lcp_start hD2) (fun i F _ P2 => ⟨Sq.same P2.1 ha2, Sq.same P2.1 hk2⟩) ?_ ?_
    · rintro j y F F' hj P2 ⟨t2, c1, c2, rfl, ht2, rfl, e1, e2⟩
      obtain ⟨k1, f1, rfl⟩ := get_int e1
      obtain ⟨k2, f2, rfl⟩ := get_int e2
      have e3 : r[k]? = some (r[k]'(by omega)) := List.getElem?_eq_getElem _
      refine ⟨t2, _, rfl, SqT.of upd_same, rfl, _, _, rfl, _, _, rfl, rfl, ?_⟩
      refine ⟨rfl, tyes ?_⟩
      refine ⟨_, rfl, _, rfl, _, rfl, a, _, _, _, rfl, rfl, (P2.1.trans (Same.new ht2 _)).seq ha2, atI_nat (map_get e3), _, rfl, _, _, rfl, rfl, _, _, rfl, ?_⟩
      refine lcp_same P2 hD2 (Same.new ht2 _) (lt_line (by omega)) RInt.mono ⟨_, mkR_at hj, ?_⟩
      unfold fwS
      rw [getM_of er f1, getM_of er e3, getM_of ek f2]
      congr 1
      split <;> omega
    · intro F P2
      have e := lcp_ints (K := K) P2 mkR_len.symm
      exact lcp_same P hD P2.1 (lt_line (by omega)) RRow.mono ⟨D2, _, rfl, mkM_at hi, P.ne hD2, SqL.of e⟩
  · intro G P
    exact q D G P.1 (lcp_rows P (by rw [lv, mkM_sz.1]))
theorem ok_close (T : Txt w K mg) : FnOk P w K mg base CX0 2 T.a_close T.d_close p_close (spClose K) := by
  have g_frozen := ok_frozen (P := P) (w := w) (base := base) T
  have g_has_contradiction := ok_has_contradiction (P := P) (w := w) (base := base) T
  have g_shortened := ok_shortened (P := P) (w := w) (base := base) T
  refine T.F_close.ok sc_close (fun vs H Q E h => ?_) (fun cdv A outer s H vs Q E hr h => ?_)
  · obtain ⟨t1, t2, p, M, n, rfl, _⟩ := h
    rfl
  obtain ⟨t1, t2, p, M, n, rfl, hM, sM, hn, q⟩ := h
  refine ⟨_, (pss_cons (ps_setLc (i := 1) (own := [("i", 2), ("row", 3)]) (g := gTup K 2 (gCons (gName 2) (gCons (gName 3) gNil))) (tt := tYes) rfl sc_close.nd rfl rfl (sw_true rfl rfl rfl (by decide +kernel)) (EnT.pi_enumG (by rfl) T.z_enumerate (pa_cons (pv 0) pa_nil)) (blkOk_by (own := [("i", 2), ("row", 3)]) (N := n_close) (sc := defScope s_close) (by decide +kernel)) (fun _ _ _ _ _ => (pg_tup rfl (pgs_cons (pg_name (i := 2) sc_close.nd rfl (Or.inr rfl)) (pgs_cons (pg_name (i := 3) sc_close.nd rfl (Or.inl rfl)) pgs_nil)))) (fun _ _ _ _ _ => pts_nil) (fun _ _ _ _ _ => (pe_lc (own := [("j", 4), ("most", 5)]) (g := gTup K 2 (gCons (gName 4) (gCons (gName 5) gNil))) (tt := tYes) rfl sc_close.nd (show PI _ _ _ (EnT.iEnumG K _) from (EnT.pi_enumG (by rfl) T.z_enumerate (pa_cons (pv 3) pa_nil))) (blkOk_by (own := [("j", 4), ("most", 5)]) (N := n_close) (sc := relS _ (defScope s_close)) (by decide +kernel)) (fun _ _ _ _ _ => (pg_tup rfl (pgs_cons (pg_name (i := 4) sc_close.nd rfl (Or.inl rfl)) (pgs_cons (pg_name (i := 5) sc_close.nd rfl (Or.inl rfl)) pgs_nil)))) (fun _ _ _ _ _ => pts_nil) (fun _ _ _ _ _ => (pe_ifExp (pt_cmpR op_eq (pv 2) (pv 4) (nomark _)) (pe_callB (call_min2 rfl) rfl T.z_min bb_min (pa_cons (pv 5) (pa_cons pe_int pa_nil))) (pv 5))))))
      (pss_cons (ps_for PassesOwn.never rfl (pi_range1 rfl T.z_range (pa_cons (pe_callB call_len_seq rfl T.z_len PySem.boot_len (pa_cons (pv 1) pa_nil)) pa_nil)) (pg_name (i := 6) sc_close.nd rfl (Or.inl rfl))
        (pss_cons (ps_if (pt_val (pe_call g_has_contradiction (hr.mono (by first | decide | omega)) rfl T.m_has_contradiction T.F_has_contradiction.kp T.b_has_contradiction .nil pass0 (pa_cons (pv 1) pa_nil))) (pss_one (ps_ret pe_non)) pss_nil)
      (pss_one (ps_set (i := 1) sc_close.nd rfl (Or.inl rfl) (pe_call g_shortened (hr.mono (by first | decide | omega)) rfl T.m_shortened T.F_shortened.kp T.b_shortened .nil pass0 (pa_cons (pv 1) (pa_cons (pv 6) pa_nil)))))))
      (pss_one (ps_ret (pe_ifExp (pt_val (pe_call g_has_contradiction (hr.mono (by first | decide | omega)) rfl T.m_has_contradiction T.F_has_contradiction.kp T.b_has_contradiction .nil pass0 (pa_cons (pv 1) pa_nil))) pe_non (pe_call g_frozen (hr.mono (by first | decide | omega)) rfl T.m_frozen T.F_frozen.kp T.b_frozen .nil pass0 (pa_cons (pv 1) pa_nil))))))), ?_⟩
  obtain ⟨vs, hv, hl, hrow⟩ := hM.row
  have lv : vs.length = n := by rw [hl, sM.1]
  refine ⟨_, rfl, t1, p, _, rfl, hv, fun D hD => ?_⟩
  refine lc_it EnT.walk_enumG (LcP (Same H) (RRow K false (mkM n (fw0 n (getM M))) D) D) (lcp_start hD) (fun i G _ P => Sq.same P.1 hv) ?_ ?_
  · rintro i x G G' hi P ⟨t, u, v, rfl, ht, rfl, eu, ev⟩
    cases eu
    rw [lv] at hi
    obtain ⟨a, r, rfl, er, ha⟩ := hrow i v ev
    have lr := sM.get er
    have s1 : Same G (upd G t (.tup [.int i, .ref a])) := Same.new ht _
    refine ⟨t, _, rfl, SqT.of upd_same, rfl, _, _, rfl, _, _, rfl, rfl, ?_⟩
    refine ⟨rfl, tyes ?_⟩
    have ha2 := Sq.same (P.1.trans s1) ha
    refine ⟨_, rfl, t2, a, _, rfl, ha2, fun D2 hD2 => ?_⟩
    refine lc_it EnT.walk_enumG (LcP (Same _) (RInt (mkR n (fw0 n (getM M) i))) D2) (lcp_start hD2) (fun i F _ P2 => Sq.same P2.1 ha2) ?_ ?_
    · rintro j y F F' hj P2 ⟨t3, c1, c2, rfl, ht3, rfl, e1, e2⟩
      cases e1
      obtain ⟨k2, f2, rfl⟩ := get_int e2
      rw [List.length_map, lr] at hj
      refine ⟨t3, _, rfl, SqT.of upd_same, rfl, _, _, rfl, _, _, rfl, rfl, ?_⟩
      refine ⟨rfl, tyes ?_⟩
      refine ⟨_, rfl, _, rfl, rfl, _, rfl, ite2 (fun h => ?_) (fun h => ?_)⟩
      · have hij : i = j := by
          have h' := of_decide_eq_true h
          have := V.int.inj h'
          omega
        subst hij
        refine ⟨_, rfl, _, _, rfl, ?_⟩
        refine lcp_same P2 hD2 (Same.new ht3 _) (lt_line (by omega)) RInt.mono ⟨_, mkR_at hj, ?_⟩
        unfold fw0
        rw [if_pos rfl, getM_of er f2]
        congr 1
        split <;> omega
      · have hij : i ≠ j := fun z => h (decide_eq_true (by rw [z]))
        refine ⟨_, rfl, ?_⟩
        refine lcp_same P2 hD2 (Same.new ht3 _) (lt_line (by omega)) RInt.mono ⟨_, mkR_at hj, ?_⟩
        unfold fw0
        rw [if_neg hij, getM_of er f2]
    · intro F P2
      have e := lcp_ints (K := K) P2 (by rw [List.length_map, lr, mkR_len])
      exact lcp_same P hD (s1.trans P2.1) (lt_line (by omega)) RRow.mono ⟨D2, _, rfl, mkM_at hi, P.ne (s1.free hD2), SqL.of e⟩
  intro G P
  have m0 := lcp_rows P (by rw [lv, mkM_sz.1])
  have F0 : Fw n (getM M) 0 (getM (mkM n (fw0 n (getM M)))) := (Fw.start (getM M)).congr (by omega) fun i hi j hj => (mkM_get hi hj).symm
  obtain ⟨as, g1, g2, _⟩ := id m0
  have la : as.length = n := by rw [g2, mkM_sz.1]
  refine ⟨_, rfl, D, _, rfl, .inl g1, _, rfl, by omega, by rw [List.length_map, la]; omega, for_range (lo := 0) (fun i σ G' => ∃ (D' : Addr) (N : List (List Int)) (c : Option V), σ = [some (.ref p), some (.ref D'), none, none, none, none, c] ∧ Same H G' ∧ Mx false false K G' D' N ∧ Sz n N ∧ Fw n (getM M) i (getM N))
    ⟨D, _, none, rfl, P.1, m0, mkM_sz, F0⟩ ?_ ?_⟩
  · rintro i σ G1 hi ⟨D', N, c, rfl, s1, m1, z1, f1⟩
    rw [List.length_map, la] at hi
    refine ⟨_, rfl, D', N, n, rfl, m1, z1, hn, fun b G2 s2 hb => ⟨_, rfl, ?_⟩⟩
    cases b with
    | true =>
      obtain ⟨i', hi', neg⟩ := hb.mp rfl
      exact ifT rfl (q .non G2 none (s1.trans s2) rfl (f1.bad hi' neg))
    | false =>
      have pos : ∀ i < n, 0 ≤ getM N i i := fun i' hi' => by
        refine Int.not_lt.mp fun neg => ?_
        exact absurd (hb.mpr ⟨i', hi', neg⟩) (by decide)
      refine ifF rfl ?_
      refine ⟨_, rfl, _, rfl, D', N, n, i, congrArg (fun z => [V.ref D', V.int z]) (Int.zero_add _), m1.same s2, z1, hn, (by omega), fun q1 G3 s3 m3 => ?_⟩
      exact ⟨q1, _, _, rfl, (s1.trans s2).trans s3, m3, mkM_sz, (f1.step (by omega) pos).congr (by omega) fun i hi j hj => (mkM_get hi hj).symm⟩
  · rintro σ G1 ⟨D', N, c, rfl, s1, m1, z1, f1⟩
    rw [List.length_map, la, Int.toNat_natCast] at f1
    refine ⟨_, rfl, D', N, n, rfl, m1, z1, hn, fun b G2 s2 hb => ⟨_, rfl, ?_⟩⟩
    cases b with
    | true =>
      obtain ⟨i', hi', neg⟩ := hb.mp rfl
      exact ifT rfl (q .non G2 none (s1.trans s2) rfl (f1.bad hi' neg))
    | false =>
      have pos : ∀ i < n, 0 ≤ getM N i i := fun i' hi' => by
        refine Int.not_lt.mp fun neg => ?_
        exact absurd (hb.mpr ⟨i', hi', neg⟩) (by decide)
      refine ifF rfl ?_
      refine ⟨_, rfl, D', N, rfl, m1.same s2, by rw [z1.1]; omega, fun p' H' s' hM' => ?_⟩
      have bst := f1.done pos
      rw [mkM_self z1] at bst
      exact q _ _ (some N) ((s1.trans s2).trans s') ⟨p', rfl, hM'⟩ bst
end
/-! ### drawn numbers and points -/
def spNumber : Sp := fun vs H Q _ => ∃ a : Addr, vs = [.ref a] ∧ Src H a ∧ ∀ (r : Int) H', Stp a H H' → Q (.int r) H'
def spSize : Sp := fun vs H Q _ => ∃ a : Addr, vs = [.ref a] ∧ Src H a ∧ ∀ (n : Nat) H', Stp a H H' → n ≤ 20 → Q (.int n) H'
theorem ixInt {ns : List Int} {r : Int} (h0 : 0 ≤ r) (h : r < (ns.length : Int)) : ∃ u : Int, atI (ns.map V.int) r = some (.int u) := by
  have e := atI_int (xs := ns.map V.int) h0 (by rw [List.length_map]; omega)
  rw [List.getElem_map] at e
  exact ⟨_, e⟩
theorem Src.new {a p : Addr} {H : Hp} {o : HO} (h : Src H a) (n : H p = none) : Src (upd H p o) a := (Stp.refl h).new n |>.s
/-- points: a list of tuples, the list a tracked one -/
def Pts (K : PySem.W.Frag) (H : Hp) (p : Addr) (Ps : List (List Int)) : Prop :=
  ∃ as : List Addr, H p = some (.lst (as.map V.ref)) ∧ as.length = Ps.length ∧ ∀ (i : Nat) (a : Addr) (r : List Int), as[i]? = some a → Ps[i]? = some r → SqT K H a (r.map V.int)
theorem Pts.mx {K : PySem.W.Frag} {H : Hp} {p : Addr} {Ps : List (List Int)} (h : Pts K H p Ps) : Mx false true K H p Ps := by
  obtain ⟨as, h1, h2, h3⟩ := h
  exact ⟨as, SqL.of h1, h2, h3⟩
theorem Pts.same {K : PySem.W.Frag} {H H' : Hp} {p : Addr} {Ps : List (List Int)} (s : Same H H') (h : Pts K H p Ps) : Pts K H' p Ps := by
  obtain ⟨as, h1, h2, h3⟩ := h
  exact ⟨as, s _ _ h1, h2, fun i a r e1 e2 => Same.tup s (h3 i a r e1 e2)⟩
theorem Stp.put {a D : Addr} {G F : Hp} {o : HO} (x : Stp a G F) (hs : Src G a) (hD : G D = none) : Stp a G (upd F D o) := by
  have ne := hs.ne hD
  obtain ⟨c, m, k, h⟩ := x.s
  exact ⟨⟨c, m, k, by rw [upd_ne ne]; exact h⟩, fun b u hb e => by rw [upd_ne (ne_of_none e hD)]; exact x.k b u hb e⟩
/-- the points so far, none of them at p -/
def PtsN (K : PySem.W.Frag) (H : Hp) (p : Addr) (Ps : List (List Int)) : Prop :=
  ∃ as : List Addr, H p = some (.lst (as.map V.ref)) ∧ as.length = Ps.length ∧ ∀ (i : Nat) (a : Addr) (r : List Int), as[i]? = some a → Ps[i]? = some r → a ≠ p ∧ SqT K H a (r.map V.int)
theorem PtsN.pts {K : PySem.W.Frag} {H : Hp} {p : Addr} {Ps : List (List Int)} (h : PtsN K H p Ps) : Pts K H p Ps := by
  obtain ⟨as, h1, h2, h3⟩ := h
  exact ⟨as, h1, h2, fun i a r e1 e2 => (h3 i a r e1 e2).2⟩
theorem ints_of {acc : List V} (h : ∀ (j : Nat) (y : V), acc[j]? = some y → ∃ k : Int, y = .int k) : ∃ ns : List Int, acc = ns.map V.int := by
  induction acc with
  | nil => exact ⟨[], rfl⟩
  | cons y acc ih =>
    obtain ⟨k, rfl⟩ := h 0 y rfl
    obtain ⟨ns, rfl⟩ := ih fun j y e => h (j + 1) y (by simpa using e)
    exact ⟨k :: ns, rfl⟩
/-- one point more -/
theorem PtsN.push {K : PySem.W.Frag} {G F : Hp} {p t : Addr} {Ps : List (List Int)} {as : List Addr} {ns : List Int} (e2 : as.length = Ps.length) (e3 : ∀ (i : Nat) (a : Addr) (r : List Int), as[i]? = some a → Ps[i]? = some r → a ≠ p ∧ SqT K G a (r.map V.int))
    (k : ∀ (x : Addr) (xs : List V), SqT K G x xs → SqT K F x xs) (ht : SqT K F t (ns.map V.int)) (ne : t ≠ p) : PtsN K (upd F p (.lst (as.map V.ref ++ [.ref t]))) p (Ps ++ [ns]) := by
  refine ⟨as ++ [t], by rw [List.map_append]; exact upd_same, by simp [e2], fun i a r h1 h2 => ?_⟩
  have put : ∀ {x : Addr} {xs : List V}, x ≠ p → SqT K F x xs → SqT K (upd F p (.lst (as.map V.ref ++ [.ref t]))) x xs := fun nx h => Sq.but (t := true) (But.upd _) nx h
  by_cases hi : i < as.length
  · rw [List.getElem?_append_left hi] at h1
    rw [List.getElem?_append_left (by omega)] at h2
    obtain ⟨q1, q2⟩ := e3 i a r h1 h2
    exact ⟨q1, put q1 (k _ _ q2)⟩
  · rw [List.getElem?_append_right (by omega)] at h1
    rw [List.getElem?_append_right (by omega)] at h2
    have ei : i = as.length := by
      have := (List.getElem?_eq_some_iff.mp h1).1
      simp at this
      omega
    subst ei
    rw [Nat.sub_self] at h1
    rw [e2, Nat.sub_self] at h2
    have h1' : t = a := by simpa using h1
    have h2' : ns = r := by simpa using h2
    subst h1' h2'
    exact ⟨ne, put ne ht⟩
/-- all have n numbers, and there are few -/
def Few (n : Nat) (Ps : List (List Int)) : Prop := Ps.length ≤ 20 ∧ ∀ r ∈ Ps, r.length = n
def spSeeds (K : PySem.W.Frag) : Sp := fun vs H Q _ => ∃ (a : Addr) (n : Nat), vs = [.ref a, .int n] ∧ Src H a ∧ n ≤ 20 ∧ ∀ p H' Ps, Stp a H H' → H p = none → Pts K H' p Ps → Few n Ps → Q (.ref p) H'
section
variable {P : Program} {w : World} {K : PySem.W.Frag} {mg : Str → Option Value} {base : Heap}
theorem ok_l_number (T : Txt w K mg) : FnOk P w K mg base CX0 2 T.a_l_number T.d_l_number p_l_number spNumber := by
  have g_l_pick := ok_l_pick (P := P) (w := w) (base := base) T
  refine T.F_l_number.ok sc_l_number (fun vs H Q E h => ?_) (fun cdv A outer s H vs Q E hr h => ?_)
  · obtain ⟨a, rfl, _⟩ := h
    rfl
  obtain ⟨a, rfl, hS, q⟩ := h
  refine ⟨_, (pss_cons (ps_set (i := 1) sc_l_number.nd rfl (Or.inl rfl) (pe_ix ix_list (pe_lst (pa_cons pe_int (pa_cons pe_int (pa_cons pe_int (pa_cons (pe_op op_pow pe_int pe_int) (pa_cons (pe_op op_pow pe_int pe_int) pa_nil)))))) (pe_call g_l_pick (hr.mono (by first | decide | omega)) rfl T.m_l_pick T.F_l_pick.kp T.b_l_pick .nil pass0 (pa_cons (pv 0) (pa_cons pe_int pa_nil))) (fun _ _ => rfl)))
      (pss_one (ps_ret (pe_op op_sub (pe_op op_add (pe_op op_mul (pe_op op_sub (pe_call g_l_pick (hr.mono (by first | decide | omega)) rfl T.m_l_pick T.F_l_pick.kp T.b_l_pick .nil pass0 (pa_cons (pv 0) (pa_cons pe_int pa_nil))) pe_int) (pv 1)) (pe_call g_l_pick (hr.mono (by first | decide | omega)) rfl T.m_l_pick T.F_l_pick.kp T.b_l_pick .nil pass0 (pa_cons (pv 0) (pa_cons pe_int pa_nil)))) pe_int)))), ?_⟩
  refine ⟨10, 8, rfl, rfl, ⟨by decide, by decide, by decide⟩, 10, 17, rfl, rfl, ⟨by decide, by decide, by decide⟩, (by show 5 ≤ sizeLine; decide), fun l hl => ?_⟩
  refine ⟨_, rfl, a, 5, rfl, hS.new hl, by decide, fun r H1 st r0 r1 => ?_⟩
  have hl1 : H1 l = some (.lst ([1, 1, 1000, 10 ^ 8, 10 ^ 17].map V.int)) := st.k _ _ (hS.ne hl).symm upd_same
  obtain ⟨u, eu⟩ := ixInt (ns := [1, 1, 1000, 10 ^ 8, 10 ^ 17]) (r := r) r0 (by show r < 5; omega)
  refine ⟨l, _, r, _, rfl, rfl, SqL.of hl1, eu, ?_⟩
  have s1 : Stp a H H1 := ((Stp.refl hS).new hl).trans st
  refine ⟨_, rfl, a, 19, rfl, s1.s, by decide, fun r2 H2 st2 r20 r21 => ?_⟩
  refine ⟨_, _, rfl, rfl, _, rfl, _, _, rfl, rfl, .inl ⟨by omega, by omega⟩, ?_⟩
  refine ⟨_, rfl, a, 7, rfl, (s1.trans st2).s, by decide, fun r3 H3 st3 r30 r31 => ?_⟩
  refine ⟨_, _, rfl, rfl, _, _, rfl, rfl, ?_⟩
  exact q _ _ ((s1.trans st2).trans st3)
end
/-! ### the least box of some points -/
def lmax : List Int → Int
  | [] => 0
  | [x] => x
  | x :: y :: r => max x (lmax (y :: r))
theorem lmax_mem : ∀ {xs : List Int}, xs ≠ [] → lmax xs ∈ xs
  | [], h => absurd rfl h
  | [x], _ => by simp [lmax]
  | x :: y :: r, _ => by
    have ih := lmax_mem (xs := y :: r) (by simp)
    unfold lmax
    by_cases h : x ≤ lmax (y :: r)
    · rw [Int.max_eq_right h]
      exact List.mem_cons_of_mem _ ih
    · rw [Int.max_eq_left (by omega)]
      exact List.mem_cons_self
theorem lmax_le : ∀ {xs : List Int} {x : Int}, x ∈ xs → x ≤ lmax xs
  | [], _, h => by simp at h
  | [z], x, h => by
    have e : x = z := by simpa using h
    rw [e]
    exact Int.le_refl _
  | z :: y :: r, x, h => by
    unfold lmax
    rcases List.mem_cons.mp h with rfl | h
    · omega
    · have := lmax_le (xs := y :: r) h
      omega
theorem lmax_eq {xs : List Int} {m : Int} (h1 : m ∈ xs) (h2 : ∀ y ∈ xs, y ≤ m) : m = lmax xs := by
  have ne : xs ≠ [] := fun z => by rw [z] at h1; simp at h1
  have a := h2 _ (lmax_mem ne)
  have b := lmax_le h1
  omega
theorem lmax_append {xs ys : List Int} (h1 : xs ≠ []) (h2 : ys ≠ []) : lmax (xs ++ ys) = max (lmax xs) (lmax ys) := by
  symm
  refine lmax_eq ?_ fun y hy => ?_
  · by_cases h : lmax xs ≤ lmax ys
    · rw [Int.max_eq_right h]
      exact List.mem_append.mpr (.inr (lmax_mem h2))
    · rw [Int.max_eq_left (by omega)]
      exact List.mem_append.mpr (.inl (lmax_mem h1))
  · rcases List.mem_append.mp hy with h | h
    · have := lmax_le h
      omega
    · have := lmax_le h
      omega
/-- column i minus column j of a point -/
def dif (i j : Nat) (r : List Int) : Int := (0 :: r).getD i 0 - (0 :: r).getD j 0
def hullM (n : Nat) (Ps : List (List Int)) : List (List Int) := (List.range (n + 1)).map fun i => (List.range (n + 1)).map fun j => lmax (Ps.map (dif i j))
def hull (n : Nat) (Ps : List (List Int)) : Option (List (List Int)) := if Ps = [] then none else some (hullM n Ps)
theorem hullM_sz (n : Nat) (Ps : List (List Int)) : Sz (n + 1) (hullM n Ps) := by
  refine ⟨by simp [hullM], fun r hr => ?_⟩
  obtain ⟨i, _, rfl⟩ := List.mem_map.mp hr
  simp
theorem hull_sz (n : Nat) (Ps : List (List Int)) : BSz (n + 1) (hull n Ps) := by
  intro M e
  unfold hull at e
  split at e
  · cases e
  · cases e
    exact hullM_sz n Ps
theorem range_get {n i : Nat} (h : i < n) : (List.range n)[i]? = some i := by simp [h]
def spHull (K : PySem.W.Frag) : Sp := fun vs H Q _ => ∃ (p : Addr) (n : Nat) (Ps : List (List Int)), vs = [.ref p, .int n] ∧ n ≤ 900 ∧ Mx false true K H p Ps ∧ (∀ r ∈ Ps, r.length = n) ∧ Ps.length ≤ 1000000 ∧ ∀ v H', Same H H' → BoxAt K H' v (hull n Ps) → Q v H'
section
variable {P : Program} {w : World} {K : PySem.W.Frag} {mg : Str → Option Value} {base : Heap}
theorem ok_l_hull (T : Txt w K mg) : FnOk P w K mg base CX0 1 T.a_l_hull T.d_l_hull p_l_hull (spHull K) := by
  refine T.F_l_hull.ok sc_l_hull (fun vs H Q E h => ?_) (fun cdv A outer s H vs Q E hr h => ?_)
  · obtain ⟨p, n, Ps, rfl, _⟩ := h
    rfl
  obtain ⟨p, n, Ps, rfl, hn, hM, hl, hz, q⟩ := h
  refine ⟨_, (pss_cons (ps_if (pt_cmpR (op_eqL0 hr.units0) (pv 0) (pe_lst pa_nil) (nomark _)) (pss_one (ps_ret pe_non)) pss_nil)
      (pss_cons (ps_set (i := 2) sc_l_hull.nd rfl (Or.inl rfl) (pe_lst pa_nil))
      (pss_cons (ps_for PassesOwn.never rfl (pi_range1 rfl T.z_range (pa_cons (pe_op op_add (pv 1) pe_int) pa_nil)) (pg_name (i := 3) sc_l_hull.nd rfl (Or.inr rfl))
        (pss_cons (ps_set (i := 4) sc_l_hull.nd rfl (Or.inl rfl) (pe_lst pa_nil))
      (pss_cons (ps_for PassesOwn.never rfl (pi_range1 rfl T.z_range (pa_cons (pe_op op_add (pv 1) pe_int) pa_nil)) (pg_name (i := 5) sc_l_hull.nd rfl (Or.inr rfl))
        (pss_one (ps_expr (pe_bm PySem.F.plainAttrs_list PySem.F.slot_list_append PySem.F.type_list_append mt_append (pv 4) (pa_cons (pe_callB (cr_max rfl) rfl T.z_max bb_max (pa_cons (pe_lc (own := [("_law_point", 6)]) (g := gName 6) (tt := tYes) rfl sc_l_hull.nd (pi_list (pv 0)) (blkOk_by (own := [("_law_point", 6)]) (N := n_l_hull) (sc := defScope s_l_hull) (by decide +kernel)) (fun _ _ _ _ _ => (pg_name (i := 6) sc_l_hull.nd rfl (Or.inl rfl))) (fun _ _ _ _ _ => pts_nil) (fun _ _ _ _ _ => (pe_op op_sub (pe_ix (show IxR _ (rIxT K) from ix_tup) (pe_op (show OpR _ _ (rCatT K) from op_catT) (pe_tup (pa_cons pe_int pa_nil)) (pv 6)) (pv 3) (fun _ _ => rfl)) (pe_ix (show IxR _ (rIxT K) from ix_tup) (pe_op (show OpR _ _ (rCatT K) from op_catT) (pe_tup (pa_cons pe_int pa_nil)) (pv 6)) (pv 5) (fun _ _ => rfl))))) pa_nil)) pa_nil)))))
      (pss_one (ps_expr (pe_bm PySem.F.plainAttrs_list PySem.F.slot_list_append PySem.F.type_list_append mt_append (pv 2) (pa_cons (pe_callTy call_tuple_of rfl T.z_tuple bt_tuple (pa_cons (pv 4) pa_nil)) pa_nil)))))))
      (pss_one (ps_ret (pe_callTy call_tuple_of rfl T.z_tuple bt_tuple (pa_cons (pv 2) pa_nil))))))), ?_⟩
  obtain ⟨vs, hv, lv, hrow⟩ := hM.row
  refine ⟨_, rfl, (by show 0 ≤ sizeLine; decide), fun e he => ?_⟩
  have s0 : Same H (upd H e (.lst [])) := Same.new he _
  refine ⟨p, e, vs, rfl, rfl, s0.seq hv, SqL.of upd_same, _, rfl, ?_⟩
  by_cases hPs : Ps = []
  · subst hPs
    have ev : vs = [] := List.length_eq_zero_iff.mp (by simpa using lv)
    subst ev
    exact ifT rfl (q .non _ s0 rfl)
  have nev : vs ≠ [] := fun z => by
    subst z
    exact hPs (List.length_eq_zero_iff.mp (by simpa using lv.symm))
  refine ifF (by cases vs with
    | nil => exact absurd rfl nev
    | cons _ _ => rfl) ?_
  refine ⟨(by show 0 ≤ sizeLine; decide), fun pr hpr => ?_⟩
  refine ⟨_, rfl, _, _, rfl, rfl, _, rfl, by omega, by omega, for_range (lo := 0) (fun i σ G => (∃ b c d f : Option V, σ = [some (.ref p), some (.int n), some (.ref pr), b, c, d, f]) ∧ LcP (Same (upd H e (.lst []))) (RRow K true (hullM n Ps) pr) pr i G)
    ⟨⟨none, none, none, none, rfl⟩, lcp_start hpr⟩ ?_ ?_⟩
  · rintro i σ G hi ⟨⟨b, c, d, f, rfl⟩, P⟩
    refine ⟨(by show 0 ≤ sizeLine; decide), fun pw hpw => ?_⟩
    refine ⟨_, rfl, _, _, rfl, rfl, _, rfl, by omega, by omega, for_range (lo := 0) (fun j σ F => (∃ d f : Option V, σ = [some (.ref p), some (.int n), some (.ref pr), some (.int (0 + (i : Int))), some (.ref pw), d, f]) ∧ LcP (Same G) (RInt ((List.range (n + 1)).map fun j => lmax (Ps.map (dif i j)))) pw j F)
      ⟨⟨d, f, rfl⟩, lcp_start hpw⟩ ?_ ?_⟩
    · rintro j σ F hj ⟨⟨d', f', rfl⟩, PF⟩
      obtain ⟨acc, a1, a2⟩ := PF.acc
      have sF : Same H F := (s0.trans P.1).trans PF.1
      have hvF := sF.seq hv
      refine ⟨_, rfl, .inl ⟨rfl, _, SqL.of a1⟩, ?_⟩
      refine ⟨_, rfl, p, rfl, ⟨vs, hvF⟩, fun D hD => ?_⟩
      refine lc_it (walk_list (xs := vs)) (LcP (Same F) (RInt (Ps.map (dif i j))) D) (lcp_start hD) (fun _ F1 _ PD => PD.1.seq hvF) ?_ ?_
      · rintro k x F1 F2 hk PD ⟨rfl, ex⟩
        obtain ⟨a, r, rfl, er, ha⟩ := hrow k x ex
        have lr := hl r (List.mem_of_getElem? er)
        refine ⟨rfl, tyes ?_⟩
        have ha1 := Sq.same (sF.trans PD.1) ha
        refine ⟨(by show 1 ≤ sizeLine; decide), fun t1 ht1 => ?_⟩
        refine ⟨_, rfl, cat0 (SqT.of upd_same) (Same.tup (Same.new ht1 _) ha1) (by omega) fun z1 Fa sa hz1 => ?_⟩
        refine ⟨_, rfl, z1, _, _, _, rfl, rfl, hz1, atI_row (by simp; omega), ?_⟩
        have s1 := (Same.new ht1 (.tup [.int 0])).trans sa
        refine ⟨(by show 1 ≤ sizeLine; decide), fun t2 ht2 => ?_⟩
        refine ⟨_, rfl, cat0 (SqT.of upd_same) (Same.tup (s1.trans (Same.new ht2 _)) ha1) (by omega) fun z2 Fb sb hz2 => ?_⟩
        refine ⟨_, rfl, z2, _, _, _, rfl, rfl, hz2, atI_row (by simp; omega), ?_⟩
        refine ⟨_, _, rfl, rfl, ?_⟩
        exact lcp_same PD hD (s1.trans ((Same.new ht2 _).trans sb)) (lt_line (by omega)) RInt.mono ⟨dif i j r, map_get er, rfl⟩
      · intro F1 PD
        have ne : Ps.map (dif i j) ≠ [] := fun z => hPs (List.map_eq_nil_iff.mp z)
        refine ⟨D, _, rfl, SqL.of (lcp_ints (K := K) PD (by rw [List.length_map]; exact lv)), List.length_pos_iff.mpr ne, fun m hm hx => ?_⟩
        have em := lmax_eq hm hx
        refine ⟨pw, acc, _, rfl, rfl, PD.1 _ _ a1, lt_line (by omega), ⟨_, _, rfl⟩, ?_⟩
        exact lcp_put PF a1 hpw PD.1 (lt_line (by omega)) RInt.mono ⟨m, by rw [em]; exact map_get (range_get (by omega)), rfl⟩
    · rintro σ F ⟨⟨d', f', rfl⟩, PF⟩
      obtain ⟨acc, a1, a2⟩ := P.acc
      have a1F := PF.1 _ _ a1
      refine ⟨_, rfl, .inl ⟨rfl, _, SqL.of a1F⟩, ?_⟩
      refine ⟨_, rfl, pw, _, rfl, .inl ⟨SqL.of (lcp_ints (K := K) PF (by simp)), fun t ht => ?_⟩⟩
      have tn : t ≠ pr := fun z => by
        rw [← z, ht] at a1F
        cases a1F
      refine ⟨pr, acc, _, rfl, rfl, by rw [upd_ne tn.symm]; exact a1F, lt_line (by omega), ⟨_, _, _, _, rfl⟩, ?_⟩
      exact lcp_put P a1 hpr (PF.1.trans (Same.new ht _)) (lt_line (by omega)) RRow.mono ⟨t, _, rfl, map_get (range_get (by omega)), tn, Sq.upd_sameT⟩
  · rintro σ G ⟨⟨b, c, d, f, rfl⟩, P⟩
    obtain ⟨as, h1, h2, h3⟩ := lcp_rows P (by simp [hullM])
    refine ⟨_, rfl, pr, _, rfl, .inl ⟨h1, fun l hl => ?_⟩⟩
    refine q (.ref l) _ ((s0.trans P.1).trans (Same.new hl _)) ?_
    unfold hull
    rw [if_neg hPs]
    exact ⟨l, rfl, as, Sq.upd_sameT, h2, fun i a r e1 e2 => Sq.same (Same.new hl _) (h3 i a r e1 e2)⟩
end
/-! ### the least box is closed -/
theorem getM_hull {n : Nat} {Ps : List (List Int)} {i j : Nat} (hi : i < n + 1) (hj : j < n + 1) : getM (hullM n Ps) i j = lmax (Ps.map (dif i j)) := getM_of (map_get (range_get hi)) (map_get (range_get hj))
theorem hull_tri {n : Nat} {Ps : List (List Int)} (hP : Ps ≠ []) {i j k : Nat} (hi : i < n + 1) (hj : j < n + 1) (hk : k < n + 1) : getM (hullM n Ps) i j ≤ getM (hullM n Ps) i k + getM (hullM n Ps) k j := by
  rw [getM_hull hi hj, getM_hull hi hk, getM_hull hk hj]
  obtain ⟨r, hr, e⟩ := List.mem_map.mp (lmax_mem (xs := Ps.map (dif i j)) fun z => hP (List.map_eq_nil_iff.mp z))
  have h1 : dif i k r ≤ lmax (Ps.map (dif i k)) := lmax_le (List.mem_map_of_mem hr)
  have h2 : dif k j r ≤ lmax (Ps.map (dif k j)) := lmax_le (List.mem_map_of_mem hr)
  rw [← e]
  unfold dif at *
  omega
theorem hull_diag {n : Nat} {Ps : List (List Int)} (hP : Ps ≠ []) {i : Nat} (hi : i < n + 1) : getM (hullM n Ps) i i = 0 := by
  rw [getM_hull hi hi]
  obtain ⟨r, hr, e⟩ := List.mem_map.mp (lmax_mem (xs := Ps.map (dif i i)) fun z => hP (List.map_eq_nil_iff.mp z))
  rw [← e]
  unfold dif
  omega
/-- the points at these addresses -/
def PA (K : PySem.W.Frag) (H : Hp) (as : List Addr) (Ps : List (List Int)) : Prop := as.length = Ps.length ∧ ∀ (i : Nat) (a : Addr) (r : List Int), as[i]? = some a → Ps[i]? = some r → SqT K H a (r.map V.int)
theorem Pts.pa {K : PySem.W.Frag} {H : Hp} {p : Addr} {Ps : List (List Int)} (h : Pts K H p Ps) : ∃ as, H p = some (.lst (as.map V.ref)) ∧ PA K H as Ps := by
  obtain ⟨as, h1, h2, h3⟩ := h
  exact ⟨as, h1, h2, h3⟩
theorem PA.pts {K : PySem.W.Frag} {H : Hp} {p : Addr} {as : List Addr} {Ps : List (List Int)} (h : PA K H as Ps) (e : H p = some (.lst (as.map V.ref))) : Pts K H p Ps := ⟨as, e, h.1, h.2⟩
theorem PA.same {K : PySem.W.Frag} {H H' : Hp} {as : List Addr} {Ps : List (List Int)} (s : Same H H') (h : PA K H as Ps) : PA K H' as Ps := ⟨h.1, fun i a r e1 e2 => Same.tup s (h.2 i a r e1 e2)⟩
theorem PA.stp {K : PySem.W.Frag} {a : Addr} {H H' : Hp} {as : List Addr} {Ps : List (List Int)} (s : Stp a H H') (hs : Src H a) (h : PA K H as Ps) : PA K H' as Ps := ⟨h.1, fun i b r e1 e2 => s.rd (h.2 i b r e1 e2) hs⟩
theorem PA.drop {K : PySem.W.Frag} {H : Hp} {as : List Addr} {Ps : List (List Int)} (k : Nat) (h : PA K H as Ps) : PA K H (as.drop k) (Ps.drop k) := by
  refine ⟨by rw [List.length_drop, List.length_drop, h.1], fun i a r e1 e2 => ?_⟩
  rw [List.getElem?_drop] at e1 e2
  exact h.2 _ a r e1 e2
theorem PA.take {K : PySem.W.Frag} {H : Hp} {as : List Addr} {Ps : List (List Int)} (k : Nat) (h : PA K H as Ps) : PA K H (as.take k) (Ps.take k) := by
  refine ⟨by rw [List.length_take, List.length_take, h.1], fun i a r e1 e2 => ?_⟩
  rw [List.getElem?_take] at e1 e2
  split at e1
  · rename_i hk
    rw [if_pos hk] at e2
    exact h.2 _ a r e1 e2
  · cases e1
theorem PA.append {K : PySem.W.Frag} {H : Hp} {as bs : List Addr} {Ps Qs : List (List Int)} (h : PA K H as Ps) (k : PA K H bs Qs) : PA K H (as ++ bs) (Ps ++ Qs) := by
  refine ⟨by rw [List.length_append, List.length_append, h.1, k.1], fun i a r e1 e2 => ?_⟩
  by_cases hi : i < as.length
  · rw [List.getElem?_append_left hi] at e1
    rw [List.getElem?_append_left (by rw [← h.1]; exact hi)] at e2
    exact h.2 i a r e1 e2
  · rw [List.getElem?_append_right (by omega)] at e1
    rw [List.getElem?_append_right (by rw [← h.1]; omega), ← h.1] at e2
    exact k.2 _ a r e1 e2
theorem PA.one {K : PySem.W.Frag} {H : Hp} {a : Addr} {r : List Int} (h : SqT K H a (r.map V.int)) : PA K H [a] [r] := by
  refine ⟨rfl, fun i b q e1 e2 => ?_⟩
  cases i with
  | zero =>
    cases e1
    cases e2
    exact h
  | succ i => simp at e1
theorem Pts.stp {K : PySem.W.Frag} {a p : Addr} {H H' : Hp} {Ps : List (List Int)} (s : Stp a H H') (hs : Src H a) (ne : p ≠ a) (h : Pts K H p Ps) : Pts K H' p Ps := by
  obtain ⟨as, h1, h2⟩ := h.pa
  exact (h2.stp s hs).pts (s.k _ _ ne h1)
/-! ### rows that are written: lists of numbers in a list -/
def RowsL (H : Hp) (as : List Addr) (Rs : List (List Int)) : Prop := as.length = Rs.length ∧ ∀ (i : Nat) (x : Addr) (r : List Int), as[i]? = some x → Rs[i]? = some r → H x = some (.lst (r.map V.int))
theorem RowsL.keep {H H' : Hp} {as : List Addr} {Rs : List (List Int)} (h : RowsL H as Rs) (k : ∀ x ∈ as, ∀ o, H x = some o → H' x = some o) : RowsL H' as Rs :=
  ⟨h.1, fun i x r e1 e2 => k x (List.mem_of_getElem? e1) _ (h.2 i x r e1 e2)⟩
theorem RowsL.at {H : Hp} {as : List Addr} {Rs : List (List Int)} {i : Nat} (h : RowsL H as Rs) (hi : i < Rs.length) : ∃ x r, as[i]? = some x ∧ Rs[i]? = some r ∧ H x = some (.lst (r.map V.int)) := by
  have ea : as[i]? = some (as[i]'(by rw [h.1]; exact hi)) := List.getElem?_eq_getElem _
  have er : Rs[i]? = some Rs[i] := List.getElem?_eq_getElem hi
  exact ⟨_, _, ea, er, h.2 i _ _ ea er⟩
theorem nodup_ix {α : Type} {as : List α} (nd : as.Nodup) {i j : Nat} {x : α} (h1 : as[i]? = some x) (h2 : as[j]? = some x) : i = j := by
  obtain ⟨l1, q1⟩ := List.getElem?_eq_some_iff.mp h1
  obtain ⟨l2, q2⟩ := List.getElem?_eq_some_iff.mp h2
  have p := List.pairwise_iff_getElem.mp nd
  rcases Nat.lt_trichotomy i j with h | h | h
  · exact absurd (q1.trans q2.symm) (p i j l1 l2 h)
  · exact h
  · exact absurd (q2.trans q1.symm) (p j i l2 l1 h)
theorem RowsL.put {H : Hp} {as : List Addr} {Rs : List (List Int)} {i : Nat} {x : Addr} {r' : List Int} (h : RowsL H as Rs) (nd : as.Nodup) (ea : as[i]? = some x) : RowsL (upd H x (.lst (r'.map V.int))) as (Rs.set i r') := by
  refine ⟨by rw [List.length_set]; exact h.1, fun j y q e1 e2 => ?_⟩
  rw [List.getElem?_set] at e2
  by_cases hj : i = j
  · subst hj
    rw [if_pos rfl] at e2
    rw [ea] at e1
    cases e1
    split at e2
    · cases e2
      exact upd_same
    · cases e2
  · rw [if_neg hj] at e2
    have ne : y ≠ x := fun z => by
      subst z
      exact hj (nodup_ix nd ea e1)
    rw [upd_ne ne]
    exact h.2 j y q e1 e2
/-- the diagonal's entry i becomes v -/
def setD (Rs : List (List Int)) (i : Nat) (v : Int) : List (List Int) := Rs.set i ((Rs.getD i []).set i v)
theorem setD_eq {Rs : List (List Int)} {i : Nat} {r : List Int} {v : Int} (e : Rs[i]? = some r) : setD Rs i v = Rs.set i (r.set i v) := by
  unfold setD
  rw [List.getD_eq_getElem?_getD, e]
  rfl
theorem setD_at {Rs : List (List Int)} {i : Nat} {r : List Int} {v : Int} (e : Rs[i]? = some r) : (setD Rs i v)[i]? = some (r.set i v) := by
  rw [setD_eq e, List.getElem?_set, if_pos rfl, if_pos (List.getElem?_eq_some_iff.mp e).1]
theorem setD_sz {n i : Nat} {Rs : List (List Int)} {v : Int} (h : Sz n Rs) (hi : i < n) : Sz n (setD Rs i v) := by
  obtain ⟨r, e, l⟩ := h.at hi
  rw [setD_eq e]
  refine ⟨by rw [List.length_set]; exact h.1, fun q hq => ?_⟩
  rcases List.mem_or_eq_of_mem_set hq with h1 | h1
  · exact h.2 q h1
  · rw [h1, List.length_set]
    exact l
theorem setD_get {n i a b : Nat} {Rs : List (List Int)} {v : Int} (h : Sz n Rs) (hi : i < n) (ha : a < n) (hb : b < n) : getM (setD Rs i v) a b = if a = i ∧ b = i then v else getM Rs a b := by
  obtain ⟨r, e, l⟩ := h.at hi
  by_cases e1 : a = i
  · subst e1
    by_cases e2 : b = a
    · subst e2
      rw [if_pos ⟨rfl, rfl⟩]
      exact getM_of (setD_at e) (by rw [List.getElem?_set, if_pos rfl, if_pos (by omega)])
    · rw [if_neg (fun z => e2 z.2)]
      have eb : r[b]? = some (r[b]'(by omega)) := List.getElem?_eq_getElem _
      rw [getM_of e eb]
      exact getM_of (setD_at e) (by rw [List.getElem?_set, if_neg (fun z => e2 z.symm)]; exact eb)
  · rw [if_neg (fun z => e1 z.1)]
    obtain ⟨q, eq', lq⟩ := h.at ha
    have eb : q[b]? = some (q[b]'(by omega)) := List.getElem?_eq_getElem _
    rw [getM_of eq' eb]
    exact getM_of (by rw [setD_eq e, List.getElem?_set, if_neg (fun z => e1 z.symm)]; exact eq') eb
theorem setD_setD {Rs : List (List Int)} {i : Nat} {r : List Int} {v w : Int} (e : Rs[i]? = some r) : (setD Rs i v).set i (r.set i w) = setD Rs i w := by
  rw [setD_eq e, setD_eq e, List.set_set]
/-- rows that were made since H0 -/
structure RowsN (a : Addr) (H0 G : Hp) (pr : Addr) (as : List Addr) (Rs : List (List Int)) : Prop where
  st : Stp a H0 G
  s0 : Src H0 a
  e : G pr = some (.lst (as.map V.ref))
  rw : RowsL G as Rs
  nd : as.Nodup
  nw : ∀ x ∈ as, H0 x = none
  np : pr ∉ as
  n0 : H0 pr = none
theorem RowsN.na {a : Addr} {H0 G : Hp} {pr : Addr} {as : List Addr} {Rs : List (List Int)} (h : RowsN a H0 G pr as Rs) : ∀ x ∈ as, x ≠ a := fun x hx => (h.s0.ne (h.nw x hx)).symm
theorem RowsN.npa {a : Addr} {H0 G : Hp} {pr : Addr} {as : List Addr} {Rs : List (List Int)} (h : RowsN a H0 G pr as Rs) : pr ≠ a := (h.s0.ne h.n0).symm
theorem RowsN.go {a : Addr} {H0 G G' : Hp} {pr : Addr} {as : List Addr} {Rs : List (List Int)} (h : RowsN a H0 G pr as Rs) (s : Stp a G G') : RowsN a H0 G' pr as Rs :=
  ⟨h.st.trans s, h.s0, s.k _ _ h.npa h.e, h.rw.keep fun x hx o e => s.k x o (h.na x hx) e, h.nd, h.nw, h.np, h.n0⟩
theorem RowsN.put {a : Addr} {H0 G : Hp} {pr : Addr} {as : List Addr} {Rs : List (List Int)} {i : Nat} {x : Addr} {r' : List Int} (h : RowsN a H0 G pr as Rs) (ea : as[i]? = some x) : RowsN a H0 (upd G x (.lst (r'.map V.int))) pr as (Rs.set i r') :=
  ⟨h.st.put h.s0 (h.nw x (List.mem_of_getElem? ea)), h.s0, by
    have ne : pr ≠ x := fun z => h.np (by rw [z]; exact List.mem_of_getElem? ea)
    rw [upd_ne ne]
    exact h.e, h.rw.put h.nd ea, h.nd, h.nw, h.np, h.n0⟩
theorem RowsN.start {a : Addr} {H0 G : Hp} {pr : Addr} (s : Stp a H0 G) (s0 : Src H0 a) (hp : G pr = none) : RowsN a H0 (upd G pr (.lst [])) pr [] [] :=
  ⟨s.new hp, s0, upd_same, ⟨rfl, fun i x r e => by simp at e⟩, List.nodup_nil, fun x hx => by simp at hx, by simp, s.free hp⟩
/-- one row more -/
theorem RowsN.push {a : Addr} {H0 G F : Hp} {pr D : Addr} {as : List Addr} {Rs : List (List Int)} {ns : List Int} (h : RowsN a H0 G pr as Rs) (s : Stp a G F) (hD : G D = none) (eD : F D = some (.lst (ns.map V.int))) :
    RowsN a H0 (upd F pr (.lst (as.map V.ref ++ [.ref D]))) pr (as ++ [D]) (Rs ++ [ns]) := by
  have h' := h.go s
  have dp : D ≠ pr := fun z => by
    have e := h.e
    rw [← z, hD] at e
    cases e
  have nin : D ∉ as := fun z => by
    obtain ⟨i, hi, e⟩ := List.getElem_of_mem z
    obtain ⟨x, r, e1, e2, e3⟩ := h.rw.at (i := i) (by rw [← h.rw.1]; exact hi)
    rw [List.getElem?_eq_getElem hi, e] at e1
    cases e1
    rw [hD] at e3
    cases e3
  refine ⟨h'.st.put h.s0 h.n0, h.s0, by rw [List.map_append]; exact upd_same, ⟨by simp [h.rw.1], fun i x r e1 e2 => ?_⟩, ?_, fun x hx => ?_, ?_, h.n0⟩
  · by_cases hi : i < as.length
    · rw [List.getElem?_append_left hi] at e1
      rw [List.getElem?_append_left (by rw [← h.rw.1]; exact hi)] at e2
      have ne : x ≠ pr := fun z => h.np (by rw [← z]; exact List.mem_of_getElem? e1)
      rw [upd_ne ne]
      exact h'.rw.2 i x r e1 e2
    · rw [List.getElem?_append_right (by omega)] at e1
      rw [List.getElem?_append_right (by rw [← h.rw.1]; omega), ← h.rw.1] at e2
      have ei : i - as.length = 0 := by
        have := (List.getElem?_eq_some_iff.mp e1).1
        simp at this
        omega
      rw [ei] at e1 e2
      have e1' : D = x := by simpa using e1
      have e2' : ns = r := by simpa using e2
      subst e1' e2'
      rw [upd_ne dp]
      exact eD
  · rw [List.nodup_append]
    refine ⟨h.nd, by simp, fun x hx y hy z => ?_⟩
    have : y = D := by simpa using hy
    subst this
    subst z
    exact nin hx
  · rcases List.mem_append.mp hx with q | q
    · exact h.nw x q
    · have : x = D := by simpa using q
      rw [this]
      exact h.st.free hD
  · intro z
    rcases List.mem_append.mp z with q | q
    · exact h.np q
    · have : pr = D := by simpa using q
      exact dp this.symm
def spDiag (K : PySem.W.Frag) : Sp := fun vs H Q _ => ∃ (a pr : Addr) (as : List Addr) (Rs : List (List Int)) (n : Nat) (H0 : Hp), vs = [.ref a, .ref pr] ∧ 1 ≤ n ∧ n ≤ 900 ∧ RowsN a H0 H pr as Rs ∧ Sz n Rs ∧
  ∀ t H' M, Stp a H0 H' → Mx true true K H' t M → Sz n M → (∀ i < n, ∀ j < n, i ≠ j → getM M i j = getM Rs i j) → (∀ i < n, -3 ≤ getM M i i ∧ getM M i i ≤ 3) → Q (.ref t) H'
theorem Mx.get3 {t1 t2 : Bool} {K : PySem.W.Frag} {H : Hp} {p : Addr} {M : List (List Int)} {n i j : Nat} (h : Mx t1 t2 K H p M) (z : Sz n M) (hi : i < n) (hj : j < n) : ∃ (vs : List V) (a : Addr) (r : List Int), Sq t1 K H p vs ∧ atI vs (i : Int) = some (.ref a) ∧ Sq t2 K H a (r.map V.int) ∧ atI (r.map V.int) (j : Int) = some (.int (getM M i j)) := by
  obtain ⟨r, er, lr⟩ := z.at hi
  obtain ⟨as, h1, h2, h3⟩ := h
  have ea : as[i]? = some (as[i]'(by rw [h2, z.1]; exact hi)) := List.getElem?_eq_getElem _
  refine ⟨_, _, r, h1, atI_nat (map_get ea), h3 i _ r ea er, ?_⟩
  have e : r[j]? = some (r[j]'(by omega)) := List.getElem?_eq_getElem _
  rw [getM_of er e]
  exact atI_nat (map_get e)
/-! ### the box of all points within ranges -/
/-- the ranges, as rows of two numbers -/
def wid (Rs : List (List Int)) (i j : Nat) : Int := if i = j then 0 else (([0, 0] :: Rs).getD i []).getD 1 0 - (([0, 0] :: Rs).getD j []).getD 0 0
theorem wipe_off {σ : L2.St} {j : Nat} {x : Option V} : ∀ {vs : List Nat}, j ∉ vs → wipe (σ.set j x) vs = (wipe σ vs).set j x
  | [], _ => rfl
  | v :: vs, h => by
    have n : v ≠ j := fun z => h (by rw [z]; exact List.mem_cons_self)
    show (wipe (σ.set j x) vs).set v none = ((wipe σ vs).set v none).set j x
    rw [wipe_off fun z => h (List.mem_cons_of_mem _ z), List.set_comm _ _ n.symm]
theorem wipe_set {σ : L2.St} {j : Nat} {x : Option V} : ∀ {vs : List Nat}, j ∈ vs → wipe (σ.set j x) vs = wipe σ vs
  | [], h => by simp at h
  | v :: vs, h => by
    show (wipe (σ.set j x) vs).set v none = (wipe σ vs).set v none
    by_cases hj : j ∈ vs
    · rw [wipe_set hj]
    · have e : j = v := by
        rcases List.mem_cons.mp h with e | e
        · exact e
        · exact absurd e hj
      subst e
      rw [wipe_off hj, List.set_set]
theorem wipe_sub {σ : L2.St} {vs : List Nat} : ∀ {us : List Nat}, (∀ u ∈ us, u ∈ vs) → wipe (wipe σ us) vs = wipe σ vs
  | [], _ => rfl
  | u :: us, h => by
    show wipe ((wipe σ us).set u none) vs = _
    rw [wipe_set (h u List.mem_cons_self), wipe_sub fun x hx => h x (List.mem_cons_of_mem _ hx)]
/-- three names of a block are gone again -/
theorem wipe3 {σ : L2.St} {a b c : Nat} {x y z : Option V} : wipe ((((wipe σ [a, b, c]).set a x).set b y).set c z) [a, b, c] = wipe σ [a, b, c] := by
  rw [wipe_set (by simp), wipe_set (by simp), wipe_set (by simp), wipe_sub fun u h => h]
theorem two_at {Rs : List (List Int)} (hR2 : ∀ r ∈ Rs, r.length = 2) (i : Nat) (r : List Int) (e : ([0, 0] :: Rs)[i]? = some r) : ∃ lo hi, r = [lo, hi] ∧ (([0, 0] :: Rs).getD i []).getD 1 0 = hi ∧ (([0, 0] :: Rs).getD i []).getD 0 0 = lo := by
  have l2 : r.length = 2 := by
    rcases List.mem_cons.mp (List.mem_of_getElem? e) with rfl | h
    · rfl
    · exact hR2 r h
  obtain ⟨lo, hi, rfl⟩ : ∃ lo hi, r = [lo, hi] := by
    match r, l2 with
    | [a, b], _ => exact ⟨a, b, rfl⟩
  have eD : ([0, 0] :: Rs).getD i [] = [lo, hi] := by rw [List.getD_eq_getElem?_getD, e]; rfl
  rw [eD]
  exact ⟨lo, hi, rfl, rfl, rfl⟩
/-- some range has no number -/
def Gap (Rs : List (List Int)) (k : Nat) : Prop := ∃ i < k, (Rs.getD i []).getD 1 0 < (Rs.getD i []).getD 0 0
open Classical in
noncomputable def rangeB (Rs : List (List Int)) : Option (List (List Int)) := if Gap Rs Rs.length then none else some (mkM (Rs.length + 1) (wid Rs))
def spRangeBox (K : PySem.W.Frag) : Sp := fun vs H Q _ => ∃ (q : Addr) (Rs : List (List Int)), vs = [.ref q] ∧ Mx true true K H q Rs ∧ (∀ r ∈ Rs, r.length = 2) ∧ Rs.length ≤ 100 ∧ ∀ v H', Same H H' → BoxAt K H' v (rangeB Rs) → Q v H'
section
variable {P : Program} {w : World} {K : PySem.W.Frag} {mg : Str → Option Value} {base : Heap}
theorem ok_range_box (T : Txt w K mg) : FnOk P w K mg base CX0 2 T.a_range_box T.d_range_box p_range_box (spRangeBox K) := by
  have g_frozen := ok_frozen (P := P) (w := w) (base := base) T
  refine T.F_range_box.ok sc_range_box (fun vs H Q E h => ?_) (fun cdv A outer s H vs Q E hr h => ?_)
  · obtain ⟨q, Rs, rfl, _⟩ := h
    rfl
  obtain ⟨q, Rs, rfl, hR, hR2, hRn, k⟩ := h
  refine ⟨_, (pss_cons (ps_if (pt_val (pe_callB (cr_any rfl) rfl T.z_any bb_any (pa_cons (pe_lc (own := [("low", 1), ("high", 2)]) (g := gTup K 2 (gCons (gName 1) (gCons (gName 2) gNil))) (tt := tYes) rfl sc_range_box.nd (pi_tup (pv 0)) (blkOk_by (own := [("low", 1), ("high", 2)]) (N := n_range_box) (sc := defScope s_range_box) (by decide +kernel)) (fun _ _ _ _ _ => (pg_tup rfl (pgs_cons (pg_name (i := 1) sc_range_box.nd rfl (Or.inl rfl)) (pgs_cons (pg_name (i := 2) sc_range_box.nd rfl (Or.inl rfl)) pgs_nil)))) (fun _ _ _ _ _ => pts_nil) (fun _ _ _ _ _ => (pe_cmpR op_gt (pv 1) (pv 2) (nomark _)))) pa_nil))) (pss_one (ps_ret pe_non)) pss_nil)
      (pss_cons (ps_set (i := 3) sc_range_box.nd rfl (Or.inr rfl) (pe_lst (pa_cons (pe_tup (pa_cons pe_int (pa_cons pe_int pa_nil))) (StX.pa_star (pv 0) pa_nil))))
      (pss_one (ps_ret (pe_call g_frozen (hr.mono (by first | decide | omega)) rfl T.m_frozen T.F_frozen.kp T.b_frozen .nil pass0 (pa_cons (pe_lc (own := [("i", 4), ("_", 5), ("high", 2)]) (g := gTup K 2 (gCons (gName 4) (gCons (gTup K 2 (gCons (gName 5) (gCons (gName 2) gNil))) gNil))) (tt := tYes) rfl sc_range_box.nd (EnT.pi_enumG (by rfl) T.z_enumerate (pa_cons (pv 3) pa_nil)) (blkOk_by (own := [("i", 4), ("_", 5), ("high", 2)]) (N := n_range_box) (sc := defScope s_range_box) (by decide +kernel)) (fun _ _ _ _ _ => (pg_tup rfl (pgs_cons (pg_name (i := 4) sc_range_box.nd rfl (Or.inr rfl)) (pgs_cons (pg_tup rfl (pgs_cons (pg_name (i := 5) sc_range_box.nd rfl (Or.inl rfl)) (pgs_cons (pg_name (i := 2) sc_range_box.nd rfl (Or.inr rfl)) pgs_nil))) pgs_nil)))) (fun _ _ _ _ _ => pts_nil) (fun _ _ _ _ _ => (pe_lc (own := [("j", 6), ("low", 1), ("_", 5)]) (g := gTup K 2 (gCons (gName 6) (gCons (gTup K 2 (gCons (gName 1) (gCons (gName 5) gNil))) gNil))) (tt := tYes) rfl sc_range_box.nd (show PI _ _ _ (EnT.iEnumG K _) from (EnT.pi_enumG (by rfl) T.z_enumerate (pa_cons (pv 3) pa_nil))) (blkOk_by (own := [("j", 6), ("low", 1), ("_", 5)]) (N := n_range_box) (sc := relS _ (defScope s_range_box)) (by decide +kernel)) (fun _ _ _ _ _ => (pg_tup rfl (pgs_cons (pg_name (i := 6) sc_range_box.nd rfl (Or.inl rfl)) (pgs_cons (pg_tup rfl (pgs_cons (pg_name (i := 1) sc_range_box.nd rfl (Or.inl rfl)) (pgs_cons (pg_name (i := 5) sc_range_box.nd rfl (Or.inl rfl)) pgs_nil))) pgs_nil)))) (fun _ _ _ _ _ => pts_nil) (fun _ _ _ _ _ => (pe_ifExp (pt_cmpR op_eq (pv 4) (pv 6) (nomark _)) pe_int (pe_op op_sub (pv 2) (pv 1))))))) pa_nil)))))), ?_⟩
  obtain ⟨vr, hvr, lvr, rrow⟩ := hR.row
  have row2 : ∀ (i : Nat) (v : V), vr[i]? = some v → ∃ (a : Addr) (lo hi : Int), v = .ref a ∧ (Rs.getD i []).getD 0 0 = lo ∧ (Rs.getD i []).getD 1 0 = hi ∧ SqT K H a [.int lo, .int hi] := fun i v e => by
    obtain ⟨a, r, e1, e2, e3⟩ := rrow i v e
    have l2 := hR2 r (List.mem_of_getElem? e2)
    have eD : Rs.getD i [] = r := by rw [List.getD_eq_getElem?_getD, e2]; rfl
    rw [eD]
    match r, l2, e3 with
    | [x, y], _, e3 => exact ⟨a, x, y, e1, rfl, rfl, e3⟩
  refine ⟨_, rfl, q, rfl, ⟨vr, hvr⟩, fun D hD => ?_⟩
  refine lc_it (walk_tup (xs := vr)) (fun i G => AnyP H D i (Gap Rs i) G) (AnyP.start hD (by rintro ⟨i, h, _⟩; omega)) (fun i G _ P => Same.tup P.1 hvr) ?_ ?_
  · rintro i x G G' hi P ⟨rfl, ex⟩
    obtain ⟨a, lo, hh, rfl, e1, e2, ha⟩ := row2 i x ex
    refine ⟨a, _, rfl, Same.tup P.1 ha, rfl, _, _, rfl, _, _, rfl, rfl, ?_⟩
    refine ⟨rfl, tyes ?_⟩
    refine ⟨_, rfl, _, rfl, _, _, rfl, rfl, ?_⟩
    obtain ⟨acc, z1, z2, z3⟩ := P.push (b := decide (hh < lo)) hD (Same.refl _) (lt_line (by omega))
    refine ⟨acc, z1, z2, z3.imp rfl ?_⟩
    unfold Gap
    rw [ex_lt, e1, e2, decide_eq_true_eq]
  · rintro G ⟨sG, bs, h1, h2, h3⟩
    rw [lvr] at h3
    refine ⟨D, bs, rfl, SqL.of h1, _, rfl, ite2 (fun c => ?_) (fun c => ?_)⟩
    · refine k .non G sG ?_
      unfold rangeB
      rw [if_pos (h3.mp c)]
      rfl
    have ng : ¬ Gap Rs Rs.length := fun z => c (h3.mpr z)
    obtain ⟨ra, r1, r2, r3⟩ := hR
    refine ⟨(by show 2 ≤ sizeLine; decide), fun t ht => ?_⟩
    have s0 := sG.trans (Same.new ht (.tup [.int 0, .int 0]))
    refine ⟨_, rfl, q, ra.map V.ref, rfl, .inl (Same.tup s0 r1), ?_⟩
    refine ⟨(by
      rw [sizeLine_eq]
      simp only [List.length_cons, List.length_append, List.length_map, List.length_nil]
      omega), fun l hl => ?_⟩
    have s1 := s0.trans (Same.new hl (.lst (V.ref t :: (ra.map V.ref ++ []))))
    have mE : Mx false true K (upd (upd G t (.tup [.int 0, .int 0])) l (.lst (V.ref t :: (ra.map V.ref ++ [])))) l ([0, 0] :: Rs) := by
      refine ⟨t :: ra, SqL.of (by rw [upd_same, List.append_nil]; rfl), by simp [r2], fun i a r e1 e2 => ?_⟩
      cases i with
      | zero =>
        simp at e1 e2
        subst e1 e2
        exact Same.tup (Same.new hl _) (SqT.of upd_same)
      | succ i => exact Sq.same s1 (r3 i a r (by simpa using e1) (by simpa using e2))
    generalize (upd (upd G t (.tup [.int 0, .int 0])) l (.lst (V.ref t :: (ra.map V.ref ++ [])))) = H1 at s1 mE
    have lE : ([0, 0] :: Rs).length = Rs.length + 1 := rfl
    have two := two_at hR2
    generalize eE : ([0, 0] :: Rs) = Es at mE lE two
    obtain ⟨vs, hv, lv, hrow⟩ := mE.row
    have lv2 : vs.length = Rs.length + 1 := by rw [lv, lE]
    refine ⟨_, rfl, false, l, _, rfl, hv, fun D hD => ?_⟩
    refine lc_it EnT.walk_enumG (LcP (Same H1) (RRow K false (mkM (Rs.length + 1) (wid Rs)) D) D) (lcp_start hD) (fun i G _ P => Sq.same P.1 hv) ?_ ?_
    · rintro i x G G' hi P ⟨t, u, v, rfl, ht, rfl, eu, ev⟩
      cases eu
      rw [lv2] at hi
      obtain ⟨a, r, rfl, er, ha⟩ := hrow i v ev
      obtain ⟨lo, hh, rfl, w1, w0⟩ := two i r er
      have s2 : Same G (upd G t (.tup [.int i, .ref a])) := Same.new ht _
      have ha2 := Sq.same (P.1.trans s2) ha
      refine ⟨t, _, rfl, SqT.of upd_same, rfl, _, _, rfl, _, _, rfl, a, _, rfl, ha2, rfl, _, _, rfl, _, _, rfl, rfl, rfl, ?_⟩
      refine ⟨rfl, tyes ?_⟩
      show tLc _ _ _ _ _ [some (.ref q), none, some (.int hh), some (.ref l), some (.int i), some (.int lo), none] _ _
      have hv2 := Sq.same (P.1.trans s2) hv
      refine ⟨_, rfl, false, l, _, rfl, hv2, fun D2 hD2 => ?_⟩
      refine lc_it EnT.walk_enumG (LcP (Same _) (RInt (mkR (Rs.length + 1) (wid Rs i))) D2) (lcp_start hD2) (fun i F _ P2 => Sq.same P2.1 hv2) ?_ ?_
      · rintro j y F F' hj P2 ⟨t3, c1, c2, rfl, ht3, rfl, e1, e2⟩
        cases e1
        rw [lv2] at hj
        obtain ⟨a', r', rfl, er', ha'⟩ := hrow j c2 e2
        obtain ⟨lo', hh', rfl, w1', w0'⟩ := two j r' er'
        have s3 := (P.1.trans s2).trans (P2.1.trans (Same.new ht3 (.tup [.int j, .ref a'])))
        have ha3 := Sq.same s3 ha'
        refine ⟨t3, _, rfl, SqT.of upd_same, rfl, _, _, rfl, _, _, rfl, ?_⟩
        refine ⟨a', _, rfl, ha3, rfl, _, _, rfl, _, _, rfl, rfl, rfl, ?_⟩
        refine ⟨wipe3, tyes ?_⟩
        show tIf _ _ _ [some (.ref q), some (.int lo'), some (.int hh), some (.ref l), some (.int i), some (.int hh'), some (.int j)] _ _
        refine ⟨_, rfl, _, rfl, rfl, _, rfl, ite2 (fun h => ?_) (fun h => ?_)⟩
        · have hij : i = j := by
            have h' := of_decide_eq_true h
            have := V.int.inj h'
            omega
          subst hij
          refine lcp_same P2 hD2 (Same.new ht3 _) (lt_line (by omega)) RInt.mono ⟨_, mkR_at hj, ?_⟩
          unfold wid
          rw [if_pos rfl]
        · have hij : i ≠ j := fun z => h (decide_eq_true (by rw [z]))
          refine ⟨_, rfl, _, rfl, _, _, rfl, rfl, ?_⟩
          refine lcp_same P2 hD2 (Same.new ht3 _) (lt_line (by omega)) RInt.mono ⟨_, mkR_at hj, ?_⟩
          unfold wid
          rw [if_neg hij, eE, w1, w0']
      · intro F P2
        have e := lcp_ints (K := K) P2 (by rw [lv2, mkR_len])
        exact lcp_same P hD (s2.trans P2.1) (lt_line (by omega)) RRow.mono ⟨D2, _, rfl, mkM_at hi, P.ne (s2.free hD2), SqL.of e⟩
    · intro G' P
      have m0 := lcp_rows P (by rw [lv2, mkM_sz.1])
      refine ⟨D, _, rfl, m0, by rw [mkM_sz.1]; omega, fun p' H' s' hM' => ?_⟩
      refine k (.ref p') H' ((s1.trans P.1).trans s') ?_
      unfold rangeB
      rw [if_neg ng]
      exact ⟨p', rfl, hM'⟩
end
/-! ### one bound put into a closed matrix -/
theorem bb_sum : bootBuiltins "sum" = some (.builtin "sum") := by decide +kernel
theorem bb_abs : bootBuiltins "abs" = some (.builtin "abs") := by decide +kernel
def cutF (D : Nat → Nat → Int) (i j : Nat) (c : Int) : Nat → Nat → Int := fun a b => if a = i ∧ b = j then min (D a b) c else D a b
theorem cutF_le {n i j : Nat} {c : Int} {C D : Nat → Nat → Int} (hi : i < n) (hj : j < n) : LeF n C (cutF D i j c) ↔ LeF n C D ∧ C i j ≤ c := by
  constructor
  · intro h
    refine ⟨fun a ha b hb => ?_, ?_⟩
    · have := h a ha b hb
      unfold cutF at this
      split at this
      · omega
      · exact this
    · have := h i hi j hj
      unfold cutF at this
      rw [if_pos ⟨rfl, rfl⟩] at this
      omega
  · rintro ⟨h1, h2⟩ a ha b hb
    unfold cutF
    have := h1 a ha b hb
    split
    · rename_i e
      obtain ⟨rfl, rfl⟩ := e
      omega
    · exact this
def bndF (R : Nat → Nat → Int) (i j : Nat) (c : Int) : Nat → Nat → Int := fun k m => min (R k m) (R k i + c + R j m)
def bndB (n i j : Nat) (c : Int) : Option (List (List Int)) → Option (List (List Int))
  | none => none
  | some M => if c + getM M j i < 0 then none else some (mkM n (bndF (getM M) i j c))
theorem bndB_neg {n i j : Nat} {c : Int} {M : List (List Int)} (h : c + getM M j i < 0) : bndB n i j c (some M) = none := if_pos h
theorem bndB_pos {n i j : Nat} {c : Int} {M : List (List Int)} (h : ¬ c + getM M j i < 0) : bndB n i j c (some M) = some (mkM n (bndF (getM M) i j c)) := if_neg h
theorem bndB_sz {n i j : Nat} {c : Int} {B : Option (List (List Int))} : BSz n (bndB n i j c B) := by
  intro M e
  cases B with
  | none => cases e
  | some R =>
    by_cases h : c + getM R j i < 0
    · rw [bndB_neg h] at e
      cases e
    · rw [bndB_pos h] at e
      cases e
      exact mkM_sz
theorem bnd_best {n i j : Nat} {c : Int} {D : Nat → Nat → Int} {B : Option (List (List Int))} (h : Best n D B) (hi : i < n) (hj : j < n) : Best n (cutF D i j c) (bndB n i j c B) := by
  cases B with
  | none => exact fun C hC hl => h C hC ((cutF_le hi hj).mp hl).1
  | some R =>
    obtain ⟨z, cl, le, gr⟩ := h
    by_cases neg : c + getM R j i < 0
    · rw [bndB_neg neg]
      intro C hC hl
      obtain ⟨h1, h2⟩ := (cutF_le hi hj).mp hl
      have a := gr C hC h1 j hj i hi
      have b := hC.t i hi i hi j hj
      have d := hC.d i hi
      omega
    · rw [bndB_pos neg]
      refine ⟨mkM_sz, ⟨fun k hk => ?_, fun k hk m hm l hl => ?_⟩, fun a ha b hb => ?_, fun C hC hl k hk m hm => ?_⟩
      · rw [mkM_get hk hk]
        unfold bndF
        have a := cl.d k hk
        have b := cl.t j hj i hi k hk
        omega
      · rw [mkM_get hk hm, mkM_get hk hl, mkM_get hl hm]
        unfold bndF
        have a1 := cl.t k hk m hm l hl
        have a2 := cl.t k hk i hi l hl
        have a3 := cl.t j hj m hm l hl
        have a4 := cl.t j hj i hi l hl
        omega
      · rw [mkM_get ha hb]
        have x := le a ha b hb
        unfold cutF bndF
        split
        · rename_i e
          obtain ⟨rfl, rfl⟩ := e
          have d1 := cl.d a ha
          have d2 := cl.d b hb
          omega
        · omega
      · rw [mkM_get hk hm]
        obtain ⟨h1, h2⟩ := (cutF_le hi hj).mp hl
        have g := gr C hC h1
        have a := g k hk m hm
        have b := g k hk i hi
        have d := g j hj m hm
        have e := hC.t k hk m hm i hi
        have f := hC.t i hi m hm j hj
        unfold bndF
        omega
def spBounded (K : PySem.W.Frag) : Sp := fun vs H Q _ => ∃ (va : V) (B : Option (List (List Int))) (n i j : Nat) (c : Int), vs = [va, .int i, .int j, .int c] ∧ n ≤ 900 ∧ BoxAt K H va B ∧ BSz n B ∧ i < n ∧ j < n ∧ ∀ v H', Same H H' → BoxAt K H' v (bndB n i j c B) → Q v H'
section
variable {P : Program} {w : World} {K : PySem.W.Frag} {mg : Str → Option Value} {base : Heap}
theorem ok_l_bounded (T : Txt w K mg) : FnOk P w K mg base CX0 1 T.a_l_bounded T.d_l_bounded p_l_bounded (spBounded K) := by
  refine T.F_l_bounded.ok sc_l_bounded (fun vs H Q E h => ?_) (fun cdv A outer s H vs Q E hr h => ?_)
  · obtain ⟨va, B, n, i, j, c, rfl, _⟩ := h
    rfl
  obtain ⟨va, B, n, i, j, c, rfl, hn, hB, zB, hi, hj, q⟩ := h
  refine ⟨_, (pss_cons (ps_if (PW.pt (pw_or (pt_cmpR op_isN (pv 0) pe_non (nomark _)) (pw_or1 (pt_cmpR op_lt (pe_op op_add (pv 3) (pe_ix ix_tup (pe_ix ix_tup (pv 0) (pv 2) (fun _ _ => rfl)) (pv 1) (fun _ _ => rfl))) pe_int (nomark _))))) (pss_one (ps_ret pe_non)) pss_nil)
      (pss_cons (ps_set (i := 4) sc_l_bounded.nd rfl (Or.inl rfl) (pe_lst pa_nil))
      (pss_cons (ps_for PassesOwn.never rfl (pi_range1 rfl T.z_range (pa_cons (pe_callB call_len_seq rfl T.z_len PySem.boot_len (pa_cons (pv 0) pa_nil)) pa_nil)) (pg_name (i := 5) sc_l_bounded.nd rfl (Or.inr rfl))
        (pss_cons (ps_set (i := 6) sc_l_bounded.nd rfl (Or.inr rfl) (pe_op op_add (pe_ix ix_tup (pe_ix ix_tup (pv 0) (pv 5) (fun _ _ => rfl)) (pv 1) (fun _ _ => rfl)) (pv 3)))
      (pss_one (ps_expr (pe_bm PySem.F.plainAttrs_list PySem.F.slot_list_append PySem.F.type_list_append mt_append (pv 4) (pa_cons (pe_callTy call_tuple_of rfl T.z_tuple bt_tuple (pa_cons (pe_lc (own := [("_law_m", 7)]) (g := gName 7) (tt := tYes) rfl sc_l_bounded.nd (pi_range1 rfl T.z_range (pa_cons (pe_callB call_len_seq rfl T.z_len PySem.boot_len (pa_cons (pv 0) pa_nil)) pa_nil)) (blkOk_by (own := [("_law_m", 7)]) (N := n_l_bounded) (sc := defScope s_l_bounded) (by decide +kernel)) (fun _ _ _ _ _ => (pg_name (i := 7) sc_l_bounded.nd rfl (Or.inl rfl))) (fun _ _ _ _ _ => pts_nil) (fun _ _ _ _ _ => (pe_callB (call_min2 rfl) rfl T.z_min bb_min (pa_cons (pe_ix (show IxR _ (rIxT K) from ix_tup) (pe_ix (show IxR _ (rIxT K) from ix_tup) (pv 0) (pv 5) (fun _ _ => rfl)) (pv 7) (fun _ _ => rfl)) (pa_cons (pe_op op_add (pv 6) (pe_ix (show IxR _ (rIxT K) from ix_tup) (pe_ix (show IxR _ (rIxT K) from ix_tup) (pv 0) (pv 2) (fun _ _ => rfl)) (pv 7) (fun _ _ => rfl))) pa_nil))))) pa_nil)) pa_nil))))))
      (pss_one (ps_ret (pe_callTy call_tuple_of rfl T.z_tuple bt_tuple (pa_cons (pv 4) pa_nil))))))), ?_⟩
  cases B with
  | none =>
    obtain rfl : va = .non := hB
    refine ⟨_, rfl, rfl, _, rfl, ifT rfl (ifT rfl ?_)⟩
    exact q _ _ (Same.refl _) rfl
  | some M =>
  obtain ⟨pa, rfl, hM⟩ := hB
  have sM := zB M rfl
  refine ⟨_, rfl, rfl, _, rfl, ifF rfl ?_⟩
  obtain ⟨vs, hv, lv, _⟩ := hM.row
  have lv1 : vs.length = n := by rw [lv, sM.1]
  obtain ⟨rj, ej, lj, gj⟩ := sM.at2 hj hi
  obtain ⟨vsj, aj, x1, x2, x3⟩ := hM.getT ej
  refine ⟨_, rfl, _, rfl, _, rfl, pa, _, _, _, rfl, rfl, x1, x2, _, rfl, aj, _, _, _, rfl, rfl, x3, atI_nat (map_get gj), _, _, rfl, rfl, _, _, rfl, rfl, _, rfl, ite2 (fun h => ?_) (fun h => ?_)⟩
  · have h' : c + getM M j i < 0 := of_decide_eq_true h
    exact q _ _ (Same.refl _) (by rw [bndB_neg h']; rfl)
  have h' : ¬ c + getM M j i < 0 := of_decide_eq_false (Bool.eq_false_iff.mpr h)
  have eB : bndB n i j c (some M) = some (mkM n (bndF (getM M) i j c)) := bndB_pos h'
  rw [eB] at q
  refine ⟨(by show 0 ≤ sizeLine; decide), fun pr hpr => ?_⟩
  have s0 : Same H (upd H pr (.lst [])) := Same.new hpr _
  refine ⟨_, rfl, pa, _, rfl, .inr (Same.tup s0 hv), _, rfl, by omega, by omega, for_range (lo := 0) (fun k σ G => (∃ x y z : Option V, σ = [some (.ref pa), some (.int i), some (.int j), some (.int c), some (.ref pr), x, y, z]) ∧ LcP (Same H) (RRow K true (mkM n (bndF (getM M) i j c)) pr) pr k G) ⟨⟨none, none, none, rfl⟩, lcp_start hpr⟩ ?_ ?_⟩
  · rintro k σ G hk ⟨⟨x, y, z, rfl⟩, P⟩
    rw [lv1] at hk
    have hk' : k < n := by omega
    obtain ⟨rk, ek, lk, gk⟩ := sM.at2 hk' hi
    obtain ⟨vsk, ak, y1, y2, y3⟩ := hM.getT ek
    have ek0 : atI vsk (0 + (k : Int)) = some (.ref ak) := by rw [Int.zero_add]; exact y2
    refine ⟨_, rfl, _, rfl, pa, _, _, _, rfl, rfl, Same.tup P.1 y1, ek0, _, rfl, ak, _, _, _, rfl, rfl, Same.tup P.1 y3, atI_nat (map_get gk), _, rfl, _, _, rfl, rfl, ?_⟩
    obtain ⟨acc, a1, a2⟩ := P.acc
    refine ⟨_, rfl, .inl ⟨rfl, _, SqL.of a1⟩, ?_⟩
    refine ⟨_, rfl, pa, _, rfl, .inr (Same.tup P.1 hv), _, rfl, by omega, by omega, fun D hD => ?_⟩
    rw [lv1]
    refine lc_it walk_range (LcP (Same G) (RInt (mkR n (bndF (getM M) i j c k))) D) (lcp_start hD) (fun _ _ _ _ => trivial) ?_ ?_
    · rintro m x F F' hm PF ⟨rfl, rfl⟩
      have hm' : m < n := by omega
      have sF := P.1.trans PF.1
      refine ⟨rfl, tyes ?_⟩
      have gkm : rk[m]? = some (getM M k m) := by
        obtain ⟨r2, e2, _, g2⟩ := sM.at2 hk' hm'
        rw [ek] at e2
        cases e2
        exact g2
      have gjm : rj[m]? = some (getM M j m) := by
        obtain ⟨r2, e2, _, g2⟩ := sM.at2 hj hm'
        rw [ej] at e2
        cases e2
        exact g2
      have i1 : atI (rk.map V.int) (0 + (m : Int)) = some (.int (getM M k m)) := by rw [Int.zero_add]; exact atI_nat (map_get gkm)
      have i2 : atI (rj.map V.int) (0 + (m : Int)) = some (.int (getM M j m)) := by rw [Int.zero_add]; exact atI_nat (map_get gjm)
      refine ⟨_, rfl, _, rfl, pa, _, _, _, rfl, rfl, Same.tup sF y1, ek0, _, rfl, ak, _, _, _, rfl, rfl, Same.tup sF y3, i1, ?_⟩
      refine ⟨_, rfl, _, rfl, _, rfl, pa, _, _, _, rfl, rfl, Same.tup sF x1, x2, _, rfl, aj, _, _, _, rfl, rfl, Same.tup sF x3, i2, _, _, rfl, rfl, _, _, rfl, ?_⟩
      refine lcp_same PF hD (Same.refl _) (lt_line (by omega)) RInt.mono ⟨_, mkR_at hm', ?_⟩
      unfold bndF
      congr 1
      split <;> omega
    · intro F PF
      refine ⟨D, _, rfl, .inl ⟨SqL.of (lcp_ints (K := K) PF (by rw [mkR_len]; omega)), fun t ht => ?_⟩⟩
      have a1F := PF.1 _ _ a1
      have tn : t ≠ pr := fun z => by
        rw [← z, ht] at a1F
        cases a1F
      refine ⟨pr, acc, _, rfl, rfl, by rw [upd_ne tn.symm]; exact a1F, lt_line (by omega), ⟨_, _, _, rfl⟩, ?_⟩
      exact lcp_put P a1 hpr (PF.1.trans (Same.new ht _)) (lt_line (by omega)) RRow.mono ⟨t, _, rfl, mkM_at hk', tn, Sq.upd_sameT⟩
  · rintro σ G ⟨⟨x, y, z, rfl⟩, P⟩
    obtain ⟨as, h1, h2, h3⟩ := lcp_rows P (by rw [lv1, mkM_sz.1]; omega)
    refine ⟨_, rfl, pr, _, rfl, .inl ⟨h1, fun l hl => ?_⟩⟩
    exact q (.ref l) _ (P.1.trans (Same.new hl _)) ⟨l, rfl, as, Sq.upd_sameT, h2, fun i a r e1 e2 => Sq.same (Same.new hl _) (h3 i a r e1 e2)⟩
end
/-! ### matrices whose entries are written one after the other -/
def updF (f : Nat → Nat → Int) (i j : Nat) (v : Int) : Nat → Nat → Int := fun a b => if a = i ∧ b = j then v else f a b
theorem mkR_set {n j : Nat} {f : Nat → Int} {v : Int} : (mkR n f).set j v = mkR n fun b => if b = j then v else f b := by
  refine List.ext_getElem? fun b => ?_
  by_cases hb : b < n
  · rw [List.getElem?_set, mkR_at hb, mkR_at hb, mkR_len]
    by_cases e : j = b
    · rw [if_pos e, if_pos e.symm, if_pos (by omega)]
    · rw [if_neg e, if_neg (fun z => e z.symm)]
  · rw [List.getElem?_eq_none (by rw [List.length_set, mkR_len]; omega), List.getElem?_eq_none (by rw [mkR_len]; omega)]
theorem mkM_len {n : Nat} {f : Nat → Nat → Int} : (mkM n f).length = n := by simp [mkM]
theorem mkM_put {n i j : Nat} {f : Nat → Nat → Int} {v : Int} : (mkM n f).set i ((mkR n (f i)).set j v) = mkM n (updF f i j v) := by
  refine List.ext_getElem? fun a => ?_
  by_cases ha : a < n
  · rw [List.getElem?_set, mkM_at ha, mkM_at ha, mkM_len, mkR_set]
    by_cases e : i = a
    · subst e
      rw [if_pos rfl, if_pos ha]
      congr 2
      funext b
      unfold updF
      by_cases h : b = j
      · rw [if_pos h, if_pos ⟨rfl, h⟩]
      · rw [if_neg h, if_neg (fun z => h z.2)]
    · rw [if_neg e]
      congr 2
      funext b
      unfold updF
      rw [if_neg (fun z => e z.1.symm)]
  · rw [List.getElem?_eq_none (by rw [List.length_set, mkM_len]; omega), List.getElem?_eq_none (by rw [mkM_len]; omega)]
/-- g ahead of row i, column j, else f -/
def mix (f g : Nat → Nat → Int) (i j : Nat) : Nat → Nat → Int := fun a b => if a < i ∨ (a = i ∧ b < j) then g a b else f a b
theorem mix_step {n i j : Nat} {f g : Nat → Nat → Int} {v : Int} (e : v = g i j) : mkM n (updF (mix f g i j) i j v) = mkM n (mix f g i (j + 1)) := by
  refine mkM_congr fun a ha b hb => ?_
  unfold updF mix
  by_cases h : a = i ∧ b = j
  · obtain ⟨rfl, rfl⟩ := h
    rw [if_pos ⟨rfl, rfl⟩, if_pos (.inr ⟨rfl, by omega⟩), e]
  · rw [if_neg h]
    by_cases k : a < i ∨ (a = i ∧ b < j)
    · rw [if_pos k, if_pos (by omega)]
    · rw [if_neg k, if_neg (by omega)]
theorem mix_skip {n i j : Nat} {f g : Nat → Nat → Int} (e : f i j = g i j) : mkM n (mix f g i j) = mkM n (mix f g i (j + 1)) := by
  refine mkM_congr fun a ha b hb => ?_
  unfold mix
  by_cases k : a < i ∨ (a = i ∧ b < j)
  · rw [if_pos k, if_pos (by omega)]
  · rw [if_neg k]
    by_cases h : a = i ∧ b = j
    · obtain ⟨rfl, rfl⟩ := h
      rw [if_pos (.inr ⟨rfl, by omega⟩), e]
    · rw [if_neg (by omega)]
theorem mix_row {n i : Nat} {f g : Nat → Nat → Int} : mkM n (mix f g i n) = mkM n (mix f g (i + 1) 0) := by
  refine mkM_congr fun a ha b hb => ?_
  unfold mix
  by_cases k : a < i ∨ (a = i ∧ b < n)
  · rw [if_pos k, if_pos (by omega)]
  · rw [if_neg k, if_neg (by omega)]
theorem mix_start {n : Nat} {f g : Nat → Nat → Int} : mkM n (mix f g 0 0) = mkM n f := mkM_congr fun a ha b hb => by
  unfold mix
  rw [if_neg (by omega)]
theorem mix_end {n : Nat} {f g : Nat → Nat → Int} : mkM n (mix f g n 0) = mkM n g := mkM_congr fun a ha b hb => by
  unfold mix
  rw [if_pos (.inl ha)]
theorem mkM_app {n i : Nat} {f : Nat → Nat → Int} (hi : i < n) : (mkM n f).take (i + 1) = (mkM n f).take i ++ [mkR n (f i)] := by
  rw [List.take_add_one, mkM_at hi]
  rfl
def rListOf (K : PySem.W.Frag) : List V → Hp → VK → Prop := fun xs H Q => ∃ p ys, xs = [.ref p] ∧ (SqL K H p ys ∨ SqT K H p ys) ∧ ∀ l, H l = none → Q (.ref l) (upd H l (.lst ys))
def spWid (K : PySem.W.Frag) : Sp := fun vs H Q _ => ∃ (a q : Addr) (Rs : List (List Int)), vs = [.ref q] ∧ Src H a ∧ Mx true true K H q Rs ∧ (∀ r ∈ Rs, r.length = 2) ∧ Rs.length ≤ 100 ∧
  ∀ pr as H', Same H H' → RowsN a H H' pr as (mkM (Rs.length + 1) (wid Rs)) → Q (.ref pr) H'
def spClosedI (K : PySem.W.Frag) : Sp := fun vs H Q _ => ∃ (a pr : Addr) (as : List Addr) (f C : Nat → Nat → Int) (n : Nat) (H0 : Hp), vs = [.ref pr] ∧ n ≤ 900 ∧ RowsN a H0 H pr as (mkM n f) ∧ (∀ i < n, f i i = 0) ∧ Clo n C ∧ LeF n C f ∧
  ∀ v H' N, Same H H' → BoxAt K H' v (some N) → Best n f (some N) → Q v H'
theorem fw_zero {n : Nat} {f : Nat → Nat → Int} (h : ∀ i < n, f i i = 0) : Fw n f 0 f where
  d := fun i hi => by rw [h i hi]; exact Int.le_refl _
  le := LeF.refl _
  gr := fun _ _ h => h
  t := fun _ m hm => by omega
theorem fwS_col {k i : Nat} {g : Nat → Nat → Int} (h : g k k = 0) : fwS k g i k = g i k := by
  unfold fwS
  omega
theorem fwS_row {k j : Nat} {g : Nat → Nat → Int} (h : g k k = 0) : fwS k g k j = g k j := by
  unfold fwS
  omega
/-! ### one bound; what two boxes have in common -/
def spBound (K : PySem.W.Frag) : Sp := fun vs H Q _ => ∃ (v : V) (B : Option (List (List Int))) (n i j : Nat) (c : Int), vs = [v, .int i, .int j, .int c] ∧ BoxAt K H v B ∧ BSz n B ∧ (∀ M, B = some M → Clo n (getM M)) ∧ i < n ∧ j < n ∧ n ≤ 900 ∧ ∀ v H', Same H H' → BoxAt K H' v (bndB n i j c B) → Q v H'
def minF (f g : Nat → Nat → Int) : Nat → Nat → Int := fun i j => min (f i j) (g i j)
def MeetB (n : Nat) : Option (List (List Int)) → Option (List (List Int)) → Option (List (List Int)) → Prop
  | some M, some N, R => Best n (minF (getM M) (getM N)) R
  | _, _, R => R = none
def spMeet (K : PySem.W.Frag) : Sp := fun vs H Q _ => ∃ (va vb : V) (A B : Option (List (List Int))) (n : Nat), vs = [va, vb] ∧ BoxAt K H va A ∧ BoxAt K H vb B ∧ BSz n A ∧ BSz n B ∧ n ≤ 900 ∧ ∀ v H' R, Same H H' → BoxAt K H' v R → MeetB n A B R → Q v H'
theorem bnd_id {n i j : Nat} {c : Int} {M : List (List Int)} (z : Sz n M) (h : Clo n (getM M)) (hi : i < n) (hj : j < n) (l : getM M i j ≤ c) : bndB n i j c (some M) = some M := by
  have neg : ¬ c + getM M j i < 0 := by
    have a := h.t i hi i hi j hj
    have b := h.d i hi
    omega
  rw [bndB_pos neg]
  refine congrArg some (sz_ext mkM_sz z fun k hk m hm => ?_)
  rw [mkM_get hk hm]
  unfold bndF
  have a := h.t k hk m hm i hi
  have b := h.t i hi m hm j hj
  omega
section
variable {P : Program} {w : World} {K : PySem.W.Frag} {mg : Str → Option Value} {base : Heap}
theorem ok_bound (T : Txt w K mg) : FnOk P w K mg base CX0 2 T.a_bound T.d_bound p_bound (spBound K) := by
  have g_frozen := ok_frozen (P := P) (w := w) (base := base) T
  refine T.F_bound.ok sc_bound (fun vs H Q E h => ?_) (fun cdv A outer s H vs Q E hr h => ?_)
  · obtain ⟨v, B, n, i, j, c, rfl, _⟩ := h
    rfl
  obtain ⟨v, B, n, i, j, c, rfl, hB, zB, cB, hi, hj, hn, q⟩ := h
  refine ⟨_, (pss_cons (ps_if (PW.pt (pw_or (pt_cmpR op_isN (pv 0) pe_non (nomark _)) (pw_or1 (pt_cmpR op_lt (pe_op op_add (pv 3) (pe_ix ix_tup (pe_ix ix_tup (pv 0) (pv 2) (fun _ _ => rfl)) (pv 1) (fun _ _ => rfl))) pe_int (nomark _))))) (pss_one (ps_ret pe_non)) pss_nil)
      (pss_cons (ps_if (pt_cmpR op_le (pe_ix ix_tup (pe_ix ix_tup (pv 0) (pv 1) (fun _ _ => rfl)) (pv 2) (fun _ _ => rfl)) (pv 3) (nomark _)) (pss_one (ps_ret (pv 0))) pss_nil)
      (pss_cons (ps_set (i := 4) sc_bound.nd rfl (Or.inr rfl) (pe_lc (own := [("second", 5)]) (g := gName 5) (tt := tYes) rfl sc_bound.nd (pi_tup (pe_ix ix_tup (pv 0) (pv 2) (fun _ _ => rfl))) (blkOk_by (own := [("second", 5)]) (N := n_bound) (sc := defScope s_bound) (by decide +kernel)) (fun _ _ _ _ _ => (pg_name (i := 5) sc_bound.nd rfl (Or.inl rfl))) (fun _ _ _ _ _ => pts_nil) (fun _ _ _ _ _ => (pe_op op_add (pv 3) (pv 5)))))
      (pss_one (ps_ret (pe_call g_frozen (hr.mono (by first | decide | omega)) rfl T.m_frozen T.F_frozen.kp T.b_frozen .nil pass0 (pa_cons (pe_lc (own := [("row", 6)]) (g := gName 6) (tt := tYes) rfl sc_bound.nd (pi_tup (pv 0)) (blkOk_by (own := [("row", 6)]) (N := n_bound) (sc := defScope s_bound) (by decide +kernel)) (fun _ _ _ _ _ => (pg_name (i := 6) sc_bound.nd rfl (Or.inr rfl))) (fun _ _ _ _ _ => pts_nil) (fun _ _ _ _ _ => (pe_lc (own := [("old", 7), ("second", 5)]) (g := gTup K 2 (gCons (gName 7) (gCons (gName 5) gNil))) (tt := tYes) rfl sc_bound.nd (show PI _ _ _ (ZG.iZipG K _) from (ZG.pi_zipG (by rfl) T.z_zip (pa_cons (pv 6) (pa_cons (pv 4) pa_nil)))) (blkOk_by (own := [("old", 7), ("second", 5)]) (N := n_bound) (sc := relS _ (defScope s_bound)) (by decide +kernel)) (fun _ _ _ _ _ => (pg_tup rfl (pgs_cons (pg_name (i := 7) sc_bound.nd rfl (Or.inl rfl)) (pgs_cons (pg_name (i := 5) sc_bound.nd rfl (Or.inl rfl)) pgs_nil)))) (fun _ _ _ _ _ => pts_nil) (fun _ _ _ _ _ => (pe_callB (call_min2 rfl) rfl T.z_min bb_min (pa_cons (pv 7) (pa_cons (pe_op op_add (pe_ix (show IxR _ (rIxT K) from ix_tup) (pv 6) (pv 1) (fun _ _ => rfl)) (pv 5)) pa_nil))))))) pa_nil))))))), ?_⟩
  cases B with
  | none =>
    obtain rfl : v = .non := hB
    exact ⟨_, rfl, rfl, _, rfl, ifT rfl (ifT rfl (q _ _ (Same.refl _) rfl))⟩
  | some M =>
  obtain ⟨pa, rfl, hM⟩ := hB
  have sM := zB M rfl
  have cM := cB M rfl
  refine ⟨_, rfl, rfl, _, rfl, ifF rfl ?_⟩
  obtain ⟨vs, hv, lv, hrow⟩ := hM.row
  have lv1 : vs.length = n := by rw [lv, sM.1]
  obtain ⟨vs1, a1, r1, g1, g2, g3, g4⟩ := hM.get3 sM hj hi
  refine ⟨_, rfl, _, rfl, _, rfl, pa, _, _, _, rfl, rfl, g1, g2, _, rfl, a1, _, _, _, rfl, rfl, g3, g4, _, _, rfl, rfl, _, _, rfl, rfl, _, rfl, ite2 (fun h => ?_) (fun h => ?_)⟩
  · have h' : c + getM M j i < 0 := of_decide_eq_true h
    exact q _ _ (Same.refl _) (by rw [bndB_neg h']; rfl)
  have h' : ¬ c + getM M j i < 0 := of_decide_eq_false (Bool.eq_false_iff.mpr h)
  obtain ⟨vs2, a2, r2, k1, k2, k3, k4⟩ := hM.get3 sM hi hj
  refine ⟨_, rfl, _, rfl, pa, _, _, _, rfl, rfl, k1, k2, _, rfl, a2, _, _, _, rfl, rfl, k3, k4, _, rfl, _, _, rfl, rfl, _, rfl, ite2 (fun h2 => ?_) (fun h2 => ?_)⟩
  · have h3 : getM M i j ≤ c := of_decide_eq_true h2
    refine ⟨_, rfl, q _ _ (Same.refl _) ?_⟩
    rw [bnd_id sM cM hi hj h3]
    exact ⟨pa, rfl, hM⟩
  rw [bndB_pos h'] at q
  obtain ⟨rj, ej, lj⟩ := sM.at hj
  obtain ⟨ws, aj, x1, x2, x3⟩ := hM.getT ej
  have erj : rj = mkR n (getM M j) := by
    have e2 := mkM_at (f := getM M) hj
    rw [mkM_self sM, ej] at e2
    exact Option.some.inj e2
  refine ⟨_, rfl, _, rfl, pa, _, _, _, rfl, rfl, x1, x2, aj, rfl, ⟨_, x3⟩, fun D hD => ?_⟩
  refine lc_it (walk_tup (xs := rj.map V.int)) (LcP (Same H) (RInt (mkR n fun m => c + getM M j m)) D) (lcp_start hD) (fun i G _ P => Same.tup P.1 x3) ?_ ?_
  · rintro k x G G' hk P ⟨rfl, ex⟩
    obtain ⟨u, fk, rfl⟩ := get_int ex
    rw [List.length_map, lj] at hk
    rw [erj, mkR_at hk] at fk
    cases fk
    refine ⟨rfl, tyes ?_⟩
    refine ⟨_, rfl, _, rfl, _, _, rfl, rfl, ?_⟩
    exact lcp_same P hD (Same.refl _) (lt_line (by omega)) RInt.mono ⟨_, mkR_at hk, rfl⟩
  intro G PA
  have hb := lcp_ints (K := K) PA (by rw [List.length_map, lj, mkR_len])
  have sG := PA.1
  have lb : ((mkR n fun m => c + getM M j m).map V.int).length = n := by rw [List.length_map, mkR_len]
  refine ⟨_, rfl, pa, rfl, ⟨_, Same.tup sG hv⟩, fun D2 hD2 => ?_⟩
  refine lc_it (walk_tup (xs := vs)) (LcP (Same G) (RRow K false (mkM n (bndF (getM M) i j c)) D2) D2) (lcp_start hD2) (fun _ F _ P => Same.tup (sG.trans P.1) hv) ?_ ?_
  · rintro k x F F' hk P ⟨rfl, ex⟩
    rw [lv1] at hk
    obtain ⟨a, r, rfl, er, ha⟩ := hrow k x ex
    have er2 : r = mkR n (getM M k) := by
      have e2 := mkM_at (f := getM M) hk
      rw [mkM_self sM, er] at e2
      exact Option.some.inj e2
    have lr := sM.get er
    refine ⟨rfl, tyes ?_⟩
    have haF := Same.tup (sG.trans P.1) ha
    refine ⟨_, rfl, _, rfl, true, false, a, D, _, _, rfl, haF, SqL.of (P.1 _ _ hb), fun D3 hD3 => ?_⟩
    refine lc_it (walk_zipG (n := n) (by rw [lb, List.length_map, lr]; omega)) (LcP (Same F') (RInt (mkR n (bndF (getM M) i j c k))) D3) (lcp_start hD3) (fun _ E _ P3 => ⟨Same.tup P3.1 haF, SqL.of (P3.1 _ _ (P.1 _ _ hb))⟩) ?_ ?_
    · rintro m y E1 E2 hm P3 ⟨t, c1, c2, rfl, ht, rfl, e1, e2⟩
      obtain ⟨u1, f1, rfl⟩ := get_int e1
      obtain ⟨u2, f2, rfl⟩ := get_int e2
      rw [er2, mkR_at hm] at f1
      cases f1
      rw [mkR_at hm] at f2
      cases f2
      have s3 := P3.1.trans (Same.new ht (.tup [.int (getM M k m), .int (c + getM M j m)]))
      have at_ : atI (r.map V.int) (i : Int) = some (.int (getM M k i)) := by
        rw [er2]
        exact atI_nat (map_get (mkR_at hi))
      refine ⟨t, _, rfl, SqT.of upd_same, rfl, _, _, rfl, _, _, rfl, rfl, ?_⟩
      refine ⟨rfl, tyes ?_⟩
      refine ⟨_, rfl, _, rfl, _, rfl, a, _, _, _, rfl, rfl, Same.tup s3 haF, at_, _, rfl, _, _, rfl, rfl, _, _, rfl, ?_⟩
      refine lcp_same P3 hD3 (Same.new ht _) (lt_line (by omega)) RInt.mono ⟨_, mkR_at hm, ?_⟩
      unfold bndF
      congr 1
      split <;> omega
    · intro E P3
      have e := lcp_ints (K := K) P3 mkR_len.symm
      exact lcp_same P hD2 P3.1 (lt_line (by omega)) RRow.mono ⟨D3, _, rfl, mkM_at hk, P.ne hD3, SqL.of e⟩
  · intro F P
    have m0 := lcp_rows P (by rw [lv1, mkM_sz.1])
    exact ⟨D2, _, rfl, m0, by rw [mkM_sz.1]; omega, fun p' H' s' hM' => q (.ref p') H' ((sG.trans P.1).trans s') ⟨p', rfl, hM'⟩⟩
theorem ok_meet_boxes (T : Txt w K mg) : FnOk P w K mg base CX0 3 T.a_meet_boxes T.d_meet_boxes p_meet_boxes (spMeet K) := by
  have g_close := ok_close (P := P) (w := w) (K := K) (base := base) T
  refine T.F_meet_boxes.ok sc_meet_boxes (fun vs H Q E h => ?_) (fun cdv A outer s H vs Q E hr h => ?_)
  · obtain ⟨va, vb, BA, BB, n, rfl, _⟩ := h
    rfl
  obtain ⟨va, vb, BA, BB, n, rfl, hA, hB, zA, zB, hn, q⟩ := h
  refine ⟨_, (pss_cons (ps_if (PW.pt (pw_or (pt_cmpR op_isN (pv 0) pe_non (nomark _)) (pw_or1 (pt_cmpR op_isN (pv 1) pe_non (nomark _))))) (pss_one (ps_ret pe_non)) pss_nil)
      (pss_one (ps_ret (pe_call g_close (hr.mono (by first | decide | omega)) rfl T.m_close T.F_close.kp T.b_close .nil pass0 (pa_cons (pe_lc (own := [("row", 2), ("other", 3)]) (g := gTup K 2 (gCons (gName 2) (gCons (gName 3) gNil))) (tt := tYes) rfl sc_meet_boxes.nd (ZG.pi_zipG (by rfl) T.z_zip (pa_cons (pv 0) (pa_cons (pv 1) pa_nil))) (blkOk_by (own := [("row", 2), ("other", 3)]) (N := n_meet_boxes) (sc := defScope s_meet_boxes) (by decide +kernel)) (fun _ _ _ _ _ => (pg_tup rfl (pgs_cons (pg_name (i := 2) sc_meet_boxes.nd rfl (Or.inl rfl)) (pgs_cons (pg_name (i := 3) sc_meet_boxes.nd rfl (Or.inl rfl)) pgs_nil)))) (fun _ _ _ _ _ => pts_nil) (fun _ _ _ _ _ => (pe_lc (own := [("pair", 4)]) (g := gName 4) (tt := tYes) rfl sc_meet_boxes.nd (show PI _ _ _ (ZG.iZipG K _) from (ZG.pi_zipG (by rfl) T.z_zip (pa_cons (pv 2) (pa_cons (pv 3) pa_nil)))) (blkOk_by (own := [("pair", 4)]) (N := n_meet_boxes) (sc := relS _ (defScope s_meet_boxes)) (by decide +kernel)) (fun _ _ _ _ _ => (pg_name (i := 4) sc_meet_boxes.nd rfl (Or.inl rfl))) (fun _ _ _ _ _ => pts_nil) (fun _ _ _ _ _ => (pe_callB (show CallR _ _ (MxT.rMinT K) from (MxT.call_minT rfl)) rfl T.z_min bb_min (pa_cons (pv 4) pa_nil)))))) pa_nil))))), ?_⟩
  cases BA with
  | none =>
    obtain rfl : va = .non := hA
    exact ⟨_, rfl, rfl, _, rfl, ifT rfl (ifT rfl (q _ _ none (Same.refl _) rfl rfl))⟩
  | some M =>
  obtain ⟨pa, rfl, hM⟩ := hA
  refine ⟨_, rfl, rfl, _, rfl, ifF rfl ?_⟩
  cases BB with
  | none =>
    obtain rfl : vb = .non := hB
    exact ⟨_, rfl, rfl, _, rfl, ifT rfl (q _ _ none (Same.refl _) rfl rfl)⟩
  | some N =>
  obtain ⟨pb, rfl, hN⟩ := hB
  refine ⟨_, rfl, rfl, _, rfl, ifF rfl ?_⟩
  have sM := zA M rfl
  have sN := zB N rfl
  obtain ⟨vsA, hvA, hlA, hrA⟩ := hM.row
  obtain ⟨vsB, hvB, hlB, hrB⟩ := hN.row
  have lM := sM.1
  have lN := sN.1
  let R1 : List (List Int) := mkM n (minF (getM M) (getM N))
  refine ⟨_, rfl, _, rfl, true, true, pa, pb, _, _, rfl, hvA, hvB, fun D hD => ?_⟩
  refine lc_it (walk_zipG (n := n) (by omega)) (LcP (Same H) (RRow K false R1 D) D) (lcp_start hD) (fun i G _ P => ⟨Sq.same P.1 hvA, Sq.same P.1 hvB⟩) ?_ ?_
  · rintro i x G G' hi P ⟨t, u, v, rfl, ht, rfl, eu, ev⟩
    obtain ⟨a, r, rfl, er, ha⟩ := hrA i u eu
    obtain ⟨b, r', rfl, er', hb⟩ := hrB i v ev
    have lr := sM.get er
    have lr' := sN.get er'
    have s1 : Same G (upd G t (.tup [.ref a, .ref b])) := Same.new ht _
    refine ⟨t, _, rfl, SqT.of upd_same, rfl, _, _, rfl, _, _, rfl, rfl, ?_⟩
    refine ⟨rfl, tyes ?_⟩
    have ha2 := Sq.same (P.1.trans s1) ha
    have hb2 := Sq.same (P.1.trans s1) hb
    refine ⟨_, rfl, _, rfl, true, true, a, b, _, _, rfl, ha2, hb2, fun D2 hD2 => ?_⟩
    refine lc_it (walk_zipG (n := n) (by rw [List.length_map, List.length_map]; omega)) (LcP (Same _) (RInt (mkR n (minF (getM M) (getM N) i))) D2) (lcp_start hD2) (fun i F _ P2 => ⟨Sq.same P2.1 ha2, Sq.same P2.1 hb2⟩) ?_ ?_
    · rintro j y F F' hj P2 ⟨t2, c1, c2, rfl, ht2, rfl, e1, e2⟩
      obtain ⟨k1, f1, rfl⟩ := get_int e1
      obtain ⟨k2, f2, rfl⟩ := get_int e2
      refine ⟨rfl, tyes ?_⟩
      refine ⟨_, rfl, t2, [k1, k2], rfl, SqT.of upd_same, (by simp), fun m hm hx => ?_⟩
      have em : m = min k1 k2 := by
        have h1 := hx k1 (by simp)
        have h2 := hx k2 (by simp)
        have h3 : m = k1 ∨ m = k2 := by simpa using hm
        omega
      refine lcp_same P2 hD2 (Same.new ht2 _) (lt_line (by omega)) RInt.mono ⟨_, mkR_at hj, ?_⟩
      unfold minF
      rw [em, getM_of er f1, getM_of er' f2]
    · intro F P2
      have e := lcp_ints (K := K) P2 mkR_len.symm
      exact lcp_same P hD (s1.trans P2.1) (lt_line (by omega)) RRow.mono ⟨D2, _, rfl, mkM_at hi, P.ne (s1.free hD2), SqL.of e⟩
  · intro G P
    refine ⟨false, false, D, R1, n, rfl, lcp_rows P mkM_sz.1.symm, mkM_sz, hn, fun v H' R s' b' best => q v H' R (P.1.trans s') b' ?_⟩
    exact best.congr fun C _ => by
      constructor
      · intro h i hi j hj
        have := h i hi j hj
        rwa [mkM_get hi hj] at this
      · intro h i hi j hj
        rw [mkM_get hi hj]
        exact h i hi j hj
end
/-! ### all points of a matrix, listed -/
def valsL (M : List (List Int)) (c : Nat) : List Int := (List.range (getM M c 0 + 1 - (0 - getM M 0 c)).toNat).map fun (k : Nat) => (0 - getM M 0 c) + (k : Int)
def fitP (M : List (List Int)) (c : Nat) (p : List Int) (v : Int) : Prop := ∀ k < p.length, v - p.getD k 0 ≤ getM M c (k + 1) ∧ p.getD k 0 - v ≤ getM M (k + 1) c
instance (M : List (List Int)) (c : Nat) (p : List Int) (v : Int) : Decidable (fitP M c p v) := inferInstanceAs (Decidable (∀ k < p.length, _))
def stepV (M : List (List Int)) (c : Nat) (p : List Int) (vs : List Int) : List (List Int) := (vs.filter fun v => decide (fitP M c p v)).map fun v => p ++ [v]
def stepL (M : List (List Int)) (c : Nat) (Ps : List (List Int)) : List (List Int) := Ps.flatMap fun p => stepV M c p (valsL M c)
def ptsL (M : List (List Int)) : Nat → List (List Int)
  | 0 => [[]]
  | c + 1 => stepL M (c + 1) (ptsL M c)
def InP (M : List (List Int)) (c : Nat) (p : List Int) : Prop := p.length = c ∧ ∀ i < c + 1, ∀ j < c + 1, i ≠ j → dif i j p ≤ getM M i j
theorem mem_vals {M : List (List Int)} {c : Nat} {v : Int} : v ∈ valsL M c ↔ 0 - getM M 0 c ≤ v ∧ v ≤ getM M c 0 := by
  unfold valsL
  rw [List.mem_map]
  constructor
  · rintro ⟨k, hk, rfl⟩
    rw [List.mem_range] at hk
    omega
  · rintro ⟨h1, h2⟩
    exact ⟨(v - (0 - getM M 0 c)).toNat, List.mem_range.mpr (by omega), by omega⟩
theorem snoc_get {p : List Int} {v : Int} {i : Nat} (h : i ≤ p.length) : (0 :: (p ++ [v])).getD i 0 = (0 :: p).getD i 0 := by
  rw [← List.cons_append, List.getD_eq_getElem?_getD, List.getElem?_append_left (by simp; omega), ← List.getD_eq_getElem?_getD]
theorem snoc_last {p : List Int} {v : Int} : (0 :: (p ++ [v])).getD (p.length + 1) 0 = v := by
  rw [← List.cons_append, List.getD_eq_getElem?_getD, List.getElem?_append_right (by simp)]
  simp
theorem cons_get {p : List Int} {k : Nat} : (0 :: p).getD (k + 1) 0 = p.getD k 0 := rfl
theorem mem_pts {M : List (List Int)} : ∀ {c : Nat} {p : List Int}, p ∈ ptsL M c ↔ InP M c p
  | 0, p => by
    unfold ptsL InP
    constructor
    · intro h
      have e : p = [] := by simpa using h
      subst e
      exact ⟨rfl, fun i hi j hj ne => by omega⟩
    · rintro ⟨h, _⟩
      rw [List.length_eq_zero_iff.mp h]
      exact List.mem_singleton.mpr rfl
  | c + 1, p => by
    show p ∈ stepL M (c + 1) (ptsL M c) ↔ _
    unfold stepL stepV
    rw [List.mem_flatMap]
    constructor
    · rintro ⟨q, hq, hp⟩
      obtain ⟨v, hv, rfl⟩ := List.mem_map.mp hp
      obtain ⟨hv1, hv2⟩ := List.mem_filter.mp hv
      have hf : fitP M (c + 1) q v := of_decide_eq_true hv2
      obtain ⟨lq, iq⟩ := mem_pts.mp hq
      have hr := mem_vals.mp hv1
      refine ⟨by simp [lq], fun i hi j hj ne => ?_⟩
      have last : (0 :: (q ++ [v])).getD (c + 1) 0 = v := by
        have := snoc_last (p := q) (v := v)
        rwa [lq] at this
      unfold dif
      by_cases h1 : i = c + 1
      · subst h1
        rw [last, snoc_get (by omega)]
        cases j with
        | zero =>
          show v - 0 ≤ _
          omega
        | succ j =>
          rw [cons_get]
          exact (hf j (by omega)).1
      · by_cases h2 : j = c + 1
        · subst h2
          rw [last, snoc_get (by omega)]
          cases i with
          | zero =>
            show 0 - v ≤ _
            omega
          | succ i =>
            rw [cons_get]
            exact (hf i (by omega)).2
        · rw [snoc_get (by omega), snoc_get (by omega)]
          exact iq i (by omega) j (by omega) ne
    · rintro ⟨lp, ip⟩
      have ne : p ≠ [] := fun z => by rw [z] at lp; simp at lp
      obtain ⟨q, v, rfl⟩ : ∃ q v, p = q ++ [v] := ⟨p.dropLast, p.getLast ne, (List.dropLast_concat_getLast ne).symm⟩
      have lq : q.length = c := by simpa using lp
      have last : (0 :: (q ++ [v])).getD (c + 1) 0 = v := by
        have := snoc_last (p := q) (v := v)
        rwa [lq] at this
      refine ⟨q, mem_pts.mpr ⟨lq, fun i hi j hj ne => ?_⟩, List.mem_map.mpr ⟨v, List.mem_filter.mpr ⟨mem_vals.mpr ?_, decide_eq_true fun k hk => ?_⟩, rfl⟩⟩
      · have := ip i (by omega) j (by omega) ne
        unfold dif at *
        rwa [snoc_get (by omega), snoc_get (by omega)] at this
      · have a := ip (c + 1) (by omega) 0 (by omega) (by omega)
        have b := ip 0 (by omega) (c + 1) (by omega) (by omega)
        unfold dif at a b
        rw [last, snoc_get (by omega)] at a b
        have e : (0 :: q).getD 0 0 = 0 := rfl
        rw [e] at a b
        omega
      · have a := ip (c + 1) (by omega) (k + 1) (by omega) (by omega)
        have b := ip (k + 1) (by omega) (c + 1) (by omega) (by omega)
        unfold dif at a b
        rw [last, snoc_get (by omega), cons_get] at a b
        exact ⟨a, b⟩
/-- the point of a closed matrix in which a column is as small as can be -/
def colP (n : Nat) (C : Nat → Nat → Int) (j : Nat) : List Int := mkR n fun k => C (k + 1) j - C 0 j
theorem colP_get {n : Nat} {C : Nat → Nat → Int} {i j : Nat} (hi : i < n + 1) : (0 :: colP n C j).getD i 0 = C i j - C 0 j := by
  cases i with
  | zero =>
    show (0 : Int) = _
    omega
  | succ i =>
    rw [cons_get, List.getD_eq_getElem?_getD]
    unfold colP
    rw [mkR_at (by omega)]
    rfl
theorem colP_in {n : Nat} {C : Nat → Nat → Int} {M : List (List Int)} {j : Nat} (c : Clo (n + 1) C) (l : LeF (n + 1) C (getM M)) (hj : j < n + 1) : colP n C j ∈ ptsL M n := by
  refine mem_pts.mpr ⟨mkR_len, fun i hi k hk _ => ?_⟩
  unfold dif
  rw [colP_get hi, colP_get hk]
  have a := c.t i hi j hj k hk
  have b := l i hi k hk
  omega
theorem best_pts {n : Nat} {M : List (List Int)} (hd : ∀ i < n + 1, 0 ≤ getM M i i) : Best (n + 1) (getM M) (hull n (ptsL M n)) := by
  unfold hull
  split
  · rename_i e
    intro C hC hl
    have := colP_in hC hl (j := 0) (by omega)
    rw [e] at this
    simp at this
  · rename_i ne
    refine ⟨hullM_sz n _, ⟨fun i hi => hull_diag ne hi, fun i hi j hj k hk => hull_tri ne hi hj hk⟩, fun i hi j hj => ?_, fun C hC hl i hi j hj => ?_⟩
    · by_cases e : i = j
      · subst e
        rw [hull_diag ne hi]
        exact hd i hi
      · rw [getM_hull hi hj]
        obtain ⟨r, hr, er⟩ := List.mem_map.mp (lmax_mem (xs := (ptsL M n).map (dif i j)) fun z => ne (List.map_eq_nil_iff.mp z))
        rw [← er]
        exact (mem_pts.mp hr).2 i hi j hj e
    · rw [getM_hull hi hj]
      have h1 : dif i j (colP n C j) ≤ _ := lmax_le (List.mem_map_of_mem (colP_in hC hl hj))
      unfold dif at h1
      rw [colP_get hi, colP_get hj] at h1
      have := hC.d j hj
      unfold dif
      omega
theorem best_neg {n i : Nat} {D : Nat → Nat → Int} (hi : i < n) (neg : D i i < 0) : Best n D none := fun C hC hl => by
  have a := hl i hi i hi
  have b := hC.d i hi
  omega
/-- the points that the law lists for a matrix, or None -/
noncomputable def ptsB (n : Nat) : Option (List (List Int)) → List (List Int)
  | none => []
  | some M => open Classical in if ∀ i < n + 1, 0 ≤ getM M i i then ptsL M n else []
theorem best_ptsB {n : Nat} {M : List (List Int)} : Best (n + 1) (getM M) (hull n (ptsB n (some M))) := by
  show Best (n + 1) (getM M) (hull n (open Classical in if ∀ i < n + 1, 0 ≤ getM M i i then ptsL M n else []))
  split
  · rename_i h
    exact best_pts h
  · rename_i h
    have e : hull n [] = none := rfl
    rw [e]
    obtain ⟨i, h1⟩ := Classical.not_forall.mp h
    obtain ⟨hi, h2⟩ := Classical.not_imp.mp h1
    exact best_neg hi (by omega)
def spFits (K : PySem.W.Frag) : Sp := fun vs H Q _ => ∃ (p t : Addr) (M : List (List Int)) (r : List Int) (n c : Nat) (v : Int), vs = [.ref p, .ref t, .int c, .int v] ∧ n ≤ 900 ∧ Mx true true K H p M ∧ Sz (n + 1) M ∧ c ≤ n ∧ r.length ≤ n ∧ SqT K H t (r.map V.int) ∧ Q (.bl (decide (fitP M c r v))) H
/-- few enough to be listed -/
structure Small (n : Nat) (M : List (List Int)) : Prop where
  lo : ∀ c < n + 1, -1000000 ≤ getM M 0 c ∧ getM M 0 c ≤ 1000000
  hi : ∀ c < n + 1, -1000000 ≤ getM M c 0 ∧ getM M c 0 ≤ 1000000
  pts : ∀ c ≤ n, (ptsL M c).length ≤ 1000000
def spPoints (K : PySem.W.Frag) : Sp := fun vs H Q _ => ∃ (va : V) (B : Option (List (List Int))) (n : Nat), vs = [va] ∧ n ≤ 900 ∧ BoxAt K H va B ∧ BSz (n + 1) B ∧ (∀ M, B = some M → Small n M) ∧ ∀ q H', Same H H' → Pts K H' q (ptsB n B) → Q (.ref q) H'
/-- a tuple and one number more -/
theorem catV {K : PySem.W.Frag} {H : Hp} {t a : Addr} {r : List Int} {v : Int} {Q : VK} (h1 : SqT K H t (r.map V.int)) (h2 : SqT K H a [.int v]) (hz : r.length ≤ 1000) (q : ∀ z H', Same H H' → SqT K H' z ((r ++ [v]).map V.int) → (H z = none ∨ z = a) → Q (.ref z) H') : rCatA K (.ref t) (.ref a) H Q := by
  refine ⟨t, a, _, _, rfl, rfl, h1, h2, ?_, fun e => ?_, fun _ e => ?_, fun _ _ p hp => ?_⟩
  · rw [List.length_map, sizeLine_eq]
    simp
    omega
  · have e' : r = [] := List.map_eq_nil_iff.mp e
    subst e'
    exact q a H (Same.refl H) h2 (.inr rfl)
  · cases e
  · exact q p _ (Same.new hp _) (by rw [List.map_append]; exact SqT.of upd_same) (.inl hp)
theorem stepV_succ {M : List (List Int)} {c k : Nat} {p vs : List Int} {v : Int} (e : vs[k]? = some v) : stepV M c p (vs.take (k + 1)) = stepV M c p (vs.take k) ++ (if fitP M c p v then [p ++ [v]] else []) := by
  unfold stepV
  rw [List.take_succ, e]
  simp only [Option.toList_some, List.filter_append, List.map_append]
  congr 1
  by_cases h : fitP M c p v
  · simp [h]
  · simp [h]
theorem stepL_succ {M : List (List Int)} {c j : Nat} {Ps : List (List Int)} {p : List Int} (e : Ps[j]? = some p) : stepL M c (Ps.take (j + 1)) = stepL M c (Ps.take j) ++ stepV M c p (valsL M c) := by
  unfold stepL
  rw [List.take_succ, e]
  simp
theorem stepV_len {M : List (List Int)} {c k : Nat} {p vs : List Int} : (stepV M c p (vs.take k)).length ≤ (stepV M c p vs).length := by
  unfold stepV
  rw [List.length_map, List.length_map]
  exact (List.Sublist.filter _ (List.take_sublist k vs)).length_le
theorem stepL_len {M : List (List Int)} {c j : Nat} {Ps : List (List Int)} : (stepL M c (Ps.take j)).length ≤ (stepL M c Ps).length := by
  unfold stepL
  have e : Ps.flatMap (fun p => stepV M c p (valsL M c)) = (Ps.take j).flatMap (fun p => stepV M c p (valsL M c)) ++ (Ps.drop j).flatMap (fun p => stepV M c p (valsL M c)) := by
    rw [← List.flatMap_append, List.take_append_drop]
  rw [e, List.length_append]
  omega
theorem part_len {M : List (List Int)} {c j k : Nat} {Ps : List (List Int)} {p : List Int} (e : Ps[j]? = some p) : (stepL M c (Ps.take j) ++ stepV M c p ((valsL M c).take k)).length ≤ (stepL M c Ps).length := by
  have h1 := stepL_len (M := M) (c := c) (j := j + 1) (Ps := Ps)
  rw [stepL_succ e, List.length_append] at h1
  have h2 := stepV_len (M := M) (c := c) (k := k) (p := p) (vs := valsL M c)
  rw [List.length_append]
  omega
theorem vals_len {M : List (List Int)} {c : Nat} : (valsL M c).length = (getM M c 0 + 1 - (0 - getM M 0 c)).toNat := by simp [valsL]
theorem vals_get {M : List (List Int)} {c k : Nat} (h : k < (getM M c 0 + 1 - (0 - getM M 0 c)).toNat) : (valsL M c)[k]? = some (0 - getM M 0 c + (k : Int)) := map_get (range_at h)
section
variable {P : Program} {w : World} {K : PySem.W.Frag} {mg : Str → Option Value} {base : Heap}
theorem ok_l_fits (T : Txt w K mg) : FnOk P w K mg base CX0 1 T.a_l_fits T.d_l_fits p_l_fits (spFits K) := by
  refine T.F_l_fits.ok sc_l_fits (fun vs H Q E h => ?_) (fun cdv A outer s H vs Q E hr h => ?_)
  · obtain ⟨p, t, M, r, n, c, v, rfl, _⟩ := h
    rfl
  obtain ⟨p, t, M, r, n, c, v, rfl, hn, hM, sM, hc, hl, ht, q⟩ := h
  refine ⟨_, (pss_cons (ps_for PassesOwn.never rfl (pi_range1 rfl T.z_range (pa_cons (pe_callB call_len_seq rfl T.z_len PySem.boot_len (pa_cons (pv 1) pa_nil)) pa_nil)) (pg_name (i := 4) sc_l_fits.nd rfl (Or.inl rfl))
        (pss_one (ps_if (PW.pt (pw_or (pt_cmpR op_gt (pe_op op_sub (pv 3) (pe_ix ix_tup (pv 1) (pv 4) (fun _ _ => rfl))) (pe_ix ix_tup (pe_ix ix_tup (pv 0) (pv 2) (fun _ _ => rfl)) (pe_op op_add (pv 4) pe_int) (fun _ _ => rfl)) (nomark _)) (pw_or1 (pt_cmpR op_gt (pe_op op_sub (pe_ix ix_tup (pv 1) (pv 4) (fun _ _ => rfl)) (pv 3)) (pe_ix ix_tup (pe_ix ix_tup (pv 0) (pe_op op_add (pv 4) pe_int) (fun _ _ => rfl)) (pv 2) (fun _ _ => rfl)) (nomark _))))) (pss_one (ps_ret pe_bl)) pss_nil)))
      (pss_one (ps_ret pe_bl))), ?_⟩
  refine ⟨_, rfl, t, _, rfl, .inr ht, _, rfl, by omega, by rw [List.length_map]; omega, for_range (lo := 0) (fun i σ G => G = H ∧ (∃ b : Option V, σ = [some (.ref p), some (.ref t), some (.int c), some (.int v), b]) ∧ ∀ k < i, v - r.getD k 0 ≤ getM M c (k + 1) ∧ r.getD k 0 - v ≤ getM M (k + 1) c) ⟨rfl, ⟨none, rfl⟩, fun k h => by omega⟩ ?_ ?_⟩
  · rintro i σ G hi ⟨rfl, ⟨b, rfl⟩, hA⟩
    rw [List.length_map] at hi
    have hi' : i < r.length := by omega
    obtain ⟨r1, e1, l1, g1⟩ := sM.at2 (i := c) (j := i + 1) (by omega) (by omega)
    obtain ⟨r2, e2, l2, g2⟩ := sM.at2 (i := i + 1) (j := c) (by omega) (by omega)
    obtain ⟨vs1, a1, x1, x2, x3⟩ := hM.getT e1
    obtain ⟨vs2, a2, y1, y2, y3⟩ := hM.getT e2
    have ei : (0 + (i : Int) + 1) = ((i + 1 : Nat) : Int) := by omega
    have f1 : atI (r1.map V.int) (0 + (i : Int) + 1) = some (.int (getM M c (i + 1))) := by rw [ei]; exact atI_nat (map_get g1)
    have f2 : atI vs2 (0 + (i : Int) + 1) = some (.ref a2) := by rw [ei]; exact y2
    refine ⟨_, rfl, _, rfl, _, rfl, t, _, _, _, rfl, rfl, ht, atI_row hi', _, _, rfl, rfl, ?_⟩
    refine ⟨_, rfl, _, rfl, p, _, _, _, rfl, rfl, x1, x2, _, rfl, _, _, rfl, rfl, a1, _, _, _, rfl, rfl, x3, f1, _, _, rfl, rfl, _, rfl, ?_⟩
    refine ite2 (fun h => ifT rfl ?_) (fun h => ?_)
    · have h' : v - r.getD i 0 > getM M c (i + 1) := of_decide_eq_true h
      have e : decide (fitP M c r v) = false := decide_eq_false fun z => by
        have := (z i hi').1
        omega
      rw [e] at q
      exact q
    have h' : ¬ v - r.getD i 0 > getM M c (i + 1) := of_decide_eq_false (Bool.eq_false_iff.mpr h)
    refine ⟨_, rfl, _, rfl, t, _, _, _, rfl, rfl, ht, atI_row hi', _, rfl, _, _, rfl, rfl, ?_⟩
    refine ⟨_, rfl, _, rfl, _, _, rfl, rfl, p, _, _, _, rfl, rfl, y1, f2, _, rfl, a2, _, _, _, rfl, rfl, y3, atI_nat (map_get g2), _, _, rfl, rfl, _, rfl, ?_⟩
    refine ite2 (fun h => ?_) (fun h => ?_)
    · have h2 : r.getD i 0 - v > getM M (i + 1) c := of_decide_eq_true h
      have e : decide (fitP M c r v) = false := decide_eq_false fun z => by
        have := (z i hi').2
        omega
      rw [e] at q
      exact q
    · have h2 : ¬ r.getD i 0 - v > getM M (i + 1) c := of_decide_eq_false (Bool.eq_false_iff.mpr h)
      refine ⟨rfl, ⟨_, rfl⟩, fun k hk => ?_⟩
      by_cases e : k = i
      · subst e
        exact ⟨by omega, by omega⟩
      · exact hA k (by omega)
  · rintro σ G ⟨rfl, ⟨b, rfl⟩, hA⟩
    rw [List.length_map, Int.toNat_natCast] at hA
    have e : decide (fitP M c r v) = true := decide_eq_true hA
    rw [e] at q
    exact q
theorem ok_l_points (T : Txt w K mg) : FnOk P w K mg base CX0 2 T.a_l_points T.d_l_points p_l_points (spPoints K) := by
  have g_l_fits := ok_l_fits (P := P) (w := w) (base := base) T
  refine T.F_l_points.ok sc_l_points (fun vs H Q E h => ?_) (fun cdv A outer s H vs Q E hr h => ?_)
  · obtain ⟨va, B, n, rfl, _⟩ := h
    rfl
  obtain ⟨va, B, n, rfl, hn, hB, zB, sm, q⟩ := h
  refine ⟨_, (pss_cons (ps_if (PW.pt (pw_or (pt_cmpR op_isN (pv 0) pe_non (nomark _)) (pw_or1 (pt_cmpR op_lt (pe_callB (cr_min rfl) rfl T.z_min bb_min (pa_cons (pe_lc (own := [("_law_i", 1)]) (g := gName 1) (tt := tYes) rfl sc_l_points.nd (pi_range1 rfl T.z_range (pa_cons (pe_callB call_len_seq rfl T.z_len PySem.boot_len (pa_cons (pv 0) pa_nil)) pa_nil)) (blkOk_by (own := [("_law_i", 1)]) (N := n_l_points) (sc := defScope s_l_points) (by decide +kernel)) (fun _ _ _ _ _ => (pg_name (i := 1) sc_l_points.nd rfl (Or.inl rfl))) (fun _ _ _ _ _ => pts_nil) (fun _ _ _ _ _ => (pe_ix (show IxR _ (rIxT K) from ix_tup) (pe_ix (show IxR _ (rIxT K) from ix_tup) (pv 0) (pv 1) (fun _ _ => rfl)) (pv 1) (fun _ _ => rfl)))) pa_nil)) pe_int (nomark _))))) (pss_one (ps_ret (pe_lst pa_nil))) pss_nil)
      (pss_cons (ps_set (i := 2) sc_l_points.nd rfl (Or.inl rfl) (pe_lst (pa_cons (pe_tup pa_nil) pa_nil)))
      (pss_cons (ps_for PassesOwn.never rfl (pi_range2 rfl T.z_range (pa_cons pe_int (pa_cons (pe_callB call_len_seq rfl T.z_len PySem.boot_len (pa_cons (pv 0) pa_nil)) pa_nil))) (pg_name (i := 3) sc_l_points.nd rfl (Or.inl rfl))
        (pss_cons (ps_set (i := 4) sc_l_points.nd rfl (Or.inl rfl) (pe_lst pa_nil))
      (pss_cons (ps_for PassesOwn.never rfl (pi_list (pv 2)) (pg_name (i := 5) sc_l_points.nd rfl (Or.inl rfl))
        (pss_one (ps_for PassesOwn.never rfl (pi_range2 rfl T.z_range (pa_cons (pe_op op_sub pe_int (pe_ix ix_tup (pe_ix ix_tup (pv 0) pe_int (fun _ _ => rfl)) (pv 3) (fun _ _ => rfl))) (pa_cons (pe_op op_add (pe_ix ix_tup (pe_ix ix_tup (pv 0) (pv 3) (fun _ _ => rfl)) pe_int (fun _ _ => rfl)) pe_int) pa_nil))) (pg_name (i := 6) sc_l_points.nd rfl (Or.inl rfl))
        (pss_one (ps_if (pt_val (pe_call g_l_fits (hr.mono (by first | decide | omega)) rfl T.m_l_fits T.F_l_fits.kp T.b_l_fits .nil pass0 (pa_cons (pv 0) (pa_cons (pv 5) (pa_cons (pv 3) (pa_cons (pv 6) pa_nil)))))) (pss_one (ps_expr (pe_bm PySem.F.plainAttrs_list PySem.F.slot_list_append PySem.F.type_list_append mt_append (pv 4) (pa_cons (pe_op op_catA (pv 5) (pe_tup (pa_cons (pv 6) pa_nil))) pa_nil)))) pss_nil)))))
      (pss_one (ps_set (i := 2) sc_l_points.nd rfl (Or.inl rfl) (pe_callTy call_list_of rfl T.z_list bt_list (pa_cons (pv 4) pa_nil)))))))
      (pss_one (ps_ret (pv 2)))))), ?_⟩
  cases B with
  | none =>
    obtain rfl : va = .non := hB
    refine ⟨_, rfl, rfl, _, rfl, ifT rfl (ifT rfl ?_)⟩
    exact ⟨(by show 0 ≤ sizeLine; decide), fun p hp => q p _ (Same.new hp _) ⟨[], upd_same, rfl, fun i a r e => by simp at e⟩⟩
  | some M =>
  obtain ⟨pa, rfl, hM⟩ := hB
  have sM := zB M rfl
  have S := sm M rfl
  refine ⟨_, rfl, rfl, _, rfl, ifF rfl ?_⟩
  obtain ⟨vs, hv, lv, _⟩ := hM.row
  have lv1 : vs.length = n + 1 := by rw [lv, sM.1]
  refine ⟨_, rfl, pa, _, rfl, .inr hv, _, rfl, by omega, by omega, fun D hD => ?_⟩
  rw [lv1]
  refine lc_it walk_range (LcP (Same H) (RInt (mkR (n + 1) fun i => getM M i i)) D) (lcp_start hD) (fun _ _ _ _ => trivial) ?_ ?_
  · rintro j x F F' hj PF ⟨rfl, rfl⟩
    have hj' : j < n + 1 := by omega
    obtain ⟨r, e, l, g⟩ := sM.at2 hj' hj'
    obtain ⟨vs1, a1, x1, x2, x3⟩ := (hM.same PF.1).getT e
    refine ⟨rfl, tyes ?_⟩
    refine ⟨_, rfl, _, rfl, pa, _, _, _, rfl, rfl, x1, by rw [Int.zero_add]; exact x2, _, rfl, a1, _, _, _, rfl, rfl, x3, by rw [Int.zero_add]; exact atI_nat (map_get g), ?_⟩
    exact lcp_same PF hD (Same.refl _) (lt_line (by omega)) RInt.mono ⟨_, mkR_at hj', rfl⟩
  intro F PF
  refine ⟨D, _, rfl, SqL.of (lcp_ints (K := K) PF (by rw [mkR_len]; omega)), by rw [mkR_len]; omega, fun m hm hx => ?_⟩
  obtain ⟨i0, hi0, em⟩ := List.mem_map.mp hm
  rw [List.mem_range] at hi0
  have sF := PF.1
  refine ⟨_, _, rfl, rfl, _, rfl, ite2 (fun h => ?_) (fun h => ?_)⟩
  · have h' : m < 0 := of_decide_eq_true h
    have e : ptsB n (some M) = [] := if_neg fun z => by
      have := z i0 hi0
      omega
    rw [e] at q
    exact ⟨(by show 0 ≤ sizeLine; decide), fun p hp => q p _ (sF.trans (Same.new hp _)) ⟨[], upd_same, rfl, fun i a r e => by simp at e⟩⟩
  have h' : ¬ m < 0 := of_decide_eq_false (Bool.eq_false_iff.mpr h)
  have eB : ptsB n (some M) = ptsL M n := if_pos fun i hi => by
    have := hx (getM M i i) (List.mem_map.mpr ⟨i, List.mem_range.mpr hi, rfl⟩)
    omega
  rw [eB] at q
  refine ⟨(by show 0 ≤ sizeLine; decide), fun t0 ht0 => ?_⟩
  refine ⟨(by show 1 ≤ sizeLine; decide), fun D0 hD0 => ?_⟩
  have s0 : Same H (upd (upd F t0 (.tup [])) D0 (.lst [.ref t0])) := sF.trans ((Same.new ht0 _).trans (Same.new hD0 _))
  have p0 : Pts K (upd (upd F t0 (.tup [])) D0 (.lst [.ref t0])) D0 (ptsL M 0) := ⟨[t0], upd_same, rfl, fun i a r e1 e2 => by
    cases i with
    | zero =>
      cases e1
      cases e2
      exact Same.tup (Same.new hD0 _) (SqT.of upd_same)
    | succ i => simp at e1⟩
  generalize upd (upd F t0 (.tup [])) D0 (.lst [.ref t0]) = H0 at s0 p0
  refine ⟨_, rfl, pa, _, rfl, .inr (Same.tup s0 hv), 1, _, rfl, ⟨by decide, by decide, by omega, by omega⟩, for_range (lo := 1) (fun i σ G => ∃ (D' : Addr) (c l x y : Option V), σ = [some (.ref pa), none, some (.ref D'), c, l, x, y] ∧ Same H G ∧ Pts K G D' (ptsL M i)) ⟨D0, none, none, none, none, rfl, s0, p0⟩ ?_ ?_⟩
  · rintro i σ G hi ⟨D', c, l, x, y, rfl, sG, pG⟩
    rw [lv1] at hi
    have hi' : i < n := by omega
    obtain ⟨as, k1, pa1⟩ := pG.pa
    refine ⟨(by show 0 ≤ sizeLine; decide), fun L hL => ?_⟩
    have nDL : D' ≠ L := ne_of_none k1 hL
    have sL : Same G (upd G L (.lst [])) := Same.new hL _
    have ec : (1 + (i : Int)) = ((i + 1 : Nat) : Int) := by omega
    obtain ⟨r0, e0, l0, g0⟩ := sM.at2 (i := 0) (j := i + 1) (by omega) (by omega)
    obtain ⟨rc, e1, l1, g1⟩ := sM.at2 (i := i + 1) (j := 0) (by omega) (by omega)
    obtain ⟨vs0, a0, x1, x2, x3⟩ := hM.getT e0
    obtain ⟨vs1, a1, y1, y2, y3⟩ := hM.getT e1
    have la := pa1.1
    have hbig : (stepL M (i + 1) (ptsL M i)).length ≤ 1000000 := S.pts (i + 1) (by omega)
    refine ⟨_, rfl, D', rfl, ⟨_, SqL.of (sL _ _ k1)⟩, ?_⟩
    refine for_it (walk_list (xs := as.map V.ref)) (fun j σ F => (∃ x y : Option V, σ = [some (.ref pa), none, some (.ref D'), some (.int (1 + (i : Int))), some (.ref L), x, y]) ∧ Same G F ∧ PtsN K F L (stepL M (i + 1) ((ptsL M i).take j))) ⟨⟨x, y, rfl⟩, sL, [], upd_same, rfl, fun i a r e => by simp at e⟩ (fun j σ F _ P => SqL.of (P.2.1 _ _ k1)) ?_ ?_
    · rintro j v σ F F' hj ⟨⟨x, y, rfl⟩, sF, pF⟩ ⟨rfl, ev⟩
      rw [List.length_map, la] at hj
      have ep : (ptsL M i)[j]? = some (ptsL M i)[j] := List.getElem?_eq_getElem hj
      have ip := mem_pts.mp (List.mem_of_getElem? ep)
      generalize (ptsL M i)[j] = pt at ep ip
      have ea : as[j]? = some (as[j]'(by omega)) := List.getElem?_eq_getElem _
      have htp := pa1.2 j _ _ ea ep
      have ev' : V.ref (as[j]'(by omega)) = v := by
        have := map_get (f := V.ref) ea
        rw [this] at ev
        exact Option.some.inj ev
      subst ev'
      generalize as[j]'(by omega) = tp at htp
      have sHF := sG.trans sF
      have lo := S.lo (i + 1) (by omega)
      have hi2 := S.hi (i + 1) (by omega)
      have f0 : atI (r0.map V.int) (1 + (i : Int)) = some (.int (getM M 0 (i + 1))) := by rw [ec]; exact atI_nat (map_get g0)
      have f1 : atI vs1 (1 + (i : Int)) = some (.ref a1) := by rw [ec]; exact y2
      refine ⟨_, rfl, pa, _, ((0 : Nat) : Int), _, rfl, rfl, Same.tup sHF x1, x2, _, rfl, a0, _, _, _, rfl, rfl, Same.tup sHF x3, f0, _, _, rfl, rfl, ?_⟩
      refine ⟨_, rfl, _, rfl, pa, _, _, _, rfl, rfl, Same.tup sHF y1, f1, a1, _, ((0 : Nat) : Int), _, rfl, rfl, Same.tup sHF y3, atI_nat (map_get g1), _, _, rfl, rfl, ?_⟩
      refine ⟨_, _, rfl, ⟨by omega, by omega, by omega, by omega⟩, for_range (lo := 0 - getM M 0 (i + 1)) (fun k σ F1 => (∃ y : Option V, σ = [some (.ref pa), none, some (.ref D'), some (.int (1 + (i : Int))), some (.ref L), some (.ref tp), y]) ∧ Same G F1 ∧ PtsN K F1 L (stepL M (i + 1) ((ptsL M i).take j) ++ stepV M (i + 1) pt ((valsL M (i + 1)).take k))) ⟨⟨y, rfl⟩, sF, ?_⟩ ?_ ?_⟩
      · rw [List.take_zero]
        show PtsN K _ L (_ ++ [])
        rw [List.append_nil]
        exact pF
      · rintro k σ F1 hk ⟨⟨y, rfl⟩, sF1, pF1⟩
        have evk := vals_get (M := M) (c := i + 1) hk
        have sHF1 := sG.trans sF1
        have htp1 := Same.tup sF1 htp
        refine ⟨_, rfl, _, rfl, _, rfl, _, rfl, pa, tp, M, pt, n, i + 1, 0 - getM M 0 (i + 1) + (k : Int), ?_, hn, hM.same sHF1, sM, by omega, by rw [ip.1]; omega, htp1, _, rfl, ?_⟩
        · show [V.ref pa, V.ref tp, V.int (1 + (i : Int)), _] = _
          rw [ec]
        have eS := stepV_succ (M := M) (c := i + 1) (p := pt) evk
        refine ite2 (fun h => ?_) (fun h => ?_)
        · have h' : fitP M (i + 1) pt (0 - getM M 0 (i + 1) + (k : Int)) := of_decide_eq_true h
          rw [if_pos h'] at eS
          obtain ⟨bs, b1, b2, b3⟩ := id pF1
          have lb : bs.length ≤ 1000000 := by
            rw [b2]
            exact Nat.le_trans (part_len ep) hbig
          refine ⟨_, rfl, .inl ⟨rfl, _, SqL.of b1⟩, ?_⟩
          refine ⟨_, rfl, _, rfl, (by show 1 ≤ sizeLine; decide), fun t1 ht1 => ?_⟩
          have nt1 : t1 ≠ L := fun z => by rw [z, b1] at ht1; cases ht1
          have sT := Same.new ht1 (.tup [V.int (0 - getM M 0 (i + 1) + (k : Int))])
          refine catV (Same.tup sT htp1) (SqT.of upd_same) (by rw [ip.1]; omega) fun z F2 s2 hz nz => ?_
          have nzL : z ≠ L := by
            rcases nz with h | h
            · exact fun e => by
                rw [e, sT _ _ b1] at h
                cases h
            · rw [h]; exact nt1
          have sF2 := sT.trans s2
          refine ⟨L, _, _, rfl, rfl, sF2 _ _ b1, ?_, ⟨_, rfl⟩, ?_, ?_⟩
          · rw [List.length_map, sizeLine_eq]
            omega
          · intro b o e
            rw [upd_ne (ne_of_none e hL)]
            exact sF2 _ _ (sF1 _ _ e)
          · rw [eS, ← List.append_assoc]
            exact PtsN.push b2 b3 (fun x xs h => Same.tup sF2 h) hz nzL
        · have h' : ¬ fitP M (i + 1) pt (0 - getM M 0 (i + 1) + (k : Int)) := of_decide_eq_false (Bool.eq_false_iff.mpr h)
          rw [if_neg h', List.append_nil] at eS
          refine ⟨⟨_, rfl⟩, sF1, ?_⟩
          rw [eS]
          exact pF1
      · rintro σ F1 ⟨⟨y, rfl⟩, sF1, pF1⟩
        rw [← vals_len, List.take_length, ← stepL_succ ep] at pF1
        exact ⟨⟨_, _, rfl⟩, sF1, pF1⟩
    · rintro σ F ⟨⟨x, y, rfl⟩, sF, pF⟩
      rw [List.length_map, la, List.take_length] at pF
      obtain ⟨bs, b1, b2, b3⟩ := pF
      refine ⟨_, rfl, L, _, rfl, .inl (SqL.of b1), fun D2 hD2 => ?_⟩
      exact ⟨D2, _, _, _, _, rfl, (sG.trans sF).trans (Same.new hD2 _), bs, upd_same, b2, fun i a r e1 e2 => Same.tup (Same.new hD2 _) (b3 i a r e1 e2).2⟩
  · rintro σ G ⟨D', c, l, x, y, rfl, sG, pG⟩
    have en : ((vs.length : Int) - 1).toNat = n := by omega
    rw [en] at pG
    exact ⟨_, rfl, q D' G sG pG⟩
end
/-! ### law k18: draws -/
theorem ixMem {ns : List Int} {r : Int} (h0 : 0 ≤ r) (h : r < (ns.length : Int)) : ∃ u : Int, u ∈ ns ∧ atI (ns.map V.int) r = some (.int u) := by
  have e := atI_int (xs := ns.map V.int) h0 (by rw [List.length_map]; omega)
  rw [List.getElem_map] at e
  exact ⟨_, List.getElem_mem _, e⟩
def spNumberB : Sp := fun vs H Q _ => ∃ a : Addr, vs = [.ref a] ∧ Src H a ∧ ∀ (r : Int) H', Stp a H H' → -1000000000000000000 ≤ r → r ≤ 1000000000000000000 → Q (.int r) H'
theorem ints_ofQ {q : Int → Prop} {acc : List V} (h : ∀ (j : Nat) (y : V), acc[j]? = some y → ∃ k : Int, y = .int k ∧ q k) : ∃ ns : List Int, acc = ns.map V.int ∧ ∀ k ∈ ns, q k := by
  induction acc with
  | nil => exact ⟨[], rfl, fun k hk => by simp at hk⟩
  | cons y acc ih =>
    obtain ⟨k, rfl, hk⟩ := h 0 y rfl
    obtain ⟨ns, rfl, hn⟩ := ih fun j y e => h (j + 1) y (by simpa using e)
    exact ⟨k :: ns, rfl, fun z hz => by
      rcases List.mem_cons.mp hz with rfl | hz
      · exact hk
      · exact hn z hz⟩
theorem stepL_cap {M : List (List Int)} {c m : Nat} {Ps : List (List Int)} (h : (valsL M c).length ≤ m) : (stepL M c Ps).length ≤ Ps.length * m := by
  unfold stepL
  induction Ps with
  | nil => simp
  | cons p Ps ih =>
    rw [List.flatMap_cons, List.length_append, List.length_cons, Nat.add_mul]
    have h1 : (stepV M c p (valsL M c)).length ≤ m := by
      unfold stepV
      rw [List.length_map]
      exact Nat.le_trans (List.length_filter_le _ _) h
    omega
theorem ptsL_cap {M : List (List Int)} {m n : Nat} (h : ∀ c ≤ n, (valsL M c).length ≤ m) : ∀ c ≤ n, (ptsL M c).length ≤ m ^ c
  | 0, _ => by simp [ptsL]
  | c + 1, hc => by
    have ih := ptsL_cap h c (by omega)
    have := stepL_cap (Ps := ptsL M c) (h (c + 1) hc)
    rw [Nat.pow_succ]
    exact Nat.le_trans this (Nat.mul_le_mul_right m ih)
def spPickW : Sp := fun vs H Q _ => ∃ (a : Addr) (n : Int), vs = [.ref a, .int n] ∧ Src H a ∧ n < 1000000000000000000000000000000 ∧ ∀ (r : Int) (H' : Hp), Stp a H H' → 0 ≤ r → (r < n ∨ r = 0) → Q (.int r) H'
section
variable {P : Program} {w : World} {K : PySem.W.Frag} {mg : Str → Option Value} {base : Heap}
theorem ok_l_pickW (T : Txt w K mg) : FnOk P w K mg base CX0 1 T.a_l_pick T.d_l_pick p_l_pick spPickW := by
  refine T.F_l_pick.ok sc_l_pick (fun vs H Q E h => ?_) (fun cdv A outer s H vs Q E hr h => ?_)
  · obtain ⟨a, n, rfl, _⟩ := h
    rfl
  obtain ⟨a, n, rfl, ⟨c, m, k, hS⟩, hn, q⟩ := h
  refine ⟨_, (pss_cons (ps_set (i := 2) sc_l_pick.nd rfl (Or.inl rfl) (pe_ix ix_list (pv 0) pe_int (fun _ _ => rfl)))
      (pss_cons (ps_asg (pe_op op_add (pv 2) pe_int) (pg_sub (pv 0) pe_int set_list))
      (pss_cons (ps_if (pt_cmpR op_lt (pv 1) pe_int (nomark _)) (pss_one (ps_ret pe_int)) pss_nil)
      (pss_cons (ps_if (PW.pt (pw_and (pt_cmpR op_ge (pe_ix ix_list (pv 0) pe_int (fun _ _ => rfl)) (pe_op op_pow pe_int pe_int) (nomark _)) (pw_and1 (pt_cmpR op_gt (pe_ix ix_list (pv 0) pe_int (fun _ _ => rfl)) pe_int (nomark _))))) (pss_cons (ps_set (i := 3) sc_l_pick.nd rfl (Or.inl rfl) (pe_op op_modN (pe_callTy call_int1 rfl T.z_int bt_int (pa_cons (pe_ix ix_list (pv 0) pe_int (fun _ _ => rfl)) pa_nil)) (pv 1)))
      (pss_cons (ps_asg (pe_op op_fdivW (pe_ix ix_list (pv 0) pe_int (fun _ _ => rfl)) (pv 1)) (pg_sub (pv 0) pe_int set_list))
      (pss_one (ps_ret (pv 3))))) pss_nil)
      (pss_cons (ps_set (i := 4) sc_l_pick.nd rfl (Or.inl rfl) (pe_op op_modN (pe_callTy call_int1 rfl T.z_int bt_int (pa_cons (pe_op op_add (pe_op op_add (pe_ix ix_list (pv 0) pe_int (fun _ _ => rfl)) (pe_op op_mul pe_int (pv 2))) pe_int) pa_nil)) pe_int))
      (pss_cons (ps_set (i := 4) sc_l_pick.nd rfl (Or.inl rfl) (pe_op op_modN (pe_callTy call_int1 rfl T.z_int bt_int (pa_cons (pe_op op_mul (pv 4) (pe_op op_add (pv 4) pe_int)) pa_nil)) pe_int))
      (pss_cons (ps_set (i := 4) sc_l_pick.nd rfl (Or.inl rfl) (pe_op op_modN (pe_callTy call_int1 rfl T.z_int bt_int (pa_cons (pe_op op_add (pe_op op_mul (pv 4) (pe_op op_add (pv 4) pe_int)) (pe_op op_mul pe_int (pv 2))) pa_nil)) pe_int))
      (pss_one (ps_ret (pe_op op_modN (pe_callTy call_int1 rfl T.z_int bt_int (pa_cons (pe_op op_fdivN (pv 4) pe_int) pa_nil)) (pv 1))))))))))), ?_⟩
  refine ⟨_, rfl, a, _, 2, _, rfl, rfl, SqL.of hS, rfl, ?_⟩
  refine ⟨_, rfl, k, 1, rfl, rfl, _, rfl, a, _, 2, 2, rfl, rfl, hS, rfl, ?_⟩
  have h1 : (upd H a (.lst [.int c, .int m, .int (k + 1)])) a = some (.lst [.int c, .int m, .int (k + 1)]) := upd_same
  have st : Stp a H (upd H a (.lst [.int c, .int m, .int (k + 1)])) := ⟨⟨c, m, k + 1, upd_same⟩, fun b o hb e => by rw [upd_ne hb]; exact e⟩
  refine ⟨_, rfl, n, 2, rfl, rfl, _, rfl, ?_⟩
  refine ite2 (fun _ => ?_) (fun c2 => ?_)
  · exact q 0 _ st (Int.le_refl 0) (.inr rfl)
  have hn2 : ¬ n < 2 := of_decide_eq_false (Bool.eq_false_iff.mpr c2)
  refine ⟨_, rfl, a, _, 0, _, rfl, rfl, SqL.of h1, rfl, 10, 18, rfl, rfl, ⟨by decide, by decide, by decide⟩, _, _, rfl, rfl, _, rfl, ?_⟩
  refine ite2 (fun _ => ⟨_, rfl, a, _, 1, _, rfl, rfl, SqL.of h1, rfl, _, _, rfl, rfl, _, rfl, ite2 (fun _ => ?first) (fun _ => ?second)⟩) (fun _ => iteF ?third)
  case first =>
    refine ⟨_, rfl, a, _, 1, _, rfl, rfl, SqL.of h1, rfl, .inl ⟨_, rfl, ?_⟩⟩
    refine ⟨_, rfl, _, _, rfl, rfl, by omega, ?_⟩
    refine ⟨_, rfl, a, _, 1, _, rfl, rfl, SqL.of h1, rfl, _, rfl, m, n, rfl, rfl, wide_div (b := 100) (by omega) (by
      have e : (2 : Nat) ^ 100 = 1267650600228229401496703205376 := by decide
      rw [e]
      omega) (by decide) (by decide), _, rfl, a, _, 1, 1, rfl, rfl, h1, rfl, ?_⟩
    refine ⟨_, rfl, ?_⟩
    have b := fmod_bd (x := m) (m := n) (by omega)
    refine q _ _ ⟨⟨c, m / n, k + 1, upd_same⟩, fun b o hb e => ?_⟩ b.1 (.inl b.2)
    rw [upd_ne hb]
    exact st.k b o hb e
  all_goals
    refine ⟨_, rfl, a, _, 0, _, rfl, rfl, SqL.of h1, rfl, _, rfl, 7919, k, rfl, rfl, .inl ⟨by decide, by decide⟩, _, _, rfl, rfl, _, _, rfl, rfl, .inl ⟨_, rfl, ?_⟩⟩
    refine ⟨_, _, rfl, rfl, (by intro z; cases z), ?_⟩
    refine ⟨_, rfl, _, rfl, _, _, rfl, rfl, _, _, rfl, rfl, .inl (fm64 (by decide) (by decide)), .inl ⟨_, rfl, ?_⟩⟩
    refine ⟨_, _, rfl, rfl, (by intro z; cases z), ?_⟩
    refine ⟨_, rfl, _, rfl, _, _, rfl, rfl, _, _, rfl, rfl, .inl (fm64 (by decide) (by decide)), _, rfl, 31, k, rfl, rfl, .inl ⟨by decide, by decide⟩, _, _, rfl, rfl, .inl ⟨_, rfl, ?_⟩⟩
    refine ⟨_, _, rfl, rfl, (by intro z; cases z), ?_⟩
    refine ⟨_, rfl, _, _, rfl, rfl, ⟨by decide, by decide⟩, .inl ⟨_, rfl, ?_⟩⟩
    refine ⟨_, rfl, _, _, rfl, rfl, (by omega), ?_⟩
    exact q _ _ st (fmod_bd (by omega)).1 (.inl (fmod_bd (by omega)).2)
theorem ok_l_numberB (T : Txt w K mg) : FnOk P w K mg base CX0 2 T.a_l_number T.d_l_number p_l_number spNumberB := by
  have g_l_pick := ok_l_pick (P := P) (w := w) (base := base) T
  refine T.F_l_number.ok sc_l_number (fun vs H Q E h => ?_) (fun cdv A outer s H vs Q E hr h => ?_)
  · obtain ⟨a, rfl, _⟩ := h
    rfl
  obtain ⟨a, rfl, hS, q⟩ := h
  refine ⟨_, (pss_cons (ps_set (i := 1) sc_l_number.nd rfl (Or.inl rfl) (pe_ix ix_list (pe_lst (pa_cons pe_int (pa_cons pe_int (pa_cons pe_int (pa_cons (pe_op op_pow pe_int pe_int) (pa_cons (pe_op op_pow pe_int pe_int) pa_nil)))))) (pe_call g_l_pick (hr.mono (by first | decide | omega)) rfl T.m_l_pick T.F_l_pick.kp T.b_l_pick .nil pass0 (pa_cons (pv 0) (pa_cons pe_int pa_nil))) (fun _ _ => rfl)))
      (pss_one (ps_ret (pe_op op_sub (pe_op op_add (pe_op op_mul (pe_op op_sub (pe_call g_l_pick (hr.mono (by first | decide | omega)) rfl T.m_l_pick T.F_l_pick.kp T.b_l_pick .nil pass0 (pa_cons (pv 0) (pa_cons pe_int pa_nil))) pe_int) (pv 1)) (pe_call g_l_pick (hr.mono (by first | decide | omega)) rfl T.m_l_pick T.F_l_pick.kp T.b_l_pick .nil pass0 (pa_cons (pv 0) (pa_cons pe_int pa_nil)))) pe_int)))), ?_⟩
  refine ⟨10, 8, rfl, rfl, ⟨by decide, by decide, by decide⟩, 10, 17, rfl, rfl, ⟨by decide, by decide, by decide⟩, (by show 5 ≤ sizeLine; decide), fun l hl => ?_⟩
  refine ⟨_, rfl, a, 5, rfl, hS.new hl, by decide, fun r H1 st r0 r1 => ?_⟩
  have hl1 : H1 l = some (.lst ([1, 1, 1000, 10 ^ 8, 10 ^ 17].map V.int)) := st.k _ _ (hS.ne hl).symm upd_same
  obtain ⟨u, mu, eu⟩ := ixMem (ns := [1, 1, 1000, 10 ^ 8, 10 ^ 17]) (r := r) r0 (by show r < 5; omega)
  refine ⟨l, _, r, _, rfl, rfl, SqL.of hl1, eu, ?_⟩
  have s1 : Stp a H H1 := ((Stp.refl hS).new hl).trans st
  refine ⟨_, rfl, a, 19, rfl, s1.s, by decide, fun r2 H2 st2 r20 r21 => ?_⟩
  refine ⟨_, _, rfl, rfl, _, rfl, _, _, rfl, rfl, .inl ⟨by omega, by omega⟩, ?_⟩
  refine ⟨_, rfl, a, 7, rfl, (s1.trans st2).s, by decide, fun r3 H3 st3 r30 r31 => ?_⟩
  refine ⟨_, _, rfl, rfl, _, _, rfl, rfl, ?_⟩
  have bd : -1000000000000000000 ≤ (r2 - 9) * u + r3 - 3 ∧ (r2 - 9) * u + r3 - 3 ≤ 1000000000000000000 := by
    have e8 : (10 : Int) ^ 8 = 100000000 := by decide
    have e17 : (10 : Int) ^ 17 = 100000000000000000 := by decide
    rw [e8, e17] at mu
    simp only [List.mem_cons, List.not_mem_nil, or_false] at mu
    rcases mu with rfl | rfl | rfl | rfl | rfl <;> omega
  exact q _ _ ((s1.trans st2).trans st3) bd.1 bd.2
theorem ok_l_size18 (T : Txt w K mg) : FnOk P w K mg base CX0 2 T.a_l_size T.d_l_size p_l_size spSize := by
  have g_l_pick := ok_l_pick (P := P) (w := w) (base := base) T
  refine T.F_l_size.ok sc_l_size (fun vs H Q E h => ?_) (fun cdv A outer s H vs Q E hr h => ?_)
  · obtain ⟨a, rfl, _⟩ := h
    rfl
  obtain ⟨a, rfl, hS, q⟩ := h
  refine ⟨_, (pss_cons (ps_set (i := 1) sc_l_size.nd rfl (Or.inl rfl) (pe_call g_l_pick (hr.mono (by first | decide | omega)) rfl T.m_l_pick T.F_l_pick.kp T.b_l_pick .nil pass0 (pa_cons (pv 0) (pa_cons pe_int pa_nil))))
      (C8.pss_cut (ps_if (pt_cmpR op_eq (pe_call g_l_pick (hr.mono (by first | decide | omega)) rfl T.m_l_pick T.F_l_pick.kp T.b_l_pick .nil pass0 (pa_cons (pv 0) (pa_cons pe_int pa_nil))) pe_int (nomark _)) (pss_one (ps_set (i := 1) sc_l_size.nd rfl (Or.inl rfl) (pe_op op_add pe_int (pe_call g_l_pick (hr.mono (by first | decide | omega)) rfl T.m_l_pick T.F_l_pick.kp T.b_l_pick .nil pass0 (pa_cons (pv 0) (pa_cons pe_int pa_nil)))))) pss_nil)
      (pss_one (ps_ret (pv 1))))), ?_⟩
  refine ⟨_, rfl, a, 4, rfl, hS, by decide, fun r H1 st r0 r1 => ?_⟩
  refine ⟨fun σ H' => ∃ n : Nat, σ = [some (.ref a), some (.int n)] ∧ Stp a H H' ∧ n ≤ 20, ?_, ?_⟩
  · refine ⟨_, rfl, a, 8, rfl, st.s, by decide, fun r2 H2 st2 r20 r21 => ⟨rfl, _, rfl, ite2 (fun _ => ?_) (fun _ => ?_)⟩⟩
    · refine ⟨_, rfl, a, 17, rfl, (st.trans st2).s, by decide, fun r3 H3 st3 r30 r31 => ⟨_, _, rfl, rfl, ?_⟩⟩
      refine ⟨(4 + r3).toNat, ?_, (st.trans st2).trans st3, by omega⟩
      have e : ((4 + r3).toNat : Int) = 4 + r3 := by omega
      rw [e]
      rfl
    · refine ⟨r.toNat, ?_, st.trans st2, by omega⟩
      have e : (r.toNat : Int) = r := by omega
      rw [e]
      rfl
  · rintro σ H' ⟨n, rfl, st', hn⟩
    exact ⟨_, rfl, q _ _ st' hn⟩
end
def InM (n : Nat) (M : List (List Int)) (r : List Int) : Prop := ∀ i < n + 1, ∀ j < n + 1, dif i j r ≤ getM M i j
theorem Mx.get {K : PySem.W.Frag} {H : Hp} {p : Addr} {M : List (List Int)} {i : Nat} {r : List Int} (h : Mx true true K H p M) (e : M[i]? = some r) : ∃ (vs : List V) (a : Addr), SqT K H p vs ∧ atI vs (i : Int) = some (.ref a) ∧ SqT K H a (r.map V.int) := h.getT e
/-! ### points at addresses; a point in a matrix -/
theorem Mx.get0 {K : PySem.W.Frag} {H : Hp} {p : Addr} {M : List (List Int)} {i : Nat} {r : List Int} (h : Mx true true K H p M) (e : M[i]? = some r) : ∃ (vs : List V) (a : Addr), SqT K H p vs ∧ atI vs (0 + (i : Int)) = some (.ref a) ∧ SqT K H a (r.map V.int) := by
  rw [Int.zero_add]
  exact h.get e
def spBelongs (K : PySem.W.Frag) : Sp := fun vs H Q _ => ∃ (p t : Addr) (M : List (List Int)) (r : List Int), vs = [.ref p, .ref t] ∧ r.length ≤ 900 ∧ Mx true true K H p M ∧ Sz (r.length + 1) M ∧ SqT K H t (r.map V.int) ∧ ∀ b H', Same H H' → (b = true ↔ InM r.length M r) → Q (.bl b) H'
section
variable {P : Program} {w : World} {K : PySem.W.Frag} {mg : Str → Option Value} {base : Heap}
theorem ok_l_belongs (T : Txt w K mg) : FnOk P w K mg base CX0 1 T.a_l_belongs T.d_l_belongs p_l_belongs (spBelongs K) := by
  refine T.F_l_belongs.ok sc_l_belongs (fun vs H Q E h => ?_) (fun cdv A outer s H vs Q E hr h => ?_)
  · obtain ⟨p, t, M, r, rfl, _⟩ := h
    rfl
  obtain ⟨p, t, M, r, rfl, hn, hM, sM, ht, q⟩ := h
  refine ⟨_, (pss_cons (ps_set (i := 2) sc_l_belongs.nd rfl (Or.inl rfl) (pe_op op_catT (pe_tup (pa_cons pe_int pa_nil)) (pv 1)))
      (pss_cons (ps_for PassesOwn.never rfl (pi_range1 rfl T.z_range (pa_cons (pe_callB call_len_seq rfl T.z_len PySem.boot_len (pa_cons (pv 2) pa_nil)) pa_nil)) (pg_name (i := 3) sc_l_belongs.nd rfl (Or.inl rfl))
        (pss_one (ps_for PassesOwn.never rfl (pi_range1 rfl T.z_range (pa_cons (pe_callB call_len_seq rfl T.z_len PySem.boot_len (pa_cons (pv 2) pa_nil)) pa_nil)) (pg_name (i := 4) sc_l_belongs.nd rfl (Or.inl rfl))
        (pss_one (ps_if (pt_cmpR op_gt (pe_op op_sub (pe_ix ix_tup (pv 2) (pv 3) (fun _ _ => rfl)) (pe_ix ix_tup (pv 2) (pv 4) (fun _ _ => rfl))) (pe_ix ix_tup (pe_ix ix_tup (pv 0) (pv 3) (fun _ _ => rfl)) (pv 4) (fun _ _ => rfl)) (nomark _)) (pss_one (ps_ret pe_bl)) pss_nil)))))
      (pss_one (ps_ret pe_bl)))), ?_⟩
  generalize hn' : r.length = n at *
  refine ⟨(by show 1 ≤ sizeLine; decide), fun t1 ht1 => ?_⟩
  refine ⟨_, rfl, cat0 (SqT.of upd_same) (Same.tup (Same.new ht1 _) ht) (by omega) fun z F sa hz => ?_⟩
  have sF : Same H F := (Same.new ht1 _).trans sa
  have hMF := hM.same sF
  have l0 : ((0 :: r).map V.int).length = n + 1 := by simp [hn']
  refine ⟨_, rfl, z, _, rfl, .inr hz, _, rfl, by omega, by omega, for_range (lo := 0) (fun i σ G => G = F ∧ (∃ b c : Option V, σ = [some (.ref p), some (.ref t), some (.ref z), b, c]) ∧ ∀ i' < i, ∀ j < n + 1, dif i' j r ≤ getM M i' j) ⟨rfl, ⟨none, none, rfl⟩, fun i' h => by omega⟩ ?_ ?_⟩
  · rintro i σ G hi ⟨rfl, ⟨b, c, rfl⟩, hA⟩
    rw [l0] at hi
    refine ⟨_, rfl, z, _, rfl, .inr hz, _, rfl, by omega, by omega, for_range (lo := 0) (fun j σ G' => G' = G ∧ (∃ c : Option V, σ = [some (.ref p), some (.ref t), some (.ref z), some (.int (0 + (i : Int))), c]) ∧ ∀ j' < j, dif i j' r ≤ getM M i j') ⟨rfl, ⟨c, rfl⟩, fun i' h => by omega⟩ ?_ ?_⟩
    · rintro j σ G' hj ⟨rfl, ⟨c', rfl⟩, hB⟩
      rw [l0] at hj
      obtain ⟨ri, ei, li, gi⟩ := sM.at2 (i := i) (j := j) (by omega) (by omega)
      obtain ⟨vs, a, k1, k2, k3⟩ := hMF.get0 ei
      refine ⟨_, rfl, _, rfl, z, _, _, _, rfl, rfl, hz, atI_row (by simp; omega), ?_⟩
      refine ⟨_, rfl, _, rfl, z, _, _, _, rfl, rfl, hz, atI_row (by simp; omega), _, _, rfl, rfl, ?_⟩
      refine ⟨_, rfl, _, rfl, p, _, _, _, rfl, rfl, k1, k2, _, rfl, a, _, _, _, rfl, rfl, k3, atI_row (by omega), _, _, rfl, rfl, _, rfl, ?_⟩
      have eg : ri.getD j 0 = getM M i j := by rw [List.getD_eq_getElem?_getD, gi]; rfl
      rw [eg]
      refine ite2 (fun h => ?_) (fun h => ?_)
      · have h' : dif i j r > getM M i j := of_decide_eq_true h
        refine q _ _ sF ⟨fun z => Bool.noConfusion z, fun z => ?_⟩
        have := z i (by omega) j (by omega)
        omega
      · have h' : ¬ dif i j r > getM M i j := of_decide_eq_false (Bool.eq_false_iff.mpr h)
        refine ⟨rfl, ⟨_, rfl⟩, split_lt.mpr ⟨hB, by omega⟩⟩
    · rintro σ G' ⟨rfl, ⟨c', rfl⟩, hB⟩
      rw [l0] at hB
      exact ⟨rfl, ⟨_, _, rfl⟩, split_lt.mpr ⟨hA, fun j hj => hB j (by omega)⟩⟩
  · rintro σ G ⟨rfl, ⟨b, c, rfl⟩, hA⟩
    rw [l0] at hA
    exact q _ _ sF ⟨fun _ i hi j hj => hA i (by omega) j hj, fun _ => rfl⟩
end
/-! ### boxes with few points -/
def xc (r : List Int) (a : Nat) : Int := (0 :: r).getD a 0
theorem dif_xc {a b : Nat} {r : List Int} : dif a b r = xc r a - xc r b := rfl
theorem xc_succ {r : List Int} {a : Nat} : xc r (a + 1) = r.getD a 0 := rfl
theorem hull_some {n : Nat} {Ps : List (List Int)} (ne : Ps ≠ []) : hull n Ps = some (hullM n Ps) := by
  unfold hull
  rw [if_neg ne]
theorem hull_clo {n : Nat} {Ps : List (List Int)} (ne : Ps ≠ []) : Clo (n + 1) (getM (hullM n Ps)) := ⟨fun _ hi => hull_diag ne hi, fun _ hi _ hj _ hk => hull_tri ne hi hj hk⟩
theorem hull_cloB {n : Nat} {Ps : List (List Int)} : ∀ M, hull n Ps = some M → Clo (n + 1) (getM M) := fun M e => by
  unfold hull at e
  split at e
  · cases e
  · rename_i ne
    cases e
    exact hull_clo ne
/-- an entry of a hull is reached, and bounds -/
theorem hull_at {n a b : Nat} {Ps : List (List Int)} (ne : Ps ≠ []) (ha : a < n + 1) (hb : b < n + 1) : ∃ r ∈ Ps, dif a b r = getM (hullM n Ps) a b := by
  rw [getM_hull ha hb]
  obtain ⟨r, hr, e⟩ := List.mem_map.mp (lmax_mem (xs := Ps.map (dif a b)) fun z => ne (List.map_eq_nil_iff.mp z))
  exact ⟨r, hr, e⟩
theorem hull_le {n a b : Nat} {Ps : List (List Int)} {r : List Int} (ha : a < n + 1) (hb : b < n + 1) (hr : r ∈ Ps) : dif a b r ≤ getM (hullM n Ps) a b := by
  rw [getM_hull ha hb]
  exact lmax_le (List.mem_map_of_mem hr)
/-- values between -w and w -/
def Wth (w : Int) (r : List Int) : Prop := ∀ k ∈ r, -w ≤ k ∧ k ≤ w
theorem wth_xc {w : Int} {r : List Int} {a : Nat} (h : Wth w r) (w0 : 0 ≤ w) : -w ≤ xc r a ∧ xc r a ≤ w := by
  cases a with
  | zero => exact ⟨by show -w ≤ (0 : Int); omega, w0⟩
  | succ a =>
    rw [xc_succ, List.getD_eq_getElem?_getD]
    cases e : r[a]? with
    | none => exact ⟨by show -w ≤ (0 : Int); omega, w0⟩
    | some k => exact h k (List.mem_of_getElem? e)
theorem hull_bd {n a b : Nat} {w : Int} {Ps : List (List Int)} (ne : Ps ≠ []) (h : ∀ r ∈ Ps, Wth w r) (w0 : 0 ≤ w) (ha : a < n + 1) (hb : b < n + 1) : -(2 * w) ≤ getM (hullM n Ps) a b ∧ getM (hullM n Ps) a b ≤ 2 * w := by
  obtain ⟨r, hr, e⟩ := hull_at ne ha hb
  have h1 := wth_xc (a := a) (h r hr) w0
  have h2 := wth_xc (a := b) (h r hr) w0
  rw [← e, dif_xc]
  omega
/-- a drawn set of points -/
structure DP (n : Nat) (Ps : List (List Int)) : Prop where
  l : ∀ r ∈ Ps, r.length = n
  w : ∀ r ∈ Ps, Wth 2 r
  c : Ps.length ≤ 5
  t : n ≤ 3 ∨ Ps = [] ∨ ∃ p q, Ps = [p, q] ∧ Wth 1 p ∧ Wth 1 q
theorem filter_one {P : Int → Bool} {w : Int} (h : ∀ v, P v = true → v = w) : ∀ {xs : List Int}, xs.Nodup → (xs.filter P).length ≤ 1
  | [], _ => by simp
  | x :: xs, nd => by
    have nd2 := List.nodup_cons.mp nd
    by_cases hx : P x = true
    · rw [List.filter_cons_of_pos hx]
      have e : xs.filter P = [] := List.filter_eq_nil_iff.mpr fun y hy py => by
        have e1 := h x hx
        have e2 := h y py
        exact nd2.1 (by rw [e1, ← e2]; exact hy)
      rw [e]
      simp
    · rw [List.filter_cons_of_neg hx]
      exact filter_one h nd2.2
theorem vals_nodup {M : List (List Int)} {c : Nat} : (valsL M c).Nodup := by
  unfold valsL
  refine List.pairwise_map.mpr ?_
  refine List.pairwise_lt_range.imp ?_
  intro a b h z
  omega
theorem stepL_capP {M : List (List Int)} {c m : Nat} : ∀ {Ps : List (List Int)}, (∀ p ∈ Ps, (stepV M c p (valsL M c)).length ≤ m) → (stepL M c Ps).length ≤ Ps.length * m
  | [], _ => by simp [stepL]
  | p :: Ps, h => by
    show ((p :: Ps).flatMap fun p => stepV M c p (valsL M c)).length ≤ _
    rw [List.flatMap_cons, List.length_append, List.length_cons, Nat.add_mul]
    have h1 := h p List.mem_cons_self
    have h2 := stepL_capP (M := M) (c := c) (m := m) (Ps := Ps) fun q hq => h q (List.mem_cons_of_mem _ hq)
    unfold stepL at h2
    omega
open Classical in
noncomputable def ind (p : Prop) : Nat := if p then 1 else 0
theorem ind_mono {p q : Prop} (h : p → q) : ind p ≤ ind q := by
  unfold ind
  split
  · rw [if_pos (h (by assumption))]
    exact Nat.le_refl _
  · omega
theorem ind_0 {p : Prop} (h : ¬ p) : ind p = 0 := if_neg h
theorem ind_1 {p : Prop} (h : p) : ind p = 1 := if_pos h
theorem ind_le {p : Prop} : ind p ≤ 1 := by
  unfold ind
  split <;> omega
/-- whether a difference was met among the first columns -/
def Met (d : Nat → Int) (c : Nat) (v : Int) : Prop := ∃ k, 1 ≤ k ∧ k ≤ c ∧ d k = v
theorem Met.up {d : Nat → Int} {c : Nat} {v : Int} (h : Met d c v) : Met d (c + 1) v := by
  obtain ⟨k, h1, h2, h3⟩ := h
  exact ⟨k, h1, by omega, h3⟩
noncomputable def cnt (d : Nat → Int) (c : Nat) : Nat := ind (Met d c (-2)) + ind (Met d c (-1)) + ind (Met d c 1) + ind (Met d c 2)
theorem cnt_up {d : Nat → Int} {c : Nat} : cnt d c ≤ cnt d (c + 1) := by
  unfold cnt
  have h1 := ind_mono (Met.up (d := d) (c := c) (v := -2))
  have h2 := ind_mono (Met.up (d := d) (c := c) (v := -1))
  have h3 := ind_mono (Met.up (d := d) (c := c) (v := 1))
  have h4 := ind_mono (Met.up (d := d) (c := c) (v := 2))
  omega
theorem cnt_new {d : Nat → Int} {c : Nat} (h : ¬ Met d c (d (c + 1))) (h0 : d (c + 1) ≠ 0) (hb : -2 ≤ d (c + 1) ∧ d (c + 1) ≤ 2) : cnt d c + 1 ≤ cnt d (c + 1) := by
  unfold cnt
  have h1 := ind_mono (Met.up (d := d) (c := c) (v := -2))
  have h2 := ind_mono (Met.up (d := d) (c := c) (v := -1))
  have h3 := ind_mono (Met.up (d := d) (c := c) (v := 1))
  have h4 := ind_mono (Met.up (d := d) (c := c) (v := 2))
  have m : Met d (c + 1) (d (c + 1)) := ⟨c + 1, by omega, by omega, rfl⟩
  have e : d (c + 1) = -2 ∨ d (c + 1) = -1 ∨ d (c + 1) = 1 ∨ d (c + 1) = 2 := by omega
  rcases e with e | e | e | e <;> rw [e] at h m <;> have a := ind_0 h <;> have b := ind_1 m <;> omega
theorem two_cap {n : Nat} {p q : List Int} (hp : Wth 1 p) (hq : Wth 1 q) : ∀ c ≤ n, (ptsL (hullM n [p, q]) c).length ≤ 3 ^ cnt (fun k => xc q k - xc p k) c
  | 0, _ => by
    show ([[]] : List (List Int)).length ≤ _
    exact Nat.one_le_pow _ _ (by decide)
  | c + 1, hc => by
    have ih := two_cap (n := n) hp hq c (by omega)
    have ne : ([p, q] : List (List Int)) ≠ [] := by simp
    have both : ∀ {a b : Nat}, a < n + 1 → b < n + 1 → getM (hullM n [p, q]) a b = max (xc p a - xc p b) (xc q a - xc q b) := fun {a b} ha hb => by
      rw [getM_hull ha hb]
      rfl
    have pb := fun a => wth_xc (a := a) hp (by decide)
    have qb := fun a => wth_xc (a := a) hq (by decide)
    have x0 : ∀ r : List Int, xc r 0 = 0 := fun _ => rfl
    have ml : (valsL (hullM n [p, q]) (c + 1)).length ≤ 3 := by
      rw [vals_len, both (by omega) (by omega), both (by omega) (by omega), x0, x0]
      have := pb (c + 1)
      have := qb (c + 1)
      omega
    show (stepL (hullM n [p, q]) (c + 1) (ptsL (hullM n [p, q]) c)).length ≤ _
    have one : (xc q (c + 1) - xc p (c + 1) = 0 ∨ Met (fun k => xc q k - xc p k) c (xc q (c + 1) - xc p (c + 1))) → (stepL (hullM n [p, q]) (c + 1) (ptsL (hullM n [p, q]) c)).length ≤ (ptsL (hullM n [p, q]) c).length * 1 := by
      intro h
      refine stepL_capP fun r hr => ?_
      unfold stepV
      rw [List.length_map]
      rcases h with h | ⟨k, k1, kc, h⟩
      · refine Nat.le_trans (List.length_filter_le _ _) ?_
        rw [vals_len, both (by omega) (by omega), both (by omega) (by omega), x0, x0]
        omega
      · obtain ⟨lr, _⟩ := mem_pts.mp hr
        have h' : xc q k - xc p k = xc q (c + 1) - xc p (c + 1) := h
        refine filter_one (w := r.getD (k - 1) 0 + (xc p (c + 1) - xc p k)) (fun v hv => ?_) vals_nodup
        have hf : fitP (hullM n [p, q]) (c + 1) r v := of_decide_eq_true hv
        have := hf (k - 1) (by omega)
        rw [show k - 1 + 1 = k by omega, both (by omega) (by omega), both (by omega) (by omega)] at this
        omega
    by_cases h : xc q (c + 1) - xc p (c + 1) = 0 ∨ Met (fun k => xc q k - xc p k) c (xc q (c + 1) - xc p (c + 1))
    · have h1 := one h
      have h2 : 3 ^ cnt (fun k => xc q k - xc p k) c ≤ 3 ^ cnt (fun k => xc q k - xc p k) (c + 1) := Nat.pow_le_pow_right (by decide) cnt_up
      omega
    · have h0 : ¬ xc q (c + 1) - xc p (c + 1) = 0 := fun z => h (.inl z)
      have hm : ¬ Met (fun k => xc q k - xc p k) c (xc q (c + 1) - xc p (c + 1)) := fun z => h (.inr z)
      have bd : -2 ≤ xc q (c + 1) - xc p (c + 1) ∧ xc q (c + 1) - xc p (c + 1) ≤ 2 := by
        have := pb (c + 1)
        have := qb (c + 1)
        omega
      have h1 := cnt_new (d := fun k => xc q k - xc p k) hm h0 bd
      have h2 : 3 ^ (cnt (fun k => xc q k - xc p k) c + 1) ≤ 3 ^ cnt (fun k => xc q k - xc p k) (c + 1) := Nat.pow_le_pow_right (by decide) h1
      have h3 := stepL_cap (Ps := ptsL (hullM n [p, q]) c) ml
      rw [Nat.pow_succ] at h2
      have h4 := Nat.mul_le_mul_right 3 ih
      omega
theorem cnt_4 {d : Nat → Int} {c : Nat} : cnt d c ≤ 4 := by
  unfold cnt
  have h1 := ind_le (p := Met d c (-2))
  have h2 := ind_le (p := Met d c (-1))
  have h3 := ind_le (p := Met d c 1)
  have h4 := ind_le (p := Met d c 2)
  omega
theorem drawn_small {n : Nat} {Ps : List (List Int)} (h : DP n Ps) (ne : Ps ≠ []) : Small n (hullM n Ps) := by
  refine ⟨fun c hc => ?_, fun c hc => ?_, fun c hc => ?_⟩
  · have := hull_bd (n := n) ne h.w (by decide) (by omega) hc (a := 0)
    omega
  · have := hull_bd (n := n) ne h.w (by decide) hc (by omega) (b := 0)
    omega
  · rcases h.t with t | t | ⟨p, q, e, hp, hq⟩
    · have cap := ptsL_cap (M := hullM n Ps) (m := 9) (n := n) (fun c hc => by
        rw [vals_len]
        have h1 := hull_bd (n := n) ne h.w (by decide) (a := c) (b := 0) (by omega) (by omega)
        have h2 := hull_bd (n := n) ne h.w (by decide) (a := 0) (b := c) (by omega) (by omega)
        omega) c hc
      have : 9 ^ c ≤ 9 ^ 3 := Nat.pow_le_pow_right (by decide) (by omega)
      exact Nat.le_trans cap (Nat.le_trans this (by decide))
    · exact absurd t ne
    · subst e
      have cap := two_cap (n := n) hp hq c hc
      have : 3 ^ cnt (fun k => xc q k - xc p k) c ≤ 3 ^ 4 := Nat.pow_le_pow_right (by decide) cnt_4
      exact Nat.le_trans cap (Nat.le_trans this (by decide))
theorem lmax_congr {xs ys : List Int} (h : ∀ x, x ∈ xs ↔ x ∈ ys) : lmax xs = lmax ys := by
  by_cases hx : xs = []
  · subst hx
    have : ys = [] := List.eq_nil_iff_forall_not_mem.mpr fun y hy => by simpa using (h y).mpr hy
    rw [this]
  · exact lmax_eq ((h _).mp (lmax_mem hx)) fun y hy => lmax_le ((h y).mpr hy)
theorem hull_congr {n : Nat} {Ps Qs : List (List Int)} (h : ∀ r, r ∈ Ps ↔ r ∈ Qs) : hull n Ps = hull n Qs := by
  have e : (Ps = []) ↔ (Qs = []) := by
    rw [List.eq_nil_iff_forall_not_mem, List.eq_nil_iff_forall_not_mem]
    exact ⟨fun k r hr => k r ((h r).mpr hr), fun k r hr => k r ((h r).mp hr)⟩
  unfold hull
  by_cases h1 : Ps = []
  · rw [if_pos h1, if_pos (e.mp h1)]
  · rw [if_neg h1, if_neg (fun z => h1 (e.mpr z))]
    congr 1
    unfold hullM
    refine List.map_congr_left fun i _ => List.map_congr_left fun j _ => lmax_congr fun x => ?_
    simp only [List.mem_map]
    exact ⟨fun ⟨r, hr, q⟩ => ⟨r, (h r).mp hr, q⟩, fun ⟨r, hr, q⟩ => ⟨r, (h r).mpr hr, q⟩⟩
/-- the greatest closed matrix below D is the hull of its points -/
theorem best_of_pts {n : Nat} {D : Nat → Nat → Int} {Ps : List (List Int)} (hP : ∀ r, r ∈ Ps ↔ r.length = n ∧ ∀ i < n + 1, ∀ j < n + 1, dif i j r ≤ D i j) (hd : ∀ i < n + 1, 0 ≤ D i i) : Best (n + 1) D (hull n Ps) := by
  have h := best_pts (n := n) (M := mkM (n + 1) D) fun i hi => by rw [mkM_get hi hi]; exact hd i hi
  have e : hull n Ps = hull n (ptsL (mkM (n + 1) D) n) := hull_congr fun r => by
    rw [hP r, mem_pts]
    constructor
    · rintro ⟨l, h⟩
      refine ⟨l, fun i hi j hj _ => ?_⟩
      rw [mkM_get hi hj]
      exact h i hi j hj
    · rintro ⟨l, h⟩
      refine ⟨l, fun i hi j hj => ?_⟩
      by_cases eq : i = j
      · subst eq
        have := hd i hi
        rw [dif_xc]
        omega
      · have := h i hi j hj eq
        rwa [mkM_get hi hj] at this
  rw [e]
  exact h.congr fun C _ => by
    constructor
    · intro z i hi j hj
      have := z i hi j hj
      rwa [mkM_get hi hj] at this
    · intro z i hi j hj
      rw [mkM_get hi hj]
      exact z i hi j hj
/-! ### law k18: drawn boxes -/
theorem rep_row {n : Nat} {c : Int} : (List.replicate n [V.int c]).flatten = (List.replicate n c).map V.int := by
  rw [List.map_replicate]
  induction n with
  | zero => rfl
  | succ n ih => rw [List.replicate_succ, List.replicate_succ, List.flatten_cons, ih]; rfl
def spDrawn (K : PySem.W.Frag) : Sp := fun vs H Q _ => ∃ (a : Addr) (n : Nat), vs = [.ref a, .int n] ∧ Src H a ∧ n ≤ 20 ∧ ∀ v H' Ps, Stp a H H' → BoxAt K H' v (hull n Ps) → DP n Ps → Q v H'
theorem sqT_but {K : PySem.W.Frag} {D p : Addr} {H H' : Hp} {xs acc : List V} (b : But D H H') (hD : H D = some (.lst acc)) (h : SqT K H p xs) : SqT K H' p xs := by
  have ne : ∀ {u : HO}, H p = some u → (∀ ys, u ≠ .lst ys) → p ≠ D := fun e n z => by
    rw [z, hD] at e
    exact n _ (Option.some.inj e).symm
  rcases h with (q | ⟨o', q⟩) | q
  · exact .inl (.inl (b _ _ (ne q (fun _ z => nomatch z)) q))
  · exact .inl (.inr ⟨o', b _ _ (ne q (fun _ z => nomatch z)) q⟩)
  · exact .inr q
theorem Pts.push {K : PySem.W.Frag} {G : Hp} {p z : Addr} {as : List Addr} {Qs : List (List Int)} {r : List Int} (h : PA K G as Qs) (e : G p = some (.lst (as.map V.ref))) (hz : SqT K G z (r.map V.int)) : Pts K (upd G p (.lst (as.map V.ref ++ [.ref z]))) p (Qs ++ [r]) := by
  refine ⟨as ++ [z], by rw [List.map_append]; exact upd_same, ?_, ?_⟩
  · rw [List.length_append, List.length_append, h.1]; rfl
  · exact fun i a r e1 e2 => sqT_but (But.upd _) e ((h.append (PA.one hz)).2 i a r e1 e2)
section
variable {P : Program} {w : World} {K : PySem.W.Frag} {mg : Str → Option Value} {base : Heap}
theorem ok_l_drawn_box (T : Txt w K mg) : FnOk P w K mg base CX0 2 T.a_l_drawn_box T.d_l_drawn_box p_l_drawn_box (spDrawn K) := by
  have g_l_pick := ok_l_pick (P := P) (w := w) (base := base) T
  have g_l_hull := ok_l_hull (P := P) (w := w) (K := K) (base := base) T
  refine T.F_l_drawn_box.ok sc_l_drawn_box (fun vs H Q E h => ?_) (fun cdv A outer s H vs Q E hr h => ?_)
  · obtain ⟨a, n, rfl, _⟩ := h
    rfl
  obtain ⟨a, n, rfl, hS, hn, q⟩ := h
  refine ⟨_, (pss_cons (ps_if (pt_cmpR op_eq (pe_call g_l_pick (hr.mono (by first | decide | omega)) rfl T.m_l_pick T.F_l_pick.kp T.b_l_pick .nil pass0 (pa_cons (pv 0) (pa_cons pe_int pa_nil))) pe_int (nomark _)) (pss_one (ps_ret pe_non)) pss_nil)
      (pss_cons (ps_set (i := 2) sc_l_drawn_box.nd rfl (Or.inl rfl) (pe_lst pa_nil))
      (C8.pss_cut (ps_if (pt_cmpR op_gt (pv 1) pe_int (nomark _)) (pss_cons (ps_set (i := 3) sc_l_drawn_box.nd rfl (Or.inl rfl) (pe_op op_rep (pe_lst (pa_cons pe_int pa_nil)) (pv 1)))
      (pss_cons (ps_set (i := 4) sc_l_drawn_box.nd rfl (Or.inl rfl) (pe_call g_l_pick (hr.mono (by first | decide | omega)) rfl T.m_l_pick T.F_l_pick.kp T.b_l_pick .nil pass0 (pa_cons (pv 0) (pa_cons (pe_op op_mul pe_int (pv 1)) pa_nil))))
      (C8.pss_cut (ps_if (pt_cmpR op_lt (pv 4) (pv 1) (nomark _)) (pss_one (ps_asg (pe_op op_sub pe_int (pe_op op_mul pe_int (pe_call g_l_pick (hr.mono (by first | decide | omega)) rfl T.m_l_pick T.F_l_pick.kp T.b_l_pick .nil pass0 (pa_cons (pv 0) (pa_cons pe_int pa_nil))))) (pg_sub (pv 3) (pv 4) set_list))) pss_nil)
      (pss_one (ps_set (i := 2) sc_l_drawn_box.nd rfl (Or.inl rfl) (pe_lst (pa_cons (pe_callTy call_tuple_of rfl T.z_tuple bt_tuple (pa_cons (pv 3) pa_nil)) (pa_cons (pe_callTy call_tuple_of rfl T.z_tuple bt_tuple (pa_cons (pe_lc (own := [("_law_k", 5)]) (g := gName 5) (tt := tYes) rfl sc_l_drawn_box.nd (pi_range1 rfl T.z_range (pa_cons (pv 1) pa_nil)) (blkOk_by (own := [("_law_k", 5)]) (N := n_l_drawn_box) (sc := defScope s_l_drawn_box) (by decide +kernel)) (fun _ _ _ _ _ => (pg_name (i := 5) sc_l_drawn_box.nd rfl (Or.inl rfl))) (fun _ _ _ _ _ => pts_nil) (fun _ _ _ _ _ => (pe_op op_sub (pe_call g_l_pick (hr.mono (by first | decide | omega)) rfl T.m_l_pick T.F_l_pick.kp T.b_l_pick .nil pass0 (pa_cons (pv 0) (pa_cons pe_int pa_nil))) pe_int))) pa_nil)) pa_nil)))))))) (pss_one (ps_for PassesOwn.never rfl (pi_range1 rfl T.z_range (pa_cons (pe_op op_add pe_int (pe_call g_l_pick (hr.mono (by first | decide | omega)) rfl T.m_l_pick T.F_l_pick.kp T.b_l_pick .nil pass0 (pa_cons (pv 0) (pa_cons (pe_op op_add (pv 1) pe_int) pa_nil)))) pa_nil)) (pg_name (i := 5) sc_l_drawn_box.nd rfl (Or.inl rfl))
        (pss_one (ps_expr (pe_bm PySem.F.plainAttrs_list PySem.F.slot_list_append PySem.F.type_list_append mt_append (pv 2) (pa_cons (pe_callTy call_tuple_of rfl T.z_tuple bt_tuple (pa_cons (pe_lc (own := [("_law_c", 6)]) (g := gName 6) (tt := tYes) rfl sc_l_drawn_box.nd (pi_range1 rfl T.z_range (pa_cons (pv 1) pa_nil)) (blkOk_by (own := [("_law_c", 6)]) (N := n_l_drawn_box) (sc := defScope s_l_drawn_box) (by decide +kernel)) (fun _ _ _ _ _ => (pg_name (i := 6) sc_l_drawn_box.nd rfl (Or.inl rfl))) (fun _ _ _ _ _ => pts_nil) (fun _ _ _ _ _ => (pe_op op_sub (pe_call g_l_pick (hr.mono (by first | decide | omega)) rfl T.m_l_pick T.F_l_pick.kp T.b_l_pick .nil pass0 (pa_cons (pv 0) (pa_cons pe_int pa_nil))) pe_int))) pa_nil)) pa_nil)))))))
      (pss_one (ps_ret (pe_call g_l_hull (hr.mono (by first | decide | omega)) rfl T.m_l_hull T.F_l_hull.kp T.b_l_hull .nil pass0 (pa_cons (pv 2) (pa_cons (pv 1) pa_nil)))))))), ?_⟩
  refine ⟨_, rfl, a, 8, rfl, hS, by decide, fun d H1 st1 d0 d1 => ⟨rfl, _, rfl, ite2 (fun _ => ?_) (fun _ => ?_)⟩⟩
  · exact q .non H1 [] st1 rfl ⟨fun r h => by simp at h, fun r h => by simp at h, by simp, .inr (.inl rfl)⟩
  refine ⟨(by show 0 ≤ sizeLine; decide), fun pp hpp => ?_⟩
  have s1 : Stp a H1 (upd H1 pp (.lst [])) := (Stp.refl st1.s).new hpp
  have nap : a ≠ pp := st1.s.ne hpp
  have hpp0 : H pp = none := st1.free hpp
  refine ⟨fun σ G => ∃ (Ps : List (List Int)) (p' : Addr) (x y z u : Option V), σ = [some (.ref a), some (.int n), some (.ref p'), x, y, z, u] ∧ Stp a H G ∧ Pts K G p' Ps ∧ DP n Ps ∧ Ps ≠ [], ?_, ?_⟩
  · refine ⟨_, rfl, _, _, rfl, rfl, _, rfl, ite2 (fun h3 => ?_) (fun h3 => ?_)⟩
    · have n3 : 3 < n := by
        have : (n : Int) > 3 := of_decide_eq_true h3
        omega
      have s2 := st1.trans s1
      refine ⟨(by show 1 ≤ sizeLine; decide), fun l hl => ?_⟩
      refine ⟨_, rfl, l, _, _, rfl, rfl, upd_same, by omega, by omega, ?_, fun fa hfa => ?_⟩
      · rw [Int.toNat_natCast, sizeLine_eq]
        show 1 * n ≤ _
        omega
      rw [Int.toNat_natCast, rep_row]
      have s3 := (s2.new (o := .lst [.int 0]) hl).new (o := .lst ((List.replicate n (0 : Int)).map V.int)) hfa
      have efa : (upd (upd (upd H1 pp (.lst [])) l (.lst [.int 0])) fa (.lst ((List.replicate n (0 : Int)).map V.int))) fa = some (.lst ((List.replicate n (0 : Int)).map V.int)) := upd_same
      have hfa0 : H fa = none := (s2.new (o := .lst [.int 0]) hl).free hfa
      generalize upd (upd (upd H1 pp (.lst [])) l (.lst [.int 0])) fa (.lst ((List.replicate n (0 : Int)).map V.int)) = H2 at s3 efa
      have naf : a ≠ fa := hS.ne hfa0
      refine ⟨_, rfl, _, rfl, _, _, rfl, rfl, .inl ⟨by decide, by decide⟩, ?_⟩
      refine ⟨a, _, rfl, s3.s, by omega, fun at_ H3 st3 t0 t1 => ?_⟩
      have efa3 := st3.k _ _ naf.symm efa
      have s4 := s3.trans st3
      refine ⟨fun σ G => ∃ ms : List Int, σ = [some (.ref a), some (.int n), some (.ref pp), some (.ref fa), some (.int at_), none, none] ∧ Stp a H G ∧ G fa = some (.lst (ms.map V.int)) ∧ ms.length = n ∧ Wth 1 ms, ?_, ?_⟩
      · have w0 : Wth 1 (List.replicate n (0 : Int)) := fun k hk => by
          have := List.eq_of_mem_replicate hk
          omega
        refine ⟨_, rfl, _, rfl, _, _, rfl, rfl, _, rfl, ite2 (fun h4 => ?_) (fun h4 => ?_)⟩
        · have h5 : at_ < (n : Int) := of_decide_eq_true h4
          refine ⟨_, rfl, a, 2, rfl, s4.s, by decide, fun e H4 st4 e0 e1 => ?_⟩
          have efa4 := st4.k _ _ naf.symm efa3
          refine ⟨_, _, rfl, rfl, .inl ⟨by decide, by decide⟩, _, _, rfl, rfl, ?_⟩
          refine ⟨_, rfl, _, rfl, fa, _, _, _, rfl, rfl, efa4, ixN_int t0 (by rw [List.length_map, List.length_replicate]; omega), ?_⟩
          rw [← List.map_set]
          refine ⟨(List.replicate n (0 : Int)).set at_.toNat (1 - 2 * e), rfl, (s4.trans st4).put hS hfa0, upd_same, by rw [List.length_set, List.length_replicate], fun k hk => ?_⟩
          rcases List.mem_or_eq_of_mem_set hk with h | h
          · exact w0 k h
          · omega
        · exact ⟨_, rfl, s4, efa3, by rw [List.length_replicate], w0⟩
      · rintro σ G ⟨ms, rfl, sG, eG, lm, wm⟩
        refine ⟨_, rfl, fa, _, rfl, .inl ⟨SqL.of eG, fun t ht => ?_⟩⟩
        have s5 := sG.new (o := .tup (ms.map V.int)) ht
        have ht1 : SqT K (upd G t (.tup (ms.map V.int))) t (ms.map V.int) := SqT.of upd_same
        generalize upd G t (.tup (ms.map V.int)) = G1 at s5 ht1
        refine ⟨_, rfl, _, rfl, by omega, by omega, fun D hD => ?_⟩
        refine lc_it walk_range (LcP (fun F => Stp a G1 F) (fun _ y _ => ∃ k : Int, y = .int k ∧ -1 ≤ k ∧ k ≤ 1) D) ⟨(Stp.refl s5.s).new hD, [], upd_same, rfl, fun j y e => by simp at e⟩ (fun _ _ _ _ => trivial) ?_ ?_
        · rintro j x F F' hj PF ⟨rfl, rfl⟩
          refine ⟨rfl, tyes ?_⟩
          refine ⟨_, rfl, a, 3, rfl, PF.1.s, by decide, fun k F2 st3 k0 k1 => ?_⟩
          refine ⟨_, _, rfl, rfl, ?_⟩
          exact lcp_step PF (fun o e => st3.k _ _ (s5.s.ne hD).symm e) (lt_line (by omega)) (fun o => (PF.1.trans st3).put s5.s hD) (fun _ _ _ h => h) fun _ => ⟨_, rfl, by omega, by omega⟩
        · intro F PF
          obtain ⟨sF, acc, h1, h2, h3⟩ := PF
          obtain ⟨ns, rfl, hns⟩ := ints_ofQ h3
          rw [List.length_map] at h2
          refine ⟨D, _, rfl, .inl ⟨SqL.of h1, fun t2 ht2 => ?_⟩⟩
          have s6 := (s5.trans sF).new (o := .tup (ns.map V.int)) ht2
          have ht3 : SqT K (upd F t2 (.tup (ns.map V.int))) t (ms.map V.int) := Same.tup (Same.new ht2 _) (sF.rd ht1 s5.s)
          refine ⟨(by show 2 ≤ sizeLine; decide), fun L hL => ?_⟩
          refine ⟨[ms, ns], L, _, _, _, _, rfl, s6.new hL, ⟨[t, t2], upd_same, rfl, fun i b r e1 e2 => ?_⟩, ⟨fun r hr => ?_, fun r hr => ?_, by simp, .inr (.inr ⟨ms, ns, rfl, wm, hns⟩)⟩, by simp⟩
          · match i, e1, e2 with
            | 0, e1, e2 =>
              cases e1
              cases e2
              exact Same.tup (Same.new hL _) ht3
            | 1, e1, e2 =>
              cases e1
              cases e2
              exact Same.tup (Same.new hL _) (SqT.of upd_same)
            | i + 2, e1, e2 => simp at e1
          · have e : r = ms ∨ r = ns := by simpa using hr
            rcases e with rfl | rfl <;> omega
          · have e : r = ms ∨ r = ns := by simpa using hr
            rcases e with rfl | rfl
            · intro k hk
              have := wm k hk
              omega
            · intro k hk
              have := hns k hk
              omega
    · have n3 : n ≤ 3 := by
        have : ¬ (n : Int) > 3 := of_decide_eq_false (Bool.eq_false_iff.mpr h3)
        omega
      refine ⟨_, rfl, _, rfl, _, _, rfl, rfl, a, _, rfl, s1.s, by omega, fun m H2 st2 m0 m1 => ?_⟩
      have s2 : Stp a H1 H2 := s1.trans st2
      have hp2 : H2 pp = some (.lst []) := st2.k _ _ nap.symm upd_same
      refine ⟨_, _, rfl, rfl, _, rfl, by omega, by omega, for_range (lo := 0) (fun i σ G => ∃ (x y z u : Option V) (Ps : List (List Int)), σ = [some (.ref a), some (.int n), some (.ref pp), x, y, z, u] ∧ Stp a H1 G ∧ Ps.length = i ∧ (∀ r ∈ Ps, r.length = n ∧ Wth 2 r) ∧ Pts K G pp Ps)
        ⟨none, none, none, none, [], rfl, s2, rfl, fun r hr => by simp at hr, [], hp2, rfl, fun i a r e => by simp at e⟩ ?_ ?_⟩
      · rintro i σ G hi ⟨x, y, z, u, Ps, rfl, sG, lP, hr', hP⟩
        obtain ⟨as, e1, e2⟩ := hP.pa
        refine ⟨_, rfl, .inl ⟨rfl, _, SqL.of e1⟩, ?_⟩
        refine ⟨_, rfl, _, rfl, by omega, by omega, fun D hD => ?_⟩
        refine lc_it walk_range (LcP (fun F => Stp a G F) (fun _ y _ => ∃ k : Int, y = .int k ∧ -2 ≤ k ∧ k ≤ 2) D) ⟨(Stp.refl sG.s).new hD, [], upd_same, rfl, fun j y e => by simp at e⟩ (fun _ _ _ _ => trivial) ?_ ?_
        · rintro j x F F' hj PF ⟨rfl, rfl⟩
          refine ⟨rfl, tyes ?_⟩
          refine ⟨_, rfl, a, 5, rfl, PF.1.s, by decide, fun k F2 st3 k0 k1 => ?_⟩
          refine ⟨_, _, rfl, rfl, ?_⟩
          exact lcp_step PF (fun o e => st3.k _ _ (sG.s.ne hD).symm e) (lt_line (by omega)) (fun o => (PF.1.trans st3).put sG.s hD) (fun _ _ _ h => h) fun _ => ⟨_, rfl, by omega, by omega⟩
        · intro F PF
          obtain ⟨sF, acc, h1, h2, h3⟩ := PF
          obtain ⟨ns, rfl, hns⟩ := ints_ofQ h3
          rw [List.length_map] at h2
          refine ⟨D, _, rfl, .inl ⟨SqL.of h1, fun t ht => ?_⟩⟩
          have sT := Same.new ht (.tup (ns.map V.int))
          have e3 := sT _ _ (sF.k _ _ nap.symm e1)
          refine ⟨pp, _, _, rfl, rfl, e3, lt_line (by rw [List.length_map, e2.1]; omega), ?_⟩
          refine ⟨_, _, _, _, Ps ++ [ns], rfl, ((sG.trans sF).same sT).put st1.s hpp, by simp [lP], fun r hr => ?_, Pts.push ((e2.stp sF sG.s).same sT) e3 (SqT.of upd_same)⟩
          rcases List.mem_append.mp hr with h | h
          · exact hr' r h
          · have e := List.mem_singleton.mp h
            rw [e]
            exact ⟨by omega, hns⟩
      · rintro σ G ⟨x, y, z, u, Ps, rfl, sG, lP, hr', hP⟩
        refine ⟨Ps, pp, x, y, z, u, rfl, st1.trans sG, hP, ⟨fun r h => (hr' r h).1, fun r h => (hr' r h).2, by omega, .inl n3⟩, fun z => ?_⟩
        rw [z] at lP
        simp at lP
        omega
  · rintro σ G ⟨Ps, p', x, y, z, u, rfl, sG, hP, dP, ne⟩
    have := dP.c
    exact ⟨_, rfl, _, rfl, p', n, Ps, rfl, by omega, hP.mx, dP.l, by omega, fun v H' s' b' => q v H' Ps (sG.same s') b' dP⟩
end
/-! ### law k18: great boxes, parts, meetings, bounds -/
def spWideB (K : PySem.W.Frag) : Sp := fun vs H Q _ => ∃ (a p : Addr) (n : Nat) (Ss : List (List Int)), vs = [.ref a, .int n, .ref p] ∧ Src H a ∧ Pts K H p Ss ∧ (∀ r ∈ Ss, r.length = n ∧ Wth 1000000000000000000 r) ∧ Ss.length ≤ 20 ∧ n ≤ 20 ∧
  ∀ v H' Ps, Stp a H H' → BoxAt K H' v (hull n Ps) → Ps ≠ [] → (∀ r ∈ Ps, r.length = n ∧ Wth 1000000000000000000 r) → Q v H'
def BdB (n : Nat) (B : Option (List (List Int))) : Prop := ∀ M, B = some M → ∀ i < n, ∀ j < n, -2000000000000000000 ≤ getM M i j ∧ getM M i j ≤ 2000000000000000000
def spPart (K : PySem.W.Frag) : Sp := fun vs H Q _ => ∃ (a : Addr) (v : V) (B : Option (List (List Int))) (n i j : Nat), vs = [.ref a, v, .int i, .int j] ∧ Src H a ∧ BoxAt K H v B ∧ BSz n B ∧ BdB n B ∧ i < n ∧ j < n ∧ ∀ (c : Int) H', Stp a H H' → Q (.int c) H'
theorem hull_bdB {n : Nat} {Ps : List (List Int)} (h : ∀ r ∈ Ps, Wth 1000000000000000000 r) : BdB (n + 1) (hull n Ps) := fun M e i hi j hj => by
  unfold hull at e
  split at e
  · cases e
  · rename_i ne
    cases e
    have := hull_bd (n := n) ne h (by decide) hi hj
    omega
/-- the same box: what both leave is unique -/
theorem meet_uniq {n : Nat} {A B R S : Option (List (List Int))} (h : MeetB n A B R) (k : MeetB n A B S) : R = S := by
  cases A with
  | none => exact (show R = none from h).trans (show S = none from k).symm
  | some M =>
    cases B with
    | none => exact (show R = none from h).trans (show S = none from k).symm
    | some N => exact Best.uniq h k
theorem meet_comm {n : Nat} {A B R : Option (List (List Int))} (h : MeetB n A B R) : MeetB n B A R := by
  cases A with
  | none => cases B <;> exact h
  | some M =>
    cases B with
    | none => exact h
    | some N =>
      have e : minF (getM M) (getM N) = minF (getM N) (getM M) := by
        funext i j
        unfold minF
        omega
      have h' : Best n (minF (getM M) (getM N)) R := h
      rw [e] at h'
      exact h'
theorem meet_self {n : Nat} {A : Option (List (List Int))} (z : BSz n A) (c : ∀ M, A = some M → Clo n (getM M)) : MeetB n A A A := by
  cases A with
  | none => exact rfl
  | some M =>
    have e : minF (getM M) (getM M) = getM M := by
      funext i j
      unfold minF
      omega
    show Best n (minF (getM M) (getM M)) (some M)
    rw [e]
    exact Best.self (z M rfl) (c M rfl)
theorem meet_sz {n : Nat} {A B R : Option (List (List Int))} (h : MeetB n A B R) : BSz n R := by
  cases A with
  | none =>
    have e : R = none := h
    subst e
    exact fun M e => by cases e
  | some M =>
    cases B with
    | none =>
      have e : R = none := h
      subst e
      exact fun M e => by cases e
    | some N => exact Best.sz h
def CloB (n : Nat) (B : Option (List (List Int))) : Prop := ∀ M, B = some M → Clo n (getM M)
def spMeets (K : PySem.W.Frag) : Sp := fun vs H Q _ => ∃ (v1 v2 v3 : V) (A B D : Option (List (List Int))) (n : Nat), vs = [v1, v2, v3] ∧ BoxAt K H v1 A ∧ BoxAt K H v2 B ∧ BoxAt K H v3 D ∧ BSz n A ∧ BSz n B ∧ CloB n A ∧ n ≤ 900 ∧ MeetB n A B D ∧ ∀ H', Same H H' → Q (.bl true) H'
theorem bnd_clo {n i j : Nat} {c : Int} {B : Option (List (List Int))} (z : BSz n B) (h : CloB n B) (hi : i < n) (hj : j < n) : CloB n (bndB n i j c B) := fun M e => by
  cases B with
  | none => cases e
  | some N =>
    have b := bnd_best (c := c) (Best.self (z N rfl) (h N rfl)) hi hj
    rw [e] at b
    exact b.2.1
theorem bnd_twice {n i j : Nat} {c : Int} {B : Option (List (List Int))} (z : BSz n B) (h : CloB n B) (hi : i < n) (hj : j < n) : bndB n i j c (bndB n i j c B) = bndB n i j c B := by
  cases B with
  | none => rfl
  | some N =>
    have b := bnd_best (c := c) (Best.self (z N rfl) (h N rfl)) hi hj
    cases e : bndB n i j c (some N) with
    | none => rfl
    | some R =>
      rw [e] at b
      refine bnd_id b.1 b.2.1 hi hj ?_
      exact ((cutF_le hi hj).mp b.2.2.1).2
def spBounds (K : PySem.W.Frag) : Sp := fun vs H Q _ => ∃ (v1 v2 : V) (B D : Option (List (List Int))) (n i j : Nat) (c : Int), vs = [v1, .int i, .int j, .int c, v2] ∧ BoxAt K H v1 B ∧ BoxAt K H v2 D ∧ BSz n B ∧ CloB n B ∧ i < n ∧ j < n ∧ n ≤ 900 ∧ D = bndB n i j c B ∧ ∀ H', Q (.bl true) H'
theorem same_true {K : PySem.W.Frag} {H : Hp} {v w : V} {B B' : Option (List (List Int))} {n : Nat} {Q : VK} (h1 : BoxAt K H v B) (h2 : BoxAt K H w B') (e : B = B') (z : BSz n B) (hn : n ≤ 1000) (q : Q (.bl true) H) : spSame K 3 [v, w] H Q E0 := by
  subst e
  exact ⟨v, w, boxD B, rfl, h1.dp, h2.dp, z.dok hn, q⟩
theorem same_dp {K : PySem.W.Frag} {H : Hp} {v w : V} {B B' : Option (List (List Int))} {n : Nat} (h1 : BoxAt K H v B) (h2 : BoxAt K H w B') (e : B = B') (z : BSz n B) (hn : n ≤ 1000) : Dp K H v (boxD B) ∧ Dp K H w (boxD B) ∧ Dok 3 (boxD B) := by
  subst e
  exact ⟨h1.dp, h2.dp, z.dok hn⟩
section
variable {P : Program} {w : World} {K : PySem.W.Frag} {mg : Str → Option Value} {base : Heap}
theorem ok_l_wide_box (T : Txt w K mg) : FnOk P w K mg base CX0 3 T.a_l_wide_box T.d_l_wide_box p_l_wide_box (spWideB K) := by
  have g_l_pick := ok_l_pick (P := P) (w := w) (base := base) T
  have g_l_number := ok_l_numberB (P := P) (w := w) (base := base) T
  have g_l_hull := ok_l_hull (P := P) (w := w) (K := K) (base := base) T
  refine T.F_l_wide_box.ok sc_l_wide_box (fun vs H Q E h => ?_) (fun cdv A outer s H vs Q E hr h => ?_)
  · obtain ⟨a, p, n, Ss, rfl, _⟩ := h
    rfl
  obtain ⟨a, p, n, Ss, rfl, hS, hp, hw, lS, hn, q⟩ := h
  refine ⟨_, (pss_cons (ps_set (i := 3) sc_l_wide_box.nd rfl (Or.inl rfl) (pe_callTy call_list_of rfl T.z_list bt_list (pa_cons (pv 2) pa_nil)))
      (pss_cons (ps_for PassesOwn.never rfl (pi_range1 rfl T.z_range (pa_cons (pe_op op_add pe_int (pe_call g_l_pick (hr.mono (by first | decide | omega)) rfl T.m_l_pick T.F_l_pick.kp T.b_l_pick .nil pass0 (pa_cons (pv 0) (pa_cons (pe_op op_add (pv 1) pe_int) pa_nil)))) pa_nil)) (pg_name (i := 4) sc_l_wide_box.nd rfl (Or.inl rfl))
        (pss_one (ps_expr (pe_bm PySem.F.plainAttrs_list PySem.F.slot_list_append PySem.F.type_list_append mt_append (pv 3) (pa_cons (pe_callTy call_tuple_of rfl T.z_tuple bt_tuple (pa_cons (pe_lc (own := [("_law_c", 5)]) (g := gName 5) (tt := tYes) rfl sc_l_wide_box.nd (pi_range1 rfl T.z_range (pa_cons (pv 1) pa_nil)) (blkOk_by (own := [("_law_c", 5)]) (N := n_l_wide_box) (sc := defScope s_l_wide_box) (by decide +kernel)) (fun _ _ _ _ _ => (pg_name (i := 5) sc_l_wide_box.nd rfl (Or.inl rfl))) (fun _ _ _ _ _ => pts_nil) (fun _ _ _ _ _ => (pe_call g_l_number (hr.mono (by first | decide | omega)) rfl T.m_l_number T.F_l_number.kp T.b_l_number .nil pass0 (pa_cons (pv 0) pa_nil)))) pa_nil)) pa_nil)))))
      (pss_one (ps_ret (pe_call g_l_hull (hr.mono (by first | decide | omega)) rfl T.m_l_hull T.F_l_hull.kp T.b_l_hull .nil pass0 (pa_cons (pv 3) (pa_cons (pv 1) pa_nil))))))), ?_⟩
  obtain ⟨as, e1, e2⟩ := hp.pa
  refine ⟨_, rfl, p, _, rfl, .inl (SqL.of e1), fun l hl => ?_⟩
  have s0 := Same.new hl (.lst (as.map V.ref))
  have sl : Stp a H (upd H l (.lst (as.map V.ref))) := (Stp.refl hS).new hl
  have nl : a ≠ l := hS.ne hl
  have hP0 : Pts K (upd H l (.lst (as.map V.ref))) l Ss := (e2.same s0).pts upd_same
  generalize upd H l (.lst (as.map V.ref)) = H0 at sl hP0
  refine ⟨_, rfl, _, rfl, _, _, rfl, rfl, a, _, rfl, sl.s, by omega, fun m H2 st2 m0 m1 => ?_⟩
  have s2 := sl.trans st2
  have hP2 := hP0.stp st2 sl.s nl.symm
  refine ⟨_, _, rfl, rfl, _, rfl, by omega, by omega, for_range (lo := 0) (fun i σ G => ∃ (x y : Option V) (Ps : List (List Int)), σ = [some (.ref a), some (.int n), some (.ref p), some (.ref l), x, y] ∧ Stp a H G ∧ Ps.length = Ss.length + i ∧ (∀ r ∈ Ps, r.length = n ∧ Wth 1000000000000000000 r) ∧ Pts K G l Ps)
    ⟨none, none, Ss, rfl, s2, rfl, hw, hP2⟩ ?_ ?_⟩
  · rintro i σ G hi ⟨x, y, Ps, rfl, sG, lP, hr', hP⟩
    obtain ⟨bs, f1, f2⟩ := hP.pa
    refine ⟨_, rfl, .inl ⟨rfl, _, SqL.of f1⟩, ?_⟩
    refine ⟨_, rfl, _, rfl, by omega, by omega, fun D hD => ?_⟩
    refine lc_it walk_range (LcP (fun F => Stp a G F) (fun _ y _ => ∃ k : Int, y = .int k ∧ -1000000000000000000 ≤ k ∧ k ≤ 1000000000000000000) D) ⟨(Stp.refl sG.s).new hD, [], upd_same, rfl, fun j y e => by simp at e⟩ (fun _ _ _ _ => trivial) ?_ ?_
    · rintro j x F F' hj PF ⟨rfl, rfl⟩
      refine ⟨rfl, tyes ?_⟩
      refine ⟨_, rfl, a, rfl, PF.1.s, fun k F2 st3 k0 k1 => ?_⟩
      exact lcp_step PF (fun o e => st3.k _ _ (sG.s.ne hD).symm e) (lt_line (by omega)) (fun o => (PF.1.trans st3).put sG.s hD) (fun _ _ _ h => h) fun _ => ⟨_, rfl, k0, k1⟩
    · intro F PF
      obtain ⟨sF, acc, h1, h2, h3⟩ := PF
      obtain ⟨ns, rfl, hns⟩ := ints_ofQ h3
      rw [List.length_map] at h2
      refine ⟨D, _, rfl, .inl ⟨SqL.of h1, fun t ht => ?_⟩⟩
      have sT := Same.new ht (.tup (ns.map V.int))
      have e3 := sT _ _ (sF.k _ _ nl.symm f1)
      refine ⟨l, _, _, rfl, rfl, e3, lt_line (by rw [List.length_map, f2.1]; omega), ?_⟩
      refine ⟨_, _, Ps ++ [ns], rfl, ((sG.trans sF).same sT).put hS hl, by simp [lP]; omega, fun r hr => ?_, Pts.push ((f2.stp sF sG.s).same sT) e3 (SqT.of upd_same)⟩
      rcases List.mem_append.mp hr with h | h
      · exact hr' r h
      · have e := List.mem_singleton.mp h
        rw [e]
        exact ⟨by omega, hns⟩
  · rintro σ G ⟨x, y, Ps, rfl, sG, lP, hr', hP⟩
    refine ⟨_, rfl, _, rfl, l, n, Ps, rfl, by omega, hP.mx, fun r h => (hr' r h).1, by omega, fun v H' s' b' => q v H' Ps (sG.same s') b' (fun z => ?_) hr'⟩
    rw [z] at lP
    simp at lP
    omega
theorem ok_l_part (T : Txt w K mg) : FnOk P w K mg base CX0 3 T.a_l_part T.d_l_part p_l_part (spPart K) := by
  have g_l_pick := ok_l_pickW (P := P) (w := w) (base := base) T
  have g_l_number := ok_l_number (P := P) (w := w) (base := base) T
  refine T.F_l_part.ok sc_l_part (fun vs H Q E h => ?_) (fun cdv A outer s H vs Q E hr h => ?_)
  · obtain ⟨a, v, B, n, i, j, rfl, _⟩ := h
    rfl
  obtain ⟨a, v, B, n, i, j, rfl, hS, hB, zB, bB, hi, hj, q⟩ := h
  refine ⟨_, (pss_cons (ps_set (i := 4) sc_l_part.nd rfl (Or.inl rfl) (pe_call g_l_pick (hr.mono (by first | decide | omega)) rfl T.m_l_pick T.F_l_pick.kp T.b_l_pick .nil pass0 (pa_cons (pv 0) (pa_cons pe_int pa_nil))))
      (pss_cons (ps_if (PW.pt (pw_or (pt_cmpR op_isN (pv 1) pe_non (nomark _)) (pw_or1 (pt_cmpR op_eq (pv 4) pe_int (nomark _))))) (pss_one (ps_ret (pe_call g_l_number (hr.mono (by first | decide | omega)) rfl T.m_l_number T.F_l_number.kp T.b_l_number .nil pass0 (pa_cons (pv 0) pa_nil)))) pss_nil)
      (pss_cons (ps_if (pt_cmpR op_eq (pv 4) pe_int (nomark _)) (pss_one (ps_ret (pe_op op_sub (pe_op op_add (pe_ix ix_tup (pe_ix ix_tup (pv 1) (pv 2) (fun _ _ => rfl)) (pv 3) (fun _ _ => rfl)) (pe_call g_l_pick (hr.mono (by first | decide | omega)) rfl T.m_l_pick T.F_l_pick.kp T.b_l_pick .nil pass0 (pa_cons (pv 0) (pa_cons pe_int pa_nil)))) pe_int))) pss_nil)
      (pss_cons (ps_if (pt_cmpR op_eq (pv 4) pe_int (nomark _)) (pss_one (ps_ret (pe_op op_sub (pe_op op_sub (pe_call g_l_pick (hr.mono (by first | decide | omega)) rfl T.m_l_pick T.F_l_pick.kp T.b_l_pick .nil pass0 (pa_cons (pv 0) (pa_cons pe_int pa_nil))) pe_int) (pe_ix ix_tup (pe_ix ix_tup (pv 1) (pv 3) (fun _ _ => rfl)) (pv 2) (fun _ _ => rfl))))) pss_nil)
      (pss_one (ps_ret (pe_op op_sub (pe_call g_l_pick (hr.mono (by first | decide | omega)) rfl T.m_l_pick T.F_l_pick.kp T.b_l_pick .nil pass0 (pa_cons (pv 0) (pa_cons (pe_callB (call_max2 rfl) rfl T.z_max bb_max (pa_cons pe_int (pa_cons (pe_op op_add (pe_ix ix_tup (pe_ix ix_tup (pv 1) (pv 2) (fun _ _ => rfl)) (pv 3) (fun _ _ => rfl)) (pe_ix ix_tup (pe_ix ix_tup (pv 1) (pv 3) (fun _ _ => rfl)) (pv 2) (fun _ _ => rfl))) pa_nil))) pa_nil))) (pe_ix ix_tup (pe_ix ix_tup (pv 1) (pv 3) (fun _ _ => rfl)) (pv 2) (fun _ _ => rfl))))))))), ?_⟩
  refine ⟨_, rfl, a, 5, rfl, hS, by decide, fun ch H1 st1 c0 c1 => ?_⟩
  cases B with
  | none =>
    obtain rfl : v = .non := hB
    refine ⟨_, rfl, rfl, _, rfl, ifT rfl (ifT rfl ?_)⟩
    exact ⟨_, rfl, a, rfl, st1.s, fun r H2 st2 => q r H2 (st1.trans st2)⟩
  | some M =>
  obtain ⟨pm, rfl, hM0⟩ := hB
  have sM := zB M rfl
  have bM := bB M rfl
  have hM : ∀ {G : Hp}, Stp a H G → Mx true true K G pm M := fun s => by
    obtain ⟨as, h1, h2, h3⟩ := hM0
    exact ⟨as, s.rd h1 hS, h2, fun i x r e1 e2 => s.rd (h3 i x r e1 e2) hS⟩
  refine ⟨_, rfl, rfl, _, rfl, ifF rfl ?_⟩
  refine ⟨_, rfl, rfl, _, rfl, ite2 (fun _ => ?_) (fun _ => ?_)⟩
  · exact ⟨_, rfl, a, rfl, st1.s, fun r H2 st2 => q r H2 (st1.trans st2)⟩
  refine ⟨_, rfl, rfl, _, rfl, ite2 (fun _ => ?_) (fun _ => ?_)⟩
  · obtain ⟨vs1, a1, r1, g1, g2, g3, g4⟩ := (hM st1).get3 sM hi hj
    refine ⟨_, rfl, _, rfl, pm, _, _, _, rfl, rfl, g1, g2, _, rfl, a1, _, _, _, rfl, rfl, g3, g4, ?_⟩
    refine ⟨_, rfl, a, 3, rfl, st1.s, by decide, fun r H2 st2 r0 r1 => ?_⟩
    exact ⟨_, _, rfl, rfl, _, _, rfl, rfl, q _ H2 (st1.trans st2)⟩
  refine ⟨_, rfl, rfl, _, rfl, ite2 (fun _ => ?_) (fun _ => ?_)⟩
  · refine ⟨_, rfl, a, 3, rfl, st1.s, by decide, fun r H2 st2 r0 r1 => ?_⟩
    obtain ⟨vs1, a1, r1, g1, g2, g3, g4⟩ := (hM (st1.trans st2)).get3 sM hj hi
    refine ⟨_, _, rfl, rfl, _, rfl, _, rfl, pm, _, _, _, rfl, rfl, g1, g2, _, rfl, a1, _, _, _, rfl, rfl, g3, g4, ?_⟩
    exact ⟨_, _, rfl, rfl, q _ H2 (st1.trans st2)⟩
  · obtain ⟨vs1, a1, r1, g1, g2, g3, g4⟩ := (hM st1).get3 sM hi hj
    obtain ⟨vs2, a2, r2, k1, k2, k3, k4⟩ := (hM st1).get3 sM hj hi
    have b1 := bM i hi j hj
    have b2 := bM j hj i hi
    refine ⟨_, rfl, _, rfl, _, rfl, pm, _, _, _, rfl, rfl, g1, g2, _, rfl, a1, _, _, _, rfl, rfl, g3, g4, ?_⟩
    refine ⟨_, rfl, _, rfl, pm, _, _, _, rfl, rfl, k1, k2, _, rfl, a2, _, _, _, rfl, rfl, k3, k4, ?_⟩
    refine ⟨_, _, rfl, rfl, _, _, rfl, ?_⟩
    refine ⟨a, _, rfl, st1.s, by split <;> omega, fun r H2 st2 r0 r1 => ?_⟩
    obtain ⟨vs3, a3, r3, m1, m2, m3, m4⟩ := (hM (st1.trans st2)).get3 sM hj hi
    refine ⟨_, rfl, _, rfl, pm, _, _, _, rfl, rfl, m1, m2, _, rfl, a3, _, _, _, rfl, rfl, m3, m4, ?_⟩
    exact ⟨_, _, rfl, rfl, q _ H2 (st1.trans st2)⟩
theorem ok_l_meets (T : Txt w K mg) : FnOk P w K mg base CX0 4 T.a_l_meets T.d_l_meets p_l_meets (spMeets K) := by
  have g_meet_boxes := ok_meet_boxes (P := P) (w := w) (K := K) (base := base) T
  have g_l_same := ok_l_same (P := P) (w := w) (K := K) (base := base) T 3
  refine T.F_l_meets.ok sc_l_meets (fun vs H Q E h => ?_) (fun cdv A outer s H vs Q E hr h => ?_)
  · obtain ⟨v1, v2, v3, A1, B1, D1, n, rfl, _⟩ := h
    rfl
  obtain ⟨v1, v2, v3, BA, BB, BD, n, rfl, hA, hB, hD, zA, zB, cA, hn, mD, q⟩ := h
  refine ⟨_, (pss_cons (ps_if (PW.pt (pw_or (pt_not (pt_val (pe_call g_l_same (hr.mono (by first | decide | omega)) rfl T.m_l_same T.F_l_same.kp T.b_l_same .nil pass0 (pa_cons (pe_call g_meet_boxes (hr.mono (by first | decide | omega)) rfl T.m_meet_boxes T.F_meet_boxes.kp T.b_meet_boxes .nil pass0 (pa_cons (pv 0) (pa_cons (pv 1) pa_nil))) (pa_cons (pv 2) pa_nil))))) (pw_or1 (pt_not (pt_val (pe_call g_l_same (hr.mono (by first | decide | omega)) rfl T.m_l_same T.F_l_same.kp T.b_l_same .nil pass0 (pa_cons (pe_call g_meet_boxes (hr.mono (by first | decide | omega)) rfl T.m_meet_boxes T.F_meet_boxes.kp T.b_meet_boxes .nil pass0 (pa_cons (pv 1) (pa_cons (pv 0) pa_nil))) (pa_cons (pv 2) pa_nil)))))))) (pss_one (ps_ret pe_bl)) pss_nil)
      (pss_cons (ps_if (pt_not (pt_val (pe_call g_l_same (hr.mono (by first | decide | omega)) rfl T.m_l_same T.F_l_same.kp T.b_l_same .nil pass0 (pa_cons (pe_call g_meet_boxes (hr.mono (by first | decide | omega)) rfl T.m_meet_boxes T.F_meet_boxes.kp T.b_meet_boxes .nil pass0 (pa_cons (pv 0) (pa_cons (pv 0) pa_nil))) (pa_cons (pv 0) pa_nil))))) (pss_one (ps_ret pe_bl)) pss_nil)
      (pss_one (ps_ret (pe_and (pe_cmpR op_isN (pe_call g_meet_boxes (hr.mono (by first | decide | omega)) rfl T.m_meet_boxes T.F_meet_boxes.kp T.b_meet_boxes .nil pass0 (pa_cons (pv 0) (pa_cons pe_non pa_nil))) pe_non (nomark _)) (pe_one (pe_cmpR op_isN (pe_call g_meet_boxes (hr.mono (by first | decide | omega)) rfl T.m_meet_boxes T.F_meet_boxes.kp T.b_meet_boxes .nil pass0 (pa_cons pe_non (pa_cons (pv 1) pa_nil))) pe_non (nomark _)))))))), ?_⟩
  have zD := meet_sz mD
  refine ⟨_, rfl, _, rfl, v1, v2, BA, BB, n, rfl, hA, hB, zA, zB, hn, fun x1 H1 R1 s1 b1 m1 => ?_⟩
  have e1 := meet_uniq m1 mD
  have dp1 := same_dp b1 (hD.same s1) e1 (meet_sz m1) (by omega)
  refine ⟨_, rfl, _, _, _, rfl, dp1.1, dp1.2.1, dp1.2.2, _, rfl, ifF rfl ?_⟩
  refine ⟨_, rfl, _, rfl, v2, v1, BB, BA, n, rfl, hB.same s1, hA.same s1, zB, zA, hn, fun x2 H2 R2 s2 b2 m2 => ?_⟩
  have e2 := meet_uniq (meet_comm m2) mD
  have S2 := s1.trans s2
  have dp2 := same_dp b2 (hD.same S2) e2 (meet_sz m2) (by omega)
  refine ⟨_, rfl, _, _, _, rfl, dp2.1, dp2.2.1, dp2.2.2, _, rfl, ifF rfl ?_⟩
  refine ⟨_, rfl, _, rfl, v1, v1, BA, BA, n, rfl, hA.same S2, hA.same S2, zA, zA, hn, fun x3 H3 R3 s3 b3 m3 => ?_⟩
  have e3 := meet_uniq m3 (meet_self zA cA)
  have S3 := S2.trans s3
  have dp3 := same_dp b3 (hA.same S3) e3 (meet_sz m3) (by omega)
  refine ⟨_, rfl, _, _, _, rfl, dp3.1, dp3.2.1, dp3.2.2, _, rfl, ifF rfl ?_⟩
  refine ⟨_, rfl, v1, .non, BA, none, n, rfl, hA.same S3, rfl, zA, (fun _ e => by cases e), hn, fun x4 H4 R4 s4 b4 m4 => ?_⟩
  have r4 : R4 = none := by cases BA <;> exact m4
  subst r4
  obtain rfl : x4 = .non := b4
  have S4 := S3.trans s4
  refine ⟨rfl, _, rfl, ifT rfl ?_⟩
  refine ⟨_, rfl, .non, v2, none, BB, n, rfl, rfl, hB.same S4, (fun _ e => by cases e), zB, hn, fun x5 H5 R5 s5 b5 m5 => ?_⟩
  have r5 : R5 = none := by cases BB <;> exact m5
  subst r5
  obtain rfl : x5 = .non := b5
  exact ⟨rfl, q H5 (S4.trans s5)⟩
theorem ok_l_bounds (T : Txt w K mg) : FnOk P w K mg base CX0 4 T.a_l_bounds T.d_l_bounds p_l_bounds (spBounds K) := by
  have g_bound := ok_bound (P := P) (w := w) (K := K) (base := base) T
  have g_l_same := ok_l_same (P := P) (w := w) (K := K) (base := base) T 3
  refine T.F_l_bounds.ok sc_l_bounds (fun vs H Q E h => ?_) (fun cdv A outer s H vs Q E hr h => ?_)
  · obtain ⟨v1, v2, B1, D1, n, i, j, c, rfl, _⟩ := h
    rfl
  obtain ⟨v1, v2, BB, BD, n, i, j, c, rfl, hB, hD, zB, cB, hi, hj, hn, rfl, q⟩ := h
  refine ⟨_, (pss_cons (ps_if (PW.pt (pw_or (pt_not (pt_val (pe_call g_l_same (hr.mono (by first | decide | omega)) rfl T.m_l_same T.F_l_same.kp T.b_l_same .nil pass0 (pa_cons (pe_call g_bound (hr.mono (by first | decide | omega)) rfl T.m_bound T.F_bound.kp T.b_bound .nil pass0 (pa_cons (pv 0) (pa_cons (pv 1) (pa_cons (pv 2) (pa_cons (pv 3) pa_nil))))) (pa_cons (pv 4) pa_nil))))) (pw_or1 (pt_not (pt_val (pe_call g_l_same (hr.mono (by first | decide | omega)) rfl T.m_l_same T.F_l_same.kp T.b_l_same .nil pass0 (pa_cons (pe_call g_bound (hr.mono (by first | decide | omega)) rfl T.m_bound T.F_bound.kp T.b_bound .nil pass0 (pa_cons (pv 4) (pa_cons (pv 1) (pa_cons (pv 2) (pa_cons (pv 3) pa_nil))))) (pa_cons (pv 4) pa_nil)))))))) (pss_one (ps_ret pe_bl)) pss_nil)
      (pss_one (ps_ret (pe_cmpR op_isN (pe_call g_bound (hr.mono (by first | decide | omega)) rfl T.m_bound T.F_bound.kp T.b_bound .nil pass0 (pa_cons pe_non (pa_cons (pv 1) (pa_cons (pv 2) (pa_cons (pv 3) pa_nil))))) pe_non (nomark _))))), ?_⟩
  refine ⟨_, rfl, _, rfl, _, rfl, _, rfl, v1, BB, n, i, j, c, rfl, hB, zB, cB, hi, hj, hn, fun x1 H1 s1 b1 => ?_⟩
  have dp4 := same_dp b1 (hD.same s1) rfl bndB_sz (by omega)
  refine ⟨_, rfl, _, _, _, rfl, dp4.1, dp4.2.1, dp4.2.2, _, rfl, ifF rfl ?_⟩
  refine ⟨_, rfl, _, rfl, _, rfl, _, rfl, v2, _, n, i, j, c, rfl, hD.same s1, bndB_sz, bnd_clo zB cB hi hj, hi, hj, hn, fun x2 H2 s2 b2 => ?_⟩
  have dp5 := same_dp b2 (hD.same (s1.trans s2)) (bnd_twice zB cB hi hj) bndB_sz (by omega)
  refine ⟨_, rfl, _, _, _, rfl, dp5.1, dp5.2.1, dp5.2.2, _, rfl, ifF rfl ?_⟩
  refine ⟨_, rfl, _, rfl, _, rfl, .non, none, n, i, j, c, rfl, rfl, (fun _ e => by cases e), (fun _ e => by cases e), hi, hj, hn, fun x3 H3 s3 b3 => ?_⟩
  obtain rfl : x3 = .non := b3
  exact ⟨rfl, q H3⟩
end
/-! ### law k18: grids and ranges -/
def valsR (lo hi : Int) : List Int := (List.range (hi + 1 - lo).toNat).map fun (k : Nat) => lo + (k : Int)
def gstep (r : List Int) (Qs : List (List Int)) : List (List Int) := Qs.flatMap fun p => (valsR (r.getD 0 0) (r.getD 1 0)).map fun v => p ++ [v]
def gridL (Rs : List (List Int)) : List (List Int) := Rs.foldl (fun Qs r => gstep r Qs) [[]]
theorem gridL_app {Rs : List (List Int)} {r : List Int} : gridL (Rs ++ [r]) = gstep r (gridL Rs) := by
  unfold gridL
  rw [List.foldl_append]
  rfl
theorem mem_valsR {lo hi v : Int} : v ∈ valsR lo hi ↔ lo ≤ v ∧ v ≤ hi := by
  unfold valsR
  rw [List.mem_map]
  constructor
  · rintro ⟨k, hk, rfl⟩
    rw [List.mem_range] at hk
    omega
  · rintro ⟨h1, h2⟩
    exact ⟨(v - lo).toNat, List.mem_range.mpr (by omega), by omega⟩
theorem valsR_len {lo hi : Int} : (valsR lo hi).length = (hi + 1 - lo).toNat := by simp [valsR]
theorem valsR_get {lo hi : Int} {k : Nat} (h : k < (hi + 1 - lo).toNat) : (valsR lo hi)[k]? = some (lo + (k : Int)) := map_get (range_at h)
def InR (Rs : List (List Int)) (p : List Int) : Prop := p.length = Rs.length ∧ ∀ k < Rs.length, (Rs.getD k []).getD 0 0 ≤ p.getD k 0 ∧ p.getD k 0 ≤ (Rs.getD k []).getD 1 0
theorem getD_app1 {α : Type} {xs ys : List α} {k : Nat} {d : α} (h : k < xs.length) : (xs ++ ys).getD k d = xs.getD k d := by
  rw [List.getD_eq_getElem?_getD, List.getElem?_append_left h, ← List.getD_eq_getElem?_getD]
theorem getD_app2 {α : Type} {xs : List α} {y d : α} : (xs ++ [y]).getD xs.length d = y := by
  rw [List.getD_eq_getElem?_getD, List.getElem?_append_right (Nat.le_refl _), Nat.sub_self]
  rfl
theorem take_snoc {α : Type} {xs : List α} {i : Nat} {x : α} (e : xs[i]? = some x) : xs.take (i + 1) = xs.take i ++ [x] := by rw [List.take_succ, e]; rfl
theorem mem_grid {Rs : List (List Int)} : ∀ {i : Nat}, i ≤ Rs.length → ∀ p, p ∈ gridL (Rs.take i) ↔ InR (Rs.take i) p
  | 0, _, p => by
    rw [List.take_zero]
    unfold InR
    show p ∈ [[]] ↔ _
    rw [List.mem_singleton]
    constructor
    · rintro rfl
      exact ⟨rfl, fun k h => by simp at h⟩
    · rintro ⟨h, _⟩
      exact List.length_eq_zero_iff.mp h
  | i + 1, hi, p => by
    have e : Rs[i]? = some (Rs[i]'(by omega)) := List.getElem?_eq_getElem _
    rw [take_snoc e, gridL_app]
    generalize Rs[i]'(by omega) = r
    have li : (Rs.take i).length = i := by rw [List.length_take]; omega
    unfold gstep
    rw [List.mem_flatMap]
    constructor
    · rintro ⟨q, hq, hp⟩
      obtain ⟨v, hv, rfl⟩ := List.mem_map.mp hp
      obtain ⟨lq, iq⟩ := (mem_grid (by omega) q).mp hq
      have hv' := mem_valsR.mp hv
      refine ⟨by simp [lq], fun k hk => ?_⟩
      rw [List.length_append, li] at hk
      by_cases h : k < i
      · rw [getD_app1 (by omega), getD_app1 (by omega)]
        exact iq k (by omega)
      · have ek : k = i := by simp at hk; omega
        subst ek
        have e1 : (List.take k Rs ++ [r]).getD k [] = r := by
          have := getD_app2 (xs := Rs.take k) (y := r) (d := [])
          rwa [li] at this
        have e2 : (q ++ [v]).getD k 0 = v := by
          have := getD_app2 (xs := q) (y := v) (d := (0 : Int))
          rwa [lq, li] at this
        rw [e1, e2]
        exact hv'
    · rintro ⟨lp, ip⟩
      rw [List.length_append, li] at lp ip
      have ne : p ≠ [] := fun z => by rw [z] at lp; simp at lp
      obtain ⟨q, v, rfl⟩ : ∃ q v, p = q ++ [v] := ⟨p.dropLast, p.getLast ne, (List.dropLast_concat_getLast ne).symm⟩
      have lq : q.length = i := by simpa using lp
      refine ⟨q, (mem_grid (by omega) q).mpr ⟨by rw [lq, li], fun k hk => ?_⟩, List.mem_map.mpr ⟨v, mem_valsR.mpr ?_, rfl⟩⟩
      · rw [li] at hk
        have := ip k (by simp; omega)
        rwa [getD_app1 (by omega), getD_app1 (by omega)] at this
      · have := ip i (by simp)
        have e1 : (List.take i Rs ++ [r]).getD i [] = r := by
          have := getD_app2 (xs := Rs.take i) (y := r) (d := [])
          rwa [li] at this
        have e2 : (q ++ [v]).getD i 0 = v := by
          have := getD_app2 (xs := q) (y := v) (d := (0 : Int))
          rwa [lq] at this
        rw [e1, e2] at this
        exact this
theorem gstep_len {r : List Int} {m : Nat} (h : (valsR (r.getD 0 0) (r.getD 1 0)).length ≤ m) : ∀ Qs : List (List Int), (gstep r Qs).length ≤ Qs.length * m := by
  intro Qs
  unfold gstep
  induction Qs with
  | nil => simp
  | cons q Qs ih =>
    rw [List.flatMap_cons, List.length_append, List.length_cons, Nat.add_mul, List.length_map]
    omega
theorem wid_succ {Rs : List (List Int)} {i j : Nat} (h : i ≠ j) : wid Rs (i + 1) (j + 1) = (Rs.getD i []).getD 1 0 - (Rs.getD j []).getD 0 0 := by
  unfold wid
  rw [if_neg (by omega)]
  rfl
theorem wid_0 {Rs : List (List Int)} {j : Nat} : wid Rs 0 (j + 1) = 0 - (Rs.getD j []).getD 0 0 := by
  unfold wid
  rw [if_neg (by omega)]
  rfl
theorem wid_r {Rs : List (List Int)} {i : Nat} : wid Rs (i + 1) 0 = (Rs.getD i []).getD 1 0 := by
  unfold wid
  rw [if_neg (by omega)]
  show (Rs.getD i []).getD 1 0 - 0 = _
  omega
/-- the least values, but for one column -/
def cornP (Rs : List (List Int)) (k : Nat) : List Int := (List.range Rs.length).map fun i => (Rs.getD i []).getD (if i = k then 1 else 0) 0
theorem corn_at {Rs : List (List Int)} {k i : Nat} (h : i < Rs.length) : (cornP Rs k).getD i 0 = (Rs.getD i []).getD (if i = k then 1 else 0) 0 := by
  unfold cornP
  rw [List.getD_eq_getElem?_getD, map_get (range_at h)]
  rfl
theorem corn_in {Rs : List (List Int)} {k : Nat} (h : ∀ k < Rs.length, (Rs.getD k []).getD 0 0 ≤ (Rs.getD k []).getD 1 0) : InR Rs (cornP Rs k) := by
  refine ⟨by simp [cornP], fun i hi => ?_⟩
  rw [corn_at hi]
  have := h i hi
  split <;> omega
theorem grid_hull {Rs : List (List Int)} (h : ∀ k < Rs.length, (Rs.getD k []).getD 0 0 ≤ (Rs.getD k []).getD 1 0) : rangeB Rs = hull Rs.length (gridL Rs) := by
  have mem : ∀ p, p ∈ gridL Rs ↔ InR Rs p := fun p => by
    have := mem_grid (Rs := Rs) (i := Rs.length) (Nat.le_refl _) p
    rwa [List.take_length] at this
  have ng : ¬ Gap Rs Rs.length := by
    rintro ⟨i, hi, z⟩
    have := h i hi
    omega
  have ne : gridL Rs ≠ [] := fun z => by
    have := (mem (cornP Rs 0)).mpr (corn_in h)
    rw [z] at this
    simp at this
  unfold rangeB
  rw [if_neg ng, hull_some ne]
  refine congrArg some (sz_ext mkM_sz (hullM_sz _ _) fun a ha b hb => ?_)
  rw [mkM_get ha hb, getM_hull ha hb]
  have one : ∀ (k : Nat), dif a b (cornP Rs k) = wid Rs a b → (∀ p, InR Rs p → dif a b p ≤ wid Rs a b) → wid Rs a b = lmax ((gridL Rs).map (dif a b)) := fun k e1 e2 => by
    refine lmax_eq (List.mem_map.mpr ⟨cornP Rs k, (mem _).mpr (corn_in h), e1⟩) fun y hy => ?_
    obtain ⟨p, hp, rfl⟩ := List.mem_map.mp hy
    exact e2 p ((mem p).mp hp)
  have x0 : ∀ r : List Int, xc r 0 = 0 := fun _ => rfl
  cases a with
  | zero =>
    cases b with
    | zero =>
      have e : wid Rs 0 0 = 0 := by unfold wid; rw [if_pos rfl]
      exact one 0 (by rw [e, dif_xc]; omega) fun p _ => by rw [e, dif_xc]; omega
    | succ b =>
      refine one (b + 1) ?_ fun p hp => ?_
      · rw [wid_0, dif_xc, x0, xc_succ, corn_at (by omega), if_neg (by omega)]
      · have := hp.2 b (by omega)
        rw [wid_0, dif_xc, x0, xc_succ]
        omega
  | succ a =>
    cases b with
    | zero =>
      refine one a ?_ fun p hp => ?_
      · rw [wid_r, dif_xc, x0, xc_succ, corn_at (by omega), if_pos rfl]
        omega
      · have := hp.2 a (by omega)
        rw [wid_r, dif_xc, x0, xc_succ]
        omega
    | succ b =>
      by_cases eq : a = b
      · subst eq
        have e : wid Rs (a + 1) (a + 1) = 0 := by unfold wid; rw [if_pos rfl]
        exact one 0 (by rw [e, dif_xc]; omega) fun p _ => by rw [e, dif_xc]; omega
      · refine one a ?_ fun p hp => ?_
        · rw [wid_succ eq, dif_xc, xc_succ, xc_succ, corn_at (by omega), corn_at (by omega), if_pos rfl, if_neg (fun z => eq z.symm)]
        · have h1 := hp.2 a (by omega)
          have h2 := hp.2 b (by omega)
          rw [wid_succ eq, dif_xc, xc_succ, xc_succ]
          omega
/-- a drawn range -/
def PR (listed : Bool) (r : List Int) : Prop := ∃ lo hi : Int, r = [lo, hi] ∧ lo ≤ hi ∧ -1000000000000000000 ≤ lo ∧ lo ≤ 1000000000000000000 ∧ (listed = true → hi ≤ lo + 3)
def spGrid (K : PySem.W.Frag) : Sp := fun vs H Q _ => ∃ (q : Addr) (Rs : List (List Int)), vs = [.ref q] ∧ Mx false true K H q Rs ∧ (∀ r ∈ Rs, PR true r) ∧ Rs.length ≤ 3 ∧ ∀ x H', Same H H' → Mx false true K H' x (gridL Rs) → Q (.ref x) H'
theorem grid_len {Rs : List (List Int)} (h : ∀ r ∈ Rs, PR true r) : ∀ i ≤ Rs.length, (gridL (Rs.take i)).length ≤ 4 ^ i
  | 0, _ => by simp [gridL]
  | i + 1, hi => by
    have e : Rs[i]? = some (Rs[i]'(by omega)) := List.getElem?_eq_getElem _
    obtain ⟨lo, hi2, e2, h1, _, _, h3⟩ := h _ (List.getElem_mem (by omega : i < Rs.length))
    have h4 := h3 rfl
    rw [take_snoc e, gridL_app, Nat.pow_succ]
    have ih := grid_len h i (by omega)
    refine Nat.le_trans (gstep_len (m := 4) ?_ _) (Nat.mul_le_mul_right 4 ih)
    rw [e2, valsR_len]
    show (hi2 + 1 - lo).toNat ≤ 4
    omega
section
variable {P : Program} {w : World} {K : PySem.W.Frag} {mg : Str → Option Value} {base : Heap}
theorem ok_l_grid (T : Txt w K mg) : FnOk P w K mg base CX0 1 T.a_l_grid T.d_l_grid p_l_grid (spGrid K) := by
  refine T.F_l_grid.ok sc_l_grid (fun vs H Q E h => ?_) (fun cdv A outer s H vs Q E hr h => ?_)
  · obtain ⟨q, Rs, rfl, _⟩ := h
    rfl
  obtain ⟨q, Rs, rfl, hR, hPR, lR, k⟩ := h
  refine ⟨_, (pss_cons (ps_set (i := 1) sc_l_grid.nd rfl (Or.inl rfl) (pe_lst (pa_cons (pe_tup pa_nil) pa_nil)))
      (pss_cons (ps_for PassesOwn.never rfl (pi_list (pv 0)) (pg_name (i := 2) sc_l_grid.nd rfl (Or.inl rfl))
        (pss_cons (ps_set (i := 3) sc_l_grid.nd rfl (Or.inl rfl) (pe_lst pa_nil))
      (pss_cons (ps_for PassesOwn.never rfl (pi_list (pv 1)) (pg_name (i := 4) sc_l_grid.nd rfl (Or.inl rfl))
        (pss_one (ps_for PassesOwn.never rfl (pi_range2 rfl T.z_range (pa_cons (pe_ix ix_tup (pv 2) pe_int (fun _ _ => rfl)) (pa_cons (pe_op op_add (pe_ix ix_tup (pv 2) pe_int (fun _ _ => rfl)) pe_int) pa_nil))) (pg_name (i := 5) sc_l_grid.nd rfl (Or.inl rfl))
        (pss_one (ps_expr (pe_bm PySem.F.plainAttrs_list PySem.F.slot_list_append PySem.F.type_list_append mt_append (pv 3) (pa_cons (pe_op op_catA (pv 4) (pe_tup (pa_cons (pv 5) pa_nil))) pa_nil)))))))
      (pss_one (ps_set (i := 1) sc_l_grid.nd rfl (Or.inl rfl) (pe_callTy call_list_of rfl T.z_list bt_list (pa_cons (pv 3) pa_nil)))))))
      (pss_one (ps_ret (pv 1))))), ?_⟩
  obtain ⟨vs, hv, lv, hrow⟩ := hR.row
  refine ⟨(by show 0 ≤ sizeLine; decide), fun t0 ht0 => ?_⟩
  refine ⟨(by show 1 ≤ sizeLine; decide), fun D0 hD0 => ?_⟩
  have s0 : Same H (upd (upd H t0 (.tup [])) D0 (.lst [.ref t0])) := (Same.new ht0 _).trans (Same.new hD0 _)
  have p0 : Mx false true K (upd (upd H t0 (.tup [])) D0 (.lst [.ref t0])) D0 (gridL (Rs.take 0)) := ⟨[t0], SqL.of upd_same, rfl, fun i a r e1 e2 => by
    cases i with
    | zero =>
      cases e1
      cases e2
      exact Same.tup (Same.new hD0 _) (SqT.of upd_same)
    | succ i => simp at e1⟩
  generalize upd (upd H t0 (.tup [])) D0 (.lst [.ref t0]) = H0 at s0 p0
  refine ⟨_, rfl, q, rfl, ⟨vs, s0.seq hv⟩, ?_⟩
  refine for_it (walk_list (xs := vs)) (fun i σ G => ∃ (x : Addr) (u v z w : Option V), σ = [some (.ref q), some (.ref x), u, v, z, w] ∧ Same H G ∧ Mx false true K G x (gridL (Rs.take i))) ⟨D0, none, none, none, none, rfl, s0, p0⟩ (fun i σ G _ P => by
    obtain ⟨x, u, v, z, w, _, s, _⟩ := P
    exact s.seq hv) ?_ ?_
  · rintro i y σ G G' hi ⟨x, u, v, z, w, rfl, sG, hX⟩ ⟨rfl, ey⟩
    rw [lv] at hi
    obtain ⟨b, r, rfl, er, hb⟩ := hrow i y ey
    obtain ⟨lo, hi2, rfl, hle, lo1, lo2, h3⟩ := hPR r (List.mem_of_getElem? er)
    have hi3 := h3 rfl
    have lX : ∀ p ∈ gridL (Rs.take i), p.length = i := fun p hp => by
      have := ((mem_grid (by omega) p).mp hp).1
      rw [this, List.length_take]
      omega
    have gl := grid_len hPR i (by omega)
    have gl2 : (gridL (Rs.take i)).length ≤ 64 := Nat.le_trans gl (Nat.le_trans (Nat.pow_le_pow_right (by decide) (by omega : i ≤ 3)) (by decide))
    have eT := take_snoc er
    generalize hE : gridL (Rs.take i) = Es at hX lX gl2
    refine ⟨(by show 0 ≤ sizeLine; decide), fun L hL => ?_⟩
    have sL : Same G' (upd G' L (.lst [])) := Same.new hL _
    obtain ⟨ws, hw, lw, wrow⟩ := hX.row
    refine ⟨_, rfl, x, rfl, ⟨ws, sL.seq hw⟩, ?_⟩
    have glen := gstep_len (r := [lo, hi2]) (m := 4) (by rw [valsR_len]; show (hi2 + 1 - lo).toNat ≤ 4; omega)
    have gs : ∀ {j : Nat} {p : List Int}, Es[j]? = some p → gstep [lo, hi2] (Es.take (j + 1)) = gstep [lo, hi2] (Es.take j) ++ (valsR lo hi2).map fun v => p ++ [v] := fun {j p} e => by
      unfold gstep
      rw [take_snoc e, List.flatMap_append]
      simp
    refine for_it (walk_list (xs := ws)) (fun j σ F => (∃ z w : Option V, σ = [some (.ref q), some (.ref x), some (.ref b), some (.ref L), z, w]) ∧ Same G' F ∧ PtsN K F L (gstep [lo, hi2] (Es.take j))) ⟨⟨z, w, rfl⟩, sL, [], upd_same, rfl, fun i a r e => by simp at e⟩ (fun j σ F _ P => P.2.1.seq hw) ?_ ?_
    · rintro j y σ F F' hj ⟨⟨z, w, rfl⟩, sF, pF⟩ ⟨rfl, ey⟩
      rw [lw] at hj
      obtain ⟨t, pt, rfl, ep, ht⟩ := wrow j y ey
      have lpt := lX pt (List.mem_of_getElem? ep)
      have hbF : ∀ {F1 : Hp}, Same G' F1 → SqT K F1 b [.int lo, .int hi2] := fun s => Same.tup (sG.trans s) hb
      refine ⟨_, rfl, b, _, 0, _, rfl, rfl, hbF sF, rfl, _, rfl, b, _, 1, _, rfl, rfl, hbF sF, rfl, _, _, rfl, rfl, ?_⟩
      refine ⟨_, _, rfl, ⟨by omega, by omega, by omega, by omega⟩, for_range (lo := lo) (fun k σ F1 => (∃ y : Option V, σ = [some (.ref q), some (.ref x), some (.ref b), some (.ref L), some (.ref t), y]) ∧ Same G' F1 ∧ PtsN K F1 L (gstep [lo, hi2] (Es.take j) ++ ((valsR lo hi2).take k).map fun v => pt ++ [v])) ⟨⟨w, rfl⟩, sF, ?_⟩ ?_ ?_⟩
      · rw [List.take_zero]
        show PtsN K _ L (_ ++ [])
        rw [List.append_nil]
        exact pF
      · rintro k σ F1 hk ⟨⟨y, rfl⟩, sF1, pF1⟩
        have evk := valsR_get hk
        obtain ⟨bs, b1, b2, b3⟩ := id pF1
        have lb : bs.length ≤ 1000 := by
          rw [b2, List.length_append, List.length_map, List.length_take]
          have := glen (Es.take j)
          rw [List.length_take] at this
          omega
        refine ⟨_, rfl, .inl ⟨rfl, _, SqL.of b1⟩, ?_⟩
        refine ⟨_, rfl, _, rfl, (by show 1 ≤ sizeLine; decide), fun t1 ht1 => ?_⟩
        have nt1 : t1 ≠ L := fun z => by rw [z, b1] at ht1; cases ht1
        have sT := Same.new ht1 (.tup [V.int (lo + (k : Int))])
        refine catV (Same.tup (sF1.trans sT) ht) (SqT.of upd_same) (by omega) fun z F2 s2 hz nz => ?_
        have nzL : z ≠ L := by
          rcases nz with h | h
          · exact fun e => by
              rw [e, sT _ _ b1] at h
              cases h
          · rw [h]; exact nt1
        have sF2 := sT.trans s2
        refine ⟨L, _, _, rfl, rfl, sF2 _ _ b1, lt_line (by rw [List.length_map]; omega), ⟨_, rfl⟩, ?_, ?_⟩
        · intro c o e
          rw [upd_ne (ne_of_none e hL)]
          exact sF2 _ _ (sF1 _ _ e)
        · have p2 := PtsN.push b2 b3 (fun x xs h => Same.tup sF2 h) hz nzL
          rw [take_snoc evk, List.map_append, ← List.append_assoc]
          exact p2
      · rintro σ F1 ⟨⟨y, rfl⟩, sF1, pF1⟩
        rw [← valsR_len, List.take_length, ← gs ep] at pF1
        exact ⟨⟨_, _, rfl⟩, sF1, pF1⟩
    · rintro σ F ⟨⟨z, w, rfl⟩, sF, pF⟩
      rw [lw, List.take_length] at pF
      obtain ⟨as, e1, e2⟩ := pF.pts.pa
      refine ⟨_, rfl, L, _, rfl, .inl (SqL.of e1), fun l hl => ?_⟩
      have sl := Same.new hl (.lst (as.map V.ref))
      refine ⟨l, _, _, _, _, rfl, sG.trans (sF.trans sl), ?_⟩
      rw [eT, gridL_app, hE]
      exact ((e2.same sl).pts upd_same).mx
  · rintro σ G ⟨x, u, v, z, w, rfl, sG, hX⟩
    rw [lv, List.take_length] at hX
    exact ⟨_, rfl, k x G sG hX⟩
end
/-! ### law k18: range_box asked -/
def spRangesA (K : PySem.W.Frag) : Sp := fun vs H Q _ => ∃ (a : Addr) (n : Nat) (b : Bool), vs = [.ref a, .int n, .bl b] ∧ Src H a ∧ n ≤ 20 ∧ (b = true → n ≤ 3) ∧ ∀ H', Stp a H H' → Q (.bl true) H'
/-- pairs at D -/
structure PrsD (K : PySem.W.Frag) (b : Bool) (G : Hp) (D : Addr) (Rs : List (List Int)) : Prop where
  e : ∃ as : List Addr, G D = some (.lst (as.map V.ref)) ∧ PA K G as Rs
  p : ∀ r ∈ Rs, PR b r
theorem PA.set {K : PySem.W.Frag} {G : Hp} {as : List Addr} {Rs : List (List Int)} {k : Nat} {z : Addr} {r : List Int} (h : PA K G as Rs) (hz : SqT K G z (r.map V.int)) : PA K G (as.set k z) (Rs.set k r) := by
  refine ⟨by rw [List.length_set, List.length_set, h.1], fun i a q e1 e2 => ?_⟩
  rw [List.getElem?_set] at e1 e2
  by_cases e : k = i
  · rw [if_pos e] at e1 e2
    split at e1
    · cases e1
      split at e2
      · cases e2
        exact hz
      · cases e2
    · cases e1
  · rw [if_neg e] at e1 e2
    exact h.2 i a q e1 e2
theorem PA.over {K : PySem.W.Frag} {G : Hp} {D : Addr} {as : List Addr} {Rs : List (List Int)} {xs ys : List V} (h : PA K G as Rs) (e : G D = some (.lst xs)) : PA K (upd G D (.lst ys)) as Rs :=
  ⟨h.1, fun i a r e1 e2 => sqT_but (But.upd _) e (h.2 i a r e1 e2)⟩
theorem PR.weak {b : Bool} {r : List Int} (h : PR b r) : r.length = 2 := by
  obtain ⟨lo, hi, rfl, _⟩ := h
  rfl
section
variable {P : Program} {w : World} {K : PySem.W.Frag} {mg : Str → Option Value} {base : Heap}
theorem ok_l_ranges (T : Txt w K mg) : FnOk P w K mg base CX0 4 T.a_l_ranges T.d_l_ranges p_l_ranges (spRangesA K) := by
  have g_l_pick := ok_l_pick (P := P) (w := w) (base := base) T
  have g_l_number := ok_l_numberB (P := P) (w := w) (base := base) T
  have g_l_grid := ok_l_grid (P := P) (w := w) (K := K) (base := base) T
  have g_l_hull := ok_l_hull (P := P) (w := w) (K := K) (base := base) T
  have g_range_box := ok_range_box (P := P) (w := w) (K := K) (base := base) T
  have g_l_same := ok_l_same (P := P) (w := w) (K := K) (base := base) T 3
  refine T.F_l_ranges.ok sc_l_ranges (fun vs H Q E h => ?_) (fun cdv A outer s H vs Q E hr h => ?_)
  · obtain ⟨a, n, b, rfl, _⟩ := h
    rfl
  obtain ⟨a, n, b, rfl, hS, hn, bn, q⟩ := h
  refine ⟨_, (pss_cons (ps_set (i := 3) sc_l_ranges.nd rfl (Or.inl rfl) (pe_lst pa_nil))
      (pss_cons (ps_for PassesOwn.never rfl (pi_range1 rfl T.z_range (pa_cons (pv 1) pa_nil)) (pg_name (i := 4) sc_l_ranges.nd rfl (Or.inl rfl))
        (pss_cons (ps_set (i := 5) sc_l_ranges.nd rfl (Or.inl rfl) (pe_call g_l_number (hr.mono (by first | decide | omega)) rfl T.m_l_number T.F_l_number.kp T.b_l_number .nil pass0 (pa_cons (pv 0) pa_nil)))
      (pss_cons (ps_expr (pe_bm PySem.F.plainAttrs_list PySem.F.slot_list_append PySem.F.type_list_append mt_append (pv 3) (pa_cons (pe_tup (pa_cons (pv 5) (pa_cons (pe_op op_add (pv 5) (pe_call g_l_pick (hr.mono (by first | decide | omega)) rfl T.m_l_pick T.F_l_pick.kp T.b_l_pick .nil pass0 (pa_cons (pv 0) (pa_cons pe_int pa_nil)))) pa_nil))) pa_nil)))
      (pss_one (ps_if (pt_not (pt_val (pv 2))) (pss_one (ps_asg (pe_tup (pa_cons (pv 5) (pa_cons (pe_op op_add (pv 5) (pe_callB call_abs rfl T.z_abs bb_abs (pa_cons (pe_call g_l_number (hr.mono (by first | decide | omega)) rfl T.m_l_number T.F_l_number.kp T.b_l_number .nil pass0 (pa_cons (pv 0) pa_nil)) pa_nil))) pa_nil))) (pg_sub (pv 3) (pv 4) set_list))) pss_nil)))))
      (pss_cons (ps_if (PW.pt (pw_and (pt_cmpR op_gt (pv 1) pe_int (nomark _)) (pw_and1 (pt_cmpR op_eq (pe_call g_l_pick (hr.mono (by first | decide | omega)) rfl T.m_l_pick T.F_l_pick.kp T.b_l_pick .nil pass0 (pa_cons (pv 0) (pa_cons pe_int pa_nil))) pe_int (nomark _))))) (pss_cons (ps_set (i := 6) sc_l_ranges.nd rfl (Or.inl rfl) (pe_call g_l_pick (hr.mono (by first | decide | omega)) rfl T.m_l_pick T.F_l_pick.kp T.b_l_pick .nil pass0 (pa_cons (pv 0) (pa_cons (pv 1) pa_nil))))
      (pss_cons (ps_asg (pe_tup (pa_cons (pe_ix ix_tup (pe_ix ix_list (pv 3) (pv 6) (fun _ _ => rfl)) pe_int (fun _ _ => rfl)) (pa_cons (pe_op op_sub (pe_op op_sub (pe_ix ix_tup (pe_ix ix_list (pv 3) (pv 6) (fun _ _ => rfl)) pe_int (fun _ _ => rfl)) pe_int) (pe_op op_mul (pe_call g_l_pick (hr.mono (by first | decide | omega)) rfl T.m_l_pick T.F_l_pick.kp T.b_l_pick .nil pass0 (pa_cons (pv 0) (pa_cons pe_int pa_nil))) (pe_callB call_abs rfl T.z_abs bb_abs (pa_cons (pe_call g_l_number (hr.mono (by first | decide | omega)) rfl T.m_l_number T.F_l_number.kp T.b_l_number .nil pass0 (pa_cons (pv 0) pa_nil)) pa_nil)))) pa_nil))) (pg_sub (pv 3) (pv 6) set_list))
      (pss_one (ps_ret (pe_cmpR op_isN (pe_call g_range_box (hr.mono (by first | decide | omega)) rfl T.m_range_box T.F_range_box.kp T.b_range_box .nil pass0 (pa_cons (pe_callTy call_tuple_of rfl T.z_tuple bt_tuple (pa_cons (pv 3) pa_nil)) pa_nil)) pe_non (nomark _)))))) pss_nil)
      (pss_cons (ps_if (pt_val (pv 2)) (pss_one (ps_ret (pe_call g_l_same (hr.mono (by first | decide | omega)) rfl T.m_l_same T.F_l_same.kp T.b_l_same .nil pass0 (pa_cons (pe_call g_range_box (hr.mono (by first | decide | omega)) rfl T.m_range_box T.F_range_box.kp T.b_range_box .nil pass0 (pa_cons (pe_callTy call_tuple_of rfl T.z_tuple bt_tuple (pa_cons (pv 3) pa_nil)) pa_nil)) (pa_cons (pe_call g_l_hull (hr.mono (by first | decide | omega)) rfl T.m_l_hull T.F_l_hull.kp T.b_l_hull .nil pass0 (pa_cons (pe_call g_l_grid (hr.mono (by first | decide | omega)) rfl T.m_l_grid T.F_l_grid.kp T.b_l_grid .nil pass0 (pa_cons (pv 3) pa_nil)) (pa_cons (pv 1) pa_nil))) pa_nil))))) pss_nil)
      (pss_cons (ps_set (i := 7) sc_l_ranges.nd rfl (Or.inr rfl) (pe_op op_cat (pe_lst (pa_cons (pe_tup (pa_cons pe_int (pa_cons pe_int pa_nil))) pa_nil)) (pv 3)))
      (pss_cons (ps_set (i := 8) sc_l_ranges.nd rfl (Or.inl rfl) (pe_lst pa_nil))
      (pss_cons (ps_for PassesOwn.never rfl (pi_range1 rfl T.z_range (pa_cons (pe_op op_add (pv 1) pe_int) pa_nil)) (pg_name (i := 9) sc_l_ranges.nd rfl (Or.inr rfl))
        (pss_cons (ps_setLc (i := 10) (own := [("_law_j", 11)]) (g := gName 11) (tt := tYes) rfl sc_l_ranges.nd rfl rfl (sw_true rfl rfl rfl (by decide +kernel)) (pi_range1 rfl T.z_range (pa_cons (pe_op op_add (pv 1) pe_int) pa_nil)) (blkOk_by (own := [("_law_j", 11)]) (N := n_l_ranges) (sc := defScope s_l_ranges) (by decide +kernel)) (fun _ _ _ _ _ => (pg_name (i := 11) sc_l_ranges.nd rfl (Or.inl rfl))) (fun _ _ _ _ _ => pts_nil) (fun _ _ _ _ _ => (pe_op op_sub (pe_ix (show IxR _ (rIxT K) from ix_tup) (pe_ix (show IxR _ (rIxL K) from ix_list) (pv 7) (pv 9) (fun _ _ => rfl)) pe_int (fun _ _ => rfl)) (pe_ix (show IxR _ (rIxT K) from ix_tup) (pe_ix (show IxR _ (rIxL K) from ix_list) (pv 7) (pv 11) (fun _ _ => rfl)) pe_int (fun _ _ => rfl)))))
      (pss_cons (ps_asg pe_int (pg_sub (pv 10) (pv 9) set_list))
      (pss_one (ps_expr (pe_bm PySem.F.plainAttrs_list PySem.F.slot_list_append PySem.F.type_list_append mt_append (pv 8) (pa_cons (pe_callTy call_tuple_of rfl T.z_tuple bt_tuple (pa_cons (pv 10) pa_nil)) pa_nil)))))))
      (pss_one (ps_ret (pe_call g_l_same (hr.mono (by first | decide | omega)) rfl T.m_l_same T.F_l_same.kp T.b_l_same .nil pass0 (pa_cons (pe_call g_range_box (hr.mono (by first | decide | omega)) rfl T.m_range_box T.F_range_box.kp T.b_range_box .nil pass0 (pa_cons (pe_callTy call_tuple_of rfl T.z_tuple bt_tuple (pa_cons (pv 3) pa_nil)) pa_nil)) (pa_cons (pe_callTy call_tuple_of rfl T.z_tuple bt_tuple (pa_cons (pv 8) pa_nil)) pa_nil)))))))))))), ?_⟩
  refine ⟨(by show 0 ≤ sizeLine; decide), fun D hD => ?_⟩
  have s1 : Stp a H (upd H D (.lst [])) := (Stp.refl hS).new hD
  have naD : a ≠ D := hS.ne hD
  refine ⟨_, rfl, _, rfl, by omega, by omega, for_range (lo := 0) (fun i σ G => ∃ (x y : Option V) (Rs : List (List Int)), σ = [some (.ref a), some (.int n), some (.bl b), some (.ref D), x, y, none, none, none, none, none, none] ∧ Stp a H G ∧ Rs.length = i ∧ PrsD K b G D Rs)
    ⟨none, none, [], rfl, s1, rfl, ⟨[], upd_same, rfl, fun i x r e => by simp at e⟩, fun r hr => by simp at hr⟩ ?_ ?_⟩
  · rintro i σ G hi ⟨x, y, Rs, rfl, sG, lRs, ⟨as, e1, e2⟩, pR⟩
    refine ⟨_, rfl, a, rfl, sG.s, fun lo G1 st1 lo1 lo2 => ?_⟩
    have g1 := sG.trans st1
    have e11 := st1.k _ _ naD.symm e1
    have e21 := e2.stp st1 sG.s
    refine ⟨_, rfl, .inl ⟨rfl, _, SqL.of e11⟩, ?_⟩
    refine ⟨_, rfl, _, rfl, _, rfl, a, 4, rfl, g1.s, by decide, fun r G2 st2 r0 r1 => ?_⟩
    have g2 := g1.trans st2
    have e12 := st2.k _ _ naD.symm e11
    have e22 := e21.stp st2 g1.s
    refine ⟨_, _, rfl, rfl, (by show 2 ≤ sizeLine; decide), fun t ht => ?_⟩
    have sT := Same.new ht (.tup [.int lo, .int (lo + r)])
    have e13 := sT _ _ e12
    refine ⟨D, _, _, rfl, rfl, e13, lt_line (by rw [List.length_map, e22.1]; omega), ?_⟩
    have pA : PA K (upd G2 t (.tup [.int lo, .int (lo + r)])) (as ++ [t]) (Rs ++ [[lo, lo + r]]) := (e22.same sT).append (PA.one (SqT.of upd_same))
    have pA2 := pA.over (ys := as.map V.ref ++ [.ref t]) e13
    have g3 : Stp a H (upd (upd G2 t (.tup [.int lo, .int (lo + r)])) D (.lst (as.map V.ref ++ [.ref t]))) := (g2.same sT).put hS hD
    have e14 : (upd (upd G2 t (.tup [.int lo, .int (lo + r)])) D (.lst (as.map V.ref ++ [.ref t]))) D = some (.lst ((as ++ [t]).map V.ref)) := by rw [List.map_append]; exact upd_same
    generalize upd (upd G2 t (.tup [.int lo, .int (lo + r)])) D (.lst (as.map V.ref ++ [.ref t])) = G3 at pA2 g3 e14
    cases b with
    | true =>
      refine ⟨_, rfl, _, rfl, ifF rfl ?_⟩
      refine ⟨_, _, Rs ++ [[lo, lo + r]], rfl, g3, by simp [lRs], ⟨_, e14, pA2⟩, fun q hq => ?_⟩
      rcases List.mem_append.mp hq with h | h
      · exact pR q h
      · rw [List.mem_singleton.mp h]
        exact ⟨lo, lo + r, rfl, by omega, lo1, lo2, fun _ => by omega⟩
    | false =>
      refine ⟨_, rfl, _, rfl, ifT rfl ?_⟩
      refine ⟨_, rfl, _, rfl, _, rfl, a, rfl, g3.s, fun m G4 st4 m1 m2 => ?_⟩
      have e15 := st4.k _ _ naD.symm e14
      have pA4 := pA2.stp st4 g3.s
      refine ⟨_, rfl, _, _, rfl, rfl, (by show 2 ≤ sizeLine; decide), fun t2 ht2 => ?_⟩
      generalize hz : (if m < 0 then -m else m) = am
      have am0 : 0 ≤ am := by rw [← hz]; split <;> omega
      have sT2 := Same.new ht2 (.tup [.int lo, .int (lo + am)])
      have e16 := sT2 _ _ e15
      have lRs2 := e22.1
      refine ⟨_, rfl, _, rfl, D, _, _, _, rfl, rfl, e16, ixN_int (by omega) (by rw [List.length_map, List.length_append]; show _ < ((as.length + 1 : Nat) : Int); omega), ?_⟩
      have ei : (0 + (i : Int)).toNat = i := by omega
      rw [ei, ← List.map_set]
      have pA5 : PA K (upd G4 t2 (.tup [.int lo, .int (lo + am)])) ((as ++ [t]).set i t2) ((Rs ++ [[lo, lo + r]]).set i [lo, lo + am]) := (pA4.same sT2).set (SqT.of upd_same)
      refine ⟨_, _, (Rs ++ [[lo, lo + r]]).set i [lo, lo + am], rfl, ((g3.trans st4).same sT2).put hS hD, by rw [List.length_set, List.length_append, lRs]; rfl, ⟨_, upd_same, pA5.over e16⟩, fun q hq => ?_⟩
      rcases List.mem_or_eq_of_mem_set hq with h | h
      · rcases List.mem_append.mp h with h | h
        · exact pR q h
        · rw [List.mem_singleton.mp h]
          exact ⟨lo, lo + r, rfl, by omega, lo1, lo2, fun z => by cases z⟩
      · rw [h]
        exact ⟨lo, lo + am, rfl, by omega, lo1, lo2, fun z => by cases z⟩
  rintro σ G ⟨x, y, Rs, rfl, sG, lRs, ⟨as, e1, e2⟩, pR⟩
  rw [Int.toNat_natCast] at lRs
  have lohi : ∀ k < Rs.length, (Rs.getD k []).getD 0 0 ≤ (Rs.getD k []).getD 1 0 := fun k hk => by
    have e : Rs[k]? = some Rs[k] := List.getElem?_eq_getElem hk
    obtain ⟨lo, hi, e3, le, _⟩ := pR _ (List.getElem_mem hk)
    have e4 : Rs.getD k [] = [lo, hi] := by rw [List.getD_eq_getElem?_getD, e, e3]; rfl
    rw [e4]
    exact le
  have hR2 : ∀ r ∈ Rs, r.length = 2 := fun r hr => (pR r hr).weak
  refine ⟨_, rfl, _, _, rfl, rfl, _, rfl, ite2 (fun hpos => ?_) (fun _ => ifF rfl ?_)⟩
  refine ⟨_, rfl, a, 3, rfl, sG.s, by decide, fun d G2 st2 d0 d1 => ⟨rfl, _, rfl, ite2 (fun _ => ?_) (fun _ => ?_)⟩⟩
  · have n0 : 0 < n := by
      have : (n : Int) > 0 := of_decide_eq_true hpos
      omega
    have g2 := sG.trans st2
    have e12 := st2.k _ _ naD.symm e1
    have e22 := e2.stp st2 sG.s
    refine ⟨_, rfl, _, rfl, a, n, rfl, g2.s, by omega, fun k3 G3 st3 k0 k1 => ?_⟩
    obtain ⟨k, rfl⟩ : ∃ m : Nat, k3 = (m : Int) := ⟨k3.toNat, by omega⟩
    have hk : k < Rs.length := by omega
    have g3 := g2.trans st3
    have e13 := st3.k _ _ naD.symm e12
    have e23 := e22.stp st3 g2.s
    have ea : as[k]? = some (as[k]'(by rw [e23.1]; exact hk)) := List.getElem?_eq_getElem _
    have er : Rs[k]? = some Rs[k] := List.getElem?_eq_getElem hk
    obtain ⟨lo, hi, e3, le, lo1, lo2, _⟩ := pR _ (List.getElem_mem hk)
    have hp3 := e23.2 _ _ _ ea er
    rw [e3] at hp3
    generalize as[k]'(by rw [e23.1]; exact hk) = pk at ea hp3
    have ati : atI (as.map V.ref) (k : Int) = some (.ref pk) := atI_nat (map_get ea)
    refine ⟨_, rfl, _, rfl, D, _, _, _, rfl, rfl, SqL.of e13, ati, pk, _, 0, _, rfl, rfl, hp3, rfl, ?_⟩
    refine ⟨_, rfl, _, rfl, D, _, _, _, rfl, rfl, SqL.of e13, ati, pk, _, 0, _, rfl, rfl, hp3, rfl, _, _, rfl, rfl, ?_⟩
    refine ⟨_, rfl, a, 2, rfl, g3.s, by decide, fun u G4 st4 u0 u1 => ?_⟩
    have g4 := g3.trans st4
    refine ⟨_, rfl, a, rfl, g4.s, fun m G5 st5 m1 m2 => ?_⟩
    have g5 := g4.trans st5
    refine ⟨_, rfl, _, _, rfl, rfl, .inl ⟨by omega, by omega⟩, _, _, rfl, rfl, (by show 2 ≤ sizeLine; decide), fun t ht => ?_⟩
    generalize hz : (if m < 0 then -m else m) = am
    have am0 : 0 ≤ u * am := Int.mul_nonneg u0 (by rw [← hz]; split <;> omega)
    generalize u * am = w at am0
    have sT := Same.new ht (.tup [.int lo, .int (lo - 1 - w)])
    have e14 := sT _ _ ((st4.trans st5).k _ _ naD.symm e13)
    have pA := ((e23.stp (st4.trans st5) g3.s).same sT).set (k := k) (z := t) (r := [lo, lo - 1 - w]) (SqT.of upd_same)
    have g6 := g5.same sT
    refine ⟨_, rfl, _, rfl, D, _, _, _, rfl, rfl, e14, ixN_int (by omega) (by rw [List.length_map, e23.1]; omega), ?_⟩
    rw [Int.toNat_natCast, ← List.map_set]
    have pA2 := pA.over (ys := (as.set k t).map V.ref) e14
    have g7 := g6.put (o := .lst ((as.set k t).map V.ref)) hS hD
    have e15 : (upd (upd G5 t (.tup [.int lo, .int (lo - 1 - w)])) D (.lst ((as.set k t).map V.ref))) D = some (.lst ((as.set k t).map V.ref)) := upd_same
    generalize upd (upd G5 t (.tup [.int lo, .int (lo - 1 - w)])) D (.lst ((as.set k t).map V.ref)) = G6 at pA2 g7 e15
    refine ⟨_, rfl, D, _, rfl, .inl ⟨SqL.of e15, fun t2 ht2 => ?_⟩⟩
    have sT2 := Same.new ht2 (.tup ((as.set k t).map V.ref))
    have mT : Mx true true K (upd G6 t2 (.tup ((as.set k t).map V.ref))) t2 (Rs.set k [lo, lo - 1 - w]) := ⟨as.set k t, Sq.upd_sameT, pA2.1, (pA2.same sT2).2⟩
    refine ⟨t2, Rs.set k [lo, lo - 1 - w], rfl, mT, fun r hr => ?_, by rw [List.length_set]; omega, fun v1 G7 s7 b7 => ?_⟩
    · rcases List.mem_or_eq_of_mem_set hr with h | h
      · exact hR2 r h
      · rw [h]; rfl
    have eN : rangeB (Rs.set k [lo, lo - 1 - w]) = none := by
      unfold rangeB
      refine if_pos ⟨k, by rw [List.length_set]; exact hk, ?_⟩
      have e4 : (Rs.set k [lo, lo - 1 - w]).getD k [] = [lo, lo - 1 - w] := by
        rw [List.getD_eq_getElem?_getD, List.getElem?_set, if_pos rfl, if_pos hk]
        rfl
      rw [e4]
      show lo - 1 - w < lo
      omega
    rw [eN] at b7
    obtain rfl : v1 = .non := b7
    exact ⟨rfl, q G7 (g7.same (sT2.trans s7))⟩
  replace e2 := e2.stp st2 sG.s
  replace e1 := st2.k _ _ naD.symm e1
  replace sG := sG.trans st2
  obtain ⟨GX, hGX⟩ : ∃ GX, GX = G2 := ⟨_, rfl⟩
  subst hGX
  rotate_left
  obtain ⟨GX, hGX⟩ : ∃ GX, GX = G := ⟨_, rfl⟩
  subst hGX
  all_goals
    cases b with
    | true =>
      have n3 := bn rfl
      refine ⟨_, rfl, _, rfl, ifT rfl ?_⟩
      refine ⟨_, rfl, D, _, rfl, .inl ⟨SqL.of e1, fun t ht => ?_⟩⟩
      have sT := Same.new ht (.tup (as.map V.ref))
      refine ⟨t, Rs, rfl, ⟨as, Sq.upd_sameT, e2.1, (e2.same sT).2⟩, hR2, by omega, fun v1 G1 t1 b1 => ?_⟩
      refine ⟨_, rfl, D, Rs, rfl, ⟨as, SqL.of ((sT.trans t1) _ _ e1), e2.1, (e2.same (sT.trans t1)).2⟩, pR, by omega, fun x1 G2 t2 m2 => ?_⟩
      have gl : (gridL Rs).length ≤ 64 := by
        have := grid_len pR Rs.length (Nat.le_refl _)
        rw [List.take_length] at this
        exact Nat.le_trans this (Nat.le_trans (Nat.pow_le_pow_right (by decide) (by omega : Rs.length ≤ 3)) (by decide))
      have mem : ∀ p ∈ gridL Rs, p.length = n := fun p hp => by
        have := (mem_grid (Rs := Rs) (i := Rs.length) (Nat.le_refl _) p).mp (by rw [List.take_length]; exact hp)
        rw [List.take_length] at this
        rw [this.1, lRs]
      refine ⟨_, rfl, x1, n, gridL Rs, rfl, by omega, m2, mem, by omega, fun v2 G3 t3 b3 => ?_⟩
      have eq : rangeB Rs = hull n (gridL Rs) := by
        rw [grid_hull lohi, lRs]
      have zz : BSz (n + 1) (rangeB Rs) := by
        rw [eq]
        exact hull_sz _ _
      exact same_true (b1.same (t2.trans t3)) b3 eq zz (by omega) (q G3 (sG.same ((sT.trans t1).trans (t2.trans t3))))
    | false =>
      refine ⟨_, rfl, _, rfl, ifF rfl ?_⟩
      refine ⟨(by show 2 ≤ sizeLine; decide), fun t0 ht0 => ?_⟩
      have u0 := Same.new ht0 (.tup [.int 0, .int 0])
      refine ⟨(by show 1 ≤ sizeLine; decide), fun l0 hl0 => ?_⟩
      have u1 := u0.trans (Same.new hl0 (.lst [.ref t0]))
      refine ⟨_, rfl, l0, D, _, _, rfl, rfl, upd_same, u1 _ _ e1, by rw [List.length_map, e2.1, sizeLine_eq]; show 1 + Rs.length ≤ _; omega, fun pf hpf => ?_⟩
      have u2 := u1.trans (Same.new hpf (.lst ([.ref t0] ++ as.map V.ref)))
      have mE : Mx false true K (upd (upd (upd GX t0 (.tup [.int 0, .int 0])) l0 (.lst [.ref t0])) pf (.lst ([.ref t0] ++ as.map V.ref))) pf ([0, 0] :: Rs) := by
        refine ⟨t0 :: as, SqL.of upd_same, by rw [List.length_cons, List.length_cons, e2.1], fun i b r h1 h2 => ?_⟩
        cases i with
        | zero =>
          cases h1
          cases h2
          exact Same.tup ((Same.new hl0 _).trans (Same.new hpf _)) (SqT.of upd_same)
        | succ i => exact Same.tup u2 (e2.2 i b r (by simpa using h1) (by simpa using h2))
      generalize upd (upd (upd GX t0 (.tup [.int 0, .int 0])) l0 (.lst [.ref t0])) pf (.lst ([.ref t0] ++ as.map V.ref)) = G1 at u2 mE
      have two := two_at hR2
      refine ⟨(by show 0 ≤ sizeLine; decide), fun pr hpr => ?_⟩
      refine ⟨_, rfl, _, _, rfl, rfl, _, rfl, by omega, by omega, for_range (lo := 0) (fun i σ F => (∃ x y z u v : Option V, σ = [some (.ref a), some (.int n), some (.bl false), some (.ref D), x, y, z, some (.ref pf), some (.ref pr), u, v, none]) ∧ LcP (Same G1) (RRow K true (mkM (n + 1) (wid Rs)) pr) pr i F)
        ⟨⟨_, _, _, none, none, rfl⟩, lcp_start hpr⟩ ?_ ?_⟩
      · rintro i σ F hi ⟨⟨x, y, z, u, v, rfl⟩, PF⟩
        have hi' : i < n + 1 := by omega
        have sF := PF.1
        obtain ⟨vs, hv, lv, hrow⟩ := (mE.same sF).row
        have at2 : ∀ k, k < n + 1 → ∃ (b : Addr) (lo hi : Int), atI vs (0 + (k : Int)) = some (.ref b) ∧ (([0, 0] :: Rs).getD k []).getD 1 0 = hi ∧ (([0, 0] :: Rs).getD k []).getD 0 0 = lo ∧ SqT K F b [.int lo, .int hi] := fun k hk => by
          have lk : k < vs.length := by rw [lv, List.length_cons, lRs]; exact hk
          obtain ⟨b, r, e3, e4, e5⟩ := hrow k vs[k] (List.getElem?_eq_getElem lk)
          obtain ⟨lo, hi, rfl, w1, w0⟩ := two k r e4
          refine ⟨b, lo, hi, ?_, w1, w0, e5⟩
          rw [Int.zero_add]
          exact atI_nat (by rw [List.getElem?_eq_getElem lk, e3])
        obtain ⟨bi, loi, hii, ai1, ai2, ai3, ai4⟩ := at2 i hi'
        refine ⟨_, rfl, _, _, rfl, rfl, _, rfl, by omega, by omega, fun E hE => ?_⟩
        refine lc_it walk_range (LcP (Same F) (RInt (mkR (n + 1) fun j => hii - (([0, 0] :: Rs).getD j []).getD 0 0)) E) (lcp_start hE) (fun _ _ _ _ => trivial) ?_ ?_
        · rintro j y F1 F2 hj PE ⟨rfl, rfl⟩
          have hj' : j < n + 1 := by omega
          obtain ⟨bj, loj, hij, aj1, aj2, aj3, aj4⟩ := at2 j hj'
          refine ⟨rfl, tyes ?_⟩
          refine ⟨_, rfl, _, rfl, pf, _, _, _, rfl, rfl, PE.1.seq hv, ai1, bi, _, 1, _, rfl, rfl, Same.tup PE.1 ai4, rfl, ?_⟩
          refine ⟨_, rfl, _, rfl, pf, _, _, _, rfl, rfl, PE.1.seq hv, aj1, bj, _, 0, _, rfl, rfl, Same.tup PE.1 aj4, rfl, _, _, rfl, rfl, ?_⟩
          exact lcp_same PE hE (Same.refl _) (lt_line (by omega)) RInt.mono ⟨_, mkR_at hj', by rw [aj3]⟩
        · intro F1 PE
          have eE := lcp_ints (K := K) PE (by rw [mkR_len]; omega)
          refine ⟨_, rfl, _, rfl, E, _, _, _, rfl, rfl, eE, ixN_int (by omega) (by rw [List.length_map, mkR_len]; omega), ?_⟩
          have ei : (0 + (i : Int)).toNat = i := by omega
          rw [ei, ← List.map_set, mkR_set]
          have eR : (mkR (n + 1) fun b => if b = i then 0 else hii - (([0, 0] :: Rs).getD b []).getD 0 0) = mkR (n + 1) (wid Rs i) := by
            refine congrArg (mkR (n + 1)) (funext fun b => ?_)
            unfold wid
            rw [ai2]
            by_cases e : b = i
            · rw [if_pos e, if_pos e.symm]
            · rw [if_neg e, if_neg (fun z => e z.symm)]
          rw [eR]
          obtain ⟨acc, a1, a2⟩ := PF.acc
          have nE : E ≠ pr := PF.ne hE
          have s5 : Same F (upd F1 E (.lst ((mkR (n + 1) (wid Rs i)).map V.int))) := fun c o e => by
            rw [upd_ne (ne_of_none e hE)]
            exact PE.1 _ _ e
          have a1F : (upd F1 E (.lst ((mkR (n + 1) (wid Rs i)).map V.int))) pr = some (.lst acc) := s5 _ _ a1
          refine ⟨_, rfl, .inl ⟨rfl, _, SqL.of a1F⟩, ?_⟩
          refine ⟨_, rfl, E, _, rfl, .inl ⟨SqL.of upd_same, fun t ht => ?_⟩⟩
          have tn : t ≠ pr := fun z => by
            rw [← z, ht] at a1F
            cases a1F
          refine ⟨pr, acc, _, rfl, rfl, by rw [upd_ne tn.symm]; exact a1F, lt_line (by omega), ⟨_, _, _, _, _, rfl⟩, ?_⟩
          exact lcp_put PF a1 hpr (s5.trans (Same.new ht _)) (lt_line (by omega)) RRow.mono ⟨t, _, rfl, mkM_at hi', tn, Sq.upd_sameT⟩
      · rintro σ F ⟨⟨x, y, z, u, v, rfl⟩, PF⟩
        have sF := u2.trans PF.1
        refine ⟨_, rfl, D, _, rfl, .inl ⟨SqL.of (sF _ _ e1), fun t ht => ?_⟩⟩
        have sT := Same.new ht (.tup (as.map V.ref))
        refine ⟨t, Rs, rfl, ⟨as, Sq.upd_sameT, e2.1, (e2.same (sF.trans sT)).2⟩, hR2, by omega, fun v1 G2 t1 b1 => ?_⟩
        obtain ⟨bs, h1, h2, h3⟩ := lcp_rows PF (by rw [mkM_sz.1]; omega)
        have S3 := sT.trans t1
        refine ⟨_, rfl, pr, _, rfl, .inl ⟨S3.seq h1, fun l hl => ?_⟩⟩
        have ng : ¬ Gap Rs Rs.length := by
          rintro ⟨i, hi, z⟩
          have := lohi i hi
          omega
        have eq : rangeB Rs = some (mkM (n + 1) (wid Rs)) := by
          unfold rangeB
          rw [if_neg ng, lRs]
        have zz : BSz (n + 1) (rangeB Rs) := by
          rw [eq]
          exact fun M e => by
            cases e
            exact mkM_sz
        have s4 := Same.new hl (.tup (bs.map V.ref))
        have b2 : BoxAt K (upd G2 l (.tup (bs.map V.ref))) (.ref l) (some (mkM (n + 1) (wid Rs))) := ⟨l, rfl, bs, Sq.upd_sameT, h2, fun i a r e1 e2 => Sq.same (S3.trans s4) (h3 i a r e1 e2)⟩
        exact same_true (b1.same s4) b2 eq zz (by omega) (q _ (sG.same ((sF.trans S3).trans s4)))
end
/-! ### law k18: small and great boxes asked -/
theorem BoxAt.stp {K : PySem.W.Frag} {a : Addr} {H H' : Hp} {v : V} {B : Option (List (List Int))} (s : Stp a H H') (hs : Src H a) (h : BoxAt K H v B) : BoxAt K H' v B := by
  cases B with
  | none => exact h
  | some M =>
    obtain ⟨p, e, as, h1, h2, h3⟩ := h
    exact ⟨p, e, as, s.rd h1 hs, h2, fun i x r e1 e2 => s.rd (h3 i x r e1 e2) hs⟩
theorem ptsB_or (n : Nat) (M : List (List Int)) : ptsB n (some M) = ptsL M n ∨ ptsB n (some M) = [] := by
  by_cases h : ∀ i < n + 1, 0 ≤ getM M i i
  · exact .inl (if_pos h)
  · exact .inr (if_neg h)
open Classical in
noncomputable def keepL (f : List Int → Prop) (Ps : List (List Int)) : List (List Int) := Ps.filter fun r => decide (f r)
theorem mem_keep {f : List Int → Prop} {Ps : List (List Int)} {r : List Int} : r ∈ keepL f Ps ↔ r ∈ Ps ∧ f r := by
  classical
  unfold keepL
  rw [List.mem_filter]
  simp
theorem keep_take {f : List Int → Prop} {Ps : List (List Int)} {i : Nat} {r : List Int} (e : Ps[i]? = some r) : (f r → keepL f (Ps.take (i + 1)) = keepL f (Ps.take i) ++ [r]) ∧ (¬ f r → keepL f (Ps.take (i + 1)) = keepL f (Ps.take i)) := by
  classical
  unfold keepL
  rw [take_snoc e, List.filter_append]
  constructor
  · intro h
    rw [List.filter_cons_of_pos (by simpa using h), List.filter_nil]
  · intro h
    rw [List.filter_cons_of_neg (by simpa using h), List.filter_nil, List.append_nil]
/-- kept points so far -/
def FlP (K : PySem.W.Frag) (H1 : Hp) (D : Addr) (Ps : List (List Int)) (f : List Int → Prop) (i : Nat) (G : Hp) : Prop := Same H1 G ∧ ∃ bs : List Addr, G D = some (.lst (bs.map V.ref)) ∧ PA K H1 bs (keepL f (Ps.take i))
theorem FlP.step {K : PySem.W.Frag} {H1 G G2 : Hp} {D t : Addr} {Ps : List (List Int)} {f : List Int → Prop} {i : Nat} {r : List Int} (P : FlP K H1 D Ps f i G) (hD : H1 D = none) (s : Same G G2) (e : Ps[i]? = some r) (ht : SqT K H1 t (r.map V.int)) (hi : i ≤ 1000000) :
    (f r → ∃ acc, G2 D = some (.lst acc) ∧ acc.length < sizeLine ∧ FlP K H1 D Ps f (i + 1) (upd G2 D (.lst (acc ++ [.ref t])))) ∧ (¬ f r → FlP K H1 D Ps f (i + 1) G2) := by
  obtain ⟨s1, bs, h1, h2⟩ := P
  constructor
  · intro h
    have lb : bs.length ≤ i := by
      rw [h2.1]
      refine Nat.le_trans (List.length_filter_le _ _) ?_
      rw [List.length_take]
      omega
    refine ⟨_, s _ _ h1, lt_line (by rw [List.length_map]; omega), fun c o q => ?_, bs ++ [t], by rw [List.map_append]; exact upd_same, ?_⟩
    · rw [upd_ne (ne_of_none q hD)]
      exact s _ _ (s1 _ _ q)
    · rw [(keep_take e).1 h]
      exact h2.append (PA.one ht)
  · intro h
    refine ⟨s1.trans s, bs, s _ _ h1, ?_⟩
    rw [(keep_take e).2 h]
    exact h2
theorem keep_len {f : List Int → Prop} {Ps : List (List Int)} : (keepL f Ps).length ≤ Ps.length := List.length_filter_le _ _
theorem FlP.start {K : PySem.W.Frag} {H1 : Hp} {D : Addr} {Ps : List (List Int)} {f : List Int → Prop} (hD : H1 D = none) : FlP K H1 D Ps f 0 (upd H1 D (.lst [])) :=
  ⟨Same.new hD _, [], upd_same, rfl, fun i a r e => by simp at e⟩
theorem pts_hull {n : Nat} {M : List (List Int)} (c : Clo (n + 1) (getM M)) {f : List Int → Prop} {D : Nat → Nat → Int} (h : ∀ r, r.length = n → ((∀ i < n + 1, ∀ j < n + 1, dif i j r ≤ D i j) ↔ (∀ i < n + 1, ∀ j < n + 1, dif i j r ≤ getM M i j) ∧ f r)) (hd : ∀ i < n + 1, 0 ≤ D i i) : Best (n + 1) D (hull n (keepL f (ptsB n (some M)))) := by
  have eB : ptsB n (some M) = ptsL M n := if_pos fun i hi => by rw [c.d i hi]; exact Int.le_refl _
  refine best_of_pts (fun r => ?_) hd
  rw [mem_keep, eB, mem_pts]
  constructor
  · rintro ⟨⟨l, h1⟩, h2⟩
    refine ⟨l, (h r l).mpr ⟨fun i hi j hj => ?_, h2⟩⟩
    by_cases e : i = j
    · subst e
      rw [dif_xc, c.d i hi]
      omega
    · exact h1 i hi j hj e
  · rintro ⟨l, h1⟩
    obtain ⟨h2, h3⟩ := (h r l).mp h1
    exact ⟨⟨l, fun i hi j hj _ => h2 i hi j hj⟩, h3⟩
def spSmall (K : PySem.W.Frag) : Sp := fun vs H Q _ => ∃ a b : Addr, vs = [.ref a, .ref b] ∧ a ≠ b ∧ Src H a ∧ Src H b ∧ ∀ H', Q (.bl true) H'
theorem Src.stp {a b : Addr} {H H' : Hp} (s : Stp a H H') (ne : b ≠ a) (h : Src H b) : Src H' b := by
  obtain ⟨c, m, k, e⟩ := h
  exact ⟨c, m, k, s.k _ _ ne e⟩
theorem mod_at {n i r : Nat} (hi : i < n + 1) (hr : r < n) : ((i : Int) + 1 + (r : Int)).fmod ((n : Int) + 1) = (((i + 1 + r) % (n + 1) : Nat) : Int) ∧ (i + 1 + r) % (n + 1) < n + 1 ∧ (i + 1 + r) % (n + 1) ≠ i := by
  refine ⟨?_, Nat.mod_lt _ (by omega), ?_⟩
  · rw [Int.fmod_eq_emod_of_nonneg _ (by omega)]
    have e1 : (i : Int) + 1 + (r : Int) = ((i + 1 + r : Nat) : Int) := by omega
    have e2 : (n : Int) + 1 = ((n + 1 : Nat) : Int) := by omega
    rw [e1, e2]
    first | exact (Int.natCast_emod _ _).symm | rfl
  · by_cases h : i + 1 + r < n + 1
    · rw [Nat.mod_eq_of_lt h]
      omega
    · rw [Nat.mod_eq_sub_mod (by omega), Nat.mod_eq_of_lt (by omega)]
      omega
section
variable {P : Program} {w : World} {K : PySem.W.Frag} {mg : Str → Option Value} {base : Heap}
theorem ok_l_asks_small (T : Txt w K mg) : FnOk P w K mg base CX0 5 T.a_l_asks_small T.d_l_asks_small p_l_asks_small (spSmall K) := by
  have g_l_pick := ok_l_pick (P := P) (w := w) (base := base) T
  have g_l_size := ok_l_size18 (P := P) (w := w) (base := base) T
  have g_l_drawn_box := ok_l_drawn_box (P := P) (w := w) (K := K) (base := base) T
  have g_l_points := ok_l_points (P := P) (w := w) (K := K) (base := base) T
  have g_l_belongs := ok_l_belongs (P := P) (w := w) (K := K) (base := base) T
  have g_l_hull := ok_l_hull (P := P) (w := w) (K := K) (base := base) T
  have g_l_meets := ok_l_meets (P := P) (w := w) (K := K) (base := base) T
  have g_l_ranges := ok_l_ranges (P := P) (w := w) (K := K) (base := base) T
  have g_l_part := ok_l_part (P := P) (w := w) (K := K) (base := base) T
  have g_l_bounds := ok_l_bounds (P := P) (w := w) (K := K) (base := base) T
  refine T.F_l_asks_small.ok sc_l_asks_small (fun vs H Q E h => ?_) (fun cdv A outer s H vs Q E hr h => ?_)
  · obtain ⟨a, b, rfl, _⟩ := h
    rfl
  obtain ⟨a, b, rfl, nab, hS, hT, q⟩ := h
  refine ⟨_, (pss_cons (ps_set (i := 2) sc_l_asks_small.nd rfl (Or.inl rfl) (pe_call g_l_size (hr.mono (by first | decide | omega)) rfl T.m_l_size T.F_l_size.kp T.b_l_size .nil pass0 (pa_cons (pv 0) pa_nil)))
      (pss_cons (ps_set (i := 3) sc_l_asks_small.nd rfl (Or.inl rfl) (pe_call g_l_drawn_box (hr.mono (by first | decide | omega)) rfl T.m_l_drawn_box T.F_l_drawn_box.kp T.b_l_drawn_box .nil pass0 (pa_cons (pv 0) (pa_cons (pv 2) pa_nil))))
      (pss_cons (ps_set (i := 4) sc_l_asks_small.nd rfl (Or.inr rfl) (pe_call g_l_drawn_box (hr.mono (by first | decide | omega)) rfl T.m_l_drawn_box T.F_l_drawn_box.kp T.b_l_drawn_box .nil pass0 (pa_cons (pv 0) (pa_cons (pv 2) pa_nil))))
      (pss_cons (ps_set (i := 5) sc_l_asks_small.nd rfl (Or.inl rfl) (pe_lst pa_nil))
      (C8.pss_cut (ps_if (pt_cmpR op_notN (pv 4) pe_non (nomark _)) (pss_one (ps_setLc (i := 5) (own := [("_law_point", 6)]) (g := gName 6) rfl sc_l_asks_small.nd rfl rfl (sw_true rfl rfl rfl (by decide +kernel)) (pi_list (pe_call g_l_points (hr.mono (by first | decide | omega)) rfl T.m_l_points T.F_l_points.kp T.b_l_points .nil pass0 (pa_cons (pv 3) pa_nil))) (blkOk_by (own := [("_law_point", 6)]) (N := n_l_asks_small) (sc := defScope s_l_asks_small) (by decide +kernel)) (fun _ _ _ _ _ => (pg_name (i := 6) sc_l_asks_small.nd rfl (Or.inl rfl))) (fun _ _ _ _ _ => (pts_one (pt_val (pe_call g_l_belongs (hr.mono (by first | decide | omega)) rfl T.m_l_belongs T.F_l_belongs.kp T.b_l_belongs .nil pass0 (pa_cons (pv 4) (pa_cons (pv 6) pa_nil)))))) (fun _ _ _ _ _ => (pv 6)))) pss_nil)
      (pss_cons (ps_if (pt_not (pt_val (pe_call g_l_meets (hr.mono (by first | decide | omega)) rfl T.m_l_meets T.F_l_meets.kp T.b_l_meets .nil pass0 (pa_cons (pv 3) (pa_cons (pv 4) (pa_cons (pe_call g_l_hull (hr.mono (by first | decide | omega)) rfl T.m_l_hull T.F_l_hull.kp T.b_l_hull .nil pass0 (pa_cons (pv 5) (pa_cons (pv 2) pa_nil))) pa_nil)))))) (pss_one (ps_ret pe_bl)) pss_nil)
      (pss_cons (ps_if (pt_not (pt_val (pe_call g_l_ranges (hr.mono (by first | decide | omega)) rfl T.m_l_ranges T.F_l_ranges.kp T.b_l_ranges .nil pass0 (pa_cons (pv 1) (pa_cons (pv 2) (pa_cons (pe_cmpR op_lt (pv 2) pe_int (nomark _)) pa_nil)))))) (pss_one (ps_ret pe_bl)) pss_nil)
      (pss_cons (ps_if (pt_cmpR op_eq (pv 2) pe_int (nomark _)) (pss_one (ps_ret pe_bl)) pss_nil)
      (pss_cons (ps_set (i := 7) sc_l_asks_small.nd rfl (Or.inr rfl) (pe_call g_l_pick (hr.mono (by first | decide | omega)) rfl T.m_l_pick T.F_l_pick.kp T.b_l_pick .nil pass0 (pa_cons (pv 1) (pa_cons (pe_op op_add (pv 2) pe_int) pa_nil))))
      (pss_cons (ps_set (i := 8) sc_l_asks_small.nd rfl (Or.inr rfl) (pe_op op_modN (pe_callTy call_int1 rfl T.z_int bt_int (pa_cons (pe_op op_add (pe_op op_add (pv 7) pe_int) (pe_call g_l_pick (hr.mono (by first | decide | omega)) rfl T.m_l_pick T.F_l_pick.kp T.b_l_pick .nil pass0 (pa_cons (pv 1) (pa_cons (pv 2) pa_nil)))) pa_nil)) (pe_op op_add (pv 2) pe_int)))
      (pss_cons (ps_set (i := 9) sc_l_asks_small.nd rfl (Or.inr rfl) (pe_call g_l_part (hr.mono (by first | decide | omega)) rfl T.m_l_part T.F_l_part.kp T.b_l_part .nil pass0 (pa_cons (pv 1) (pa_cons (pv 3) (pa_cons (pv 7) (pa_cons (pv 8) pa_nil))))))
      (pss_cons (ps_setLc (i := 5) (own := [("_law_point", 6)]) (g := gName 6) rfl sc_l_asks_small.nd rfl rfl (sw_true rfl rfl rfl (by decide +kernel)) (pi_list (pe_call g_l_points (hr.mono (by first | decide | omega)) rfl T.m_l_points T.F_l_points.kp T.b_l_points .nil pass0 (pa_cons (pv 3) pa_nil))) (blkOk_by (own := [("_law_point", 6)]) (N := n_l_asks_small) (sc := defScope s_l_asks_small) (by decide +kernel)) (fun _ _ _ _ _ => (pg_name (i := 6) sc_l_asks_small.nd rfl (Or.inl rfl))) (fun _ _ _ _ _ => (pts_one (pt_cmpR op_le (pe_op op_sub (pe_ix (show IxR _ (rIxT K) from ix_tup) (pe_op (show OpR _ _ (rCatT K) from op_catT) (pe_tup (pa_cons pe_int pa_nil)) (pv 6)) (pv 7) (fun _ _ => rfl)) (pe_ix (show IxR _ (rIxT K) from ix_tup) (pe_op (show OpR _ _ (rCatT K) from op_catT) (pe_tup (pa_cons pe_int pa_nil)) (pv 6)) (pv 8) (fun _ _ => rfl))) (pv 9) (nomark _)))) (fun _ _ _ _ _ => (pv 6)))
      (pss_one (ps_ret (pe_call g_l_bounds (hr.mono (by first | decide | omega)) rfl T.m_l_bounds T.F_l_bounds.kp T.b_l_bounds .nil pass0 (pa_cons (pv 3) (pa_cons (pv 7) (pa_cons (pv 8) (pa_cons (pv 9) (pa_cons (pe_call g_l_hull (hr.mono (by first | decide | omega)) rfl T.m_l_hull T.F_l_hull.kp T.b_l_hull .nil pass0 (pa_cons (pv 5) (pa_cons (pv 2) pa_nil))) pa_nil)))))))))))))))))))), ?_⟩
  refine ⟨_, rfl, a, rfl, hS, fun n H1 st1 hn => ?_⟩
  refine ⟨_, rfl, _, rfl, a, n, rfl, st1.s, hn, fun v1 H2 Ps st2 b1 dP => ?_⟩
  have s2 := st1.trans st2
  refine ⟨_, rfl, _, rfl, a, n, rfl, st2.s, hn, fun v2 H3 Qs st3 b2 dQ => ?_⟩
  have s3 := s2.trans st3
  have b13 := b1.stp st3 st2.s
  have hT3 := hT.stp s3 nab.symm
  have z1 := hull_sz n Ps
  have z2 := hull_sz n Qs
  have c1 := hull_cloB (n := n) (Ps := Ps)
  have sm : ∀ M, hull n Ps = some M → Small n M := fun M e => by
    unfold hull at e
    split at e
    · cases e
    · rename_i ne
      cases e
      exact drawn_small dP ne
  have bd1 : BdB (n + 1) (hull n Ps) := hull_bdB fun r hr k hk => by
    have := dP.w r hr k hk
    omega
  have lenP : ∀ r ∈ ptsB n (hull n Ps), r.length = n := fun r hr => by
    cases e : hull n Ps with
    | none =>
      rw [e] at hr
      have hr' : r ∈ ([] : List (List Int)) := hr
      simp at hr'
    | some M =>
      rw [e] at hr
      rcases ptsB_or n M with h | h
      · rw [h] at hr
        exact (mem_pts.mp hr).1
      · rw [h] at hr
        simp at hr
  have capP : (ptsB n (hull n Ps)).length ≤ 1000000 := by
    cases e : hull n Ps with
    | none => show ([] : List (List Int)).length ≤ _; simp
    | some M =>
      rcases ptsB_or n M with h | h
      · rw [h]
        exact (sm M e).pts n (Nat.le_refl _)
      · rw [h]
        simp
  refine ⟨(by show 0 ≤ sizeLine; decide), fun pk hpk => ?_⟩
  have s4 := Same.new (o := .lst []) hpk
  refine ⟨fun σ G => ∃ (p' : Addr) (Ks : List (List Int)), σ = [some (.ref a), some (.ref b), some (.int n), some v1, some v2, some (.ref p'), none, none, none, none] ∧ Same H3 G ∧ Mx false true K G p' Ks ∧ (∀ r ∈ Ks, r.length = n) ∧ Ks.length ≤ 1000000 ∧ MeetB (n + 1) (hull n Ps) (hull n Qs) (hull n Ks), ?_, ?_⟩
  · cases hQ : hull n Qs with
    | none =>
      rw [hQ] at b2
      obtain rfl : v2 = .non := b2
      refine ⟨_, rfl, rfl, _, rfl, ifF rfl ?_⟩
      refine ⟨pk, [], rfl, s4, ⟨[], SqL.of upd_same, rfl, fun i x r e => by simp at e⟩, fun r hr => by simp at hr, by simp, ?_⟩
      cases hull n Ps <;> exact rfl
    | some N =>
      have zN : Sz (n + 1) N := z2 N hQ
      rw [hQ] at b2
      obtain ⟨q2, rfl, mN⟩ := b2
      refine ⟨_, rfl, rfl, _, rfl, ifT rfl ?_⟩
      refine ⟨_, rfl, v1, hull n Ps, n, rfl, by omega, b13.same s4, z1, sm, fun pp G1 t1 hPts => ?_⟩
      obtain ⟨as, e1, e2⟩ := hPts.pa
      have mN1 := mN.same (s4.trans t1)
      refine ⟨pp, rfl, ⟨_, SqL.of e1⟩, fun D hD => ?_⟩
      refine lc_it (walk_list (xs := as.map V.ref)) (FlP K G1 D (ptsB n (hull n Ps)) (fun r => InM n N r)) (FlP.start hD) (fun _ G _ P => SqL.of (P.1 _ _ e1)) ?_ ?_
      · rintro i x G G' hi P ⟨rfl, ex⟩
        rw [List.length_map, e2.1] at hi
        have er : (ptsB n (hull n Ps))[i]? = some (ptsB n (hull n Ps))[i] := List.getElem?_eq_getElem hi
        have ea : as[i]? = some (as[i]'(by rw [e2.1]; exact hi)) := List.getElem?_eq_getElem _
        have lr := lenP _ (List.mem_of_getElem? er)
        have ht := e2.2 _ _ _ ea er
        have ex' : x = .ref (as[i]'(by rw [e2.1]; exact hi)) := by
          rw [map_get ea] at ex
          exact (Option.some.inj ex).symm
        subst ex'
        generalize (ptsB n (hull n Ps))[i] = r at er lr ht
        generalize as[i]'(by rw [e2.1]; exact hi) = t at ht
        refine ⟨rfl, ?_⟩
        refine ⟨_, rfl, _, rfl, q2, t, N, r, rfl, by omega, mN1.same P.1, by rw [lr]; exact zN, Same.tup P.1 ht, fun bb G2 s2 hb => ⟨_, rfl, ?_⟩⟩
        rw [lr] at hb
        have st := P.step hD s2 er ht (by omega)
        refine ite2 (fun h => ?_) (fun h => ?_)
        · exact ⟨_, rfl, st.1 (hb.mp h)⟩
        · exact st.2 fun z => h (hb.mpr z)
      · intro G P
        rw [List.length_map, e2.1] at P
        obtain ⟨sG, bs, h1, h2⟩ := P
        rw [List.take_length] at h2
        refine ⟨D, keepL (fun r => InM n N r) (ptsB n (hull n Ps)), rfl, s4.trans (t1.trans sG), ⟨bs, SqL.of h1, h2.1, (h2.same sG).2⟩, fun r hr => lenP r (mem_keep.mp hr).1, Nat.le_trans keep_len capP, ?_⟩
        cases hP : hull n Ps with
        | none => exact rfl
        | some M =>
          have cM := c1 M hP
          have cN := hull_cloB N hQ
          refine pts_hull cM (fun r lr => ?_) fun i hi => ?_
          · unfold minF InM
            constructor
            · intro h
              refine ⟨fun i hi j hj => ?_, fun i hi j hj => ?_⟩
              · have := h i hi j hj
                omega
              · have := h i hi j hj
                omega
            · rintro ⟨h1, h2⟩ i hi j hj
              have := h1 i hi j hj
              have := h2 i hi j hj
              omega
          · unfold minF
            rw [cM.d i hi, cN.d i hi]
            decide
  rintro σ G ⟨p', Ks, rfl, sG, hK, lK, cK, mK⟩
  refine ⟨_, rfl, _, rfl, _, rfl, _, rfl, p', n, Ks, rfl, by omega, hK, lK, cK, fun v3 G1 t1 b3 => ?_⟩
  refine ⟨v1, v2, v3, _, _, _, n + 1, rfl, b13.same (sG.trans t1), b2.same (sG.trans t1), b3, z1, z2, c1, by omega, mK, fun G2 t2 => ?_⟩
  have S2 := (sG.trans t1).trans t2
  have s5 := s3.same S2
  refine ⟨_, rfl, ifF rfl ?_⟩
  have hT5 := hT.stp s5 nab.symm
  refine ⟨_, rfl, _, rfl, _, rfl, _, _, rfl, rfl, ?_⟩
  refine ⟨b, n, _, rfl, hT5, hn, fun h => ?_, fun G3 st4 => ?_⟩
  · have : (n : Int) < 4 := of_decide_eq_true h
    omega
  refine ⟨_, rfl, ifF rfl ?_⟩
  refine ⟨_, rfl, rfl, _, rfl, ite2 (fun _ => q G3) (fun hn0 => ?_)⟩
  have n0 : 0 < n := by
    refine Nat.pos_of_ne_zero fun z => hn0 ?_
    subst z
    rfl
  have b15 := (b13.same S2).stp st4 hT5
  refine ⟨_, rfl, _, rfl, _, _, rfl, rfl, b, _, rfl, st4.s, by omega, fun i0 G4 st5 i00 i01 => ?_⟩
  obtain ⟨i, rfl⟩ : ∃ m : Nat, i0 = (m : Int) := ⟨i0.toNat, by omega⟩
  have hi : i < n + 1 := by omega
  have b16 := b15.stp st5 st4.s
  refine ⟨_, rfl, _, _, rfl, rfl, _, rfl, _, rfl, b, n, rfl, st5.s, by omega, fun r0 G5 st6 r00 r01 => ?_⟩
  obtain ⟨r, rfl⟩ : ∃ m : Nat, r0 = (m : Int) := ⟨r0.toNat, by omega⟩
  have hr' : r < n := by omega
  obtain ⟨me, mj, mne⟩ := mod_at hi hr'
  have b17 := b16.stp st6 st5.s
  refine ⟨_, _, rfl, rfl, .inl ⟨_, rfl, ?_⟩⟩
  refine ⟨_, rfl, _, _, rfl, rfl, _, _, rfl, rfl, (by omega), ?_⟩
  dsimp only
  rw [me]
  generalize (i + 1 + r) % (n + 1) = j at mj mne
  refine ⟨_, rfl, _, rfl, _, rfl, _, rfl, b, v1, hull n Ps, n + 1, i, j, rfl, st6.s, b17, z1, bd1, hi, mj, fun c G6 st7 => ?_⟩
  have b18 := b17.stp st7 st6.s
  refine ⟨_, rfl, v1, hull n Ps, n, rfl, by omega, b18, z1, sm, fun pp G7 t7 hPts => ?_⟩
  obtain ⟨as, e1, e2⟩ := hPts.pa
  have b19 := b18.same t7
  refine ⟨pp, rfl, ⟨_, SqL.of e1⟩, fun D hD => ?_⟩
  refine lc_it (walk_list (xs := as.map V.ref)) (FlP K G7 D (ptsB n (hull n Ps)) (fun r => dif i j r ≤ c)) (FlP.start hD) (fun _ G _ P => SqL.of (P.1 _ _ e1)) ?_ ?_
  · rintro k x F F' hk P ⟨rfl, ex⟩
    rw [List.length_map, e2.1] at hk
    have er : (ptsB n (hull n Ps))[k]? = some (ptsB n (hull n Ps))[k] := List.getElem?_eq_getElem hk
    have ea : as[k]? = some (as[k]'(by rw [e2.1]; exact hk)) := List.getElem?_eq_getElem _
    have lr := lenP _ (List.mem_of_getElem? er)
    have ht := e2.2 _ _ _ ea er
    have ex' : x = .ref (as[k]'(by rw [e2.1]; exact hk)) := by
      rw [map_get ea] at ex
      exact (Option.some.inj ex).symm
    subst ex'
    generalize (ptsB n (hull n Ps))[k] = r at er lr ht
    generalize as[k]'(by rw [e2.1]; exact hk) = t at ht
    refine ⟨rfl, ?_⟩
    have ht' := Same.tup P.1 ht
    refine ⟨(by show 1 ≤ sizeLine; decide), fun t1 ht1 => ?_⟩
    refine ⟨_, rfl, cat0 (SqT.of upd_same) (Same.tup (Same.new ht1 _) ht') (by omega) fun z1 Fa sa hz1 => ?_⟩
    refine ⟨_, rfl, z1, _, _, _, rfl, rfl, hz1, by have := atI_row (r := 0 :: r) (i := i) (by simp; omega); rw [Int.zero_add] at this; exact this, ?_⟩
    have s1 := (Same.new ht1 (.tup [.int 0])).trans sa
    refine ⟨(by show 1 ≤ sizeLine; decide), fun t2 ht2 => ?_⟩
    refine ⟨_, rfl, cat0 (SqT.of upd_same) (Same.tup (s1.trans (Same.new ht2 _)) ht') (by omega) fun z2 Fb sb hz2 => ?_⟩
    refine ⟨_, rfl, z2, _, _, _, rfl, rfl, hz2, by have := atI_row (r := 0 :: r) (i := j) (by simp; omega); rw [Int.zero_add] at this; exact this, ?_⟩
    have s2 := s1.trans ((Same.new ht2 (.tup [.int 0])).trans sb)
    have st := P.step hD s2 er ht (by omega)
    refine ⟨_, _, rfl, rfl, _, rfl, _, _, rfl, rfl, _, rfl, ite2 (fun h => ?_) (fun h => ?_)⟩
    · exact ⟨_, rfl, st.1 (of_decide_eq_true h)⟩
    · exact st.2 (of_decide_eq_false (Bool.eq_false_iff.mpr h))
  · intro F P
    rw [List.length_map, e2.1] at P
    obtain ⟨sF, bs, h1, h2⟩ := P
    rw [List.take_length] at h2
    refine ⟨_, rfl, _, rfl, _, rfl, _, rfl, _, rfl, _, rfl, D, n, keepL (fun r => dif i j r ≤ c) (ptsB n (hull n Ps)), rfl, by omega, ⟨bs, SqL.of h1, h2.1, (h2.same sF).2⟩, fun r hr => lenP r (mem_keep.mp hr).1, Nat.le_trans keep_len capP, fun v5 F5 s5 b5 => ?_⟩
    refine ⟨v1, v5, hull n Ps, _, n + 1, i, j, c, rfl, b19.same (sF.trans s5), b5, z1, c1, hi, mj, by omega, ?_, fun G9 => q G9⟩
    cases hP : hull n Ps with
    | none => exact rfl
    | some M =>
      have cM := c1 M hP
      have best1 := bnd_best (c := c) (Best.self (z1 M hP) cM) hi mj
      refine Best.uniq (pts_hull cM (fun r lr => ?_) fun k hk => ?_) best1
      · unfold cutF
        constructor
        · intro h
          refine ⟨fun a ha b hb => ?_, ?_⟩
          · have := h a ha b hb
            split at this <;> omega
          · have := h i hi j mj
            rw [if_pos ⟨rfl, rfl⟩] at this
            omega
        · rintro ⟨h1, h2⟩ a ha b hb
          have := h1 a ha b hb
          split
          · rename_i e
            obtain ⟨rfl, rfl⟩ := e
            omega
          · exact this
      · unfold cutF
        rw [if_neg (fun z => mne (z.2.symm.trans z.1)), cM.d k hk]
        exact Int.le_refl _
end
/-! ### law k18: chains -/
/-- a row of places, as values -/
def NL (L : List Nat) : List V := L.map fun (i : Nat) => V.int (i : Int)
theorem erase_perm {α : Type} : ∀ {L : List α} {k : Nat} {x : α}, L[k]? = some x → L.Perm (x :: L.eraseIdx k)
  | [], _, _, e => by simp at e
  | y :: L, 0, x, e => by
    have : y = x := by simpa using e
    subst this
    exact List.Perm.refl _
  | y :: L, k + 1, x, e => by
    have ih := erase_perm (L := L) (k := k) (x := x) (by simpa using e)
    rw [List.eraseIdx_cons_succ]
    exact (List.Perm.cons y ih).trans (List.Perm.swap x y _)
theorem NL_erase {L : List Nat} {k : Nat} : (NL L).eraseIdx k = NL (L.eraseIdx k) := by
  unfold NL
  induction L generalizing k with
  | nil => rfl
  | cons y L ih =>
    cases k with
    | zero => rfl
    | succ k => simp only [List.map_cons, List.eraseIdx_cons_succ, ih]
/-- an order of the columns: where each one stands -/
structure Ordr (m : Nat) (O : List Nat) (P : Nat → Nat) : Prop where
  l : O.length = m
  o : ∀ x, 1 ≤ x → x ≤ m → P x < m ∧ O[P x]? = some x
  p : ∀ k < m, ∃ x, O[k]? = some x ∧ 1 ≤ x ∧ x ≤ m ∧ P x = k
theorem ordr_of {m : Nat} {O : List Nat} (pm : O.Perm ((List.range m).map (· + 1))) : ∃ P, Ordr m O P := by
  have l : O.length = m := by rw [pm.length_eq, List.length_map, List.length_range]
  have nd : O.Nodup := pm.nodup_iff.mpr (List.pairwise_map.mpr (List.pairwise_lt_range.imp fun h z => by omega))
  have lt : ∀ x ∈ O, 1 ≤ x ∧ x ≤ m := fun x hx => by
    obtain ⟨k, hk, rfl⟩ := List.mem_map.mp (pm.mem_iff.mp hx)
    rw [List.mem_range] at hk
    omega
  have al : ∀ x, 1 ≤ x → x ≤ m → x ∈ O := fun x h1 h2 => pm.mem_iff.mpr (List.mem_map.mpr ⟨x - 1, List.mem_range.mpr (by omega), by omega⟩)
  have ex : ∀ x, ∃ k, 1 ≤ x ∧ x ≤ m → k < m ∧ O[k]? = some x := fun x => by
    by_cases hi : 1 ≤ x ∧ x ≤ m
    · obtain ⟨k, hk, e⟩ := List.getElem_of_mem (al x hi.1 hi.2)
      exact ⟨k, fun _ => ⟨by omega, by rw [List.getElem?_eq_getElem hk, e]⟩⟩
    · exact ⟨0, fun h => absurd h hi⟩
  obtain ⟨P, hP⟩ := Classical.skolem.mp ex
  refine ⟨P, l, fun x h1 h2 => hP x ⟨h1, h2⟩, fun k hk => ?_⟩
  have e : O[k]? = some (O[k]'(by omega)) := List.getElem?_eq_getElem _
  have hx := lt _ (List.mem_of_getElem? e)
  exact ⟨_, e, hx.1, hx.2, nodup_ix nd (hP _ hx).2 e⟩
theorem Ordr.inj {m : Nat} {O : List Nat} {P : Nat → Nat} (h : Ordr m O P) {x y : Nat} (x1 : 1 ≤ x) (x2 : x ≤ m) (y1 : 1 ≤ y) (y2 : y ≤ m) (e : P x = P y) : x = y := by
  have a := (h.o x x1 x2).2
  have b := (h.o y y1 y2).2
  rw [e, b] at a
  exact (Option.some.inj a).symm
/-- steps of 0 to 3 -/
def Stps (m : Nat) (S : Nat → Int) : Prop := ∀ k < m, S k ≤ S (k + 1) ∧ S (k + 1) ≤ S k + 3
theorem Stps.le {m : Nat} {S : Nat → Int} (h : Stps m S) : ∀ {d p : Nat}, p + d ≤ m → S p ≤ S (p + d) ∧ S (p + d) ≤ S p + 3 * (d : Int)
  | 0, p, _ => by simp
  | d + 1, p, hp => by
    have a := h.le (d := d) (p := p) (by omega)
    have b := h (p + d) (by omega)
    rw [show p + (d + 1) = p + d + 1 by omega]
    omega
theorem Stps.bd {m p q : Nat} {S : Nat → Int} (h : Stps m S) (hm : m ≤ 20) (hp : p ≤ q) (hq : q ≤ m) : 0 ≤ S q - S p ∧ S q - S p ≤ 60 := by
  have a := h.le (d := q - p) (p := p) (by omega)
  rw [show p + (q - p) = q by omega] at a
  omega
def bF (a b : Nat) : Int := if a = b then 0 else if 1 ≤ a ∧ 1 ≤ b then 2000 else 1000
open Classical in
/-- some entries told by the sums -/
noncomputable def seF (E : Nat → Nat → Prop) (P : Nat → Nat) (S : Nat → Int) (a b : Nat) : Int := if 1 ≤ a ∧ 1 ≤ b ∧ P a < P b ∧ E (P a) (P b) then S (P b) - S (P a) else bF a b
theorem se_yes {E : Nat → Nat → Prop} {P : Nat → Nat} {S : Nat → Int} {a b : Nat} (h : 1 ≤ a ∧ 1 ≤ b ∧ P a < P b ∧ E (P a) (P b)) : seF E P S a b = S (P b) - S (P a) := if_pos h
theorem se_no {E : Nat → Nat → Prop} {P : Nat → Nat} {S : Nat → Int} {a b : Nat} (h : ¬ (1 ≤ a ∧ 1 ≤ b ∧ P a < P b ∧ E (P a) (P b))) : seF E P S a b = bF a b := if_neg h
theorem se_clo {m : Nat} {O : List Nat} {P : Nat → Nat} {S : Nat → Int} {E : Nat → Nat → Prop} (h : Ordr m O P) (hs : Stps m S) (hm : m ≤ 20) (hE : ∀ p q r, p < q → q < r → E p q → E q r → E p r) : Clo (m + 1) (getM (mkM (m + 1) (seF E P S))) := by
  refine ⟨fun i hi => ?_, fun a ha b hb k hk => ?_⟩
  · rw [mkM_get hi hi, se_no fun z => absurd z.2.2.1 (by omega)]
    unfold bF
    rw [if_pos rfl]
  · rw [mkM_get ha hb, mkM_get ha hk, mkM_get hk hb]
    have bd : ∀ {x y : Nat}, x < m + 1 → y < m + 1 → (1 ≤ x ∧ 1 ≤ y ∧ P x < P y ∧ E (P x) (P y)) → 0 ≤ S (P y) - S (P x) ∧ S (P y) - S (P x) ≤ 60 := fun {x y} hx hy z => by
      have := (h.o y z.2.1 (by omega)).1
      exact hs.bd hm (by omega) (by omega)
    have top : seF E P S a b ≤ 2000 ∧ (a = 0 ∨ b = 0 → seF E P S a b ≤ 1000) := by
      by_cases z : 1 ≤ a ∧ 1 ≤ b ∧ P a < P b ∧ E (P a) (P b)
      · rw [se_yes z]
        have := bd ha hb z
        omega
      · rw [se_no z]
        unfold bF
        refine ⟨?_, fun q => ?_⟩
        · split
          · omega
          · split <;> omega
        · split
          · omega
          · rw [if_neg (by omega)]; omega
    by_cases z1 : 1 ≤ a ∧ 1 ≤ k ∧ P a < P k ∧ E (P a) (P k)
    · have b1 := bd ha hk z1
      by_cases z2 : 1 ≤ k ∧ 1 ≤ b ∧ P k < P b ∧ E (P k) (P b)
      · rw [se_yes z1, se_yes z2, se_yes ⟨z1.1, z2.2.1, by omega, hE _ _ _ z1.2.2.1 z2.2.2.1 z1.2.2.2 z2.2.2.2⟩]
        omega
      · rw [se_yes z1, se_no z2]
        unfold bF
        by_cases e : k = b
        · subst e
          rw [if_pos rfl, se_yes z1]
          omega
        · rw [if_neg e]
          split
          · omega
          · rename_i q
            have := top.2 (by omega)
            omega
    · by_cases z2 : 1 ≤ k ∧ 1 ≤ b ∧ P k < P b ∧ E (P k) (P b)
      · have b2 := bd hk hb z2
        rw [se_no z1, se_yes z2]
        unfold bF
        by_cases e : a = k
        · subst e
          rw [if_pos rfl, se_yes z2]
          omega
        · rw [if_neg e]
          split
          · omega
          · rename_i q
            have := top.2 (by omega)
            omega
      · rw [se_no z1, se_no z2]
        by_cases e : a = k
        · subst e
          have : bF a a = 0 := if_pos rfl
          rw [this, se_no z2]
          omega
        · by_cases e2 : k = b
          · subst e2
            have : bF k k = 0 := if_pos rfl
            rw [this, se_no z1]
            omega
          · have h1 : 1000 ≤ bF a k := by
              unfold bF
              rw [if_neg e]
              split <;> omega
            have h2 : 1000 ≤ bF k b := by
              unfold bF
              rw [if_neg e2]
              split <;> omega
            have := top.1
            omega
def evE (f : Nat) : Nat → Nat → Prop := fun p q => q = p + 1 ∧ f ≤ p ∧ (p - f) % 2 = 0
theorem chain_meet {m : Nat} {O : List Nat} {P : Nat → Nat} {S : Nat → Int} (h : Ordr m O P) (hs : Stps m S) (hm : m ≤ 20) :
    MeetB (m + 1) (some (mkM (m + 1) (seF (evE 0) P S))) (some (mkM (m + 1) (seF (evE 1) P S))) (some (mkM (m + 1) (seF (fun _ _ => True) P S))) := by
  refine ⟨mkM_sz, se_clo h hs hm fun _ _ _ _ _ _ _ => trivial, fun a ha b hb => ?_, fun C hC hl a ha b hb => ?_⟩
  · unfold minF
    rw [mkM_get ha hb, mkM_get ha hb, mkM_get ha hb]
    have one : ∀ f, seF (fun _ _ => True) P S a b ≤ seF (evE f) P S a b := fun f => by
      by_cases z : 1 ≤ a ∧ 1 ≤ b ∧ P a < P b ∧ evE f (P a) (P b)
      · rw [se_yes z, se_yes ⟨z.1, z.2.1, z.2.2.1, trivial⟩]
        omega
      · rw [se_no z]
        by_cases z2 : 1 ≤ a ∧ 1 ≤ b ∧ P a < P b ∧ True
        · rw [se_yes z2]
          have := (h.o b z2.2.1 (by omega)).1
          have bd := hs.bd hm (p := P a) (q := P b) (by omega) (by omega)
          unfold bF
          have ne : a ≠ b := fun e => by
            have := z2.2.2.1
            rw [e] at this
            omega
          rw [if_neg ne, if_pos ⟨z2.1, z2.2.1⟩]
          omega
        · rw [se_no z2]
          omega
    have h0 := one 0
    have h1 := one 1
    omega
  · rw [mkM_get ha hb]
    have le : ∀ {x y : Nat}, x < m + 1 → y < m + 1 → C x y ≤ seF (evE 0) P S x y ∧ C x y ≤ seF (evE 1) P S x y := fun {x y} hx hy => by
      have := hl x hx y hy
      unfold minF at this
      rw [mkM_get hx hy, mkM_get hx hy] at this
      omega
    by_cases z : 1 ≤ a ∧ 1 ≤ b ∧ P a < P b ∧ True
    · rw [se_yes z]
      have along : ∀ d p, p + d + 1 < m → ∀ x y, O[p]? = some x → O[p + d + 1]? = some y → 1 ≤ x → x ≤ m → 1 ≤ y → y ≤ m → P x = p → P y = p + d + 1 → C x y ≤ S (p + d + 1) - S p := by
        intro d
        induction d with
        | zero =>
          intro p hp x y ex ey x1 x2 y1 y2 px py
          have l := le (x := x) (y := y) (by omega) (by omega)
          by_cases ev : p % 2 = 0
          · have := l.1
            rw [se_yes ⟨x1, y1, by omega, by rw [px, py]; exact ⟨rfl, by omega, by omega⟩⟩, px, py] at this
            exact this
          · have := l.2
            rw [se_yes ⟨x1, y1, by omega, by rw [px, py]; exact ⟨rfl, by omega, by omega⟩⟩, px, py] at this
            exact this
        | succ d ih =>
          intro p hp x y ex ey x1 x2 y1 y2 px py
          obtain ⟨u, eu, u1, u2, pu⟩ := h.p (p + d + 1) (by omega)
          have h1 := ih p (by omega) x u ex eu x1 x2 u1 u2 px pu
          have l := le (x := u) (y := y) (by omega) (by omega)
          have h2 : C u y ≤ S (p + (d + 1) + 1) - S (p + d + 1) := by
            by_cases ev : (p + d + 1) % 2 = 0
            · have := l.1
              rw [se_yes ⟨u1, y1, by omega, by rw [pu, py]; exact ⟨by omega, by omega, by omega⟩⟩, pu, py] at this
              exact this
            · have := l.2
              rw [se_yes ⟨u1, y1, by omega, by rw [pu, py]; exact ⟨by omega, by omega, by omega⟩⟩, pu, py] at this
              exact this
          have t := hC.t x (by omega) y (by omega) u (by omega)
          omega
      have oa := h.o a z.1 (by omega)
      have ob := h.o b z.2.1 (by omega)
      have e : P a + (P b - P a - 1) + 1 = P b := by omega
      have := along (P b - P a - 1) (P a) (by omega) a b oa.2 (by rw [e]; exact ob.2) z.1 (by omega) z.2.1 (by omega) rfl (by omega)
      rwa [e] at this
    · rw [se_no z]
      have := (le ha hb).1
      rwa [se_no fun q => z ⟨q.1, q.2.1, q.2.2.1, trivial⟩] at this
/-! ### law k18: great boxes, chains, the law -/
def SecD (N : Nat) (M O : List (List Int)) (i j : Nat) (B : Option (List (List Int))) : Prop := ∃ D : Nat → Nat → Int, Best N D B ∧ ∀ C, Clo N C → (LeF N C D ↔ LeF N C (getM M) ∧ ∀ a b, ((a < i ∧ b < N) ∨ (a = i ∧ b < j)) → a ≠ b → C a b ≤ getM O a b)
theorem SecD.step {N i j : Nat} {M O : List (List Int)} {B : Option (List (List Int))} (h : SecD N M O i j B) (hi : i < N) (hj : j < N) : SecD N M O i (j + 1) (bndB N i j (getM O i j) B) ∨ i = j := by
  by_cases e : i = j
  · exact .inr e
  obtain ⟨D, h1, h2⟩ := h
  refine .inl ⟨_, bnd_best h1 hi hj, fun C hC => ?_⟩
  rw [cutF_le hi hj, h2 C hC]
  constructor
  · rintro ⟨⟨h1, h2⟩, h3⟩
    refine ⟨h1, fun a b z ne => ?_⟩
    by_cases e : a = i ∧ b = j
    · obtain ⟨rfl, rfl⟩ := e
      exact h3
    · exact h2 a b (by omega) ne
  · rintro ⟨h1, h2⟩
    exact ⟨⟨h1, fun a b z ne => h2 a b (by omega) ne⟩, h2 i j (by omega) e⟩
theorem SecD.skip {N i : Nat} {M O : List (List Int)} {B : Option (List (List Int))} (h : SecD N M O i i B) : SecD N M O i (i + 1) B := by
  obtain ⟨D, h1, h2⟩ := h
  refine ⟨D, h1, fun C hC => ?_⟩
  rw [h2 C hC]
  constructor
  · rintro ⟨h1, h2⟩
    exact ⟨h1, fun a b z ne => h2 a b (by omega) ne⟩
  · rintro ⟨h1, h2⟩
    exact ⟨h1, fun a b z ne => h2 a b (by omega) ne⟩
theorem SecD.row {N i : Nat} {M O : List (List Int)} {B : Option (List (List Int))} (h : SecD N M O i N B) : SecD N M O (i + 1) 0 B := by
  obtain ⟨D, h1, h2⟩ := h
  refine ⟨D, h1, fun C hC => ?_⟩
  rw [h2 C hC]
  constructor
  · rintro ⟨h1, h2⟩
    exact ⟨h1, fun a b z ne => h2 a b (by omega) ne⟩
  · rintro ⟨h1, h2⟩
    exact ⟨h1, fun a b z ne => h2 a b (by omega) ne⟩
theorem SecD.meet {N : Nat} {M O : List (List Int)} {B : Option (List (List Int))} (cO : Clo N (getM O)) (h : SecD N M O N 0 B) : MeetB N (some M) (some O) B := by
  obtain ⟨D, h1, h2⟩ := h
  refine Best.congr (fun C hC => ?_) h1
  rw [h2 C hC]
  unfold minF
  constructor
  · rintro ⟨h1, h2⟩ a ha b hb
    show C a b ≤ min (getM M a b) (getM O a b)
    have := h1 a ha b hb
    by_cases e : a = b
    · subst e
      have := hC.d a ha
      have := cO.d a ha
      omega
    · have := h2 a b (.inl ⟨ha, hb⟩) e
      omega
  · intro h
    refine ⟨fun a ha b hb => ?_, fun a b z _ => ?_⟩
    · have : C a b ≤ min (getM M a b) (getM O a b) := h a ha b hb
      omega
    · have : C a b ≤ min (getM M a b) (getM O a b) := h a (by omega) b (by omega)
      omega
section
variable {P : Program} {w : World} {K : PySem.W.Frag} {mg : Str → Option Value} {base : Heap}
theorem ok_l_asks_wide (T : Txt w K mg) : FnOk P w K mg base CX0 5 T.a_l_asks_wide T.d_l_asks_wide p_l_asks_wide (spSmall K) := by
  have g_l_pick := ok_l_pick (P := P) (w := w) (base := base) T
  have g_l_number := ok_l_numberB (P := P) (w := w) (base := base) T
  have g_l_wide_box := ok_l_wide_box (P := P) (w := w) (K := K) (base := base) T
  have g_l_bounded := ok_l_bounded (P := P) (w := w) (K := K) (base := base) T
  have g_l_meets := ok_l_meets (P := P) (w := w) (K := K) (base := base) T
  have g_l_ranges := ok_l_ranges (P := P) (w := w) (K := K) (base := base) T
  have g_l_part := ok_l_part (P := P) (w := w) (K := K) (base := base) T
  have g_l_bounds := ok_l_bounds (P := P) (w := w) (K := K) (base := base) T
  refine T.F_l_asks_wide.ok sc_l_asks_wide (fun vs H Q E h => ?_) (fun cdv A outer s H vs Q E hr h => ?_)
  · obtain ⟨a, b, rfl, _⟩ := h
    rfl
  obtain ⟨a, b, rfl, nab, hS, hT, q⟩ := h
  refine ⟨_, (pss_cons (ps_set (i := 2) sc_l_asks_wide.nd rfl (Or.inl rfl) (pe_op op_add pe_int (pe_call g_l_pick (hr.mono (by first | decide | omega)) rfl T.m_l_pick T.F_l_pick.kp T.b_l_pick .nil pass0 (pa_cons (pv 0) (pa_cons pe_int pa_nil)))))
      (pss_cons (ps_set (i := 3) sc_l_asks_wide.nd rfl (Or.inl rfl) (pe_lst pa_nil))
      (C8.pss_cut (ps_if (pt_cmpR op_gt (pe_call g_l_pick (hr.mono (by first | decide | omega)) rfl T.m_l_pick T.F_l_pick.kp T.b_l_pick .nil pass0 (pa_cons (pv 0) (pa_cons pe_int pa_nil))) pe_int (nomark _)) (pss_one (ps_set (i := 3) sc_l_asks_wide.nd rfl (Or.inl rfl) (pe_lst (pa_cons (pe_callTy call_tuple_of rfl T.z_tuple bt_tuple (pa_cons (pe_lc (own := [("_law_c", 4)]) (g := gName 4) (tt := tYes) rfl sc_l_asks_wide.nd (pi_range1 rfl T.z_range (pa_cons (pv 2) pa_nil)) (blkOk_by (own := [("_law_c", 4)]) (N := n_l_asks_wide) (sc := defScope s_l_asks_wide) (by decide +kernel)) (fun _ _ _ _ _ => (pg_name (i := 4) sc_l_asks_wide.nd rfl (Or.inl rfl))) (fun _ _ _ _ _ => pts_nil) (fun _ _ _ _ _ => (pe_call g_l_number (hr.mono (by first | decide | omega)) rfl T.m_l_number T.F_l_number.kp T.b_l_number .nil pass0 (pa_cons (pv 0) pa_nil)))) pa_nil)) pa_nil)))) pss_nil)
      (pss_cons (ps_set (i := 5) sc_l_asks_wide.nd rfl (Or.inl rfl) (pe_call g_l_wide_box (hr.mono (by first | decide | omega)) rfl T.m_l_wide_box T.F_l_wide_box.kp T.b_l_wide_box .nil pass0 (pa_cons (pv 0) (pa_cons (pv 2) (pa_cons (pv 3) pa_nil)))))
      (pss_cons (ps_set (i := 6) sc_l_asks_wide.nd rfl (Or.inl rfl) (pe_call g_l_wide_box (hr.mono (by first | decide | omega)) rfl T.m_l_wide_box T.F_l_wide_box.kp T.b_l_wide_box .nil pass0 (pa_cons (pv 0) (pa_cons (pv 2) (pa_cons (pv 3) pa_nil)))))
      (pss_cons (ps_set (i := 7) sc_l_asks_wide.nd rfl (Or.inl rfl) (pv 5))
      (pss_cons (ps_for PassesOwn.never rfl (pi_range1 rfl T.z_range (pa_cons (pe_op op_add (pv 2) pe_int) pa_nil)) (pg_name (i := 8) sc_l_asks_wide.nd rfl (Or.inl rfl))
        (pss_one (ps_for PassesOwn.never rfl (pi_range1 rfl T.z_range (pa_cons (pe_op op_add (pv 2) pe_int) pa_nil)) (pg_name (i := 9) sc_l_asks_wide.nd rfl (Or.inl rfl))
        (pss_one (ps_if (pt_cmpR op_ne (pv 8) (pv 9) (nomark _)) (pss_one (ps_set (i := 7) sc_l_asks_wide.nd rfl (Or.inl rfl) (pe_call g_l_bounded (hr.mono (by first | decide | omega)) rfl T.m_l_bounded T.F_l_bounded.kp T.b_l_bounded .nil pass0 (pa_cons (pv 7) (pa_cons (pv 8) (pa_cons (pv 9) (pa_cons (pe_ix ix_tup (pe_ix ix_tup (pv 6) (pv 8) (fun _ _ => rfl)) (pv 9) (fun _ _ => rfl)) pa_nil))))))) pss_nil)))))
      (pss_cons (ps_if (pt_not (pt_val (pe_call g_l_meets (hr.mono (by first | decide | omega)) rfl T.m_l_meets T.F_l_meets.kp T.b_l_meets .nil pass0 (pa_cons (pv 5) (pa_cons (pv 6) (pa_cons (pv 7) pa_nil)))))) (pss_one (ps_ret pe_bl)) pss_nil)
      (pss_cons (ps_if (pt_not (pt_val (pe_call g_l_ranges (hr.mono (by first | decide | omega)) rfl T.m_l_ranges T.F_l_ranges.kp T.b_l_ranges .nil pass0 (pa_cons (pv 1) (pa_cons (pv 2) (pa_cons pe_bl pa_nil)))))) (pss_one (ps_ret pe_bl)) pss_nil)
      (pss_cons (ps_set (i := 8) sc_l_asks_wide.nd rfl (Or.inl rfl) (pe_call g_l_pick (hr.mono (by first | decide | omega)) rfl T.m_l_pick T.F_l_pick.kp T.b_l_pick .nil pass0 (pa_cons (pv 1) (pa_cons (pe_op op_add (pv 2) pe_int) pa_nil))))
      (pss_cons (ps_set (i := 9) sc_l_asks_wide.nd rfl (Or.inl rfl) (pe_op op_modN (pe_callTy call_int1 rfl T.z_int bt_int (pa_cons (pe_op op_add (pe_op op_add (pv 8) pe_int) (pe_call g_l_pick (hr.mono (by first | decide | omega)) rfl T.m_l_pick T.F_l_pick.kp T.b_l_pick .nil pass0 (pa_cons (pv 1) (pa_cons (pv 2) pa_nil)))) pa_nil)) (pe_op op_add (pv 2) pe_int)))
      (pss_cons (ps_set (i := 10) sc_l_asks_wide.nd rfl (Or.inl rfl) (pe_call g_l_part (hr.mono (by first | decide | omega)) rfl T.m_l_part T.F_l_part.kp T.b_l_part .nil pass0 (pa_cons (pv 1) (pa_cons (pv 5) (pa_cons (pv 8) (pa_cons (pv 9) pa_nil))))))
      (pss_one (ps_ret (pe_call g_l_bounds (hr.mono (by first | decide | omega)) rfl T.m_l_bounds T.F_l_bounds.kp T.b_l_bounds .nil pass0 (pa_cons (pv 5) (pa_cons (pv 8) (pa_cons (pv 9) (pa_cons (pv 10) (pa_cons (pe_call g_l_bounded (hr.mono (by first | decide | omega)) rfl T.m_l_bounded T.F_l_bounded.kp T.b_l_bounded .nil pass0 (pa_cons (pv 5) (pa_cons (pv 8) (pa_cons (pv 9) (pa_cons (pv 10) pa_nil))))) pa_nil)))))))))))))))))))), ?_⟩
  refine ⟨_, rfl, a, 5, rfl, hS, by decide, fun n0 H1 st1 n00 n01 => ?_⟩
  refine ⟨_, _, rfl, rfl, ?_⟩
  obtain ⟨n, en⟩ : ∃ n : Nat, 1 + n0 = (n : Int) := ⟨(1 + n0).toNat, by omega⟩
  dsimp only
  rw [en]
  have n1 : 1 ≤ n := by omega
  have n5 : n ≤ 5 := by omega
  refine ⟨(by show 0 ≤ sizeLine; decide), fun ps hps => ?_⟩
  have s1 := st1.new (o := .lst []) hps
  refine ⟨fun σ G => ∃ (p' : Addr) (Ss : List (List Int)), σ = [some (.ref a), some (.ref b), some (.int n), some (.ref p'), none, none, none, none, none, none, none] ∧ Stp a H G ∧ Pts K G p' Ss ∧ (∀ r ∈ Ss, r.length = n ∧ Wth 1000000000000000000 r) ∧ Ss.length ≤ 20, ?_, ?_⟩
  · refine ⟨_, rfl, a, 4, rfl, s1.s, by decide, fun d H2 st2 d0 d1 => ⟨_, _, rfl, rfl, _, rfl, ite2 (fun _ => ?_) (fun _ => ?_)⟩⟩
    · have s2 := s1.trans st2
      refine ⟨_, rfl, _, rfl, by omega, by omega, fun D hD => ?_⟩
      refine lc_it walk_range (LcP (fun F => Stp a H2 F) (fun _ y _ => ∃ k : Int, y = .int k ∧ -1000000000000000000 ≤ k ∧ k ≤ 1000000000000000000) D) ⟨(Stp.refl s2.s).new hD, [], upd_same, rfl, fun j y e => by simp at e⟩ (fun _ _ _ _ => trivial) ?_ ?_
      · rintro j x F F' hj PF ⟨rfl, rfl⟩
        refine ⟨rfl, tyes ?_⟩
        refine ⟨_, rfl, a, rfl, PF.1.s, fun k F2 st3 k0 k1 => ?_⟩
        exact lcp_step PF (fun o e => st3.k _ _ (s2.s.ne hD).symm e) (lt_line (by omega)) (fun o => (PF.1.trans st3).put s2.s hD) (fun _ _ _ h => h) fun _ => ⟨_, rfl, k0, k1⟩
      · intro F PF
        obtain ⟨sF, acc, h1, h2, h3⟩ := PF
        obtain ⟨ns, rfl, hns⟩ := ints_ofQ h3
        rw [List.length_map] at h2
        refine ⟨D, _, rfl, .inl ⟨SqL.of h1, fun t ht => ?_⟩⟩
        have s3 := (s2.trans sF).new (o := .tup (ns.map V.int)) ht
        refine ⟨(by show 1 ≤ sizeLine; decide), fun L hL => ?_⟩
        refine ⟨L, [ns], rfl, s3.new hL, ⟨[t], upd_same, rfl, fun i x r e1 e2 => ?_⟩, fun r hr => ?_, by simp⟩
        · cases i with
          | zero =>
            cases e1
            cases e2
            exact Same.tup (Same.new hL _) (SqT.of upd_same)
          | succ i => simp at e1
        · rw [List.mem_singleton.mp hr]
          exact ⟨by omega, hns⟩
    · exact ⟨ps, [], rfl, s1.trans st2, (show Pts K _ ps [] from ⟨[], upd_same, rfl, fun i x r e => by simp at e⟩).stp st2 s1.s (st1.s.ne hps).symm, fun r hr => by simp at hr, by simp⟩
  rintro σ G ⟨pp, Ss, rfl, sG, hSs, wSs, lSs⟩
  have npa : pp ≠ a := by
    obtain ⟨as, e, _⟩ := hSs
    obtain ⟨c, m, k, e2⟩ := sG.s
    intro z
    rw [z, e2] at e
    have := Option.some.inj e
    cases as with
    | nil => cases this
    | cons x xs => cases this
  refine ⟨_, rfl, _, rfl, _, rfl, a, pp, n, Ss, rfl, sG.s, hSs, wSs, lSs, by omega, fun v1 H2 Ps st2 b1 ne1 wP => ?_⟩
  have s2 := sG.trans st2
  refine ⟨_, rfl, _, rfl, _, rfl, a, pp, n, Ss, rfl, st2.s, hSs.stp st2 sG.s npa, wSs, lSs, by omega, fun v2 H3 Qs st3 b2 ne2 wQ => ?_⟩
  have s3 := s2.trans st3
  have b13 := b1.stp st3 st2.s
  have z1 := hull_sz n Ps
  have c1 := hull_cloB (n := n) (Ps := Ps)
  have bd1 : BdB (n + 1) (hull n Ps) := hull_bdB fun r hr => (wP r hr).2
  have e1 := hull_some (n := n) ne1
  have e2 := hull_some (n := n) ne2
  have cM := hull_clo (n := n) ne1
  have cO := hull_clo (n := n) ne2
  have sO := hullM_sz n Qs
  obtain ⟨p2, rfl, mO⟩ : ∃ p2, v2 = .ref p2 ∧ Mx true true K H3 p2 (hullM n Qs) := by
    rw [e2] at b2
    exact b2
  have start : SecD (n + 1) (hullM n Ps) (hullM n Qs) 0 0 (some (hullM n Ps)) := ⟨_, Best.self (hullM_sz n Ps) cM, fun C _ => ⟨fun h => ⟨h, fun a b z => by omega⟩, fun h => h.1⟩⟩
  rw [e1] at b13
  refine ⟨_, rfl, ?_⟩
  refine ⟨_, rfl, _, _, rfl, rfl, _, rfl, by omega, by omega, for_range (lo := 0) (fun i σ G => ∃ (vd : V) (B : Option (List (List Int))) (x y : Option V), σ = [some (.ref a), some (.ref b), some (.int n), some (.ref pp), none, some v1, some (.ref p2), some vd, x, y, none] ∧ Same H3 G ∧ BoxAt K G vd B ∧ SecD (n + 1) (hullM n Ps) (hullM n Qs) i 0 B) ⟨v1, _, none, none, rfl, Same.refl _, b13, start⟩ ?_ ?_⟩
  · rintro i σ G hi ⟨vd, B, x, y, rfl, sG, hB, tB⟩
    have hi' : i < n + 1 := by omega
    refine ⟨_, rfl, _, _, rfl, rfl, _, rfl, by omega, by omega, for_range (lo := 0) (fun j σ G => ∃ (vd : V) (B : Option (List (List Int))) (y : Option V), σ = [some (.ref a), some (.ref b), some (.int n), some (.ref pp), none, some v1, some (.ref p2), some vd, some (.int (0 + (i : Int))), y, none] ∧ Same H3 G ∧ BoxAt K G vd B ∧ SecD (n + 1) (hullM n Ps) (hullM n Qs) i j B) ⟨vd, B, y, rfl, sG, hB, tB⟩ ?_ ?_⟩
    · rintro j σ G hj ⟨vd, B, y, rfl, sG, hB, tB⟩
      have hj' : j < n + 1 := by omega
      refine ⟨_, rfl, _, rfl, rfl, _, rfl, ite2 (fun h => ?_) (fun h => ?_)⟩
      · have ne : i ≠ j := fun z => by
          subst z
          simp at h
        obtain ⟨vs2, a2, r2, g1, g2, g3, g4⟩ := (mO.same sG).get3 sO hi' hj'
        refine ⟨_, rfl, _, rfl, _, rfl, _, rfl, _, rfl, p2, _, _, _, rfl, rfl, g1, by rw [Int.zero_add]; exact g2, _, rfl, a2, _, _, _, rfl, rfl, g3, by rw [Int.zero_add]; exact g4, ?_⟩
        have szB : BSz (n + 1) B := by
          obtain ⟨D, h1, _⟩ := tB
          exact h1.sz
        refine ⟨vd, B, n + 1, i, j, _, by rw [Int.zero_add, Int.zero_add]; rfl, by omega, hB, szB, hi', hj', fun v3 G3 s3 b3 => ?_⟩
        rcases tB.step hi' hj' with t | t
        · exact ⟨v3, _, _, rfl, sG.trans s3, b3, t⟩
        · exact absurd t ne
      · have eq : i = j := by
          refine Classical.byContradiction fun z => h ?_
          rw [decide_eq_false fun e => z (by have := V.int.inj e; omega)]
          rfl
        subst eq
        exact ⟨vd, B, _, rfl, sG, hB, tB.skip⟩
    · rintro σ G ⟨vd, B, y, rfl, sG, hB, tB⟩
      have e : ((n : Int) + 1).toNat = n + 1 := by omega
      have tB' : SecD (n + 1) (hullM n Ps) (hullM n Qs) i (n + 1) B := by
        rw [e] at tB
        exact tB
      exact ⟨vd, B, _, _, rfl, sG, hB, tB'.row⟩
  rintro σ G ⟨vd, B, x, y, rfl, sG2, hB, tB⟩
  have e : ((n : Int) + 1).toNat = n + 1 := by omega
  have tB' : SecD (n + 1) (hullM n Ps) (hullM n Qs) (n + 1) 0 B := by
    rw [e] at tB
    exact tB
  have mt := tB'.meet cO
  have zz1 : BSz (n + 1) (some (hullM n Ps)) := fun M e => by
    cases e
    exact hullM_sz n Ps
  have zz2 : BSz (n + 1) (some (hullM n Qs)) := fun M e => by
    cases e
    exact sO
  have cc1 : CloB (n + 1) (some (hullM n Ps)) := fun M e => by
    cases e
    exact cM
  refine ⟨_, rfl, _, rfl, _, rfl, v1, .ref p2, vd, some (hullM n Ps), some (hullM n Qs), B, n + 1, rfl, b13.same sG2, ⟨p2, rfl, mO.same sG2⟩, hB, zz1, zz2, cc1, by omega, mt, fun G3 t3 => ?_⟩
  refine ⟨_, rfl, ifF rfl ?_⟩
  have S3 := sG2.trans t3
  have hT5 := (hT.stp s3 nab.symm).stp (Stp.of_same s3.s S3) nab.symm
  refine ⟨_, rfl, _, rfl, b, n, false, rfl, hT5, by omega, (fun z => by cases z), fun G4 st4 => ?_⟩
  refine ⟨_, rfl, ifF rfl ?_⟩
  have b15 := (b13.same S3).stp st4 hT5
  refine ⟨_, rfl, _, rfl, _, _, rfl, rfl, b, _, rfl, st4.s, by omega, fun i0 G5 st5 i00 i01 => ?_⟩
  obtain ⟨i, rfl⟩ : ∃ m : Nat, i0 = (m : Int) := ⟨i0.toNat, by omega⟩
  have hi : i < n + 1 := by omega
  have b16 := b15.stp st5 st4.s
  refine ⟨_, rfl, _, _, rfl, rfl, _, rfl, _, rfl, b, n, rfl, st5.s, by omega, fun r0 G6 st6 r00 r01 => ?_⟩
  obtain ⟨r, rfl⟩ : ∃ m : Nat, r0 = (m : Int) := ⟨r0.toNat, by omega⟩
  have hr' : r < n := by omega
  obtain ⟨me, mj, mne⟩ := mod_at hi hr'
  have b17 := b16.stp st6 st5.s
  refine ⟨_, _, rfl, rfl, .inl ⟨_, rfl, ?_⟩⟩
  refine ⟨_, rfl, _, _, rfl, rfl, _, _, rfl, rfl, (by omega), ?_⟩
  dsimp only
  rw [me]
  generalize (i + 1 + r) % (n + 1) = j at mj mne
  rw [e1] at bd1 z1 c1
  refine ⟨_, rfl, _, rfl, _, rfl, _, rfl, b, v1, _, n + 1, i, j, rfl, st6.s, b17, z1, bd1, hi, mj, fun c G7 st7 => ?_⟩
  have b18 := b17.stp st7 st6.s
  refine ⟨_, rfl, _, rfl, _, rfl, _, rfl, _, rfl, _, rfl, _, rfl, _, rfl, v1, some (hullM n Ps), n + 1, i, j, c, rfl, by omega, b18, z1, hi, mj, fun v8 G8 s8 b8 => ?_⟩
  exact ⟨v1, v8, _, _, n + 1, i, j, c, rfl, b18.same s8, b8, z1, c1, hi, mj, by omega, rfl, fun G9 => q G9⟩
end
/-! ### law k18: chains drawn, the law -/
theorem rgc2 : ∀ i : Nat, i < 21 → ∀ j : Nat, j < 21 → Builtin.Range.small (i : Int) (j : Int) 2 = true ∧ Builtin.Range.rangeSize (i : Int) (j : Int) 2 = (((j + 1 - i) / 2 : Nat) : Int) := by decide +kernel
/-- entries told so far -/
noncomputable def chF (P : Nat → Nat) (S : Nat → Int) (f t : Nat) : Nat → Nat → Int := seF (fun p q => evE f p q ∧ p < f + 2 * t) P S
theorem ch_step {m f t k : Nat} {O : List Nat} {P : Nat → Nat} {S : Nat → Int} {x y : Nat} (h : Ordr m O P) (ek : k = f + 2 * t) (hk : k + 1 < m) (ex : P x = k) (ey : P y = k + 1) (x1 : 1 ≤ x) (x2 : x ≤ m) (y1 : 1 ≤ y) (y2 : y ≤ m) :
    mkM (m + 1) (updF (chF P S f t) x y (S (k + 1) - S k)) = mkM (m + 1) (chF P S f (t + 1)) := mkM_congr fun a ha b hb => by
  unfold updF
  by_cases e : a = x ∧ b = y
  · obtain ⟨rfl, rfl⟩ := e
    rw [if_pos ⟨rfl, rfl⟩]
    unfold chF
    rw [se_yes ⟨x1, y1, by omega, ⟨by omega, by omega, by rw [ex, ek]; omega⟩, by omega⟩, ex, ey]
  · rw [if_neg e]
    unfold chF
    by_cases z : 1 ≤ a ∧ 1 ≤ b ∧ P a < P b ∧ (evE f (P a) (P b) ∧ P a < f + 2 * t)
    · rw [se_yes z, se_yes ⟨z.1, z.2.1, z.2.2.1, z.2.2.2.1, by omega⟩]
    · rw [se_no z, se_no ?_]
      rintro ⟨a1, b1, lt, ⟨e1, e2, e3⟩, lt2⟩
      have ne : P a ≠ k := fun q => by
        have ea := h.inj a1 (by omega) x1 x2 (q.trans ex.symm)
        have eb := h.inj b1 (by omega) y1 y2 (by rw [e1, q, ey])
        exact e ⟨ea, eb⟩
      exact z ⟨a1, b1, lt, ⟨e1, e2, e3⟩, by omega⟩
theorem ch_end {m f t : Nat} {P : Nat → Nat} {S : Nat → Int} {O : List Nat} (h : Ordr m O P) (ht : m ≤ f + 2 * t + 1) : mkM (m + 1) (chF P S f t) = mkM (m + 1) (seF (evE f) P S) := mkM_congr fun a ha b hb => by
  unfold chF
  by_cases z : 1 ≤ a ∧ 1 ≤ b ∧ P a < P b ∧ evE f (P a) (P b)
  · have := (h.o b z.2.1 (by omega)).1
    have := z.2.2.2.1
    rw [se_yes z, se_yes ⟨z.1, z.2.1, z.2.2.1, z.2.2.2, by omega⟩]
  · rw [se_no z, se_no fun q => z ⟨q.1, q.2.1, q.2.2.1, q.2.2.2.1⟩]
theorem ch_start {m f : Nat} {P : Nat → Nat} {S : Nat → Int} : mkM (m + 1) (chF P S f 0) = mkM (m + 1) bF := mkM_congr fun a ha b hb => by
  unfold chF
  rw [se_no fun q => by
    have := q.2.2.2.2
    have := q.2.2.2.1.2.1
    omega]
def spChain (K : PySem.W.Frag) : Sp := fun vs H Q _ => ∃ (a po ps : Addr) (f m : Nat) (O : List Nat) (P : Nat → Nat) (S : Nat → Int), vs = [.ref a, .ref po, .int f, .ref ps] ∧ Src H a ∧ SqL K H po (NL O) ∧ SqL K H ps ((mkR (m + 1) S).map V.int) ∧ Ordr m O P ∧ 1 ≤ m ∧ m ≤ 19 ∧ f ≤ m ∧
  ∀ v H', Same H H' → BoxAt K H' v (some (mkM (m + 1) (seF (evE f) P S))) → Q v H'
/-- entries told so far, pair by pair -/
noncomputable def duF (P : Nat → Nat) (S : Nat → Int) (A B : Nat) : Nat → Nat → Int := seF (fun p q => p < A ∨ (p = A ∧ q < B)) P S
theorem du_step {m A B : Nat} {O : List Nat} {P : Nat → Nat} {S : Nat → Int} {x y : Nat} (h : Ordr m O P) (ex : P x = A) (ey : P y = B) (lt : A < B) (x1 : 1 ≤ x) (x2 : x ≤ m) (y1 : 1 ≤ y) (y2 : y ≤ m) :
    mkM (m + 1) (updF (duF P S A B) x y (S B - S A)) = mkM (m + 1) (duF P S A (B + 1)) := mkM_congr fun a ha b hb => by
  unfold updF
  by_cases e : a = x ∧ b = y
  · obtain ⟨rfl, rfl⟩ := e
    rw [if_pos ⟨rfl, rfl⟩]
    unfold duF
    rw [se_yes ⟨x1, y1, by omega, .inr ⟨by omega, by omega⟩⟩, ex, ey]
  · rw [if_neg e]
    unfold duF
    by_cases z : 1 ≤ a ∧ 1 ≤ b ∧ P a < P b ∧ (P a < A ∨ (P a = A ∧ P b < B))
    · rw [se_yes z, se_yes ⟨z.1, z.2.1, z.2.2.1, by omega⟩]
    · rw [se_no z, se_no ?_]
      rintro ⟨a1, b1, lt2, q⟩
      have ne : ¬ (P a = A ∧ P b = B) := fun q => e ⟨h.inj a1 (by omega) x1 x2 (q.1.trans ex.symm), h.inj b1 (by omega) y1 y2 (q.2.trans ey.symm)⟩
      exact z ⟨a1, b1, lt2, by omega⟩
theorem du_row {m A : Nat} {O : List Nat} {P : Nat → Nat} {S : Nat → Int} (h : Ordr m O P) : mkM (m + 1) (duF P S A m) = mkM (m + 1) (duF P S (A + 1) (A + 2)) := mkM_congr fun a ha b hb => by
  unfold duF
  by_cases z : 1 ≤ a ∧ 1 ≤ b ∧ P a < P b ∧ (P a < A ∨ (P a = A ∧ P b < m))
  · rw [se_yes z, se_yes ⟨z.1, z.2.1, z.2.2.1, by omega⟩]
  · rw [se_no z, se_no ?_]
    rintro ⟨a1, b1, lt2, q⟩
    have := (h.o b b1 (by omega)).1
    exact z ⟨a1, b1, lt2, by omega⟩
theorem du_start {m : Nat} {P : Nat → Nat} {S : Nat → Int} : mkM (m + 1) (duF P S 0 1) = mkM (m + 1) bF := mkM_congr fun a ha b hb => by
  unfold duF
  rw [se_no fun q => by
    have := q.2.2.1
    have := q.2.2.2
    omega]
theorem du_end {m : Nat} {O : List Nat} {P : Nat → Nat} {S : Nat → Int} (h : Ordr m O P) : mkM (m + 1) (duF P S m (m + 1)) = mkM (m + 1) (seF (fun _ _ => True) P S) := mkM_congr fun a ha b hb => by
  unfold duF
  by_cases z : 1 ≤ a ∧ 1 ≤ b ∧ P a < P b ∧ True
  · have := (h.o a z.1 (by omega)).1
    have h1 := se_yes (E := fun _ _ => True) (P := P) (S := S) z
    rw [h1]
    exact se_yes ⟨z.1, z.2.1, z.2.2.1, by omega⟩
  · have h1 := se_no (E := fun _ _ => True) (P := P) (S := S) z
    rw [h1]
    exact se_no fun q => z ⟨q.1, q.2.1, q.2.2.1, trivial⟩
theorem bF_out {m : Nat} {O : List Nat} {P : Nat → Nat} {S : Nat → Int} (h : Ordr m O P) : mkM (m + 1) (seF (evE m) P S) = mkM (m + 1) bF := mkM_congr fun a ha b hb => by
  rw [se_no fun q => by
    have := (h.o a q.1 (by omega)).1
    have := q.2.2.2.2.1
    omega]
theorem base_val (i j : Nat) : (2000 : Int) * (if decide (0 + (i : Int) > 0) = true then 1 else 0) * (if decide (0 + (j : Int) > 0) = true then 1 else 0) + 1000 * (if (!decide (V.bl (decide (0 + (i : Int) > 0)) = V.bl (decide (0 + (j : Int) > 0)))) = true then 1 else 0) = if 1 ≤ i ∧ 1 ≤ j then 2000 else if (1 ≤ i) = (1 ≤ j) then 0 else 1000 := by
  have hi : decide (0 + (i : Int) > 0) = decide (1 ≤ i) := by
    by_cases h : 1 ≤ i
    · rw [decide_eq_true h, decide_eq_true (by omega)]
    · rw [decide_eq_false h, decide_eq_false (by omega)]
  have hj : decide (0 + (j : Int) > 0) = decide (1 ≤ j) := by
    by_cases h : 1 ≤ j
    · rw [decide_eq_true h, decide_eq_true (by omega)]
    · rw [decide_eq_false h, decide_eq_false (by omega)]
  rw [hi, hj]
  by_cases h1 : 1 ≤ i <;> by_cases h2 : 1 ≤ j <;> simp [h1, h2]
def rF (i j : Nat) : Int := if 1 ≤ i ∧ 1 ≤ j then 2000 else if (1 ≤ i) = (1 ≤ j) then 0 else 1000
theorem rF_set {n i : Nat} : (mkR n (rF i)).set i 0 = mkR n (bF i) := by
  rw [mkR_set]
  congr 1
  funext b
  unfold rF bF
  by_cases e : b = i
  · subst e
    rw [if_pos rfl, if_pos rfl]
  · rw [if_neg e, if_neg (fun z => e z.symm : ¬ i = b)]
    by_cases h1 : 1 ≤ i <;> by_cases h2 : 1 ≤ b <;> simp [h1, h2]
    exact e (by omega)
theorem take_set {α : Type} {L : List α} {i : Nat} {x y : α} (h : (L.take i).length = i) : (L.take i ++ [x]).set i y = L.take i ++ [y] := by
  rw [List.set_append, if_neg (by omega), h, Nat.sub_self]
  rfl
theorem atI_NL {O : List Nat} {k x : Nat} (e : O[k]? = some x) : atI (NL O) (k : Int) = some (.int (x : Int)) := atI_nat (map_get e)
theorem atI_mk {m i : Nat} {f : Nat → Int} (h : i < m) : atI ((mkR m f).map V.int) (i : Int) = some (.int (f i)) := atI_nat (map_get (mkR_at h))
section
variable {P : Program} {w : World} {K : PySem.W.Frag} {mg : Str → Option Value} {base : Heap}
theorem ok_l_chain (T : Txt w K mg) : FnOk P w K mg base CX0 1 T.a_l_chain T.d_l_chain p_l_chain (spChain K) := by
  refine T.F_l_chain.ok sc_l_chain (fun vs H Q E h => ?_) (fun cdv A outer s H vs Q E hr h => ?_)
  · obtain ⟨a, po, ps, f, m, O, P, S, rfl, _⟩ := h
    rfl
  obtain ⟨a, po, ps, f, m, O, Ps, S, rfl, hS, hO, hs, od, m1, m19, hf, q⟩ := h
  refine ⟨_, (pss_cons (ps_set (i := 4) sc_l_chain.nd rfl (Or.inl rfl) (pe_callB call_len_seq rfl T.z_len PySem.boot_len (pa_cons (pv 1) pa_nil)))
      (pss_cons (ps_set (i := 5) sc_l_chain.nd rfl (Or.inl rfl) (pe_lst pa_nil))
      (pss_cons (ps_for PassesOwn.never rfl (pi_range1 rfl T.z_range (pa_cons (pe_op op_add (pv 4) pe_int) pa_nil)) (pg_name (i := 6) sc_l_chain.nd rfl (Or.inr rfl))
        (pss_cons (ps_expr (pe_bm PySem.F.plainAttrs_list PySem.F.slot_list_append PySem.F.type_list_append mt_append (pv 5) (pa_cons (pe_lc (own := [("_law_j", 7)]) (g := gName 7) (tt := tYes) rfl sc_l_chain.nd (pi_range1 rfl T.z_range (pa_cons (pe_op op_add (pv 4) pe_int) pa_nil)) (blkOk_by (own := [("_law_j", 7)]) (N := n_l_chain) (sc := defScope s_l_chain) (by decide +kernel)) (fun _ _ _ _ _ => (pg_name (i := 7) sc_l_chain.nd rfl (Or.inl rfl))) (fun _ _ _ _ _ => pts_nil) (fun _ _ _ _ _ => (pe_op op_add (pe_op op_mul (pe_op op_mul pe_int (pe_callTy call_int1 rfl T.z_int bt_int (pa_cons (pe_cmpR op_gt (pv 6) pe_int (nomark _)) pa_nil))) (pe_callTy call_int1 rfl T.z_int bt_int (pa_cons (pe_cmpR op_gt (pv 7) pe_int (nomark _)) pa_nil))) (pe_op op_mul pe_int (pe_callTy call_int1 rfl T.z_int bt_int (pa_cons (pe_cmpR op_ne (pe_cmpR op_gt (pv 6) pe_int (nomark _)) (pe_cmpR op_gt (pv 7) pe_int (nomark _)) (nomark _)) pa_nil)))))) pa_nil)))
      (pss_one (ps_asg pe_int (pg_sub (pe_ix ix_list (pv 5) (pv 6) (fun _ _ => rfl)) (pv 6) set_list)))))
      (pss_cons (ps_for PassesOwn.never rfl (pi_range3 rfl T.z_range (pa_cons (pv 2) (pa_cons (pe_op op_sub (pv 4) pe_int) (pa_cons pe_int pa_nil)))) (pg_name (i := 8) sc_l_chain.nd rfl (Or.inl rfl))
        (pss_cons (ps_set (i := 9) sc_l_chain.nd rfl (Or.inl rfl) (pe_ix ix_list (pv 5) (pe_ix ix_list (pv 1) (pv 8) (fun _ _ => rfl)) (fun _ _ => rfl)))
      (pss_one (ps_asg (pe_op op_sub (pe_ix ix_list (pv 3) (pe_op op_add (pv 8) pe_int) (fun _ _ => rfl)) (pe_ix ix_list (pv 3) (pv 8) (fun _ _ => rfl))) (pg_sub (pv 9) (pe_ix ix_list (pv 1) (pe_op op_add (pv 8) pe_int) (fun _ _ => rfl)) set_list)))))
      (pss_one (ps_ret (pe_callTy call_tuple_of rfl T.z_tuple bt_tuple (pa_cons (pe_lc (own := [("_law_row", 9)]) (g := gName 9) (tt := tYes) rfl sc_l_chain.nd (pi_list (pv 5)) (blkOk_by (own := [("_law_row", 9)]) (N := n_l_chain) (sc := defScope s_l_chain) (by decide +kernel)) (fun _ _ _ _ _ => (pg_name (i := 9) sc_l_chain.nd rfl (Or.inl rfl))) (fun _ _ _ _ _ => pts_nil) (fun _ _ _ _ _ => (pe_callTy (show CallR _ _ (rTupOf K) from call_tuple_of) rfl T.z_tuple bt_tuple (pa_cons (pv 9) pa_nil)))) pa_nil)))))))), ?_⟩
  have lO : (NL O).length = m := by unfold NL; rw [List.length_map, od.l]
  refine ⟨_, rfl, po, _, rfl, .inl hO, ?_⟩
  rw [lO]
  refine ⟨(by show 0 ≤ sizeLine; decide), fun pr hpr => ?_⟩
  have hR0 := RowsN.start (Stp.refl hS) hS hpr
  have s0 : Same H (upd H pr (.lst [])) := Same.new hpr _
  have put : ∀ {G : Hp} {x : Addr} {o : HO} {bs : List Addr} {Rs : List (List Int)}, RowsN a H G pr bs Rs → x ∈ bs → Same H G → Same H (upd G x o) := fun {G x o bs Rs} hG hx s b u e => by
    have ne : b ≠ x := fun z => by rw [z, hG.nw x hx] at e; cases e
    rw [upd_ne ne]
    exact s _ _ e
  refine ⟨_, rfl, _, _, rfl, rfl, _, rfl, by omega, by omega, for_range (lo := 0) (fun i σ G => (∃ x y : Option V, σ = [some (.ref a), some (.ref po), some (.int f), some (.ref ps), some (.int m), some (.ref pr), x, y, none, none]) ∧ Same H G ∧ ∃ bs, RowsN a H G pr bs ((mkM (m + 1) bF).take i)) ⟨⟨none, none, rfl⟩, s0, [], hR0⟩ ?_ ?_⟩
  · rintro i σ G hi ⟨⟨x, y, rfl⟩, sG, bs, hG⟩
    have hi' : i < m + 1 := by omega
    have lbs : bs.length = i := by
      rw [hG.rw.1, List.length_take, mkM_len]
      omega
    refine ⟨_, rfl, .inl ⟨rfl, _, SqL.of hG.e⟩, ?_⟩
    refine ⟨_, rfl, _, _, rfl, rfl, _, rfl, by omega, by omega, fun D hD => ?_⟩
    refine lc_it walk_range (LcP (Same G) (RInt (mkR (m + 1) (rF i))) D) (lcp_start hD) (fun _ _ _ _ => trivial) ?_ ?_
    · rintro j x F F' hj PF ⟨rfl, rfl⟩
      have hj' : j < m + 1 := by omega
      refine ⟨rfl, tyes ?_⟩
      refine ⟨_, rfl, _, _, rfl, rfl, .inr ⟨_, rfl, _, _, rfl, rfl, .inl ⟨by decide, by decide⟩, ?_⟩⟩
      refine ⟨_, rfl, _, _, rfl, rfl, .inr ⟨_, rfl, _, _, rfl, rfl, .inr ?_, ?_⟩⟩
      · split <;> exact ⟨by decide, by decide⟩
      refine ⟨_, rfl, _, _, rfl, rfl, _, rfl, _, _, rfl, rfl, rfl, .inr ⟨_, rfl, _, _, rfl, rfl, .inl ⟨by decide, by decide⟩, _, _, rfl, rfl, ?_⟩⟩
      dsimp only
      rw [base_val]
      exact lcp_same PF hD (Same.refl _) (lt_line (by omega)) RInt.mono ⟨_, mkR_at hj', rfl⟩
    · intro F PF
      have eF := lcp_ints (K := K) PF (by rw [mkR_len]; omega)
      have hF := hG.push (Stp.of_same hG.st.s PF.1) hD eF
      refine ⟨pr, _, _, rfl, rfl, PF.1 _ _ hG.e, lt_line (by rw [List.length_map, lbs]; omega), ?_⟩
      have i1 : atI ((bs ++ [D]).map V.ref) (0 + (i : Int)) = some (.ref D) := by
        rw [Int.zero_add]
        exact atI_nat (map_get (by rw [List.getElem?_append_right (by omega), lbs, Nat.sub_self]; rfl))
      have ix : ixN ((mkR (m + 1) (rF i)).map V.int).length (0 + (i : Int)) = some i := by
        have := ixN_int (n := ((mkR (m + 1) (rF i)).map V.int).length) (c := 0 + (i : Int)) (by omega) (by rw [List.length_map, mkR_len]; omega)
        rw [this]
        congr 1
        omega
      obtain ⟨x2, r2, ea2, er2, ex2⟩ := hF.rw.at (i := i) (by rw [List.length_append, List.length_take, mkM_len]; simp; omega)
      rw [List.getElem?_append_right (by omega), lbs, Nat.sub_self] at ea2
      cases ea2
      rw [List.getElem?_append_right (by rw [List.length_take, mkM_len]; omega), show i - (List.take i (mkM (m + 1) bF)).length = 0 by rw [List.length_take, mkM_len]; omega] at er2
      cases er2
      refine ⟨_, rfl, _, rfl, pr, _, _, _, rfl, rfl, SqL.of hF.e, i1, _, rfl, D, _, _, _, rfl, rfl, ex2, ix, ?_⟩
      rw [show ((mkR (m + 1) (rF i)).map V.int).set i (.int 0) = (mkR (m + 1) (bF i)).map V.int by rw [← rF_set, List.map_set]]
      have hp := hF.put (r' := mkR (m + 1) (bF i)) (i := i) (x := D) (by rw [List.getElem?_append_right (by omega), lbs, Nat.sub_self]; rfl)
      rw [take_set (by rw [List.length_take, mkM_len]; omega), ← mkM_app hi'] at hp
      refine ⟨⟨_, _, rfl⟩, fun b u e => ?_, _, hp⟩
      rw [upd_ne (ne_of_none (sG _ _ e) hD), upd_ne (ne_of_none e hpr)]
      exact PF.1 _ _ (sG _ _ e)
  · rintro σ G ⟨⟨x, y, rfl⟩, sG, bs, hG⟩
    rw [List.take_of_length_le (by rw [mkM_len]; omega)] at hG
    have lb : bs.length = m + 1 := by rw [hG.rw.1, mkM_len]
    have rg := rgc2 f (by omega) (m - 1) (by omega)
    have em : ((m - 1 : Nat) : Int) = (m : Int) - 1 := by omega
    rw [em] at rg
    refine ⟨_, rfl, _, rfl, _, _, rfl, rfl, _, _, _, _, rfl, ⟨by decide, by decide, rg.1, rg.2⟩, ?_⟩
    refine for_rangeC (fun t σ G => (∃ x y z u : Option V, σ = [some (.ref a), some (.ref po), some (.int f), some (.ref ps), some (.int m), some (.ref pr), x, y, z, u]) ∧ Same H G ∧ RowsN a H G pr bs (mkM (m + 1) (chF Ps S f t))) ⟨⟨_, _, _, _, rfl⟩, sG, by rw [ch_start]; exact hG⟩ ?_ ?_
    · rintro t σ G ht ⟨⟨x, y, z, u, rfl⟩, sG, hG⟩
      have hk : f + 2 * t + 1 < m := by omega
      obtain ⟨c1, o1, c11, c12, pc1⟩ := od.p (f + 2 * t) (by omega)
      obtain ⟨c2, o2, c21, c22, pc2⟩ := od.p (f + 2 * t + 1) hk
      have a1 := atI_NL o1
      have a2 := atI_NL o2
      have s1 := atI_mk (m := m + 1) (i := f + 2 * t) (f := S) (by omega)
      have s2 := atI_mk (m := m + 1) (i := f + 2 * t + 1) (f := S) (by omega)
      have ek : (f : Int) + (t : Nat) * 2 = ((f + 2 * t : Nat) : Int) := by omega
      have ek1 : ((f + 2 * t : Nat) : Int) + 1 = ((f + 2 * t + 1 : Nat) : Int) := by omega
      rw [ek]
      obtain ⟨xr, r, ea, er, ex⟩ := hG.rw.at (i := c1) (by rw [mkM_len]; omega)
      rw [mkM_at (by omega)] at er
      cases er
      have ix : ixN ((mkR (m + 1) (chF Ps S f t c1)).map V.int).length (c2 : Int) = some c2 := by
        have := ixN_int (n := ((mkR (m + 1) (chF Ps S f t c1)).map V.int).length) (c := (c2 : Int)) (by omega) (by rw [List.length_map, mkR_len]; omega)
        rw [this]
        congr 1
      refine ⟨_, rfl, _, rfl, _, rfl, po, _, _, _, rfl, rfl, sG.seq hO, a1, pr, _, _, _, rfl, rfl, SqL.of hG.e, atI_nat (map_get ea), ?_⟩
      refine ⟨_, rfl, _, rfl, _, _, rfl, rfl, ps, _, _, _, rfl, rfl, sG.seq hs, by rw [ek1]; exact s2, _, rfl, _, rfl, ps, _, _, _, rfl, rfl, sG.seq hs, s1, _, _, rfl, rfl, ?_⟩
      refine ⟨_, rfl, _, rfl, _, rfl, _, _, rfl, rfl, po, _, _, _, rfl, rfl, sG.seq hO, by rw [ek1]; exact a2, xr, _, _, _, rfl, rfl, ex, ix, ?_⟩
      dsimp only
      rw [← List.map_set]
      have hp := hG.put (r' := (mkR (m + 1) (chF Ps S f t c1)).set c2 (S (f + 2 * t + 1) - S (f + 2 * t))) ea
      rw [mkM_put, ch_step od rfl hk pc1 pc2 c11 c12 c21 c22] at hp
      exact ⟨⟨_, _, _, _, rfl⟩, put hG (List.mem_of_getElem? ea) sG, hp⟩
    · rintro σ G ⟨⟨x, y, z, u, rfl⟩, sG, hG⟩
      rw [ch_end od (by omega)] at hG
      refine ⟨_, rfl, pr, rfl, ⟨_, SqL.of hG.e⟩, fun D2 hD2 => ?_⟩
      refine lc_it (walk_list (xs := bs.map V.ref)) (LcP (Same G) (RRow K true (mkM (m + 1) (seF (evE f) Ps S)) D2) D2) (lcp_start hD2) (fun i F _ P => SqL.of (P.1 _ _ hG.e)) ?_ ?_
      · rintro i x F F' hi P ⟨rfl, ex⟩
        rw [List.length_map, lb] at hi
        obtain ⟨xa, r, ea, er, e3⟩ := hG.rw.at (i := i) (by rw [mkM_len]; exact hi)
        have exa : x = .ref xa := by
          rw [map_get ea] at ex
          exact (Option.some.inj ex).symm
        subst exa
        rw [mkM_at hi] at er
        cases er
        refine ⟨rfl, tyes ?_⟩
        refine ⟨_, rfl, xa, _, rfl, .inl ⟨SqL.of (P.1 _ _ e3), fun l hl => ?_⟩⟩
        exact lcp_same P hD2 (Same.new hl _) (lt_line (by omega)) RRow.mono ⟨l, _, rfl, mkM_at hi, P.ne hl, Sq.upd_sameT⟩
      · intro F P
        obtain ⟨cs, h1, h2, h3⟩ := lcp_rows P (by rw [List.length_map, lb, mkM_len])
        refine ⟨D2, _, rfl, .inl ⟨h1, fun l hl => ?_⟩⟩
        exact q _ _ ((sG.trans P.1).trans (Same.new hl _)) ⟨l, rfl, cs, Sq.upd_sameT, h2, fun i a r e1 e2 => Sq.same (Same.new hl _) (h3 i a r e1 e2)⟩
end
/-! ### law k18: chains asked, the law -/
def spAskC : Sp := fun vs H Q _ => ∃ a : Addr, vs = [.ref a] ∧ Src H a ∧ ∀ H', Stp a H H' → Q (.bl true) H'
theorem mkR_push {n : Nat} {f g : Nat → Int} {c : Int} (h : ∀ j < n, g j = f j) (e : g n = c) : (mkR n f).map V.int ++ [.int c] = (mkR (n + 1) g).map V.int := by
  unfold mkR
  rw [List.range_succ, List.map_append, List.map_append]
  congr 1
  · congr 1
    exact List.map_congr_left fun j hj => (h j (List.mem_range.mp hj)).symm
  · rw [← e]
    rfl
theorem rg_nl1 {r : Int} (h0 : 0 ≤ r) : rgV 1 (8 + r) = NL ((List.range (7 + r.toNat)).map (· + 1)) := by
  unfold rgV NL
  have e : (8 + r - 1).toNat = 7 + r.toNat := by omega
  rw [e, List.map_map]
  refine List.map_congr_left fun i _ => ?_
  show V.int _ = V.int _
  congr 1
  show (1 : Int) + (i : Int) = ((i + 1 : Nat) : Int)
  omega
theorem NL_len {L : List Nat} : (NL L).length = L.length := List.length_map _
section
variable {P : Program} {w : World} {K : PySem.W.Frag} {mg : Str → Option Value} {base : Heap}
theorem ok_l_asks_chain (T : Txt w K mg) : FnOk P w K mg base CX0 5 T.a_l_asks_chain T.d_l_asks_chain p_l_asks_chain spAskC := by
  have g_l_pick := ok_l_pick (P := P) (w := w) (base := base) T
  have g_l_chain := ok_l_chain (P := P) (w := w) (K := K) (base := base) T
  have g_l_meets := ok_l_meets (P := P) (w := w) (K := K) (base := base) T
  refine T.F_l_asks_chain.ok sc_l_asks_chain (fun vs H Q E h => ?_) (fun cdv A outer s H vs Q E hr h => ?_)
  · obtain ⟨a, rfl, _⟩ := h
    rfl
  obtain ⟨a, rfl, hS, q⟩ := h
  refine ⟨_, (pss_cons (ps_set (i := 1) sc_l_asks_chain.nd rfl (Or.inl rfl) (pe_listRg rfl rfl T.z_list (prg_2 rfl T.z_range pe_int (pe_op op_add pe_int (pe_call g_l_pick (hr.mono (by first | decide | omega)) rfl T.m_l_pick T.F_l_pick.kp T.b_l_pick .nil pass0 (pa_cons (pv 0) (pa_cons pe_int pa_nil)))))))
      (pss_cons (ps_set (i := 2) sc_l_asks_chain.nd rfl (Or.inl rfl) (pe_lst pa_nil))
      (pss_cons (ps_for PassesOwn.never rfl (pi_range1 rfl T.z_range (pa_cons (pe_callB call_len_seq rfl T.z_len PySem.boot_len (pa_cons (pv 1) pa_nil)) pa_nil)) (pg_name (i := 3) sc_l_asks_chain.nd rfl (Or.inl rfl))
        (pss_one (ps_expr (pe_bm PySem.F.plainAttrs_list PySem.F.slot_list_append PySem.F.type_list_append mt_append (pv 2) (pa_cons (pe_bm PySem.F.plainAttrs_list PySem.F.slot_list_pop PySem.F.type_list_pop mt_popAt (pv 1) (pa_cons (pe_call g_l_pick (hr.mono (by first | decide | omega)) rfl T.m_l_pick T.F_l_pick.kp T.b_l_pick .nil pass0 (pa_cons (pv 0) (pa_cons (pe_callB call_len_seq rfl T.z_len PySem.boot_len (pa_cons (pv 1) pa_nil)) pa_nil))) pa_nil)) pa_nil)))))
      (pss_cons (ps_set (i := 4) sc_l_asks_chain.nd rfl (Or.inl rfl) (pe_lst (pa_cons pe_int pa_nil)))
      (pss_cons (ps_for PassesOwn.never rfl (pi_range1 rfl T.z_range (pa_cons (pe_callB call_len_seq rfl T.z_len PySem.boot_len (pa_cons (pv 2) pa_nil)) pa_nil)) (pg_name (i := 3) sc_l_asks_chain.nd rfl (Or.inl rfl))
        (pss_one (ps_expr (pe_bm PySem.F.plainAttrs_list PySem.F.slot_list_append PySem.F.type_list_append mt_append (pv 4) (pa_cons (pe_op op_add (pe_ix ix_list (pv 4) (pv 3) (fun _ _ => rfl)) (pe_call g_l_pick (hr.mono (by first | decide | omega)) rfl T.m_l_pick T.F_l_pick.kp T.b_l_pick .nil pass0 (pa_cons (pv 0) (pa_cons pe_int pa_nil)))) pa_nil)))))
      (pss_cons (ps_set (i := 5) sc_l_asks_chain.nd rfl (Or.inl rfl) (pe_call g_l_chain (hr.mono (by first | decide | omega)) rfl T.m_l_chain T.F_l_chain.kp T.b_l_chain .nil pass0 (pa_cons (pv 0) (pa_cons (pv 2) (pa_cons pe_int (pa_cons (pv 4) pa_nil))))))
      (pss_cons (ps_set (i := 6) sc_l_asks_chain.nd rfl (Or.inl rfl) (pe_call g_l_chain (hr.mono (by first | decide | omega)) rfl T.m_l_chain T.F_l_chain.kp T.b_l_chain .nil pass0 (pa_cons (pv 0) (pa_cons (pv 2) (pa_cons pe_int (pa_cons (pv 4) pa_nil))))))
      (pss_cons (ps_setLc (i := 7) (own := [("_law_row", 8)]) (g := gName 8) (tt := tYes) rfl sc_l_asks_chain.nd rfl rfl (sw_true rfl rfl rfl (by decide +kernel)) (pi_tup (pe_call g_l_chain (hr.mono (by first | decide | omega)) rfl T.m_l_chain T.F_l_chain.kp T.b_l_chain .nil pass0 (pa_cons (pv 0) (pa_cons (pv 2) (pa_cons (pe_callB call_len_seq rfl T.z_len PySem.boot_len (pa_cons (pv 2) pa_nil)) (pa_cons (pv 4) pa_nil)))))) (blkOk_by (own := [("_law_row", 8)]) (N := n_l_asks_chain) (sc := defScope s_l_asks_chain) (by decide +kernel)) (fun _ _ _ _ _ => (pg_name (i := 8) sc_l_asks_chain.nd rfl (Or.inl rfl))) (fun _ _ _ _ _ => pts_nil) (fun _ _ _ _ _ => (pe_callTy (show CallR _ _ (rListOf K) from call_list_of) rfl T.z_list bt_list (pa_cons (pv 8) pa_nil))))
      (pss_cons (ps_for PassesOwn.never rfl (pi_range1 rfl T.z_range (pa_cons (pe_callB call_len_seq rfl T.z_len PySem.boot_len (pa_cons (pv 2) pa_nil)) pa_nil)) (pg_name (i := 9) sc_l_asks_chain.nd rfl (Or.inl rfl))
        (pss_one (ps_for PassesOwn.never rfl (pi_range2 rfl T.z_range (pa_cons (pe_op op_add (pv 9) pe_int) (pa_cons (pe_callB call_len_seq rfl T.z_len PySem.boot_len (pa_cons (pv 2) pa_nil)) pa_nil))) (pg_name (i := 10) sc_l_asks_chain.nd rfl (Or.inl rfl))
        (pss_cons (ps_set (i := 8) sc_l_asks_chain.nd rfl (Or.inl rfl) (pe_ix ix_list (pv 7) (pe_ix ix_list (pv 2) (pv 9) (fun _ _ => rfl)) (fun _ _ => rfl)))
      (pss_one (ps_asg (pe_op op_sub (pe_ix ix_list (pv 4) (pv 10) (fun _ _ => rfl)) (pe_ix ix_list (pv 4) (pv 9) (fun _ _ => rfl))) (pg_sub (pv 8) (pe_ix ix_list (pv 2) (pv 10) (fun _ _ => rfl)) set_list)))))))
      (pss_one (ps_ret (pe_call g_l_meets (hr.mono (by first | decide | omega)) rfl T.m_l_meets T.F_l_meets.kp T.b_l_meets .nil pass0 (pa_cons (pv 5) (pa_cons (pv 6) (pa_cons (pe_callTy call_tuple_of rfl T.z_tuple bt_tuple (pa_cons (pe_lc (own := [("_law_row", 8)]) (g := gName 8) (tt := tYes) rfl sc_l_asks_chain.nd (pi_list (pv 7)) (blkOk_by (own := [("_law_row", 8)]) (N := n_l_asks_chain) (sc := defScope s_l_asks_chain) (by decide +kernel)) (fun _ _ _ _ _ => (pg_name (i := 8) sc_l_asks_chain.nd rfl (Or.inl rfl))) (fun _ _ _ _ _ => pts_nil) (fun _ _ _ _ _ => (pe_callTy (show CallR _ _ (rTupOf K) from call_tuple_of) rfl T.z_tuple bt_tuple (pa_cons (pv 8) pa_nil)))) pa_nil)) pa_nil))))))))))))))), ?_⟩
  refine ⟨_, rfl, a, 13, rfl, hS, by decide, fun r0 H1 st1 r00 r01 => ?_⟩
  refine ⟨_, _, rfl, rfl, _, _, rfl, rfl, ⟨by omega, by omega, by omega, by omega, by omega⟩, fun pl hpl => ?_⟩
  dsimp only
  rw [rg_nl1 r00]
  generalize hm : 7 + r0.toNat = m
  have m1 : 1 ≤ m := by omega
  have m19 : m ≤ 19 := by omega
  have s3 := st1.new (o := .lst (NL ((List.range m).map (· + 1)))) hpl
  refine ⟨(by show 0 ≤ sizeLine; decide), fun po hpo => ?_⟩
  have npl : pl ≠ po := ne_of_none upd_same hpo
  have s4 := s3.new (o := .lst []) hpo
  have apo : a ≠ po := s3.s.ne hpo
  have apl : a ≠ pl := st1.s.ne hpl
  have hpl0 : H pl = none := st1.free hpl
  have hpo0 : H po = none := s3.free hpo
  have lm : ((List.range m).map (· + 1)).length = m := by rw [List.length_map, List.length_range]
  refine ⟨_, rfl, pl, _, rfl, .inl (SqL.of (by rw [upd_ne npl]; exact upd_same)), _, rfl, by omega, by rw [NL_len, lm]; omega, for_range (lo := 0) (fun i σ G => (∃ c : Option V, σ = [some (.ref a), some (.ref pl), some (.ref po), c, none, none, none, none, none, none, none]) ∧ Stp a H G ∧ ∃ L O : List Nat, G pl = some (.lst (NL L)) ∧ G po = some (.lst (NL O)) ∧ O.length = i ∧ (L ++ O).Perm ((List.range m).map (· + 1)))
    ⟨⟨none, rfl⟩, s4, (List.range m).map (· + 1), [], by rw [upd_ne npl]; exact upd_same, upd_same, rfl, by rw [List.append_nil]⟩ ?_ ?_⟩
  · rintro i σ G hi ⟨⟨c, rfl⟩, sG, L, O, eL, eO, lO, pm⟩
    rw [NL_len, lm] at hi
    have ll : L.length + i = m := by
      have := pm.length_eq
      rw [List.length_append, lm] at this
      omega
    have lNL : (NL L).length = L.length := List.length_map _
    refine ⟨_, rfl, .inl ⟨rfl, _, SqL.of eO⟩, _, rfl, .inl ⟨rfl, _, SqL.of eL⟩, ?_⟩
    refine ⟨_, rfl, _, rfl, pl, _, rfl, .inl (SqL.of eL), a, _, rfl, sG.s, by rw [lNL]; omega, fun r G2 st r1 r2 => ?_⟩
    rw [lNL] at r2
    have hk : r.toNat < L.length := by omega
    have eL2 := st.k _ _ apl.symm eL
    have eO2 := st.k _ _ apo.symm eO
    have ex : L[r.toNat]? = some L[r.toNat] := List.getElem?_eq_getElem hk
    have pe := erase_perm ex
    generalize L[r.toNat] = x at ex pe
    refine ⟨pl, _, r, r.toNat, .int (x : Int), rfl, rfl, eL2, by omega, by omega, (ixN_seq (ixN_int r1 (by rw [lNL]; omega))).1, map_get ex, ?_⟩
    have n1 : po ≠ pl := npl.symm
    refine ⟨po, _, _, rfl, rfl, by rw [upd_ne n1]; exact eO2, lt_line (by rw [NL_len]; omega), ⟨_, rfl⟩, ?_, L.eraseIdx r.toNat, O ++ [x], ?_, ?_, by rw [List.length_append, lO]; rfl, ?_⟩
    · exact ((sG.trans st).put hS hpl0).put hS hpo0
    · rw [upd_ne npl, NL_erase]
      exact upd_same
    · unfold NL
      rw [List.map_append]
      exact upd_same
    · refine List.Perm.trans ?_ pm
      rw [← List.append_assoc]
      have p1 : (L.eraseIdx r.toNat ++ O ++ [x]).Perm (x :: (L.eraseIdx r.toNat ++ O)) := List.perm_append_singleton x _
      refine p1.trans ?_
      rw [← List.cons_append]
      exact (List.Perm.append_right O pe).symm
  rintro σ G3 ⟨⟨c, rfl⟩, s5, L, O, eL, eO, lO, pmL⟩
  rw [NL_len, lm, Int.toNat_natCast] at lO
  have eLn : L = [] := by
    have := pmL.length_eq
    rw [List.length_append, lm] at this
    exact List.length_eq_zero_iff.mp (by omega)
  subst eLn
  rw [List.nil_append] at pmL
  obtain ⟨Ps, od⟩ := ordr_of pmL
  refine ⟨(by show 1 ≤ sizeLine; decide), fun ps hps => ?_⟩
  have aps : a ≠ ps := s5.s.ne hps
  have hps0 : H ps = none := s5.free hps
  have nops : po ≠ ps := ne_of_none eO hps
  have eO4 : (upd G3 ps (.lst [.int 0])) po = some (.lst (NL O)) := by rw [upd_ne nops]; exact eO
  refine ⟨_, rfl, po, _, rfl, .inl (SqL.of eO4), _, rfl, by omega, by rw [NL_len, lO]; omega, for_range (lo := 0) (fun i σ G => (∃ c : Option V, σ = [some (.ref a), some (.ref pl), some (.ref po), c, some (.ref ps), none, none, none, none, none, none]) ∧ Stp a H G ∧ G po = some (.lst (NL O)) ∧ ∃ S : Nat → Int, G ps = some (.lst ((mkR (i + 1) S).map V.int)) ∧ Stps i S)
    ⟨⟨_, rfl⟩, s5.new hps, eO4, fun _ => 0, upd_same, fun k hk => by omega⟩ ?_ ?_⟩
  · rintro i σ G hi ⟨⟨c, rfl⟩, sG, eO5, S, eS, hSt⟩
    rw [NL_len, lO] at hi
    have a1 := atI_mk (m := i + 1) (f := S) (i := i) (by omega)
    refine ⟨_, rfl, .inl ⟨rfl, _, SqL.of eS⟩, _, rfl, _, rfl, ps, _, _, _, rfl, rfl, SqL.of eS, by rw [Int.zero_add]; exact a1, ?_⟩
    refine ⟨_, rfl, a, 4, rfl, sG.s, by decide, fun r G2 st r1 r2 => ?_⟩
    have eS2 := st.k _ _ aps.symm eS
    have eO6 := st.k _ _ apo.symm eO5
    refine ⟨_, _, rfl, rfl, ps, _, _, rfl, rfl, eS2, lt_line (by rw [List.length_map, mkR_len]; omega), ⟨_, rfl⟩, (sG.trans st).put hS hps0, by rw [upd_ne nops]; exact eO6, fun j => if j ≤ i then S j else S i + r, ?_, fun k hk => ?_⟩
    · rw [upd_same]
      congr 2
      exact mkR_push (fun j hj => if_pos (by omega)) (if_neg (by omega))
    · dsimp only
      by_cases e : k < i
      · rw [if_pos (by omega), if_pos (by omega)]
        exact hSt k e
      · have : k = i := by omega
        subst this
        rw [if_pos (by omega), if_neg (by omega)]
        omega
  rintro σ G4 ⟨⟨c, rfl⟩, s6, eO4', S, eS, hSt⟩
  rw [NL_len, lO, Int.toNat_natCast] at eS hSt
  refine ⟨_, rfl, _, rfl, _, rfl, a, po, ps, 0, m, O, Ps, S, rfl, s6.s, SqL.of eO4', SqL.of eS, od, m1, m19, by omega, fun v1 H5 t5 b1 => ?_⟩
  refine ⟨_, rfl, _, rfl, _, rfl, a, po, ps, 1, m, O, Ps, S, rfl, (Stp.of_same s6.s t5).s, t5.seq (SqL.of eO4'), t5.seq (SqL.of eS), od, m1, m19, by omega, fun v2 H6 t6 b2 => ?_⟩
  have b1' := b1.same t6
  have t56 := t5.trans t6
  have hO6 := t56.seq (SqL.of (K := K) eO4')
  have hS6 := t56.seq (SqL.of (K := K) eS)
  refine ⟨_, rfl, _, rfl, _, rfl, po, _, rfl, .inl hO6, _, rfl, a, po, ps, m, m, O, Ps, S, (by rw [NL_len, lO]; rfl), (Stp.of_same s6.s t56).s, hO6, hS6, od, m1, m19, Nat.le_refl _, fun v3 H7 t7 b3 => ?_⟩
  have s7 := s6.same (t56.trans t7)
  have hO7 := t7.seq hO6
  have hS7 := t7.seq hS6
  have c1 := b1'.same t7
  have c2 := b2.same t7
  obtain ⟨p3, rfl, as, hA, lA, rA⟩ := b3
  rw [mkM_len] at lA
  refine ⟨p3, rfl, ⟨_, hA⟩, fun D hD => ?_⟩
  refine lc_it (walk_tup (xs := as.map V.ref)) (fun i G => Same H7 G ∧ ∃ bs, RowsN a H7 G D bs ((mkM (m + 1) bF).take i)) ?_ (fun i G _ P => Same.tup P.1 hA) ?_ ?_
  · exact ⟨Same.new hD _, [], RowsN.start (Stp.refl s7.s) s7.s hD⟩
  · rintro i x G G' hi ⟨sG, bs, hG⟩ ⟨rfl, ex⟩
    rw [List.length_map, lA] at hi
    have ea : as[i]? = some (as[i]'(by omega)) := List.getElem?_eq_getElem _
    generalize as[i] = xa at ea
    have exa : x = .ref xa := by
      rw [map_get ea] at ex
      exact (Option.some.inj ex).symm
    subst exa
    have rx := rA i xa _ ea (mkM_at hi)
    have e0 := bF_out (S := S) od
    refine ⟨rfl, tyes ?_⟩
    refine ⟨_, rfl, xa, _, rfl, .inr (Same.tup sG rx), fun l hl => ?_⟩
    have sl := Same.new hl (.lst ((mkR (m + 1) (seF (evE m) Ps S i)).map V.int))
    refine ⟨_, sl _ _ hG.e, lt_line (by rw [List.length_map, hG.rw.1]; have := List.length_take_le' i (mkM (m + 1) bF); rw [mkM_len] at this; omega), ?_, bs ++ [l], ?_⟩
    · exact fun b o e => by
        have ne : b ≠ D := fun z => by rw [z, hD] at e; cases e
        rw [upd_ne ne]
        exact sl _ _ (sG _ _ e)
    · rw [← e0] at hG ⊢
      rw [mkM_app hi]
      exact hG.push (Stp.of_same hG.st.s sl) hl upd_same
  rintro G8 ⟨sG, bs, hG⟩
  rw [List.length_map, lA, List.take_of_length_le (by rw [mkM_len]; omega), ← du_start (m := m) (P := Ps) (S := S)] at hG
  have lb : bs.length = m + 1 := by rw [hG.rw.1, mkM_len]
  have put : ∀ {G : Hp} {x : Addr} {o : HO} {bs : List Addr} {Rs : List (List Int)}, RowsN a H7 G D bs Rs → x ∈ bs → Same H7 G → Same H7 (upd G x o) := fun {G x o bs Rs} hG hx s b u e => by
    have ne : b ≠ x := fun z => by rw [z, hG.nw x hx] at e; cases e
    rw [upd_ne ne]
    exact s _ _ e
  refine ⟨_, rfl, po, _, rfl, .inl (sG.seq hO7), _, rfl, by omega, by rw [NL_len, lO]; omega, for_range (lo := 0) (fun i σ G => (∃ x y z : Option V, σ = [some (.ref a), some (.ref pl), some (.ref po), c, some (.ref ps), some v1, some v2, some (.ref D), x, y, z]) ∧ Same H7 G ∧ RowsN a H7 G D bs (mkM (m + 1) (duF Ps S i (i + 1))))
    ⟨⟨_, _, _, rfl⟩, sG, hG⟩ ?_ ?_⟩
  · rintro i σ G hi ⟨⟨x, y, z, rfl⟩, sG, hG⟩
    rw [NL_len, lO] at hi
    have hi' : i < m := by omega
    refine ⟨_, rfl, _, _, rfl, rfl, _, rfl, po, _, rfl, .inl (sG.seq hO7), _, _, rfl, ⟨by omega, by omega, by omega, by rw [NL_len, lO]; omega⟩, for_range (lo := 0 + (i : Int) + 1) (fun t σ G => (∃ x z : Option V, σ = [some (.ref a), some (.ref pl), some (.ref po), c, some (.ref ps), some v1, some v2, some (.ref D), x, some (.int (0 + (i : Int))), z]) ∧ Same H7 G ∧ RowsN a H7 G D bs (mkM (m + 1) (duF Ps S i (i + 1 + t))))
      ⟨⟨_, _, rfl⟩, sG, hG⟩ ?_ ?_⟩
    · rintro t σ G ht ⟨⟨x, z, rfl⟩, sG, hG⟩
      rw [NL_len, lO] at ht
      have hk : i + 1 + t < m := by omega
      obtain ⟨c1, o1, c11, c12, pc1⟩ := od.p i hi'
      obtain ⟨c2, o2, c21, c22, pc2⟩ := od.p (i + 1 + t) hk
      have a1 := atI_NL o1
      have a2 := atI_NL o2
      have s1 := atI_mk (m := m + 1) (i := i) (f := S) (by omega)
      have s2 := atI_mk (m := m + 1) (i := i + 1 + t) (f := S) (by omega)
      have ei : 0 + (i : Int) = (i : Int) := Int.zero_add _
      have ek : 0 + (i : Int) + 1 + (t : Nat) = ((i + 1 + t : Nat) : Int) := by omega
      rw [ek]
      obtain ⟨xr, r, ea, er, ex⟩ := hG.rw.at (i := c1) (by rw [mkM_len]; omega)
      rw [mkM_at (by omega)] at er
      cases er
      have ix : ixN ((mkR (m + 1) (duF Ps S i (i + 1 + t) c1)).map V.int).length (c2 : Int) = some c2 := by
        have := ixN_int (n := ((mkR (m + 1) (duF Ps S i (i + 1 + t) c1)).map V.int).length) (c := (c2 : Int)) (by omega) (by rw [List.length_map, mkR_len]; omega)
        rw [this]
        congr 1
      refine ⟨_, rfl, _, rfl, _, rfl, po, _, _, _, rfl, rfl, sG.seq hO7, by rw [ei]; exact a1, D, _, _, _, rfl, rfl, SqL.of hG.e, atI_nat (map_get ea), ?_⟩
      refine ⟨_, rfl, _, rfl, ps, _, _, _, rfl, rfl, sG.seq hS7, s2, _, rfl, _, rfl, ps, _, _, _, rfl, rfl, sG.seq hS7, by rw [ei]; exact s1, _, _, rfl, rfl, ?_⟩
      refine ⟨_, rfl, _, rfl, _, rfl, po, _, _, _, rfl, rfl, sG.seq hO7, a2, xr, _, _, _, rfl, rfl, ex, ix, ?_⟩
      dsimp only
      rw [← List.map_set]
      have hp := hG.put (r' := (mkR (m + 1) (duF Ps S i (i + 1 + t) c1)).set c2 (S (i + 1 + t) - S i)) ea
      rw [mkM_put, du_step od pc1 pc2 (by omega) c11 c12 c21 c22] at hp
      exact ⟨⟨_, _, rfl⟩, put hG (List.mem_of_getElem? ea) sG, hp⟩
    · rintro σ G ⟨⟨x, z, rfl⟩, sG, hG⟩
      rw [NL_len, lO, show i + 1 + ((m : Int) - (0 + (i : Int) + 1)).toNat = m by omega, du_row od] at hG
      exact ⟨⟨_, _, _, rfl⟩, sG, hG⟩
  · rintro σ G ⟨⟨x, y, z, rfl⟩, sG, hG⟩
    rw [NL_len, lO, Int.toNat_natCast, du_end od] at hG
    refine ⟨_, rfl, _, rfl, _, rfl, D, rfl, ⟨_, SqL.of hG.e⟩, fun D2 hD2 => ?_⟩
    refine lc_it (walk_list (xs := bs.map V.ref)) (LcP (Same G) (RRow K true (mkM (m + 1) (seF (fun _ _ => True) Ps S)) D2) D2) (lcp_start hD2) (fun i F _ P => SqL.of (P.1 _ _ hG.e)) ?_ ?_
    · rintro i x F F' hi P ⟨rfl, ex⟩
      rw [List.length_map, lb] at hi
      obtain ⟨xa, r, ea, er, e3⟩ := hG.rw.at (i := i) (by rw [mkM_len]; exact hi)
      have exa : x = .ref xa := by
        rw [map_get ea] at ex
        exact (Option.some.inj ex).symm
      subst exa
      rw [mkM_at hi] at er
      cases er
      refine ⟨rfl, tyes ?_⟩
      refine ⟨_, rfl, xa, _, rfl, .inl ⟨SqL.of (P.1 _ _ e3), fun l hl => ?_⟩⟩
      exact lcp_same P hD2 (Same.new hl _) (lt_line (by omega)) RRow.mono ⟨l, _, rfl, mkM_at hi, P.ne hl, Sq.upd_sameT⟩
    · intro F P
      obtain ⟨cs, h1, h2, h3⟩ := lcp_rows P (by rw [List.length_map, lb, mkM_len])
      refine ⟨D2, _, rfl, .inl ⟨h1, fun l hl => ?_⟩⟩
      have sL := P.1.trans (Same.new hl (.tup (cs.map V.ref)))
      have sz : ∀ E, BSz (m + 1) (some (mkM (m + 1) (seF E Ps S))) := fun E M e => by
        cases e
        exact mkM_sz
      refine ⟨v1, v2, .ref l, _, _, some (mkM (m + 1) (seF (fun _ _ => True) Ps S)), m + 1, rfl, (c1.same sG).same sL, (c2.same sG).same sL, ⟨l, rfl, cs, Sq.upd_sameT, h2, fun i a r e1 e2 => Sq.same (Same.new hl _) (h3 i a r e1 e2)⟩, sz _, sz _, fun M e => ?_, by omega, chain_meet od hSt (by omega), fun H9 t9 => ?_⟩
      · cases e
        exact se_clo od hSt (by omega) fun p q r _ l2 h1 h2 => by
          have := h1.1
          have := h2.2.2
          have := h1.2.2
          have := h2.2.1
          have := h2.1
          have := h1.2.1
          omega
      · exact q _ (s7.same ((sG.trans sL).trans t9))
end
/-! ### law k18: the law -/
def spLaw (K : PySem.W.Frag) : Sp := fun vs H Q _ => ∃ (a : Addr) (ns : List Int), vs = [.ref a] ∧ SqL K H a (ns.map V.int) ∧ ns.length ≤ 63 ∧ ∀ H', Q (.bl true) H'
section
variable {P : Program} {w : World} {K : PySem.W.Frag} {mg : Str → Option Value} {base : Heap}
theorem ok_law (T : Txt w K mg) : FnOk P w K mg base CX0 6 T.a_law T.d_law p_law (spLaw K) := by
  have g_l_cell := ok_l_cell (P := P) (w := w) (K := K) (base := base) T
  have g_l_source := ok_l_source (P := P) (w := w) (base := base) T
  have g_l_pick := ok_l_pick (P := P) (w := w) (base := base) T
  have g_l_asks_chain := ok_l_asks_chain (P := P) (w := w) (K := K) (base := base) T
  have g_l_asks_wide := ok_l_asks_wide (P := P) (w := w) (K := K) (base := base) T
  have g_l_asks_small := ok_l_asks_small (P := P) (w := w) (K := K) (base := base) T
  refine T.F_law.ok sc_law (fun vs H Q E h => ?_) (fun cdv A outer s H vs Q E hr h => ?_)
  · obtain ⟨a, ns, rfl, _⟩ := h
    rfl
  obtain ⟨a, ns, rfl, hS, h63, q⟩ := h
  refine ⟨_, (pss_cons (ps_set (i := 1) sc_law.nd rfl (Or.inl rfl) (pe_call g_l_source (hr.mono (by first | decide | omega)) rfl T.m_l_source T.F_l_source.kp T.b_l_source .nil pass0 (pa_cons (pe_call g_l_cell (hr.mono (by first | decide | omega)) rfl T.m_l_cell T.F_l_cell.kp T.b_l_cell .nil pass0 (pa_cons (pv 0) (pa_cons pe_int pa_nil))) pa_nil)))
      (pss_cons (ps_if (PW.pt (pw_and (pt_cmpR op_eq (pe_call g_l_pick (hr.mono (by first | decide | omega)) rfl T.m_l_pick T.F_l_pick.kp T.b_l_pick .nil pass0 (pa_cons (pe_call g_l_source (hr.mono (by first | decide | omega)) rfl T.m_l_source T.F_l_source.kp T.b_l_source .nil pass0 (pa_cons (pe_call g_l_cell (hr.mono (by first | decide | omega)) rfl T.m_l_cell T.F_l_cell.kp T.b_l_cell .nil pass0 (pa_cons (pv 0) (pa_cons pe_int pa_nil))) pa_nil)) (pa_cons pe_int pa_nil))) pe_int (nomark _)) (pw_and1 (pt_not (pt_val (pe_call g_l_asks_chain (hr.mono (by first | decide | omega)) rfl T.m_l_asks_chain T.F_l_asks_chain.kp T.b_l_asks_chain .nil pass0 (pa_cons (pe_call g_l_source (hr.mono (by first | decide | omega)) rfl T.m_l_source T.F_l_source.kp T.b_l_source .nil pass0 (pa_cons (pe_call g_l_cell (hr.mono (by first | decide | omega)) rfl T.m_l_cell T.F_l_cell.kp T.b_l_cell .nil pass0 (pa_cons (pv 0) (pa_cons pe_int pa_nil))) pa_nil)) pa_nil))))))) (pss_one (ps_ret pe_bl)) pss_nil)
      (pss_cons (ps_if (pt_cmpR op_eq (pe_call g_l_pick (hr.mono (by first | decide | omega)) rfl T.m_l_pick T.F_l_pick.kp T.b_l_pick .nil pass0 (pa_cons (pv 1) (pa_cons pe_int pa_nil))) pe_int (nomark _)) (pss_one (ps_ret (pe_call g_l_asks_wide (hr.mono (by first | decide | omega)) rfl T.m_l_asks_wide T.F_l_asks_wide.kp T.b_l_asks_wide .nil pass0 (pa_cons (pv 1) (pa_cons (pe_call g_l_source (hr.mono (by first | decide | omega)) rfl T.m_l_source T.F_l_source.kp T.b_l_source .nil pass0 (pa_cons (pe_call g_l_cell (hr.mono (by first | decide | omega)) rfl T.m_l_cell T.F_l_cell.kp T.b_l_cell .nil pass0 (pa_cons (pv 0) (pa_cons pe_int pa_nil))) pa_nil)) pa_nil))))) pss_nil)
      (pss_one (ps_ret (pe_call g_l_asks_small (hr.mono (by first | decide | omega)) rfl T.m_l_asks_small T.F_l_asks_small.kp T.b_l_asks_small .nil pass0 (pa_cons (pv 1) (pa_cons (pe_call g_l_source (hr.mono (by first | decide | omega)) rfl T.m_l_source T.F_l_source.kp T.b_l_source .nil pass0 (pa_cons (pe_call g_l_cell (hr.mono (by first | decide | omega)) rfl T.m_l_cell T.F_l_cell.kp T.b_l_cell .nil pass0 (pa_cons (pv 0) (pa_cons pe_int pa_nil))) pa_nil)) pa_nil)))))))), ?_⟩
  refine ⟨_, rfl, a, ns, 0, rfl, hS, by decide, fun c => ?_⟩
  refine ⟨c, rfl, fun p0 H1 hp0 s1 src => ?_⟩
  refine ⟨_, rfl, a, ns, 2, rfl, s1.seq hS, by decide, fun c2 => ?_⟩
  refine ⟨c2, rfl, fun p2 H2 hp2 s2 src2 => ?_⟩
  refine ⟨p2, 4, rfl, src2, by decide, fun r H3 st3 _ _ => ?_⟩
  have S3 : Same H1 H3 := Stp.fresh s2 hp2 st3
  refine ⟨rfl, _, rfl, ite2 (fun _ => ?_) (fun _ => ?_)⟩
  · refine ⟨_, rfl, a, ns, 1, rfl, (s1.trans S3).seq hS, by decide, fun c3 => ?_⟩
    refine ⟨c3, rfl, fun p3 H4 hp3 s4 src3 => ?_⟩
    refine ⟨p3, rfl, src3, fun H5 st5 => ?_⟩
    have S1 : Same H1 H5 := S3.trans (Stp.fresh s4 hp3 st5)
    refine ⟨_, rfl, ifF rfl ?_⟩
    refine ⟨_, rfl, p0, 3, rfl, (Stp.of_same src S1).s, by decide, fun r H6 st6 _ _ => ?_⟩
    have S6 : Same H H6 := Stp.fresh s1 hp0 ((Stp.of_same src S1).trans st6)
    refine ⟨rfl, _, rfl, ite2 (fun _ => ?_) (fun _ => ?_)⟩
    · refine ⟨_, rfl, _, rfl, a, ns, 1, rfl, S6.seq hS, by decide, fun c5 => ?_⟩
      exact ⟨c5, rfl, fun p5 H7 hp5 s7 src7 => ⟨p0, p5, rfl, st6.s.ne hp5, (Stp.of_same st6.s s7).s, src7, fun G => q G⟩⟩
    · refine ⟨_, rfl, _, rfl, a, ns, 1, rfl, S6.seq hS, by decide, fun c5 => ?_⟩
      exact ⟨c5, rfl, fun p5 H7 hp5 s7 src7 => ⟨p0, p5, rfl, st6.s.ne hp5, (Stp.of_same st6.s s7).s, src7, fun G => q G⟩⟩
  · refine ifF rfl ?_
    have S1 := S3
    refine ⟨_, rfl, p0, 3, rfl, (Stp.of_same src S1).s, by decide, fun r H6 st6 _ _ => ?_⟩
    have S6 : Same H H6 := Stp.fresh s1 hp0 ((Stp.of_same src S1).trans st6)
    refine ⟨rfl, _, rfl, ite2 (fun _ => ?_) (fun _ => ?_)⟩
    · refine ⟨_, rfl, _, rfl, a, ns, 1, rfl, S6.seq hS, by decide, fun c5 => ?_⟩
      exact ⟨c5, rfl, fun p5 H7 hp5 s7 src7 => ⟨p0, p5, rfl, st6.s.ne hp5, (Stp.of_same st6.s s7).s, src7, fun G => q G⟩⟩
    · refine ⟨_, rfl, _, rfl, a, ns, 1, rfl, S6.seq hS, by decide, fun c5 => ?_⟩
      exact ⟨c5, rfl, fun p5 H7 hp5 s7 src7 => ⟨p0, p5, rfl, st6.s.ne hp5, (Stp.of_same st6.s s7).s, src7, fun G => q G⟩⟩
end
theorem all_mk {l : PySem.W.OpenLaw} {w : World} {K : PySem.W.Frag} {h : Heap} {mg : Str → Option Value} {fa : Addr} (X : K.In h) (G : h.Ns mainGlobals mg) (hfa : mg "law" = some (.ref fa))
    {f_close : Addr} {od_close an_close : Option Addr} {sl_close : Array (Option Value)} {oc_close kV_close dc_close pm_close cd_close ct_close : Value}
    (A_close : PySem.W.nsIn K mainGlobals "close" = some (some (.ref f_close))) (L_close : K.lookup f_close = some ⟨oc_close, od_close, .func (PySem.W.fnOf "close" "close" (defArgs s_close) (defBody s_close) (defScope s_close) .none kV_close dc_close pm_close an_close cd_close ct_close), sl_close⟩) (C_close : PySem.W.codeIn K cd_close "close" = true) (K_close : PySem.W.keepIn K (.ref f_close) = true)
    {f_has_contradiction : Addr} {od_has_contradiction an_has_contradiction : Option Addr} {sl_has_contradiction : Array (Option Value)} {oc_has_contradiction kV_has_contradiction dc_has_contradiction pm_has_contradiction cd_has_contradiction ct_has_contradiction : Value}
    (A_has_contradiction : PySem.W.nsIn K mainGlobals "has_contradiction" = some (some (.ref f_has_contradiction))) (L_has_contradiction : K.lookup f_has_contradiction = some ⟨oc_has_contradiction, od_has_contradiction, .func (PySem.W.fnOf "has_contradiction" "has_contradiction" (defArgs s_has_contradiction) (defBody s_has_contradiction) (defScope s_has_contradiction) .none kV_has_contradiction dc_has_contradiction pm_has_contradiction an_has_contradiction cd_has_contradiction ct_has_contradiction), sl_has_contradiction⟩) (C_has_contradiction : PySem.W.codeIn K cd_has_contradiction "has_contradiction" = true) (K_has_contradiction : PySem.W.keepIn K (.ref f_has_contradiction) = true)
    {f_shortened : Addr} {od_shortened an_shortened : Option Addr} {sl_shortened : Array (Option Value)} {oc_shortened kV_shortened dc_shortened pm_shortened cd_shortened ct_shortened : Value}
    (A_shortened : PySem.W.nsIn K mainGlobals "shortened" = some (some (.ref f_shortened))) (L_shortened : K.lookup f_shortened = some ⟨oc_shortened, od_shortened, .func (PySem.W.fnOf "shortened" "shortened" (defArgs s_shortened) (defBody s_shortened) (defScope s_shortened) .none kV_shortened dc_shortened pm_shortened an_shortened cd_shortened ct_shortened), sl_shortened⟩) (C_shortened : PySem.W.codeIn K cd_shortened "shortened" = true) (K_shortened : PySem.W.keepIn K (.ref f_shortened) = true)
    {f_frozen : Addr} {od_frozen an_frozen : Option Addr} {sl_frozen : Array (Option Value)} {oc_frozen kV_frozen dc_frozen pm_frozen cd_frozen ct_frozen : Value}
    (A_frozen : PySem.W.nsIn K mainGlobals "frozen" = some (some (.ref f_frozen))) (L_frozen : K.lookup f_frozen = some ⟨oc_frozen, od_frozen, .func (PySem.W.fnOf "frozen" "frozen" (defArgs s_frozen) (defBody s_frozen) (defScope s_frozen) .none kV_frozen dc_frozen pm_frozen an_frozen cd_frozen ct_frozen), sl_frozen⟩) (C_frozen : PySem.W.codeIn K cd_frozen "frozen" = true) (K_frozen : PySem.W.keepIn K (.ref f_frozen) = true)
    {f_range_box : Addr} {od_range_box an_range_box : Option Addr} {sl_range_box : Array (Option Value)} {oc_range_box kV_range_box dc_range_box pm_range_box cd_range_box ct_range_box : Value}
    (A_range_box : PySem.W.nsIn K mainGlobals "range_box" = some (some (.ref f_range_box))) (L_range_box : K.lookup f_range_box = some ⟨oc_range_box, od_range_box, .func (PySem.W.fnOf "range_box" "range_box" (defArgs s_range_box) (defBody s_range_box) (defScope s_range_box) .none kV_range_box dc_range_box pm_range_box an_range_box cd_range_box ct_range_box), sl_range_box⟩) (C_range_box : PySem.W.codeIn K cd_range_box "range_box" = true) (K_range_box : PySem.W.keepIn K (.ref f_range_box) = true)
    {f_bound : Addr} {od_bound an_bound : Option Addr} {sl_bound : Array (Option Value)} {oc_bound kV_bound dc_bound pm_bound cd_bound ct_bound : Value}
    (A_bound : PySem.W.nsIn K mainGlobals "bound" = some (some (.ref f_bound))) (L_bound : K.lookup f_bound = some ⟨oc_bound, od_bound, .func (PySem.W.fnOf "bound" "bound" (defArgs s_bound) (defBody s_bound) (defScope s_bound) .none kV_bound dc_bound pm_bound an_bound cd_bound ct_bound), sl_bound⟩) (C_bound : PySem.W.codeIn K cd_bound "bound" = true) (K_bound : PySem.W.keepIn K (.ref f_bound) = true)
    {f_meet_boxes : Addr} {od_meet_boxes an_meet_boxes : Option Addr} {sl_meet_boxes : Array (Option Value)} {oc_meet_boxes kV_meet_boxes dc_meet_boxes pm_meet_boxes cd_meet_boxes ct_meet_boxes : Value}
    (A_meet_boxes : PySem.W.nsIn K mainGlobals "meet_boxes" = some (some (.ref f_meet_boxes))) (L_meet_boxes : K.lookup f_meet_boxes = some ⟨oc_meet_boxes, od_meet_boxes, .func (PySem.W.fnOf "meet_boxes" "meet_boxes" (defArgs s_meet_boxes) (defBody s_meet_boxes) (defScope s_meet_boxes) .none kV_meet_boxes dc_meet_boxes pm_meet_boxes an_meet_boxes cd_meet_boxes ct_meet_boxes), sl_meet_boxes⟩) (C_meet_boxes : PySem.W.codeIn K cd_meet_boxes "meet_boxes" = true) (K_meet_boxes : PySem.W.keepIn K (.ref f_meet_boxes) = true)
    {f_l_cell : Addr} {od_l_cell an_l_cell : Option Addr} {sl_l_cell : Array (Option Value)} {oc_l_cell kV_l_cell dc_l_cell pm_l_cell cd_l_cell ct_l_cell : Value}
    (A_l_cell : PySem.W.nsIn K mainGlobals "_law_cell" = some (some (.ref f_l_cell))) (L_l_cell : K.lookup f_l_cell = some ⟨oc_l_cell, od_l_cell, .func (PySem.W.fnOf "_law_cell" "_law_cell" (defArgs s_l_cell) (defBody s_l_cell) (defScope s_l_cell) .none kV_l_cell dc_l_cell pm_l_cell an_l_cell cd_l_cell ct_l_cell), sl_l_cell⟩) (C_l_cell : PySem.W.codeIn K cd_l_cell "_law_cell" = true) (K_l_cell : PySem.W.keepIn K (.ref f_l_cell) = true)
    {f_l_source : Addr} {od_l_source an_l_source : Option Addr} {sl_l_source : Array (Option Value)} {oc_l_source kV_l_source dc_l_source pm_l_source cd_l_source ct_l_source : Value}
    (A_l_source : PySem.W.nsIn K mainGlobals "_law_source" = some (some (.ref f_l_source))) (L_l_source : K.lookup f_l_source = some ⟨oc_l_source, od_l_source, .func (PySem.W.fnOf "_law_source" "_law_source" (defArgs s_l_source) (defBody s_l_source) (defScope s_l_source) .none kV_l_source dc_l_source pm_l_source an_l_source cd_l_source ct_l_source), sl_l_source⟩) (C_l_source : PySem.W.codeIn K cd_l_source "_law_source" = true) (K_l_source : PySem.W.keepIn K (.ref f_l_source) = true)
    {f_l_pick : Addr} {od_l_pick an_l_pick : Option Addr} {sl_l_pick : Array (Option Value)} {oc_l_pick kV_l_pick dc_l_pick pm_l_pick cd_l_pick ct_l_pick : Value}
    (A_l_pick : PySem.W.nsIn K mainGlobals "_law_pick" = some (some (.ref f_l_pick))) (L_l_pick : K.lookup f_l_pick = some ⟨oc_l_pick, od_l_pick, .func (PySem.W.fnOf "_law_pick" "_law_pick" (defArgs s_l_pick) (defBody s_l_pick) (defScope s_l_pick) .none kV_l_pick dc_l_pick pm_l_pick an_l_pick cd_l_pick ct_l_pick), sl_l_pick⟩) (C_l_pick : PySem.W.codeIn K cd_l_pick "_law_pick" = true) (K_l_pick : PySem.W.keepIn K (.ref f_l_pick) = true)
    {f_l_hull : Addr} {od_l_hull an_l_hull : Option Addr} {sl_l_hull : Array (Option Value)} {oc_l_hull kV_l_hull dc_l_hull pm_l_hull cd_l_hull ct_l_hull : Value}
    (A_l_hull : PySem.W.nsIn K mainGlobals "_law_hull" = some (some (.ref f_l_hull))) (L_l_hull : K.lookup f_l_hull = some ⟨oc_l_hull, od_l_hull, .func (PySem.W.fnOf "_law_hull" "_law_hull" (defArgs s_l_hull) (defBody s_l_hull) (defScope s_l_hull) .none kV_l_hull dc_l_hull pm_l_hull an_l_hull cd_l_hull ct_l_hull), sl_l_hull⟩) (C_l_hull : PySem.W.codeIn K cd_l_hull "_law_hull" = true) (K_l_hull : PySem.W.keepIn K (.ref f_l_hull) = true)
    {f_l_belongs : Addr} {od_l_belongs an_l_belongs : Option Addr} {sl_l_belongs : Array (Option Value)} {oc_l_belongs kV_l_belongs dc_l_belongs pm_l_belongs cd_l_belongs ct_l_belongs : Value}
    (A_l_belongs : PySem.W.nsIn K mainGlobals "_law_belongs" = some (some (.ref f_l_belongs))) (L_l_belongs : K.lookup f_l_belongs = some ⟨oc_l_belongs, od_l_belongs, .func (PySem.W.fnOf "_law_belongs" "_law_belongs" (defArgs s_l_belongs) (defBody s_l_belongs) (defScope s_l_belongs) .none kV_l_belongs dc_l_belongs pm_l_belongs an_l_belongs cd_l_belongs ct_l_belongs), sl_l_belongs⟩) (C_l_belongs : PySem.W.codeIn K cd_l_belongs "_law_belongs" = true) (K_l_belongs : PySem.W.keepIn K (.ref f_l_belongs) = true)
    {f_l_grid : Addr} {od_l_grid an_l_grid : Option Addr} {sl_l_grid : Array (Option Value)} {oc_l_grid kV_l_grid dc_l_grid pm_l_grid cd_l_grid ct_l_grid : Value}
    (A_l_grid : PySem.W.nsIn K mainGlobals "_law_grid" = some (some (.ref f_l_grid))) (L_l_grid : K.lookup f_l_grid = some ⟨oc_l_grid, od_l_grid, .func (PySem.W.fnOf "_law_grid" "_law_grid" (defArgs s_l_grid) (defBody s_l_grid) (defScope s_l_grid) .none kV_l_grid dc_l_grid pm_l_grid an_l_grid cd_l_grid ct_l_grid), sl_l_grid⟩) (C_l_grid : PySem.W.codeIn K cd_l_grid "_law_grid" = true) (K_l_grid : PySem.W.keepIn K (.ref f_l_grid) = true)
    {f_l_same : Addr} {od_l_same an_l_same : Option Addr} {sl_l_same : Array (Option Value)} {oc_l_same kV_l_same dc_l_same pm_l_same cd_l_same ct_l_same : Value}
    (A_l_same : PySem.W.nsIn K mainGlobals "_law_same" = some (some (.ref f_l_same))) (L_l_same : K.lookup f_l_same = some ⟨oc_l_same, od_l_same, .func (PySem.W.fnOf "_law_same" "_law_same" (defArgs s_l_same) (defBody s_l_same) (defScope s_l_same) .none kV_l_same dc_l_same pm_l_same an_l_same cd_l_same ct_l_same), sl_l_same⟩) (C_l_same : PySem.W.codeIn K cd_l_same "_law_same" = true) (K_l_same : PySem.W.keepIn K (.ref f_l_same) = true)
    {f_l_points : Addr} {od_l_points an_l_points : Option Addr} {sl_l_points : Array (Option Value)} {oc_l_points kV_l_points dc_l_points pm_l_points cd_l_points ct_l_points : Value}
    (A_l_points : PySem.W.nsIn K mainGlobals "_law_points" = some (some (.ref f_l_points))) (L_l_points : K.lookup f_l_points = some ⟨oc_l_points, od_l_points, .func (PySem.W.fnOf "_law_points" "_law_points" (defArgs s_l_points) (defBody s_l_points) (defScope s_l_points) .none kV_l_points dc_l_points pm_l_points an_l_points cd_l_points ct_l_points), sl_l_points⟩) (C_l_points : PySem.W.codeIn K cd_l_points "_law_points" = true) (K_l_points : PySem.W.keepIn K (.ref f_l_points) = true)
    {f_l_fits : Addr} {od_l_fits an_l_fits : Option Addr} {sl_l_fits : Array (Option Value)} {oc_l_fits kV_l_fits dc_l_fits pm_l_fits cd_l_fits ct_l_fits : Value}
    (A_l_fits : PySem.W.nsIn K mainGlobals "_law_fits" = some (some (.ref f_l_fits))) (L_l_fits : K.lookup f_l_fits = some ⟨oc_l_fits, od_l_fits, .func (PySem.W.fnOf "_law_fits" "_law_fits" (defArgs s_l_fits) (defBody s_l_fits) (defScope s_l_fits) .none kV_l_fits dc_l_fits pm_l_fits an_l_fits cd_l_fits ct_l_fits), sl_l_fits⟩) (C_l_fits : PySem.W.codeIn K cd_l_fits "_law_fits" = true) (K_l_fits : PySem.W.keepIn K (.ref f_l_fits) = true)
    {f_l_number : Addr} {od_l_number an_l_number : Option Addr} {sl_l_number : Array (Option Value)} {oc_l_number kV_l_number dc_l_number pm_l_number cd_l_number ct_l_number : Value}
    (A_l_number : PySem.W.nsIn K mainGlobals "_law_number" = some (some (.ref f_l_number))) (L_l_number : K.lookup f_l_number = some ⟨oc_l_number, od_l_number, .func (PySem.W.fnOf "_law_number" "_law_number" (defArgs s_l_number) (defBody s_l_number) (defScope s_l_number) .none kV_l_number dc_l_number pm_l_number an_l_number cd_l_number ct_l_number), sl_l_number⟩) (C_l_number : PySem.W.codeIn K cd_l_number "_law_number" = true) (K_l_number : PySem.W.keepIn K (.ref f_l_number) = true)
    {f_l_bounded : Addr} {od_l_bounded an_l_bounded : Option Addr} {sl_l_bounded : Array (Option Value)} {oc_l_bounded kV_l_bounded dc_l_bounded pm_l_bounded cd_l_bounded ct_l_bounded : Value}
    (A_l_bounded : PySem.W.nsIn K mainGlobals "_law_bounded" = some (some (.ref f_l_bounded))) (L_l_bounded : K.lookup f_l_bounded = some ⟨oc_l_bounded, od_l_bounded, .func (PySem.W.fnOf "_law_bounded" "_law_bounded" (defArgs s_l_bounded) (defBody s_l_bounded) (defScope s_l_bounded) .none kV_l_bounded dc_l_bounded pm_l_bounded an_l_bounded cd_l_bounded ct_l_bounded), sl_l_bounded⟩) (C_l_bounded : PySem.W.codeIn K cd_l_bounded "_law_bounded" = true) (K_l_bounded : PySem.W.keepIn K (.ref f_l_bounded) = true)
    {f_l_size : Addr} {od_l_size an_l_size : Option Addr} {sl_l_size : Array (Option Value)} {oc_l_size kV_l_size dc_l_size pm_l_size cd_l_size ct_l_size : Value}
    (A_l_size : PySem.W.nsIn K mainGlobals "_law_size" = some (some (.ref f_l_size))) (L_l_size : K.lookup f_l_size = some ⟨oc_l_size, od_l_size, .func (PySem.W.fnOf "_law_size" "_law_size" (defArgs s_l_size) (defBody s_l_size) (defScope s_l_size) .none kV_l_size dc_l_size pm_l_size an_l_size cd_l_size ct_l_size), sl_l_size⟩) (C_l_size : PySem.W.codeIn K cd_l_size "_law_size" = true) (K_l_size : PySem.W.keepIn K (.ref f_l_size) = true)
    {f_l_drawn_box : Addr} {od_l_drawn_box an_l_drawn_box : Option Addr} {sl_l_drawn_box : Array (Option Value)} {oc_l_drawn_box kV_l_drawn_box dc_l_drawn_box pm_l_drawn_box cd_l_drawn_box ct_l_drawn_box : Value}
    (A_l_drawn_box : PySem.W.nsIn K mainGlobals "_law_drawn_box" = some (some (.ref f_l_drawn_box))) (L_l_drawn_box : K.lookup f_l_drawn_box = some ⟨oc_l_drawn_box, od_l_drawn_box, .func (PySem.W.fnOf "_law_drawn_box" "_law_drawn_box" (defArgs s_l_drawn_box) (defBody s_l_drawn_box) (defScope s_l_drawn_box) .none kV_l_drawn_box dc_l_drawn_box pm_l_drawn_box an_l_drawn_box cd_l_drawn_box ct_l_drawn_box), sl_l_drawn_box⟩) (C_l_drawn_box : PySem.W.codeIn K cd_l_drawn_box "_law_drawn_box" = true) (K_l_drawn_box : PySem.W.keepIn K (.ref f_l_drawn_box) = true)
    {f_l_wide_box : Addr} {od_l_wide_box an_l_wide_box : Option Addr} {sl_l_wide_box : Array (Option Value)} {oc_l_wide_box kV_l_wide_box dc_l_wide_box pm_l_wide_box cd_l_wide_box ct_l_wide_box : Value}
    (A_l_wide_box : PySem.W.nsIn K mainGlobals "_law_wide_box" = some (some (.ref f_l_wide_box))) (L_l_wide_box : K.lookup f_l_wide_box = some ⟨oc_l_wide_box, od_l_wide_box, .func (PySem.W.fnOf "_law_wide_box" "_law_wide_box" (defArgs s_l_wide_box) (defBody s_l_wide_box) (defScope s_l_wide_box) .none kV_l_wide_box dc_l_wide_box pm_l_wide_box an_l_wide_box cd_l_wide_box ct_l_wide_box), sl_l_wide_box⟩) (C_l_wide_box : PySem.W.codeIn K cd_l_wide_box "_law_wide_box" = true) (K_l_wide_box : PySem.W.keepIn K (.ref f_l_wide_box) = true)
    {f_l_part : Addr} {od_l_part an_l_part : Option Addr} {sl_l_part : Array (Option Value)} {oc_l_part kV_l_part dc_l_part pm_l_part cd_l_part ct_l_part : Value}
    (A_l_part : PySem.W.nsIn K mainGlobals "_law_part" = some (some (.ref f_l_part))) (L_l_part : K.lookup f_l_part = some ⟨oc_l_part, od_l_part, .func (PySem.W.fnOf "_law_part" "_law_part" (defArgs s_l_part) (defBody s_l_part) (defScope s_l_part) .none kV_l_part dc_l_part pm_l_part an_l_part cd_l_part ct_l_part), sl_l_part⟩) (C_l_part : PySem.W.codeIn K cd_l_part "_law_part" = true) (K_l_part : PySem.W.keepIn K (.ref f_l_part) = true)
    {f_l_meets : Addr} {od_l_meets an_l_meets : Option Addr} {sl_l_meets : Array (Option Value)} {oc_l_meets kV_l_meets dc_l_meets pm_l_meets cd_l_meets ct_l_meets : Value}
    (A_l_meets : PySem.W.nsIn K mainGlobals "_law_meets" = some (some (.ref f_l_meets))) (L_l_meets : K.lookup f_l_meets = some ⟨oc_l_meets, od_l_meets, .func (PySem.W.fnOf "_law_meets" "_law_meets" (defArgs s_l_meets) (defBody s_l_meets) (defScope s_l_meets) .none kV_l_meets dc_l_meets pm_l_meets an_l_meets cd_l_meets ct_l_meets), sl_l_meets⟩) (C_l_meets : PySem.W.codeIn K cd_l_meets "_law_meets" = true) (K_l_meets : PySem.W.keepIn K (.ref f_l_meets) = true)
    {f_l_bounds : Addr} {od_l_bounds an_l_bounds : Option Addr} {sl_l_bounds : Array (Option Value)} {oc_l_bounds kV_l_bounds dc_l_bounds pm_l_bounds cd_l_bounds ct_l_bounds : Value}
    (A_l_bounds : PySem.W.nsIn K mainGlobals "_law_bounds" = some (some (.ref f_l_bounds))) (L_l_bounds : K.lookup f_l_bounds = some ⟨oc_l_bounds, od_l_bounds, .func (PySem.W.fnOf "_law_bounds" "_law_bounds" (defArgs s_l_bounds) (defBody s_l_bounds) (defScope s_l_bounds) .none kV_l_bounds dc_l_bounds pm_l_bounds an_l_bounds cd_l_bounds ct_l_bounds), sl_l_bounds⟩) (C_l_bounds : PySem.W.codeIn K cd_l_bounds "_law_bounds" = true) (K_l_bounds : PySem.W.keepIn K (.ref f_l_bounds) = true)
    {f_l_ranges : Addr} {od_l_ranges an_l_ranges : Option Addr} {sl_l_ranges : Array (Option Value)} {oc_l_ranges kV_l_ranges dc_l_ranges pm_l_ranges cd_l_ranges ct_l_ranges : Value}
    (A_l_ranges : PySem.W.nsIn K mainGlobals "_law_ranges" = some (some (.ref f_l_ranges))) (L_l_ranges : K.lookup f_l_ranges = some ⟨oc_l_ranges, od_l_ranges, .func (PySem.W.fnOf "_law_ranges" "_law_ranges" (defArgs s_l_ranges) (defBody s_l_ranges) (defScope s_l_ranges) .none kV_l_ranges dc_l_ranges pm_l_ranges an_l_ranges cd_l_ranges ct_l_ranges), sl_l_ranges⟩) (C_l_ranges : PySem.W.codeIn K cd_l_ranges "_law_ranges" = true) (K_l_ranges : PySem.W.keepIn K (.ref f_l_ranges) = true)
    {f_l_asks_small : Addr} {od_l_asks_small an_l_asks_small : Option Addr} {sl_l_asks_small : Array (Option Value)} {oc_l_asks_small kV_l_asks_small dc_l_asks_small pm_l_asks_small cd_l_asks_small ct_l_asks_small : Value}
    (A_l_asks_small : PySem.W.nsIn K mainGlobals "_law_asks_small" = some (some (.ref f_l_asks_small))) (L_l_asks_small : K.lookup f_l_asks_small = some ⟨oc_l_asks_small, od_l_asks_small, .func (PySem.W.fnOf "_law_asks_small" "_law_asks_small" (defArgs s_l_asks_small) (defBody s_l_asks_small) (defScope s_l_asks_small) .none kV_l_asks_small dc_l_asks_small pm_l_asks_small an_l_asks_small cd_l_asks_small ct_l_asks_small), sl_l_asks_small⟩) (C_l_asks_small : PySem.W.codeIn K cd_l_asks_small "_law_asks_small" = true) (K_l_asks_small : PySem.W.keepIn K (.ref f_l_asks_small) = true)
    {f_l_asks_wide : Addr} {od_l_asks_wide an_l_asks_wide : Option Addr} {sl_l_asks_wide : Array (Option Value)} {oc_l_asks_wide kV_l_asks_wide dc_l_asks_wide pm_l_asks_wide cd_l_asks_wide ct_l_asks_wide : Value}
    (A_l_asks_wide : PySem.W.nsIn K mainGlobals "_law_asks_wide" = some (some (.ref f_l_asks_wide))) (L_l_asks_wide : K.lookup f_l_asks_wide = some ⟨oc_l_asks_wide, od_l_asks_wide, .func (PySem.W.fnOf "_law_asks_wide" "_law_asks_wide" (defArgs s_l_asks_wide) (defBody s_l_asks_wide) (defScope s_l_asks_wide) .none kV_l_asks_wide dc_l_asks_wide pm_l_asks_wide an_l_asks_wide cd_l_asks_wide ct_l_asks_wide), sl_l_asks_wide⟩) (C_l_asks_wide : PySem.W.codeIn K cd_l_asks_wide "_law_asks_wide" = true) (K_l_asks_wide : PySem.W.keepIn K (.ref f_l_asks_wide) = true)
    {f_l_chain : Addr} {od_l_chain an_l_chain : Option Addr} {sl_l_chain : Array (Option Value)} {oc_l_chain kV_l_chain dc_l_chain pm_l_chain cd_l_chain ct_l_chain : Value}
    (A_l_chain : PySem.W.nsIn K mainGlobals "_law_chain" = some (some (.ref f_l_chain))) (L_l_chain : K.lookup f_l_chain = some ⟨oc_l_chain, od_l_chain, .func (PySem.W.fnOf "_law_chain" "_law_chain" (defArgs s_l_chain) (defBody s_l_chain) (defScope s_l_chain) .none kV_l_chain dc_l_chain pm_l_chain an_l_chain cd_l_chain ct_l_chain), sl_l_chain⟩) (C_l_chain : PySem.W.codeIn K cd_l_chain "_law_chain" = true) (K_l_chain : PySem.W.keepIn K (.ref f_l_chain) = true)
    {f_l_asks_chain : Addr} {od_l_asks_chain an_l_asks_chain : Option Addr} {sl_l_asks_chain : Array (Option Value)} {oc_l_asks_chain kV_l_asks_chain dc_l_asks_chain pm_l_asks_chain cd_l_asks_chain ct_l_asks_chain : Value}
    (A_l_asks_chain : PySem.W.nsIn K mainGlobals "_law_asks_chain" = some (some (.ref f_l_asks_chain))) (L_l_asks_chain : K.lookup f_l_asks_chain = some ⟨oc_l_asks_chain, od_l_asks_chain, .func (PySem.W.fnOf "_law_asks_chain" "_law_asks_chain" (defArgs s_l_asks_chain) (defBody s_l_asks_chain) (defScope s_l_asks_chain) .none kV_l_asks_chain dc_l_asks_chain pm_l_asks_chain an_l_asks_chain cd_l_asks_chain ct_l_asks_chain), sl_l_asks_chain⟩) (C_l_asks_chain : PySem.W.codeIn K cd_l_asks_chain "_law_asks_chain" = true) (K_l_asks_chain : PySem.W.keepIn K (.ref f_l_asks_chain) = true)
    {f_law : Addr} {od_law an_law : Option Addr} {sl_law : Array (Option Value)} {oc_law kV_law dc_law pm_law cd_law ct_law : Value}
    (A_law : PySem.W.nsIn K mainGlobals "law" = some (some (.ref f_law))) (L_law : K.lookup f_law = some ⟨oc_law, od_law, .func (PySem.W.fnOf "law" "law" (defArgs s_law) (defBody s_law) (defScope s_law) .none kV_law dc_law pm_law an_law cd_law ct_law), sl_law⟩) (C_law : PySem.W.codeIn K cd_law "law" = true) (K_law : PySem.W.keepIn K (.ref f_law) = true)
    (Z_abs : PySem.W.nsIn K mainGlobals "abs" = some none)
    (Z_any : PySem.W.nsIn K mainGlobals "any" = some none)
    (Z_bool : PySem.W.nsIn K mainGlobals "bool" = some none)
    (Z_enumerate : PySem.W.nsIn K mainGlobals "enumerate" = some none)
    (Z_int : PySem.W.nsIn K mainGlobals "int" = some none)
    (Z_isinstance : PySem.W.nsIn K mainGlobals "isinstance" = some none)
    (Z_len : PySem.W.nsIn K mainGlobals "len" = some none)
    (Z_list : PySem.W.nsIn K mainGlobals "list" = some none)
    (Z_max : PySem.W.nsIn K mainGlobals "max" = some none)
    (Z_min : PySem.W.nsIn K mainGlobals "min" = some none)
    (Z_range : PySem.W.nsIn K mainGlobals "range" = some none)
    (Z_str : PySem.W.nsIn K mainGlobals "str" = some none)
    (Z_tuple : PySem.W.nsIn K mainGlobals "tuple" = some none)
    (Z_zip : PySem.W.nsIn K mainGlobals "zip" = some none) :
    ∃ fd : FuncData, (∀ (s : Shared) (v : Value), BindsTo s fd ⟨[v], []⟩ [("_law_script", v)]) ∧ ∀ base : Heap, K.In base → base.Ns mainGlobals mg → FnOk l.prog w K mg base CX0 6 fa fd ["_law_script"] (spLaw K) := by
  have e := hfa.symm.trans (PySem.W.mg_of X G A_law)
  cases e
  let T : Txt w K mg := {
    a_close := f_close, d_close := _, F_close := fun_mk (st := s_close) L_close C_close K_close, b_close := (fun_mk (st := s_close) L_close C_close K_close).binds (ps := p_close) (fun _ _ _ _ _ _ us hl => match us, hl with | [_], _ => rfl), m_close := PySem.W.mg_of X G A_close,
    a_has_contradiction := f_has_contradiction, d_has_contradiction := _, F_has_contradiction := fun_mk (st := s_has_contradiction) L_has_contradiction C_has_contradiction K_has_contradiction, b_has_contradiction := (fun_mk (st := s_has_contradiction) L_has_contradiction C_has_contradiction K_has_contradiction).binds (ps := p_has_contradiction) (fun _ _ _ _ _ _ us hl => match us, hl with | [_], _ => rfl), m_has_contradiction := PySem.W.mg_of X G A_has_contradiction,
    a_shortened := f_shortened, d_shortened := _, F_shortened := fun_mk (st := s_shortened) L_shortened C_shortened K_shortened, b_shortened := (fun_mk (st := s_shortened) L_shortened C_shortened K_shortened).binds (ps := p_shortened) (fun _ _ _ _ _ _ us hl => match us, hl with | [_, _], _ => rfl), m_shortened := PySem.W.mg_of X G A_shortened,
    a_frozen := f_frozen, d_frozen := _, F_frozen := fun_mk (st := s_frozen) L_frozen C_frozen K_frozen, b_frozen := (fun_mk (st := s_frozen) L_frozen C_frozen K_frozen).binds (ps := p_frozen) (fun _ _ _ _ _ _ us hl => match us, hl with | [_], _ => rfl), m_frozen := PySem.W.mg_of X G A_frozen,
    a_range_box := f_range_box, d_range_box := _, F_range_box := fun_mk (st := s_range_box) L_range_box C_range_box K_range_box, b_range_box := (fun_mk (st := s_range_box) L_range_box C_range_box K_range_box).binds (ps := p_range_box) (fun _ _ _ _ _ _ us hl => match us, hl with | [_], _ => rfl), m_range_box := PySem.W.mg_of X G A_range_box,
    a_bound := f_bound, d_bound := _, F_bound := fun_mk (st := s_bound) L_bound C_bound K_bound, b_bound := (fun_mk (st := s_bound) L_bound C_bound K_bound).binds (ps := p_bound) (fun _ _ _ _ _ _ us hl => match us, hl with | [_, _, _, _], _ => rfl), m_bound := PySem.W.mg_of X G A_bound,
    a_meet_boxes := f_meet_boxes, d_meet_boxes := _, F_meet_boxes := fun_mk (st := s_meet_boxes) L_meet_boxes C_meet_boxes K_meet_boxes, b_meet_boxes := (fun_mk (st := s_meet_boxes) L_meet_boxes C_meet_boxes K_meet_boxes).binds (ps := p_meet_boxes) (fun _ _ _ _ _ _ us hl => match us, hl with | [_, _], _ => rfl), m_meet_boxes := PySem.W.mg_of X G A_meet_boxes,
    a_l_cell := f_l_cell, d_l_cell := _, F_l_cell := fun_mk (st := s_l_cell) L_l_cell C_l_cell K_l_cell, b_l_cell := (fun_mk (st := s_l_cell) L_l_cell C_l_cell K_l_cell).binds (ps := p_l_cell) (fun _ _ _ _ _ _ us hl => match us, hl with | [_, _], _ => rfl), m_l_cell := PySem.W.mg_of X G A_l_cell,
    a_l_source := f_l_source, d_l_source := _, F_l_source := fun_mk (st := s_l_source) L_l_source C_l_source K_l_source, b_l_source := (fun_mk (st := s_l_source) L_l_source C_l_source K_l_source).binds (ps := p_l_source) (fun _ _ _ _ _ _ us hl => match us, hl with | [_], _ => rfl), m_l_source := PySem.W.mg_of X G A_l_source,
    a_l_pick := f_l_pick, d_l_pick := _, F_l_pick := fun_mk (st := s_l_pick) L_l_pick C_l_pick K_l_pick, b_l_pick := (fun_mk (st := s_l_pick) L_l_pick C_l_pick K_l_pick).binds (ps := p_l_pick) (fun _ _ _ _ _ _ us hl => match us, hl with | [_, _], _ => rfl), m_l_pick := PySem.W.mg_of X G A_l_pick,
    a_l_hull := f_l_hull, d_l_hull := _, F_l_hull := fun_mk (st := s_l_hull) L_l_hull C_l_hull K_l_hull, b_l_hull := (fun_mk (st := s_l_hull) L_l_hull C_l_hull K_l_hull).binds (ps := p_l_hull) (fun _ _ _ _ _ _ us hl => match us, hl with | [_, _], _ => rfl), m_l_hull := PySem.W.mg_of X G A_l_hull,
    a_l_belongs := f_l_belongs, d_l_belongs := _, F_l_belongs := fun_mk (st := s_l_belongs) L_l_belongs C_l_belongs K_l_belongs, b_l_belongs := (fun_mk (st := s_l_belongs) L_l_belongs C_l_belongs K_l_belongs).binds (ps := p_l_belongs) (fun _ _ _ _ _ _ us hl => match us, hl with | [_, _], _ => rfl), m_l_belongs := PySem.W.mg_of X G A_l_belongs,
    a_l_grid := f_l_grid, d_l_grid := _, F_l_grid := fun_mk (st := s_l_grid) L_l_grid C_l_grid K_l_grid, b_l_grid := (fun_mk (st := s_l_grid) L_l_grid C_l_grid K_l_grid).binds (ps := p_l_grid) (fun _ _ _ _ _ _ us hl => match us, hl with | [_], _ => rfl), m_l_grid := PySem.W.mg_of X G A_l_grid,
    a_l_same := f_l_same, d_l_same := _, F_l_same := fun_mk (st := s_l_same) L_l_same C_l_same K_l_same, b_l_same := (fun_mk (st := s_l_same) L_l_same C_l_same K_l_same).binds (ps := p_l_same) (fun _ _ _ _ _ _ us hl => match us, hl with | [_, _], _ => rfl), m_l_same := PySem.W.mg_of X G A_l_same,
    a_l_points := f_l_points, d_l_points := _, F_l_points := fun_mk (st := s_l_points) L_l_points C_l_points K_l_points, b_l_points := (fun_mk (st := s_l_points) L_l_points C_l_points K_l_points).binds (ps := p_l_points) (fun _ _ _ _ _ _ us hl => match us, hl with | [_], _ => rfl), m_l_points := PySem.W.mg_of X G A_l_points,
    a_l_fits := f_l_fits, d_l_fits := _, F_l_fits := fun_mk (st := s_l_fits) L_l_fits C_l_fits K_l_fits, b_l_fits := (fun_mk (st := s_l_fits) L_l_fits C_l_fits K_l_fits).binds (ps := p_l_fits) (fun _ _ _ _ _ _ us hl => match us, hl with | [_, _, _, _], _ => rfl), m_l_fits := PySem.W.mg_of X G A_l_fits,
    a_l_number := f_l_number, d_l_number := _, F_l_number := fun_mk (st := s_l_number) L_l_number C_l_number K_l_number, b_l_number := (fun_mk (st := s_l_number) L_l_number C_l_number K_l_number).binds (ps := p_l_number) (fun _ _ _ _ _ _ us hl => match us, hl with | [_], _ => rfl), m_l_number := PySem.W.mg_of X G A_l_number,
    a_l_bounded := f_l_bounded, d_l_bounded := _, F_l_bounded := fun_mk (st := s_l_bounded) L_l_bounded C_l_bounded K_l_bounded, b_l_bounded := (fun_mk (st := s_l_bounded) L_l_bounded C_l_bounded K_l_bounded).binds (ps := p_l_bounded) (fun _ _ _ _ _ _ us hl => match us, hl with | [_, _, _, _], _ => rfl), m_l_bounded := PySem.W.mg_of X G A_l_bounded,
    a_l_size := f_l_size, d_l_size := _, F_l_size := fun_mk (st := s_l_size) L_l_size C_l_size K_l_size, b_l_size := (fun_mk (st := s_l_size) L_l_size C_l_size K_l_size).binds (ps := p_l_size) (fun _ _ _ _ _ _ us hl => match us, hl with | [_], _ => rfl), m_l_size := PySem.W.mg_of X G A_l_size,
    a_l_drawn_box := f_l_drawn_box, d_l_drawn_box := _, F_l_drawn_box := fun_mk (st := s_l_drawn_box) L_l_drawn_box C_l_drawn_box K_l_drawn_box, b_l_drawn_box := (fun_mk (st := s_l_drawn_box) L_l_drawn_box C_l_drawn_box K_l_drawn_box).binds (ps := p_l_drawn_box) (fun _ _ _ _ _ _ us hl => match us, hl with | [_, _], _ => rfl), m_l_drawn_box := PySem.W.mg_of X G A_l_drawn_box,
    a_l_wide_box := f_l_wide_box, d_l_wide_box := _, F_l_wide_box := fun_mk (st := s_l_wide_box) L_l_wide_box C_l_wide_box K_l_wide_box, b_l_wide_box := (fun_mk (st := s_l_wide_box) L_l_wide_box C_l_wide_box K_l_wide_box).binds (ps := p_l_wide_box) (fun _ _ _ _ _ _ us hl => match us, hl with | [_, _, _], _ => rfl), m_l_wide_box := PySem.W.mg_of X G A_l_wide_box,
    a_l_part := f_l_part, d_l_part := _, F_l_part := fun_mk (st := s_l_part) L_l_part C_l_part K_l_part, b_l_part := (fun_mk (st := s_l_part) L_l_part C_l_part K_l_part).binds (ps := p_l_part) (fun _ _ _ _ _ _ us hl => match us, hl with | [_, _, _, _], _ => rfl), m_l_part := PySem.W.mg_of X G A_l_part,
    a_l_meets := f_l_meets, d_l_meets := _, F_l_meets := fun_mk (st := s_l_meets) L_l_meets C_l_meets K_l_meets, b_l_meets := (fun_mk (st := s_l_meets) L_l_meets C_l_meets K_l_meets).binds (ps := p_l_meets) (fun _ _ _ _ _ _ us hl => match us, hl with | [_, _, _], _ => rfl), m_l_meets := PySem.W.mg_of X G A_l_meets,
    a_l_bounds := f_l_bounds, d_l_bounds := _, F_l_bounds := fun_mk (st := s_l_bounds) L_l_bounds C_l_bounds K_l_bounds, b_l_bounds := (fun_mk (st := s_l_bounds) L_l_bounds C_l_bounds K_l_bounds).binds (ps := p_l_bounds) (fun _ _ _ _ _ _ us hl => match us, hl with | [_, _, _, _, _], _ => rfl), m_l_bounds := PySem.W.mg_of X G A_l_bounds,
    a_l_ranges := f_l_ranges, d_l_ranges := _, F_l_ranges := fun_mk (st := s_l_ranges) L_l_ranges C_l_ranges K_l_ranges, b_l_ranges := (fun_mk (st := s_l_ranges) L_l_ranges C_l_ranges K_l_ranges).binds (ps := p_l_ranges) (fun _ _ _ _ _ _ us hl => match us, hl with | [_, _, _], _ => rfl), m_l_ranges := PySem.W.mg_of X G A_l_ranges,
    a_l_asks_small := f_l_asks_small, d_l_asks_small := _, F_l_asks_small := fun_mk (st := s_l_asks_small) L_l_asks_small C_l_asks_small K_l_asks_small, b_l_asks_small := (fun_mk (st := s_l_asks_small) L_l_asks_small C_l_asks_small K_l_asks_small).binds (ps := p_l_asks_small) (fun _ _ _ _ _ _ us hl => match us, hl with | [_, _], _ => rfl), m_l_asks_small := PySem.W.mg_of X G A_l_asks_small,
    a_l_asks_wide := f_l_asks_wide, d_l_asks_wide := _, F_l_asks_wide := fun_mk (st := s_l_asks_wide) L_l_asks_wide C_l_asks_wide K_l_asks_wide, b_l_asks_wide := (fun_mk (st := s_l_asks_wide) L_l_asks_wide C_l_asks_wide K_l_asks_wide).binds (ps := p_l_asks_wide) (fun _ _ _ _ _ _ us hl => match us, hl with | [_, _], _ => rfl), m_l_asks_wide := PySem.W.mg_of X G A_l_asks_wide,
    a_l_chain := f_l_chain, d_l_chain := _, F_l_chain := fun_mk (st := s_l_chain) L_l_chain C_l_chain K_l_chain, b_l_chain := (fun_mk (st := s_l_chain) L_l_chain C_l_chain K_l_chain).binds (ps := p_l_chain) (fun _ _ _ _ _ _ us hl => match us, hl with | [_, _, _, _], _ => rfl), m_l_chain := PySem.W.mg_of X G A_l_chain,
    a_l_asks_chain := f_l_asks_chain, d_l_asks_chain := _, F_l_asks_chain := fun_mk (st := s_l_asks_chain) L_l_asks_chain C_l_asks_chain K_l_asks_chain, b_l_asks_chain := (fun_mk (st := s_l_asks_chain) L_l_asks_chain C_l_asks_chain K_l_asks_chain).binds (ps := p_l_asks_chain) (fun _ _ _ _ _ _ us hl => match us, hl with | [_], _ => rfl), m_l_asks_chain := PySem.W.mg_of X G A_l_asks_chain,
    a_law := fa, d_law := _, F_law := fun_mk (st := s_law) L_law C_law K_law, b_law := (fun_mk (st := s_law) L_law C_law K_law).binds (ps := p_law) (fun _ _ _ _ _ _ us hl => match us, hl with | [_], _ => rfl), m_law := PySem.W.mg_of X G A_law,
    z_abs := PySem.W.mg_none_of X G Z_abs,
    z_any := PySem.W.mg_none_of X G Z_any,
    z_bool := PySem.W.mg_none_of X G Z_bool,
    z_enumerate := PySem.W.mg_none_of X G Z_enumerate,
    z_int := PySem.W.mg_none_of X G Z_int,
    z_isinstance := PySem.W.mg_none_of X G Z_isinstance,
    z_len := PySem.W.mg_none_of X G Z_len,
    z_list := PySem.W.mg_none_of X G Z_list,
    z_max := PySem.W.mg_none_of X G Z_max,
    z_min := PySem.W.mg_none_of X G Z_min,
    z_range := PySem.W.mg_none_of X G Z_range,
    z_str := PySem.W.mg_none_of X G Z_str,
    z_tuple := PySem.W.mg_none_of X G Z_tuple,
    z_zip := PySem.W.mg_none_of X G Z_zip }
  refine ⟨PySem.W.fnOf "law" "law" (defArgs s_law) (defBody s_law) (defScope s_law) .none kV_law dc_law pm_law an_law cd_law ct_law, fun s v => .of_eq rfl, fun base _ _ => ok_law T⟩
theorem walk {l : PySem.W.OpenLaw} {q : Program} {loose : List Str} {XP : (Str → Option Value) → Heap → Prop} {YP : World → Heap → Prop} {d : DefRec} {K : Params → PySem.W.Frag} (hn : l.most = some 63) (hdf : d.params.defaults = [])
    (hY : ∀ (w : World) (h : Heap), YP w h → (K w.params).In h)
    (F : ∀ (w : World) (mg : Str → Option Value) (fa : Addr) (h : Heap), (K w.params).In h → h.Ns mainGlobals mg → mg d.name = some (.ref fa) →
      ∃ fd : FuncData, (∀ (s : Shared) (u : Value), BindsTo s fd ⟨[u], []⟩ [("_law_script", u)]) ∧ ∀ base : Heap, (K w.params).In base → base.Ns mainGlobals mg → FnOk l.prog w (K w.params) mg base CX0 6 fa fd ["_law_script"] (spLaw (K w.params))) :
    PySem.W.WalkO q loose XP YP l.row.toRowW d [] (fun f vs => PySem.call f vs) :=
  L2.walk_of (n := 63) (k := 6) (x := "_law_script") (CX := fun _ => CX0) (sp := fun w => spLaw (K w.params)) hn (by decide) hdf ⟨rfl, by decide, by decide⟩ hY F (fun _ _ a ns hl _ hS => ⟨a, ns, rfl, hS, hl, fun _ => rfl⟩) fun _ _ _ _ _ z => z
end Mine
open PySem PySem.W PyProof.Rows
set_option maxRecDepth 100000 in
set_option maxHeartbeats 0 in
theorem PySem.Challenge.cw_neverhappens_k18_bound_and_meet_holds : PySem.Challenge.rw_neverhappens_k18_bound_and_meet.Holds := by
  w_on; o_law; k_head; (case hw => w_witness2)
  k_fill
  refine Mine.walk (l := PySem.Challenge.rw_neverhappens_k18_bound_and_meet) rfl rfl (fun w h Y => PySem.W.kIn_of Y) ?F
  case F =>
    intro w mg fa h KX G hmg
    refine' Mine.all_mk KX G hmg ?A_close ?L_close ?C_close ?K_close ?A_has_contradiction ?L_has_contradiction ?C_has_contradiction ?K_has_contradiction ?A_shortened ?L_shortened ?C_shortened ?K_shortened ?A_frozen ?L_frozen ?C_frozen ?K_frozen ?A_range_box ?L_range_box ?C_range_box ?K_range_box ?A_bound ?L_bound ?C_bound ?K_bound ?A_meet_boxes ?L_meet_boxes ?C_meet_boxes ?K_meet_boxes ?A_l_cell ?L_l_cell ?C_l_cell ?K_l_cell ?A_l_source ?L_l_source ?C_l_source ?K_l_source ?A_l_pick ?L_l_pick ?C_l_pick ?K_l_pick ?A_l_hull ?L_l_hull ?C_l_hull ?K_l_hull ?A_l_belongs ?L_l_belongs ?C_l_belongs ?K_l_belongs ?A_l_grid ?L_l_grid ?C_l_grid ?K_l_grid ?A_l_same ?L_l_same ?C_l_same ?K_l_same ?A_l_points ?L_l_points ?C_l_points ?K_l_points ?A_l_fits ?L_l_fits ?C_l_fits ?K_l_fits ?A_l_number ?L_l_number ?C_l_number ?K_l_number ?A_l_bounded ?L_l_bounded ?C_l_bounded ?K_l_bounded ?A_l_size ?L_l_size ?C_l_size ?K_l_size ?A_l_drawn_box ?L_l_drawn_box ?C_l_drawn_box ?K_l_drawn_box ?A_l_wide_box ?L_l_wide_box ?C_l_wide_box ?K_l_wide_box ?A_l_part ?L_l_part ?C_l_part ?K_l_part ?A_l_meets ?L_l_meets ?C_l_meets ?K_l_meets ?A_l_bounds ?L_l_bounds ?C_l_bounds ?K_l_bounds ?A_l_ranges ?L_l_ranges ?C_l_ranges ?K_l_ranges ?A_l_asks_small ?L_l_asks_small ?C_l_asks_small ?K_l_asks_small ?A_l_asks_wide ?L_l_asks_wide ?C_l_asks_wide ?K_l_asks_wide ?A_l_chain ?L_l_chain ?C_l_chain ?K_l_chain ?A_l_asks_chain ?L_l_asks_chain ?C_l_asks_chain ?K_l_asks_chain ?A_law ?L_law ?C_law ?K_law ?Z_abs ?Z_any ?Z_bool ?Z_enumerate ?Z_int ?Z_isinstance ?Z_len ?Z_list ?Z_max ?Z_min ?Z_range ?Z_str ?Z_tuple ?Z_zip
    (case A_close => k_is)
    (case L_close => k_is)
    (case C_close => k_is)
    (case K_close => k_is)
    (case A_has_contradiction => k_is)
    (case L_has_contradiction => k_is)
    (case C_has_contradiction => k_is)
    (case K_has_contradiction => k_is)
    (case A_shortened => k_is)
    (case L_shortened => k_is)
    (case C_shortened => k_is)
    (case K_shortened => k_is)
    (case A_frozen => k_is)
    (case L_frozen => k_is)
    (case C_frozen => k_is)
    (case K_frozen => k_is)
    (case A_range_box => k_is)
    (case L_range_box => k_is)
    (case C_range_box => k_is)
    (case K_range_box => k_is)
    (case A_bound => k_is)
    (case L_bound => k_is)
    (case C_bound => k_is)
    (case K_bound => k_is)
    (case A_meet_boxes => k_is)
    (case L_meet_boxes => k_is)
    (case C_meet_boxes => k_is)
    (case K_meet_boxes => k_is)
    (case A_l_cell => k_is)
    (case L_l_cell => k_is)
    (case C_l_cell => k_is)
    (case K_l_cell => k_is)
    (case A_l_source => k_is)
    (case L_l_source => k_is)
    (case C_l_source => k_is)
    (case K_l_source => k_is)
    (case A_l_pick => k_is)
    (case L_l_pick => k_is)
    (case C_l_pick => k_is)
    (case K_l_pick => k_is)
    (case A_l_hull => k_is)
    (case L_l_hull => k_is)
    (case C_l_hull => k_is)
    (case K_l_hull => k_is)
    (case A_l_belongs => k_is)
    (case L_l_belongs => k_is)
    (case C_l_belongs => k_is)
    (case K_l_belongs => k_is)
    (case A_l_grid => k_is)
    (case L_l_grid => k_is)
    (case C_l_grid => k_is)
    (case K_l_grid => k_is)
    (case A_l_same => k_is)
    (case L_l_same => k_is)
    (case C_l_same => k_is)
    (case K_l_same => k_is)
    (case A_l_points => k_is)
    (case L_l_points => k_is)
    (case C_l_points => k_is)
    (case K_l_points => k_is)
    (case A_l_fits => k_is)
    (case L_l_fits => k_is)
    (case C_l_fits => k_is)
    (case K_l_fits => k_is)
    (case A_l_number => k_is)
    (case L_l_number => k_is)
    (case C_l_number => k_is)
    (case K_l_number => k_is)
    (case A_l_bounded => k_is)
    (case L_l_bounded => k_is)
    (case C_l_bounded => k_is)
    (case K_l_bounded => k_is)
    (case A_l_size => k_is)
    (case L_l_size => k_is)
    (case C_l_size => k_is)
    (case K_l_size => k_is)
    (case A_l_drawn_box => k_is)
    (case L_l_drawn_box => k_is)
    (case C_l_drawn_box => k_is)
    (case K_l_drawn_box => k_is)
    (case A_l_wide_box => k_is)
    (case L_l_wide_box => k_is)
    (case C_l_wide_box => k_is)
    (case K_l_wide_box => k_is)
    (case A_l_part => k_is)
    (case L_l_part => k_is)
    (case C_l_part => k_is)
    (case K_l_part => k_is)
    (case A_l_meets => k_is)
    (case L_l_meets => k_is)
    (case C_l_meets => k_is)
    (case K_l_meets => k_is)
    (case A_l_bounds => k_is)
    (case L_l_bounds => k_is)
    (case C_l_bounds => k_is)
    (case K_l_bounds => k_is)
    (case A_l_ranges => k_is)
    (case L_l_ranges => k_is)
    (case C_l_ranges => k_is)
    (case K_l_ranges => k_is)
    (case A_l_asks_small => k_is)
    (case L_l_asks_small => k_is)
    (case C_l_asks_small => k_is)
    (case K_l_asks_small => k_is)
    (case A_l_asks_wide => k_is)
    (case L_l_asks_wide => k_is)
    (case C_l_asks_wide => k_is)
    (case K_l_asks_wide => k_is)
    (case A_l_chain => k_is)
    (case L_l_chain => k_is)
    (case C_l_chain => k_is)
    (case K_l_chain => k_is)
    (case A_l_asks_chain => k_is)
    (case L_l_asks_chain => k_is)
    (case C_l_asks_chain => k_is)
    (case K_l_asks_chain => k_is)
    (case A_law => k_is)
    (case L_law => k_is)
    (case C_law => k_is)
    (case K_law => k_is)
    (case Z_abs => k_is)
    (case Z_any => k_is)
    (case Z_bool => k_is)
    (case Z_enumerate => k_is)
    (case Z_int => k_is)
    (case Z_isinstance => k_is)
    (case Z_len => k_is)
    (case Z_list => k_is)
    (case Z_max => k_is)
    (case Z_min => k_is)
    (case Z_range => k_is)
    (case Z_str => k_is)
    (case Z_tuple => k_is)
    (case Z_zip => k_is)
#print axioms PySem.Challenge.cw_neverhappens_k18_bound_and_meet_holds
