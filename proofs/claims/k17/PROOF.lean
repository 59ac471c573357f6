import PyProof.Rows.All
import Wide.All
import OpenK.AllK
import Wide.FinOn
import HandS.ForMost
import HandS.IsInst
import HandS.FStr
import HandS.Codes
import HandS.Star
import HandS.Zip
import HandS.More
import HandS.Defaults
import HandS.Rev
import HandS.Walk
import HandS.TupAny
import HandS.TupMul
import HandS.Wide
import HandS.Style
import HandS.Iter
import HandS.Conv
import KE.KTurns
import KE.GoesMore
import PySem.Challenge.RW_neverhappens_k17_close
set_option Elab.async false
set_option linter.all false
set_option maxRecDepth 100000
set_option maxHeartbeats 4000000
namespace ZG
open PySem PySem.Spec PyProof.Rows L2
/-! ### zip of two rows, each a list or a tuple; the target any -/
def ItAt (t : Bool) (h : Heap) (i l : Addr) (k : Nat) : Prop := match t with
  | true => h.IsTupleIter i l k
  | false => h.IsListIter i l k
def SeqIs (t : Bool) (h : Heap) (l : Addr) (xs : Array Value) : Prop := match t with
  | true => h.IsTuple l xs
  | false => h.IsList l xs
def Sq (t : Bool) (K : PySem.W.Frag) (H : Hp) (a : Addr) (xs : List V) : Prop := match t with
  | true => SqT K H a xs
  | false => SqL K H a xs
theorem ItAt.on {t : Bool} {h h' : Heap} {i l : Addr} {k : Nat} (x : ItAt t h i l k) (e : ∀ o, h.get? i = some o → h'.get? i = some o) : ItAt t h' i l k := by
  cases t
  · exact Heap.IsListIter.at x e
  · exact Heap.IsTupleIter.at x e
theorem ItAt.get {t : Bool} {h : Heap} {i l : Addr} {k : Nat} (x : ItAt t h i l k) : ∃ o fs, h.get? i = some o ∧ o.data = .fields fs := by
  cases t <;> (obtain ⟨o, e, _, d⟩ := x; exact ⟨o, _, e, d⟩)
theorem SeqIs.on {t : Bool} {h h' : Heap} {b l : Addr} {xs : Array Value} (x : SeqIs t h l xs) (hs : Heap.ExtBut b h h') (ne : l ≠ b) : SeqIs t h' l xs := by
  cases t
  · exact Heap.IsList.extBut x hs ne
  · exact Heap.IsTuple.extBut x hs ne
theorem SeqIs.push {t : Bool} {h : Heap} {l : Addr} {xs : Array Value} (x : SeqIs t h l xs) (o : Obj) : SeqIs t (h.push o) l xs := by
  cases t
  · exact Heap.IsList.push x o
  · exact Heap.IsTuple.push x o
theorem SeqIs.lt {t : Bool} {h : Heap} {l : Addr} {xs : Array Value} (x : SeqIs t h l xs) : l < h.objs.size := by
  cases t <;> (obtain ⟨o, e, _⟩ := x; exact Heap.lt_size e)
abbrev itObj (t : Bool) (l : Addr) : Obj := { cls := .type (if t then "tuple_iterator" else "list_iterator"), data := .fields #[.ref l, .int 0 0] }
theorem itAt_new (t : Bool) {h : Heap} {i l : Addr} (e : h.get? i = some (itObj t l)) : ItAt t h i l 0 := by
  cases t <;> exact ⟨_, e, rfl, rfl⟩
section
variable {prog : Program} {w : World} {A : Around} {E : Value → Shared → Prop} {s : Shared}
theorem nextIn_item {t : Bool} {i l : Addr} {k : Nat} {xs : Array Value} {x : Value} {Q : Value → Shared → Prop} (h1 : ItAt t s.heap i l k) (h2 : SeqIs t s.heap l xs) (hx : xs[k]? = some x)
    (q : ∀ h', ItAt t h' i l (k + 1) → Heap.SameBut i s.heap h' → Q x { s with heap := h' }) : wpAny (model prog w) A (Builtin.SmallTypes.nextOf (.ref i)) Q E s := by
  cases t
  · exact wpAny_nextOf_list_item h1 h2 hx q
  · exact RZ.nextOf_tuple_item h1 h2 hx q
theorem nextIn_end {t : Bool} {i l : Addr} {k : Nat} {xs : Array Value} {Q : Value → Shared → Prop} (hh : A.handled = none) (h1 : ItAt t s.heap i l k) (h2 : SeqIs t s.heap l xs) (hx : xs[k]? = none)
    (q : ∀ h' e, Heap.ExtBut i s.heap h' → (∃ o, h'.get? e = some o ∧ o.cls = .type "StopIteration") → E (.ref e) { s with heap := h' }) : wpAny (model prog w) A (Builtin.SmallTypes.nextOf (.ref i)) Q E s := by
  cases t
  · exact wpAny_nextOf_list_end hh h1 h2 hx q
  · exact RZ.nextOf_tuple_end hh h1 h2 hx q
/-- the zip at z: f0 tells which tuple it gave out -/
abbrev ZipSt (h : Heap) (z TI TO : Addr) (f0 : Value) (f : Bool) : Prop :=
  h.get? z = some { cls := .type "zip", dict := none, data := .fields #[f0, .bool f, .bool false, .ref TI, .ref TO], slots := #[] }
def Gave (f0 : Value) : Prop := f0 = .none ∨ ∃ T : Addr, f0 = rawInt T
theorem gave_free {z TI TO : Addr} {f0 : Value} {f : Bool} {Q : Bool → Shared → Prop} (hz : ZipSt s.heap z TI TO f0 f) (g : Gave f0) (q1 : Q true s)
    (q2 : ∀ h', ZipSt h' z TI TO f0 true → Heap.SameBut z s.heap h' → Q false { s with heap := h' }) : wpAny (model prog w) A (Builtin.SmallTypes.ownedTupleIsFree (.ref z)) Q E s := by
  unfold Builtin.SmallTypes.ownedTupleIsFree
  rcases g with rfl | ⟨T, rfl⟩
  · exact wpAny_bind (wpAny_field hz rfl (x := .none) rfl (wpAny_pure q1))
  refine wpAny_bind (wpAny_field hz rfl (x := rawInt T) rfl ?_)
  show wpAny _ _ (loadIfAlive ((T : Int).toNat) >>= _) _ _ _
  rw [Int.toNat_natCast]
  have k : ∀ {Q' : Option Obj → Shared → Prop}, Q' (s.heap.get? T) s → wpAny (model prog w) A (loadIfAlive T) Q' E s := fun h => fun _ _ _ => h
  refine wpAny_bind (k ?_)
  cases s.heap.get? T with
  | none =>
    simp only [Option.isNone_none, if_true]
    exact wpAny_pure q1
  | some oT =>
    simp only [Option.isNone_some, Bool.false_eq_true, if_false]
    refine wpAny_bind (wpAny_field hz rfl (x := .bool f) rfl ?_)
    cases f with
    | true =>
      rw [if_neg (show ¬ ((Value.bool true != Value.bool true) = true) from Bool.false_ne_true)]
      exact wpAny_pure (q2 s.heap hz (Heap.SameBut.refl _ _))
    | false =>
      rw [if_pos (show (Value.bool false != Value.bool true) = true from rfl)]
      exact wpAny_bind (wpAny_setField_rec hz (by simp) fun h₁ z1 s1 => wpAny_pure (q2 h₁ z1 s1))
/-- a zip that has an item left -/
theorem zipG_item {t1 t2 : Bool} {z TI TO i1 i2 l1 l2 : Addr} {f0 : Value} {f : Bool} {k1 k2 : Nat} {xs ys : Array Value} {x y a b : Value} {Q : Option Value → Shared → Prop} (D : ZipApart z TI TO i1 i2 l1 l2)
    (hz : ZipSt s.heap z TI TO f0 f) (g : Gave f0) (hTI : IsPair s.heap TI (.ref i1) (.ref i2)) (hTO : IsPair s.heap TO a b)
    (h1 : ItAt t1 s.heap i1 l1 k1) (h2 : ItAt t2 s.heap i2 l2 k2) (hl1 : SeqIs t1 s.heap l1 xs) (hl2 : SeqIs t2 s.heap l2 ys) (hx : xs[k1]? = some x) (hy : ys[k2]? = some y)
    (hQ : ∀ h' f0' f', ZipSt h' z TI TO f0' f' → Gave f0' → (∃ a b, IsPair h' TO a b) → ItAt t1 h' i1 l1 (k1 + 1) → ItAt t2 h' i2 l2 (k2 + 1) → IsPair h' s.heap.objs.size x y → h'.objs.size = s.heap.objs.size + 1 →
      (∀ c o, c ≠ z → c ≠ TO → c ≠ i1 → c ≠ i2 → s.heap.get? c = some o → h'.get? c = some o) → Q (some (.ref s.heap.objs.size)) { s with heap := h' }) :
    wpAny (model prog w) A (pyNext (.ref z)) Q E s := by
  have hT : s.TypeIs (.ref z) "zip" := ⟨_, hz, rfl⟩
  unfold pyNext
  refine wpAny_bind (wpAny_attempt (wpAny_callSpecial?_slot (name := Str.ofString "__next__") hT F.slot_zip_next (wpAny_call_entry F.slot_zip_next hT F.entry_zip_next ?_ (F.args_zip_next_1 _))))
  show wpAny _ _ (field (.ref z) 2 >>= _) _ _ _
  refine wpAny_bind (wpAny_field hz rfl (x := .bool false) rfl ?_)
  show wpAny _ _ (field (.ref z) 3 >>= _) _ _ _
  refine wpAny_bind (wpAny_field hz rfl (x := .ref TI) rfl ?_)
  refine wpAny_bind (wpAny_seqItems hTI rfl ?_)
  refine wpAny_bind (gave_free (z := z) hz g ?free fun u1 z1 s1 => ?held)
  case free =>
    simp only [if_true]
    refine wpAny_bind (wpAny_rule ?_)
    refine wpAny_bind (wpAny_field hz rfl (x := .ref TO) rfl ?_)
    refine wpAny_bind (wpAny_setField_rec hz (by simp) fun u1 z1 s1 => ?_)
    replace z1 : ZipSt u1 z TI TO .ellipsis f := z1
    refine wpAny_bind ?_
    simp only [List.zipIdx_cons, List.zipIdx_nil, List.forIn_cons, List.forIn_nil]
    refine wpAny_bind (wpAny_bind (wpAny_onRaise ?_))
    show wpAny _ _ (Builtin.SmallTypes.nextOf (.ref i1) >>= _) _ _ _
    refine wpAny_bind (nextIn_item (h1.on fun o e => s1.extBut _ _ D.i1z e) (hl1.on s1.extBut D.l1z) hx fun u2 a2 s2 => wpAny_pure ?_)
    have p2 : IsPair u2 TO a b := s2.extBut _ _ D.TOi1 (s1.extBut _ _ D.TOz hTO)
    refine wpAny_bind (wpAny_seqItems p2 rfl ?_)
    refine wpAny_bind (wpAny_updateSeq_pair p2 fun u3 p3 s3 => ?_)
    replace p3 : IsPair u3 TO x b := p3
    refine wpAny_bind (wpAny_letGo (wpAny_pure ?_))
    refine wpAny_bind (wpAny_bind (wpAny_onRaise ?_))
    show wpAny _ _ (Builtin.SmallTypes.nextOf (.ref i2) >>= _) _ _ _
    refine wpAny_bind (nextIn_item (h2.on fun o e => s3.extBut _ _ D.TOi2.symm (s2.extBut _ _ D.i12.symm (s1.extBut _ _ D.i2z e)))
      (((hl2.on s1.extBut D.l2z).on s2.extBut D.l2i1).on s3.extBut D.l2TO) hy fun u4 a4 s4 => wpAny_pure ?_)
    have p4 : IsPair u4 TO x b := s4.extBut _ _ D.TOi2 p3
    refine wpAny_bind (wpAny_seqItems p4 rfl ?_)
    refine wpAny_bind (wpAny_updateSeq_pair p4 fun u5 p5 s5 => ?_)
    replace p5 : IsPair u5 TO x y := p5
    refine wpAny_bind (wpAny_letGo (wpAny_pure (wpAny_pure ?_)))
    refine wpAny_bind (wpAny_seqItems p5 rfl ?_)
    refine wpAny_bind (wpAny_newTuple ?_)
    have sz : u5.objs.size = s.heap.objs.size := by rw [s5.1, s4.1, s3.1, s2.1, s1.1]
    have z5 : ZipSt u5 z TI TO .ellipsis f := s5.extBut _ _ D.TOz.symm (s4.extBut _ _ D.i2z.symm (s3.extBut _ _ D.TOz.symm (s2.extBut _ _ D.i1z.symm z1)))
    have k5 : ∀ c o, c ≠ z → c ≠ TO → c ≠ i1 → c ≠ i2 → s.heap.get? c = some o → u5.get? c = some o := fun c o c1 c2 c3 c4 e =>
      s5.extBut _ _ c2 (s4.extBut _ _ c4 (s3.extBut _ _ c2 (s2.extBut _ _ c3 (s1.extBut _ _ c1 e))))
    have b1 : ItAt t1 u5 i1 l1 (k1 + 1) := a2.on fun o e => s5.extBut _ _ D.TOi1.symm (s4.extBut _ _ D.i12 (s3.extBut _ _ D.TOi1.symm e))
    have b2 : ItAt t2 u5 i2 l2 (k2 + 1) := a4.on fun o e => s5.extBut _ _ D.TOi2.symm e
    have zl : z < u5.objs.size := Heap.lt_size z5
    show wpAny _ _ (Builtin.SmallTypes.ownedTupleHandOut (.ref z) (.ref u5.objs.size) >>= _) _ _ _
    refine wpAny_bind ?_
    unfold Builtin.SmallTypes.ownedTupleHandOut
    have z6 : ZipSt (u5.push { cls := .type "tuple", data := .seq #[x, y] }) z TI TO .ellipsis f := Heap.get?_push_of_some _ z5
    refine wpAny_bind (wpAny_setField_rec z6 (by simp) fun u7 z7 s7 => ?_)
    replace z7 : ZipSt u7 z TI TO (rawInt u5.objs.size) f := z7
    refine wpAny_setField_rec z7 (by simp) fun u8 z8 s8 => ?_
    replace z8 : ZipSt u8 z TI TO (rawInt u5.objs.size) false := z8
    have up : ∀ c o, c ≠ z → u5.get? c = some o → u8.get? c = some o := fun c o c1 e => s8.extBut _ _ c1 (s7.extBut _ _ c1 (Heap.get?_push_of_some _ e))
    have t8 : IsPair u8 u5.objs.size x y := s8.extBut _ _ (Nat.ne_of_gt zl) (s7.extBut _ _ (Nat.ne_of_gt zl) (Heap.get?_push_size _ rfl))
    have n8 : u8.objs.size = u5.objs.size + 1 := by rw [s8.1, s7.1, Heap.size_push]
    rw [sz] at z8 t8 n8
    refine wpAny_pure ⟨_, rfl, wpAny_pure ?_⟩
    show Q (some (.ref u5.objs.size)) _
    rw [sz]
    exact hQ u8 _ _ z8 (.inr ⟨_, rfl⟩) ⟨_, _, up _ _ D.TOz p5⟩ (b1.on fun o e => up _ o D.i1z e) (b2.on fun o e => up _ o D.i2z e) t8 n8 fun c o c1 c2 c3 c4 e => up c o c1 (k5 c o c1 c2 c3 c4 e)
  case held =>
    simp only [Bool.false_eq_true, if_false]
    refine wpAny_bind ?_
    rw [← Array.forIn_toList]
    simp only [List.forIn_cons, List.forIn_nil]
    refine wpAny_bind (wpAny_bind (wpAny_holding ?_))
    show wpAny _ _ (Builtin.SmallTypes.nextOf (.ref i1) >>= _) _ _ _
    refine wpAny_bind (nextIn_item (s := { s with heap := u1 }) (h1.on fun o e => s1.extBut _ _ D.i1z e) (hl1.on s1.extBut D.l1z) hx fun u2 a2 s2 => wpAny_pure ?_)
    refine wpAny_pure ?_
    refine wpAny_bind (wpAny_bind (wpAny_holding ?_))
    show wpAny _ _ (Builtin.SmallTypes.nextOf (.ref i2) >>= _) _ _ _
    refine wpAny_bind (nextIn_item (s := { s with heap := u2 }) (h2.on fun o e => s2.extBut _ _ D.i12.symm (s1.extBut _ _ D.i2z e)) ((hl2.on s1.extBut D.l2z).on s2.extBut D.l2i1) hy fun u3 a3 s3 => wpAny_pure ?_)
    refine wpAny_pure (wpAny_pure ?_)
    show wpAny _ _ (newTuple [x, y] >>= _) _ _ _
    refine wpAny_bind (wpAny_newTuple ?_)
    have sz : u3.objs.size = s.heap.objs.size := by rw [s3.1, s2.1, s1.1]
    have z3 : ZipSt u3 z TI TO f0 true := s3.extBut _ _ D.i2z.symm (s2.extBut _ _ D.i1z.symm z1)
    have k3 : ∀ c o, c ≠ z → c ≠ TO → c ≠ i1 → c ≠ i2 → s.heap.get? c = some o → u3.get? c = some o := fun c o c1 _ c2 c3 e => s3.extBut _ _ c3 (s2.extBut _ _ c2 (s1.extBut _ _ c1 e))
    have b1 : ItAt t1 u3 i1 l1 (k1 + 1) := a2.on fun o e => s3.extBut _ _ D.i12 e
    refine wpAny_pure ⟨_, rfl, wpAny_pure ?_⟩
    show Q (some (.ref u3.objs.size)) _
    have hp : IsPair (u3.push { cls := .type "tuple", data := .seq #[x, y] }) u3.objs.size x y := Heap.get?_push_size _ rfl
    have n4 : (u3.push { cls := .type "tuple", data := .seq #[x, y] }).objs.size = u3.objs.size + 1 := Heap.size_push ..
    have pTO : IsPair u3 TO a b := s3.extBut _ _ D.TOi2 (s2.extBut _ _ D.TOi1 (s1.extBut _ _ D.TOz hTO))
    rw [sz] at hp n4 ⊢
    exact hQ _ _ _ (Heap.get?_push_of_some _ z3) g ⟨a, b, Heap.get?_push_of_some _ pTO⟩ (b1.on fun o e => Heap.get?_push_of_some _ e) (a3.on fun o e => Heap.get?_push_of_some _ e) hp n4 fun c o c1 c2 c3 c4 e => Heap.get?_push_of_some _ (k3 c o c1 c2 c3 c4 e)
/-- a zip that is through -/
theorem zipG_end {t1 t2 : Bool} {z TI TO i1 i2 l1 l2 : Addr} {f0 : Value} {f : Bool} {k1 k2 : Nat} {xs ys : Array Value} {a b : Value} {Q : Option Value → Shared → Prop} (hh : A.handled = none) (D : ZipApart z TI TO i1 i2 l1 l2)
    (hz : ZipSt s.heap z TI TO f0 f) (g : Gave f0) (hTI : IsPair s.heap TI (.ref i1) (.ref i2)) (hTO : IsPair s.heap TO a b)
    (h1 : ItAt t1 s.heap i1 l1 k1) (h2 : ItAt t2 s.heap i2 l2 k2) (hl1 : SeqIs t1 s.heap l1 xs) (hl2 : SeqIs t2 s.heap l2 ys) (hend : xs[k1]? = none ∨ ys[k2]? = none)
    (hQ : ∀ h', (∀ c o, c ≠ z → c ≠ TO → c ≠ i1 → c ≠ i2 → s.heap.get? c = some o → h'.get? c = some o) → Q none { s with heap := h' }) :
    wpAny (model prog w) A (pyNext (.ref z)) Q E s := by
  have hT : s.TypeIs (.ref z) "zip" := ⟨_, hz, rfl⟩
  have fin : ∀ (h' : Heap) (e : Addr), (∀ c o, c ≠ z → c ≠ TO → c ≠ i1 → c ≠ i2 → s.heap.get? c = some o → h'.get? c = some o) → (∃ o, h'.get? e = some o ∧ o.cls = .type "StopIteration") →
      wpAny (model prog w) A (isInstance (.ref e) (.type "StopIteration")) (fun v s' => v = true ∧ s' = { s with heap := h' }) E { s with heap := h' } := fun h' e _ he => by
    obtain ⟨o, ho, hc⟩ := he
    exact wpAny_isInstance (T := "StopIteration") (b := true) ⟨o, ho, hc⟩ isSubtype_stop ⟨rfl, rfl⟩
  unfold pyNext
  refine wpAny_bind (wpAny_attempt (wpAny_callSpecial?_slot (name := Str.ofString "__next__") hT F.slot_zip_next (wpAny_call_entry F.slot_zip_next hT F.entry_zip_next ?_ (F.args_zip_next_1 _))))
  show wpAny _ _ (field (.ref z) 2 >>= _) _ _ _
  refine wpAny_bind (wpAny_field hz rfl (x := .bool false) rfl ?_)
  show wpAny _ _ (field (.ref z) 3 >>= _) _ _ _
  refine wpAny_bind (wpAny_field hz rfl (x := .ref TI) rfl ?_)
  refine wpAny_bind (wpAny_seqItems hTI rfl ?_)
  refine wpAny_bind (gave_free (z := z) hz g ?free fun u1 z1 s1 => ?held)
  case free =>
    simp only [if_true]
    refine wpAny_bind (wpAny_rule ?_)
    refine wpAny_bind (wpAny_field hz rfl (x := .ref TO) rfl ?_)
    refine wpAny_bind (wpAny_setField_rec hz (by simp) fun u1 z1 s1 => ?_)
    replace z1 : ZipSt u1 z TI TO .ellipsis f := z1
    refine wpAny_bind ?_
    simp only [List.zipIdx_cons, List.zipIdx_nil, List.forIn_cons, List.forIn_nil]
    refine wpAny_bind (wpAny_bind (wpAny_onRaise ?_))
    show wpAny _ _ (Builtin.SmallTypes.nextOf (.ref i1) >>= _) _ _ _
    cases hx : xs[k1]? with
    | none =>
      refine wpAny_bind (nextIn_end hh (h1.on fun o e => s1.extBut _ _ D.i1z e) (hl1.on s1.extBut D.l1z) hx fun u2 e s2 he => ?_)
      obtain ⟨oe, hoe, hce⟩ := he
      have z2 : ZipSt u2 z TI TO .ellipsis f := s2 _ _ D.i1z.symm z1
      have hez : e ≠ z := fun x => by subst x; rw [z2] at hoe; cases hoe; simp at hce
      refine wpAny_setField_rec z2 (by simp) fun u3 _ s3 => ?_
      refine wpAny_bind (wpAny_isInstance (T := "StopIteration") (b := true) ⟨oe, s3.extBut _ _ hez hoe, hce⟩ isSubtype_stop ?_)
      exact wpAny_pure (hQ u3 fun c o c1 _ c3 _ x => s3.extBut _ _ c1 (s2 _ _ c3 (s1.extBut _ _ c1 x)))
    | some x =>
      have hy : ys[k2]? = none := by rcases hend with h | h; rw [hx] at h; cases h; exact h
      refine wpAny_bind (nextIn_item (h1.on fun o e => s1.extBut _ _ D.i1z e) (hl1.on s1.extBut D.l1z) hx fun u2 a2 s2 => wpAny_pure ?_)
      have p2 : IsPair u2 TO a b := s2.extBut _ _ D.TOi1 (s1.extBut _ _ D.TOz hTO)
      refine wpAny_bind (wpAny_seqItems p2 rfl ?_)
      refine wpAny_bind (wpAny_updateSeq_pair p2 fun u3 p3 s3 => ?_)
      refine wpAny_bind (wpAny_letGo (wpAny_pure ?_))
      refine wpAny_bind (wpAny_bind (wpAny_onRaise ?_))
      show wpAny _ _ (Builtin.SmallTypes.nextOf (.ref i2) >>= _) _ _ _
      refine wpAny_bind (nextIn_end hh (h2.on fun o e => s3.extBut _ _ D.TOi2.symm (s2.extBut _ _ D.i12.symm (s1.extBut _ _ D.i2z e)))
        (((hl2.on s1.extBut D.l2z).on s2.extBut D.l2i1).on s3.extBut D.l2TO) hy fun u4 e s4 he => ?_)
      obtain ⟨oe, hoe, hce⟩ := he
      have z4 : ZipSt u4 z TI TO .ellipsis f := s4 _ _ D.i2z.symm (s3.extBut _ _ D.TOz.symm (s2.extBut _ _ D.i1z.symm z1))
      have hez : e ≠ z := fun x => by subst x; rw [z4] at hoe; cases hoe; simp at hce
      refine wpAny_setField_rec z4 (by simp) fun u5 _ s5 => ?_
      refine wpAny_bind (wpAny_isInstance (T := "StopIteration") (b := true) ⟨oe, s5.extBut _ _ hez hoe, hce⟩ isSubtype_stop ?_)
      exact wpAny_pure (hQ u5 fun c o c1 c2 c3 c4 x => s5.extBut _ _ c1 (s4 _ _ c4 (s3.extBut _ _ c2 (s2.extBut _ _ c3 (s1.extBut _ _ c1 x)))))
  case held =>
    simp only [Bool.false_eq_true, if_false]
    refine wpAny_bind ?_
    rw [← Array.forIn_toList]
    simp only [List.forIn_cons, List.forIn_nil]
    refine wpAny_bind (wpAny_bind (wpAny_holding ?_))
    show wpAny _ _ (Builtin.SmallTypes.nextOf (.ref i1) >>= _) _ _ _
    cases hx : xs[k1]? with
    | none =>
      refine wpAny_bind (nextIn_end (s := { s with heap := u1 }) hh (h1.on fun o e => s1.extBut _ _ D.i1z e) (hl1.on s1.extBut D.l1z) hx fun u2 e s2 he => ?_)
      obtain ⟨oe, hoe, hce⟩ := he
      refine wpAny_bind (wpAny_isInstance (T := "StopIteration") (b := true) ⟨oe, hoe, hce⟩ isSubtype_stop ?_)
      exact wpAny_pure (hQ u2 fun c o c1 _ c3 _ x => s2 _ _ c3 (s1.extBut _ _ c1 x))
    | some x =>
      have hy : ys[k2]? = none := by rcases hend with h | h; rw [hx] at h; cases h; exact h
      refine wpAny_bind (nextIn_item (s := { s with heap := u1 }) (h1.on fun o e => s1.extBut _ _ D.i1z e) (hl1.on s1.extBut D.l1z) hx fun u2 a2 s2 => wpAny_pure ?_)
      refine wpAny_pure ?_
      refine wpAny_bind (wpAny_bind (wpAny_holding ?_))
      show wpAny _ _ (Builtin.SmallTypes.nextOf (.ref i2) >>= _) _ _ _
      refine wpAny_bind (nextIn_end (s := { s with heap := u2 }) hh (h2.on fun o e => s2.extBut _ _ D.i12.symm (s1.extBut _ _ D.i2z e)) ((hl2.on s1.extBut D.l2z).on s2.extBut D.l2i1) hy fun u3 e s3 he => ?_)
      obtain ⟨oe, hoe, hce⟩ := he
      refine wpAny_bind (wpAny_isInstance (T := "StopIteration") (b := true) ⟨oe, hoe, hce⟩ isSubtype_stop ?_)
      exact wpAny_pure (hQ u3 fun c o c1 _ c3 c4 x => s3 _ _ c4 (s2.extBut _ _ c3 (s1.extBut _ _ c1 x)))
/-- what is done with the tuple that it gave out ahead of a target -/
theorem goG {tg : Expr} {z TI TO T : Addr} {f0 : Value} {f : Bool} {Q : Unit → Shared → Prop} (hz : ZipSt s.heap z TI TO f0 f) (g : Gave f0)
    (hQ : ∀ h' f0', ZipSt h' z TI TO f0' f → Gave f0' → Heap.SameBut z s.heap h' → Q () { s with heap := h' }) : wpAny (model prog w) A (letOwnedTupleGo tg (.ref z) (.ref T)) Q E s := by
  have q0 : Q () s := hQ s.heap f0 hz g (Heap.SameBut.refl _ _)
  unfold letOwnedTupleGo
  cases tg <;> first
    | exact wpAny_pure q0
    | (refine wpAny_bind (wpAny_load hz ?_)
       show wpAny _ _ (if (["enumerate", "zip", "dict_itemiterator", "dict_reverseitemiterator", "odict_iterator", "itertools.zip_longest", "itertools.pairwise"].contains "zip" && (#[f0, .bool f, .bool false, .ref TI, .ref TO] : Array Value)[0]? == some (rawInt T)) = true then _ else _) Q E s
       split
       · refine wpAny_bind (wpAny_rule ?_)
         show wpAny _ _ (setField (.ref z) 0 .none) Q E s
         exact wpAny_setField_rec hz (by simp) fun h' z' s' => hQ h' .none z' (.inl rfl) s'
       · exact wpAny_pure q0)
abbrev zG1 (t : Bool) (h : Heap) (l1 : Addr) : Heap := h.push (itObj t l1)
abbrev zG2 (t1 t2 : Bool) (h : Heap) (l1 l2 : Addr) : Heap := (zG1 t1 h l1).push (itObj t2 l2)
abbrev zG3 (t1 t2 : Bool) (h : Heap) (l1 l2 : Addr) : Heap := (zG2 t1 t2 h l1 l2).push { cls := .type "tuple", data := .seq #[.ref h.objs.size, .ref (zG1 t1 h l1).objs.size] }
abbrev zG4 (t1 t2 : Bool) (h : Heap) (l1 l2 : Addr) : Heap := (zG3 t1 t2 h l1 l2).push { cls := .type "tuple", data := .seq #[.none, .none] }
abbrev zG5 (t1 t2 : Bool) (h : Heap) (l1 l2 : Addr) : Heap := (zG4 t1 t2 h l1 l2).push { cls := .type "zip", data := .fields #[.none, .bool false, .bool false, .ref (zG2 t1 t2 h l1 l2).objs.size, .ref (zG3 t1 t2 h l1 l2).objs.size] }
theorem iterG {t : Bool} {l : Addr} {xs : Array Value} {Q : Value → Shared → Prop} (hl : SeqIs t s.heap l xs) (q : Q (.ref s.heap.objs.size) { s with heap := s.heap.push (itObj t l) }) : wpAny (model prog w) A (pyIter (.ref l)) Q E s := by
  cases t
  · exact wpAny_pyIter_list hl q
  · exact wpAny_pyIter_tuple hl q
end
theorem meets_zipG (t1 t2 : Bool) (l1 l2 : Addr) (xs ys : Array Value) :
    Meets (Builtin.«zip.__new__» ⟨[.type "zip", .ref l1, .ref l2], []⟩) (fun _ R s => SeqIs t1 s.heap l1 xs ∧ SeqIs t2 s.heap l2 ys ∧
      R (.ok (.ret (.ref (zG4 t1 t2 s.heap l1 l2).objs.size))) { s with heap := zG5 t1 t2 s.heap l1 l2 }) :=
  .of_wp fun prog w A R s h => by
    obtain ⟨hp, g, d, tk, os⟩ := s
    obtain ⟨hl1, hl2, h⟩ := h
    have hsub := sub_zip
    have q1 : SeqIs t1 (Shared.heap ⟨hp, g, d, tk, os⟩) l1 xs := hl1
    have q2 : SeqIs t2 (Shared.heap ⟨hp.push (itObj t1 l1), g, d, tk, os⟩) l2 ys := SeqIs.push hl2 _
    wp_walk using iterG q1, iterG q2
    exact ⟨_, rfl, h⟩
theorem call_zipG {prog : Program} {w : World} {A : Around} {E : Value → Shared → Prop} {s : Shared} {t1 t2 : Bool} {l1 l2 : Addr} {xs ys : Array Value} {Q : Value → Shared → Prop} (hl1 : SeqIs t1 s.heap l1 xs) (hl2 : SeqIs t2 s.heap l2 ys)
    (h : ∀ h', ZipSt h' (s.heap.objs.size + 4) (s.heap.objs.size + 2) (s.heap.objs.size + 3) .none false → IsPair h' (s.heap.objs.size + 2) (.ref s.heap.objs.size) (.ref (s.heap.objs.size + 1)) →
      IsPair h' (s.heap.objs.size + 3) .none .none → ItAt t1 h' s.heap.objs.size l1 0 → ItAt t2 h' (s.heap.objs.size + 1) l2 0 →
      (∀ c o, s.heap.get? c = some o → h'.get? c = some o) → Q (.ref (s.heap.objs.size + 4)) { s with heap := h' }) :
    wpAny (model prog w) A (call (.type "zip") [.ref l1, .ref l2]) Q E s := by
  refine callType_new F.called_zip (by decide) (F.typeCall_zip_2 _ _) (F.newCall_zip_2 _ _) (fun obj => F.args_object_init_3 obj _ _) F.entry_zip_new (meets_zipG t1 t2 l1 l2 xs ys) ⟨hl1, hl2, ?_⟩
  have z1 : (zG1 t1 s.heap l1).objs.size = s.heap.objs.size + 1 := Heap.size_push ..
  have z2 : (zG2 t1 t2 s.heap l1 l2).objs.size = s.heap.objs.size + 2 := by rw [Heap.size_push, z1]
  have z3 : (zG3 t1 t2 s.heap l1 l2).objs.size = s.heap.objs.size + 3 := by rw [Heap.size_push, z2]
  have z4 : (zG4 t1 t2 s.heap l1 l2).objs.size = s.heap.objs.size + 4 := by rw [Heap.size_push, z3]
  have g5 : (zG5 t1 t2 s.heap l1 l2).get? (zG4 t1 t2 s.heap l1 l2).objs.size = some _ := Heap.get?_push_size _ rfl
  have g4 : (zG5 t1 t2 s.heap l1 l2).get? (zG3 t1 t2 s.heap l1 l2).objs.size = some _ := Heap.get?_push_of_some _ (Heap.get?_push_size _ rfl)
  have g3 : (zG5 t1 t2 s.heap l1 l2).get? (zG2 t1 t2 s.heap l1 l2).objs.size = some _ := Heap.get?_push_of_some _ (Heap.get?_push_of_some _ (Heap.get?_push_size _ rfl))
  have g2 : (zG5 t1 t2 s.heap l1 l2).get? (zG1 t1 s.heap l1).objs.size = some (itObj t2 l2) := Heap.get?_push_of_some _ (Heap.get?_push_of_some _ (Heap.get?_push_of_some _ (Heap.get?_push_size _ (by cases t2 <;> rfl))))
  have g1 : (zG5 t1 t2 s.heap l1 l2).get? s.heap.objs.size = some (itObj t1 l1) := Heap.get?_push_of_some _ (Heap.get?_push_of_some _ (Heap.get?_push_of_some _ (Heap.get?_push_of_some _ (Heap.get?_push_size _ (by cases t1 <;> rfl)))))
  show _ ∧ _
  rw [z2, z3, z4] at g5
  rw [z1, z2] at g3
  rw [z3] at g4
  rw [z1] at g2
  rw [z4]
  exact ⟨⟨_, g5, rfl⟩, h _ g5 g3 g4 (itAt_new t1 g1) (itAt_new t2 g2) fun c o x =>
    Heap.get?_push_of_some _ (Heap.get?_push_of_some _ (Heap.get?_push_of_some _ (Heap.get?_push_of_some _ (Heap.get?_push_of_some _ x))))⟩
theorem Sq.at {X : Cx} {pins : List (Addr × Obj)} {σ : L2.St} {H : Hp} {s : Shared} {t : Bool} {a : Addr} {xs : List V} (I : Inv X pins σ H s) (h : Sq t X.K H a xs) : ∃ its : List Value, Vals xs its ∧ SeqIs t s.heap a its.toArray := by
  cases t
  · obtain ⟨its, r, p, _⟩ := I.list h
    exact ⟨its, r, p.isList⟩
  · obtain ⟨its, r, p, _⟩ := I.tuple h
    exact ⟨its, r, p⟩
theorem Sq.inj {X : Cx} {pins : List (Addr × Obj)} {σ : L2.St} {H : Hp} {s : Shared} {t : Bool} {a : Addr} {xs ys : List V} (I : Inv X pins σ H s) (h : Sq t X.K H a xs) (h' : Sq t X.K H a ys) : xs = ys := by
  cases t
  · exact I.list_inj h h'
  · exact I.tuple_inj h h'
/-- the rows at a and b as they stand at each turn, the items in new pairs -/
def ItzG (K : PySem.W.Frag) (t1 t2 : Bool) (a b : Addr) : It :=
  ⟨fun i H => ∃ (xs ys : List V) (x y : V), Sq t1 K H a xs ∧ Sq t2 K H b ys ∧ xs[i]? = some x ∧ ys[i]? = some y,
    fun i H v H' => ∃ T x y, v = .ref T ∧ H T = none ∧ H' = upd H T (.tup [x, y]) ∧ (∀ xs, Sq t1 K H a xs → xs[i]? = some x) ∧ ∀ ys, Sq t2 K H b ys → ys[i]? = some y,
    fun i H => ∃ xs ys : List V, Sq t1 K H a xs ∧ Sq t2 K H b ys ∧ (xs.length ≤ i ∨ ys.length ≤ i)⟩
theorem turn_zipG {P : Program} {w : World} {K : PySem.W.Frag} {tg : Expr} {t1 t2 : Bool} {a b z TI TO i1 i2 : Addr} (D : ZipApart z TI TO i1 i2 a b) :
    Turn P w K tg (ItzG K t1 t2 a b) [z, TI, TO, i1, i2] z (fun i h => (∃ f0 f, ZipSt h z TI TO f0 f ∧ Gave f0) ∧ IsPair h TI (.ref i1) (.ref i2) ∧ (∃ x y, IsPair h TO x y) ∧ ItAt t1 h i1 a i ∧ ItAt t2 h i2 b i) where
  mem := by simp
  obj := fun i h st c hc => by
    obtain ⟨⟨f0, f, hz, _⟩, hTI, ⟨x, y, hTO⟩, h1, h2⟩ := st
    obtain ⟨o1, fs1, e1, d1⟩ := h1.get
    obtain ⟨o2, fs2, e2, d2⟩ := h2.get
    have e' : c = z ∨ c = TI ∨ c = TO ∨ c = i1 ∨ c = i2 := by simpa using hc
    rcases e' with q | q | q | q | q
    · rw [q]; exact ⟨_, hz, fun v q => nomatch q⟩
    · rw [q]; exact ⟨_, hTI, fun v q => nomatch q⟩
    · rw [q]; exact ⟨_, hTO, fun v q => nomatch q⟩
    · rw [q]; exact ⟨o1, e1, fun v q => by rw [d1] at q; cases q⟩
    · rw [q]; exact ⟨o2, e2, fun v q => by rw [d2] at q; cases q⟩
  keep := fun i h h' st k => by
    obtain ⟨⟨f0, f, hz, g⟩, hTI, ⟨x, y, hTO⟩, h1, h2⟩ := st
    exact ⟨⟨f0, f, k z (by simp) _ hz, g⟩, k TI (by simp) _ hTI, ⟨x, y, k TO (by simp) _ hTO⟩, h1.on fun o q => k i1 (by simp) o q, h2.on fun o q => k i2 (by simp) o q⟩
  item := by
    intro X hP hw hK hc i pins s σ H E I hf st hg
    subst hP hw hK
    obtain ⟨⟨f0, f, hz, g⟩, hTI, ⟨x0, y0, hTO⟩, h1, h2⟩ := st
    obtain ⟨xs, ys, x, y, hqx, hqy, hx, hy⟩ := hg
    obtain ⟨its, rv, p⟩ := hqx.at I
    obtain ⟨its2, rv2, p2⟩ := hqy.at I
    obtain ⟨u, hu, ru⟩ := rv.get hx
    obtain ⟨u2, hu2, ru2⟩ := rv2.get hy
    have hzl : z < s.heap.objs.size := Heap.lt_size hz
    refine zipG_item D hz g hTI hTO h1 h2 p p2 (x := u) (y := u2) (by simpa using hu) (by simpa using hu2) fun h' f0' f' z' g' TO' h1' h2' hT hsz hk => ?_
    refine ⟨_, rfl, goG (s := { s with heap := h' }) z' g' fun h'' f0'' z'' g'' sb => ?_⟩
    have hT2 : h''.get? s.heap.objs.size = some { cls := .type "tuple", data := .seq #[u, u2] } := (sb.2 _ (Nat.ne_of_gt hzl)).trans hT
    have new : ObjOk X.prog X.w (upd H s.heap.objs.size (.tup [x, y])) h'' s.heap.objs.size (.tup [x, y]) :=
      ⟨by show 2 ≤ sizeLine; decide, [u, u2], .cons ru (.cons ru2 .nil), ⟨_, hT2, rfl, _, rfl⟩⟩
    have I1 : Inv X pins σ (upd H s.heap.objs.size (.tup [x, y])) { s with heap := h'' } :=
      I.turnedNew (t' := s.toks) (ch := [z, TI, TO, i1, i2]) (fun c o hb q => (sb.2 c (fun q' => hb (by simp [q']))).trans (hk c o (fun q' => hb (by simp [q'])) (fun q' => hb (by simp [q'])) (fun q' => hb (by simp [q'])) (fun q' => hb (by simp [q'])) q)) hf (Nat.le_refl _) new
    have TI' : IsPair h' TI (.ref i1) (.ref i2) := hk _ _ D.TIz D.TITO D.TIi1 D.TIi2 hTI
    obtain ⟨x1, y1, TO'⟩ := TO'
    refine ⟨.ref s.heap.objs.size, _, I1, rfl, ⟨_, x, y, rfl, I.hok.fresh (Nat.le_refl _), rfl, fun l hl => by rw [hl.inj I hqx]; exact hx, fun l hl => by rw [hl.inj I hqy]; exact hy⟩, ⟨⟨_, _, z'', g''⟩, ?_, ⟨x1, y1, ?_⟩, ?_, ?_⟩, fun c hcm => ?_⟩
    · exact (sb.2 _ D.TIz).trans TI'
    · exact (sb.2 _ D.TOz).trans TO'
    · exact h1'.on fun o q => (sb.2 _ D.i1z).trans q
    · exact h2'.on fun o q => (sb.2 _ D.i2z).trans q
    · have hlt : c < s.heap.objs.size := by
        obtain ⟨o1, _, e1, _⟩ := h1.get
        obtain ⟨o2, _, e2, _⟩ := h2.get
        have e' : c = z ∨ c = TI ∨ c = TO ∨ c = i1 ∨ c = i2 := by simpa using hcm
        rcases e' with q | q | q | q | q
        · rw [q]; exact hzl
        · rw [q]; exact Heap.lt_size hTI
        · rw [q]; exact Heap.lt_size hTO
        · rw [q]; exact Heap.lt_size e1
        · rw [q]; exact Heap.lt_size e2
      rw [upd_ne (Nat.ne_of_lt hlt)]
      exact (hf c hcm).1
  done := by
    intro X hP hw hK hc i pins s σ H E I hf st hg
    subst hP hw hK
    obtain ⟨⟨f0, f, hz, g⟩, hTI, ⟨x0, y0, hTO⟩, h1, h2⟩ := st
    obtain ⟨xs, ys, hqx, hqy, hend⟩ := hg
    obtain ⟨its, rv, p⟩ := hqx.at I
    obtain ⟨its2, rv2, p2⟩ := hqy.at I
    have l1 := rv.length
    have l2 := rv2.length
    have he : its.toArray[i]? = none ∨ its2.toArray[i]? = none := by
      rcases hend with q | q
      · exact .inl (by simp; omega)
      · exact .inr (by simp; omega)
    exact zipG_end (I.ok.hd hc) D hz g hTI hTO h1 h2 p p2 he fun h' hk => ⟨rfl, I.turnedL (t' := s.toks) (ch := [z, TI, TO, i1, i2]) (fun c o hb q =>
      hk c o (fun q' => hb (by simp [q'])) (fun q' => hb (by simp [q'])) (fun q' => hb (by simp [q'])) (fun q' => hb (by simp [q'])) q) hf⟩
  self := fun A i s Q E st h => by
    obtain ⟨⟨f0, f, hz, g⟩, _⟩ := st
    have hT : s.TypeIs (.ref z) "zip" := ⟨_, hz, rfl⟩
    refine wpAny_pyIter_slot hT F.slot_zip_iter (wpAny_call_entry F.slot_zip_iter hT F.entry_zip_iter ?_ (F.args_zip_iter_1 _))
    show wpAny _ _ (ret (.ref z)) _ _ s
    exact wpAny_pure ⟨_, rfl, "zip", _, hT, F.slot_zip_next.lookup, h⟩
def iZipG (K : PySem.W.Frag) (ta : TA) : TI := fun σ H R => ta σ H fun vs H1 => ∃ (t1 t2 : Bool) (a b : Addr) (xs ys : List V), vs = [.ref a, .ref b] ∧ Sq t1 K H1 a xs ∧ Sq t2 K H1 b ys ∧ R (ItzG K t1 t2 a b) H1
theorem pi_zipG {X : Cx} {tg e e2 : Expr} {ta : TA} {p pos : Pos} (hg : Gl X "zip") (hm : X.mg "zip" = none) (ha : PA X [e, e2] ta)
    (hs : starEach [e, e2] X.env = (false, eval e X.env) :: starEach [e2] X.env := by rfl) (hpl : (backTo pos (starEach [e2] X.env)).any (·.1) = false := by rfl) :
    PI X tg (.Call (.Name "zip" p) [e, e2] [] pos) (iZipG X.K ta) := by
  refine ⟨fun pins s σ H R I h => ?_⟩
  refine Call_ (ld_blt I hg hm PyProof.Rows.boot_zip (PyProof.Rows.callWith_type1 (thn (ha.run pos pins s σ H _ I h) fun us s1 ⟨vs, H1, I1, r1, q1⟩ => ?_) hs hpl))
  obtain ⟨t1, t2, a, b, xs, ys, ex, hqx, hqy, q⟩ := q1
  subst ex
  cases r1 with
  | cons r rr =>
    cases rr with
    | cons r' rr =>
      cases rr
      cases r
      cases r'
      obtain ⟨its, rv, p1⟩ := hqx.at I1
      obtain ⟨its2, rv2, p2⟩ := hqy.at I1
      refine call_zipG p1 p2 fun h' hz hTI hTO h1 h2 hk => ?_
      have hT : Shared.TypeIs { s1 with heap := h' } (.ref (s1.heap.objs.size + 4)) "zip" := ⟨_, hz, rfl⟩
      refine wpAny_pyIter_slot hT F.slot_zip_iter (wpAny_call_entry F.slot_zip_iter hT F.entry_zip_iter ?_ (F.args_zip_iter_1 _))
      show wpAny _ _ (ret (.ref _)) _ _ _
      refine wpAny_pure ⟨_, rfl, "zip", _, hT, F.slot_zip_next.lookup, ?_⟩
      have I2 : Inv X pins σ H1 { s1 with heap := h' } := I1.kept (t' := s1.toks) hk
      refine ⟨s1.heap.objs.size + 4, [s1.heap.objs.size + 4, s1.heap.objs.size + 2, s1.heap.objs.size + 3, s1.heap.objs.size, s1.heap.objs.size + 1], _, _, H1, rfl, I2, turn_zipG (PySem.W.ktu_apart s1.heap.objs.size a b p1.lt p2.lt), ⟨⟨_, _, hz, .inl rfl⟩, hTI, ⟨_, _, hTO⟩, h1, h2⟩, fun c hcm => ?_, q⟩
      have e' : c = s1.heap.objs.size + 4 ∨ c = s1.heap.objs.size + 2 ∨ c = s1.heap.objs.size + 3 ∨ c = s1.heap.objs.size ∨ c = s1.heap.objs.size + 1 := by simpa using hcm
      have hle : s1.heap.objs.size ≤ c := by
        rcases e' with z | z | z | z | z <;> (rw [z]; omega)
      exact I1.fpOk hle (I1.hok.fresh hle)
theorem walk_zipG {K : PySem.W.Frag} {t1 t2 : Bool} {a b : Addr} {xs ys : List V} {n : Nat} (hn : n = min xs.length ys.length) : Walk (ItzG K t1 t2 a b) n (fun H => Sq t1 K H a xs ∧ Sq t2 K H b ys) (YPair (fun i => xs[i]?) (fun i => ys[i]?)) := by
  subst hn
  refine ⟨fun i _ hi q => ?_, fun _ q => ⟨xs, ys, q.1, q.2, by omega⟩, fun i H v H' _ q y => ?_⟩
  · have h1 : i < xs.length := by omega
    have h2 : i < ys.length := by omega
    exact ⟨xs, ys, xs[i], ys[i], q.1, q.2, by simp [h1], by simp [h2]⟩
  · obtain ⟨T, x, z, h1, h2, h3, h4, h5⟩ := y
    exact ⟨T, x, z, h1, h2, h3, h4 xs q.1, h5 ys q.2⟩
end ZG
namespace EnT
open PySem PySem.Spec PyProof.Rows L2
/-! ### enumerate over a tuple -/
theorem meets_enumT (l : Addr) (items : Array Value) :
    Meets (Builtin.«enumerate.__new__» ⟨[.type "enumerate", .ref l], []⟩) (fun _ R s => s.heap.IsTuple l items ∧
      R (.ok (.ret (.ref (s.heap.push { cls := .type "tuple_iterator", data := .fields #[.ref l, .int 0 0] }).objs.size)))
        { s with heap := (s.heap.push { cls := .type "tuple_iterator", data := .fields #[.ref l, .int 0 0] }).push { cls := .type "enumerate", data := .fields #[.none, .bool false, .ref s.heap.objs.size, rawInt 0, .none, .none] } }) :=
  .of_wp fun prog w A R s h => by
    obtain ⟨hp, g, d, tk, os⟩ := s; obtain ⟨hl, h⟩ := h
    have hsub := sub_enumerate
    have q1 : ∀ {A' : Around} {E : Value → Shared → Prop} {Q : Value → Shared → Prop}, Q (.ref hp.objs.size) ⟨hp.push { cls := .type "tuple_iterator", data := .fields #[.ref l, .int 0 0] }, g, d, tk, os⟩ → wpAny (model prog w) A' (pyIter (.ref l)) Q E ⟨hp, g, d, tk, os⟩ :=
      fun q => wpAny_pyIter_tuple (s := ⟨hp, g, d, tk, os⟩) hl q
    wp_walk using q1
    refine wpAny_stack_any fun st => wpAny_pure ?_
    split
    · rename_i c _ _ _ _ _
      cases (c == Value.type "enumerate")
      · wp_walk using q1
        exact ⟨_, rfl, h⟩
      · wp_walk using q1
        exact ⟨_, rfl, h⟩
    · wp_walk using q1
      exact ⟨_, rfl, h⟩
theorem call_enumT {prog : Program} {w : World} {A : Around} {E : Value → Shared → Prop} {s : Shared} {l : Addr} {items : Array Value} {Q : Value → Shared → Prop} (hL : s.heap.IsTuple l items)
    (h : ∀ h', IsEnum h' (s.heap.objs.size + 1) s.heap.objs.size 0 .none → h'.IsTupleIter s.heap.objs.size l 0 → h'.objs.size = s.heap.objs.size + 2 →
      (∀ b o, s.heap.get? b = some o → h'.get? b = some o) → Q (.ref (s.heap.objs.size + 1)) { s with heap := h' }) :
    wpAny (model prog w) A (call (.type "enumerate") [.ref l]) Q E s := by
  refine callType_new F.called_enumerate (by decide) (F.typeCall_enumerate_1 _) (F.newCall_enumerate_1 _) (fun obj => F.args_object_init_2 obj _) F.entry_enumerate_new
    (meets_enumT l items) ⟨hL, ?_⟩
  have hz : (s.heap.push { cls := .type "tuple_iterator", data := .fields #[.ref l, .int 0 0] }).objs.size = s.heap.objs.size + 1 := Heap.size_push ..
  show _ ∧ _
  rw [hz]
  have he : IsEnum ((s.heap.push { cls := .type "tuple_iterator", data := .fields #[.ref l, .int 0 0] }).push
      { cls := .type "enumerate", data := .fields #[.none, .bool false, .ref s.heap.objs.size, rawInt 0, .none, .none] }) (s.heap.objs.size + 1) s.heap.objs.size 0 .none := by
    have := Heap.get?_push_size (s.heap.push { cls := .type "tuple_iterator", data := .fields #[.ref l, .int 0 0] })
      (o := { cls := .type "enumerate", data := .fields #[.none, .bool false, .ref s.heap.objs.size, rawInt 0, .none, .none] }) rfl
    rw [hz] at this; exact this
  refine ⟨⟨_, he, rfl⟩, h _ he ⟨_, Heap.get?_push_of_some _ (Heap.get?_push_size _ rfl), rfl, rfl⟩ (by rw [Heap.size_push, hz]) fun b o x => Heap.get?_push_of_some _ (Heap.get?_push_of_some _ x)⟩
/-- the tuple at a as it stands at each turn, each item in a new pair -/
def IteT (K : PySem.W.Frag) (a : Addr) : It :=
  ⟨fun i H => ∃ (xs : List V) (x : V), SqT K H a xs ∧ xs[i]? = some x, fun i H v H' => ∃ T x, v = .ref T ∧ H T = none ∧ H' = upd H T (.tup [.int (i : Nat), x]) ∧ ∀ xs, SqT K H a xs → xs[i]? = some x, fun i H => ∃ xs : List V, SqT K H a xs ∧ xs.length ≤ i⟩
theorem enumT_end {prog : Program} {w : World} {A : Around} {E : Value → Shared → Prop} {s : Shared} {e it t : Addr} {i : Nat} {items : Array Value} {old : Value} {Q : Option Value → Shared → Prop} (hh : A.handled = none)
    (he : IsEnum s.heap e it i old) (hit : s.heap.IsTupleIter it t i) (ht : s.heap.IsTuple t items) (hx : items[i]? = none)
    (hQ : ∀ h', Heap.ExtBut it s.heap h' → Q none { s with heap := h' }) : wpAny (model prog w) A (pyNext (.ref e)) Q E s := by
  have hT : s.TypeIs (.ref e) "enumerate" := ⟨_, he, rfl⟩
  unfold pyNext
  refine wpAny_bind (wpAny_attempt (wpAny_callSpecial?_slot (name := Str.ofString "__next__") hT F.slot_enumerate_next
    (wpAny_call_entry F.slot_enumerate_next hT F.entry_enumerate_next ?_ (F.args_enumerate_next_1 _))))
  show wpAny _ _ (field (.ref e) 2 >>= _) _ _ _
  refine wpAny_bind (wpAny_field he rfl (x := .ref it) rfl ?_)
  refine wpAny_bind (wpAny_nextOf_tuple_end (A := A.in1) hh hit ht hx fun h' x he' hx' => ?_)
  obtain ⟨o, ho, hc⟩ := hx'
  refine wpAny_bind (wpAny_isInstance (T := "StopIteration") (b := true) ⟨o, ho, hc⟩ isSubtype_stop ?_)
  exact wpAny_pure (hQ _ he')
theorem turn_enumT {P : Program} {w : World} {K : PySem.W.Frag} {elts : List Expr} {kk : Nat} {tpos : Pos} (a e it : Addr) :
    Turn P w K (.Tuple elts kk tpos) (IteT K a) [e, it] e (fun i h => (∃ old, IsEnum h e it ((i : Nat) : Int) old) ∧ h.IsTupleIter it a i ∧ e ≠ it) where
  mem := by simp
  obj := fun i h st b hb => by
    obtain ⟨⟨old, he⟩, ⟨o, ho, hc, hd⟩, _⟩ := st
    have e' : b = e ∨ b = it := by simpa using hb
    rcases e' with z | z
    · rw [z]; exact ⟨_, he, fun v q => nomatch q⟩
    · rw [z]; exact ⟨o, ho, fun v q => by rw [hd] at q; cases q⟩
  keep := fun i h h' st k => let ⟨⟨old, he⟩, hi, hne⟩ := st; ⟨⟨old, k e (by simp) _ he⟩, hi.at fun o q => k it (by simp) o q, hne⟩
  item := by
    intro X hP hw hK hc i pins s σ H E I hf st hg
    subst hP hw hK
    obtain ⟨⟨old, he⟩, hit, hne⟩ := st
    obtain ⟨xs, x, hq, hx⟩ := hg
    obtain ⟨its, rv, p, hz⟩ := I.tuple hq
    obtain ⟨u, hu, ru⟩ := rv.get hx
    have hel : e < s.heap.objs.size := Heap.lt_size he
    have hil : it < s.heap.objs.size := by obtain ⟨_, q, _⟩ := hit; exact Heap.lt_size q
    have hT0 : s.heap.IsTuple a its.toArray := p
    have nae : e ≠ a := fun z => by
      obtain ⟨o, ho, hcl, _⟩ := hT0
      rw [← z, he] at ho
      obtain rfl := Option.some.inj ho
      exact absurd (show Value.type "enumerate" = Value.type "tuple" from hcl) (by decide)
    have nai : a ≠ it := fun z => by
      obtain ⟨o, ho, hcl, _⟩ := hT0
      obtain ⟨o2, ho2, hcl2, _⟩ := hit
      rw [z, ho2] at ho
      obtain rfl := Option.some.inj ho
      rw [hcl2] at hcl
      exact absurd (show Value.type "tuple_iterator" = Value.type "tuple" from hcl) (by decide)
    refine wpAny_pyNext_enum_itemD (i := i) (Draws.tuple (A := X.A.in1) (I.ok.hd hc) it a nai its.toArray) he ⟨hit, hT0⟩ (by
      have := (List.getElem?_eq_some_iff.mp hu).1
      simpa using this) hne (by simp [hne, nae]) fun y h' tk hy ho hst' hT hsz hk => ?_
    have ey : y = u := by
      have hy' : its[i]? = some y := by simpa using hy
      rw [hu] at hy'
      exact (Option.some.inj hy').symm
    subst ey
    refine ⟨_, rfl, wpAny_letOwnedTupleGo_enum (s := { s with heap := h', toks := tk + 1 }) ho fun h'' he' sb => ?_⟩
    have hT2 : h''.get? s.heap.objs.size = some { cls := .type "tuple", data := .seq #[.int i tk, y] } := (sb.2 _ (Nat.ne_of_gt hel)).trans hT
    have new : ObjOk X.prog X.w (upd H s.heap.objs.size (.tup [.int (i : Nat), x])) h'' s.heap.objs.size (.tup [.int (i : Nat), x]) :=
      ⟨by show 2 ≤ sizeLine; decide, [.int i tk, y], .cons ⟨_, rfl⟩ (.cons ru .nil), ⟨_, hT2, rfl, _, rfl⟩⟩
    have I1 : Inv X pins σ (upd H s.heap.objs.size (.tup [.int (i : Nat), x])) { s with heap := h'', toks := tk + 1 } :=
      I.turnedNew (ch := [e, it]) (fun b ob hb q => (sb.2 b (fun z => hb (by simp [z]))).trans (hk b ob (fun z => hb (by simp [z])) (fun z => hb (by simp [z])) q)) hf (Nat.le_refl _) new
    refine ⟨.ref s.heap.objs.size, _, I1, rfl, ⟨_, x, rfl, I.hok.fresh (Nat.le_refl _), rfl, fun ys hy => by rw [I.tuple_inj hy hq]; exact hx⟩, ⟨⟨y, ?_⟩, hst'.1.at fun o q => (sb.2 it (Ne.symm hne)).trans q, hne⟩, fun b hb => ?_⟩
    · have e1 : ((i + 1 : Nat) : Int) = (i : Int) + 1 := by omega
      rw [e1]; exact he'
    · have hb' : b < s.heap.objs.size := by
        have e' : b = e ∨ b = it := by simpa using hb
        rcases e' with z | z
        · rw [z]; exact hel
        · rw [z]; exact hil
      rw [upd_ne (Nat.ne_of_lt hb')]
      exact (hf b hb).1
  done := by
    intro X hP hw hK hc i pins s σ H E I hf st hg
    subst hP hw hK
    obtain ⟨⟨old, he⟩, hit, hne⟩ := st
    obtain ⟨xs, hq, hx⟩ := hg
    obtain ⟨its, rv, p, hz⟩ := I.tuple hq
    obtain ⟨f0, f1, f2, f3, f4, f5⟩ := hf it (by simp)
    have hl := rv.length
    exact enumT_end (I.ok.hd hc) he hit p (by simp; omega) fun h' eb => ⟨rfl, I.turned (t' := s.toks) (fun b o hb q => eb b o hb q) f0 f1 f3 f4 f5⟩
  self := fun A i s Q E st h => let ⟨⟨_, he⟩, _⟩ := st; wpAny_pyIter_enum he h
def iEnumT (K : PySem.W.Frag) (ta : TA) : TI := fun σ H R => ta σ H fun vs H1 => ∃ a xs, vs = [.ref a] ∧ SqT K H1 a xs ∧ R (IteT K a) H1
theorem pi_enumT {X : Cx} {e : Expr} {ta : TA} {p pos tpos : Pos} {elts : List Expr} {kk : Nat} (hg : Gl X "enumerate") (hm : X.mg "enumerate" = none) (ha : PA X [e] ta) (hs : starEach [e] X.env = [(false, eval e X.env)] := by rfl) :
    PI X (.Tuple elts kk tpos) (.Call (.Name "enumerate" p) [e] [] pos) (iEnumT X.K ta) := by
  refine ⟨fun pins s σ H R I h => ?_⟩
  refine Call_ (ld_blt I hg hm boot_enumerate (PyProof.Rows.callWith_type1 (thn (ha.run pos pins s σ H _ I h) fun us s1 ⟨vs, H1, I1, r1, q1⟩ => ?_) hs rfl))
  obtain ⟨a, xs, ex, hq, q⟩ := q1
  subst ex
  cases r1 with
  | cons r rr =>
    cases rr
    cases r
    obtain ⟨its, rv, p', hz⟩ := I1.tuple hq
    refine call_enumT (show s1.heap.IsTuple a its.toArray from p') fun h' he hit hsz hk => wpAny_pyIter_enum he ?_
    have I2 : Inv X pins σ H1 { s1 with heap := h' } := I1.kept (t' := s1.toks) hk
    refine ⟨s1.heap.objs.size + 1, [s1.heap.objs.size + 1, s1.heap.objs.size], _, _, H1, rfl, I2, turn_enumT a (s1.heap.objs.size + 1) s1.heap.objs.size, ⟨⟨.none, he⟩, hit, Nat.succ_ne_self _⟩, fun b hb => ?_, q⟩
    have e' : b = s1.heap.objs.size + 1 ∨ b = s1.heap.objs.size := by simpa using hb
    have hle : s1.heap.objs.size ≤ b := by
      rcases e' with z | z
      · rw [z]; exact Nat.le_add_right _ _
      · rw [z]; exact Nat.le_refl _
    exact I1.fpOk hle (I1.hok.fresh hle)
/-- a loop over enumerate of a tuple -/
theorem for_enumT {K : PySem.W.Frag} {a : Addr} {xs : List V} {g : TG} {tb : TS} {D : Ends} {σ : L2.St} {H : Hp} (Pv : Nat → L2.St → Hp → Prop) (h0 : Pv 0 σ H) (hq : ∀ i σ H, Pv i σ H → SqT K H a xs)
    (hs : ∀ (i : Nat) (x : V) (T : Addr) (σ : L2.St) (H : Hp), xs[i]? = some x → Pv i σ H → H T = none → g (.ref T) σ (upd H T (.tup [.int (i : Nat), x])) fun σ2 H2 => tb { D with nx := Pv (i + 1), ct := Pv (i + 1), bk := D.nx } σ2 H2) (hd : ∀ σ H, Pv xs.length σ H → D.nx σ H) :
    ∃ W : Nat → Nat → L2.St → Hp → Prop, (∃ m, W 0 m σ H) ∧ ∀ i m σ H, W i m σ H →
      ((IteT K a).stop i H ∧ D.nx σ H) ∨ ((IteT K a).go i H ∧ ∃ N : L2.St → Hp → Prop, (∀ σ' H', N σ' H' → ∃ m', m' < m ∧ W (i + 1) m' σ' H') ∧ ∀ v H', (IteT K a).yld i H v H' → g v σ H' fun σ2 H2 => tb { D with nx := N, ct := N, bk := D.nx } σ2 H2) := by
  refine ⟨fun i m σ H => m = xs.length - i ∧ i ≤ xs.length ∧ Pv i σ H, ⟨xs.length, rfl, Nat.zero_le _, h0⟩, ?_⟩
  rintro i m σ H ⟨rfl, hi, p⟩
  have q := hq i σ H p
  rcases Nat.lt_or_ge i xs.length with hlt | hge
  · have ex := List.getElem?_eq_getElem hlt
    refine .inr ⟨⟨xs, _, q, ex⟩, Pv (i + 1), fun σ' H' p' => ⟨xs.length - (i + 1), by omega, rfl, hlt, p'⟩, ?_⟩
    rintro v H' ⟨T, x, rfl, hT, rfl, f1⟩
    exact hs i x T σ H (f1 xs q) p hT
  · have e : i = xs.length := by omega
    subst e
    exact .inl ⟨⟨xs, q, hge⟩, hd σ H p⟩
/-! ### enumerate over a list or a tuple -/
def ItEG (K : PySem.W.Frag) (t : Bool) (a : Addr) : It := match t with
  | true => IteT K a
  | false => Ite K a
def iEnumG (K : PySem.W.Frag) (ta : TA) : TI := fun σ H R => ta σ H fun vs H1 => ∃ (t : Bool) (a : Addr) (xs : List V), vs = [.ref a] ∧ ZG.Sq t K H1 a xs ∧ R (ItEG K t a) H1
theorem pi_enumG {X : Cx} {e : Expr} {ta : TA} {p pos tpos : Pos} {elts : List Expr} {kk : Nat} (hg : Gl X "enumerate") (hm : X.mg "enumerate" = none) (ha : PA X [e] ta) (hs : starEach [e] X.env = [(false, eval e X.env)] := by rfl) :
    PI X (.Tuple elts kk tpos) (.Call (.Name "enumerate" p) [e] [] pos) (iEnumG X.K ta) := by
  refine ⟨fun pins s σ H R I h => ?_⟩
  refine Call_ (ld_blt I hg hm boot_enumerate (PyProof.Rows.callWith_type1 (thn (ha.run pos pins s σ H _ I h) fun us s1 ⟨vs, H1, I1, r1, q1⟩ => ?_) hs rfl))
  obtain ⟨t, a, xs, ex, hq, q⟩ := q1
  subst ex
  have hle : ∀ b, b ∈ [s1.heap.objs.size + 1, s1.heap.objs.size] → s1.heap.objs.size ≤ b := fun b hb => by
    have e' : b = s1.heap.objs.size + 1 ∨ b = s1.heap.objs.size := by simpa using hb
    rcases e' with z | z
    · rw [z]; exact Nat.le_add_right _ _
    · rw [z]; exact Nat.le_refl _
  cases r1 with
  | cons r rr =>
    cases rr
    cases r
    cases t with
    | true =>
      obtain ⟨its, rv, p', hz⟩ := I1.tuple hq
      refine call_enumT (show s1.heap.IsTuple a its.toArray from p') fun h' he hit hsz hk => wpAny_pyIter_enum he ?_
      have I2 : Inv X pins σ H1 { s1 with heap := h' } := I1.kept (t' := s1.toks) hk
      exact ⟨s1.heap.objs.size + 1, [s1.heap.objs.size + 1, s1.heap.objs.size], _, _, H1, rfl, I2, turn_enumT a (s1.heap.objs.size + 1) s1.heap.objs.size, ⟨⟨.none, he⟩, hit, Nat.succ_ne_self _⟩, fun b hb => I1.fpOk (hle b hb) (I1.hok.fresh (hle b hb)), q⟩
    | false =>
      obtain ⟨its, rv, p', hz⟩ := I1.list hq
      refine call_enumerate_list p'.isList fun h' he hit hsz hk => wpAny_pyIter_enum he ?_
      have I2 : Inv X pins σ H1 { s1 with heap := h' } := I1.kept (t' := s1.toks) hk
      exact ⟨s1.heap.objs.size + 1, [s1.heap.objs.size + 1, s1.heap.objs.size], _, _, H1, rfl, I2, turn_enum a (s1.heap.objs.size + 1) s1.heap.objs.size, ⟨⟨.none, he⟩, hit, Nat.succ_ne_self _⟩, fun b hb => I1.fpOk (hle b hb) (I1.hok.fresh (hle b hb)), q⟩
theorem walk_enumG {K : PySem.W.Frag} {t : Bool} {a : Addr} {xs : List V} : Walk (ItEG K t a) xs.length (fun H => ZG.Sq t K H a xs) (YPair (fun i => some (.int (i : Nat))) (fun i => xs[i]?)) := by
  cases t with
  | false => exact walk_enum
  | true =>
    refine ⟨fun i H hi q => ⟨xs, xs[i], q, List.getElem?_eq_getElem hi⟩, fun H q => ⟨xs, q, Nat.le_refl _⟩, fun i H v H' _ q y => ?_⟩
    obtain ⟨T, x, h1, h2, h3, h4⟩ := y
    exact ⟨T, .int (i : Nat), x, h1, h2, h3, rfl, h4 xs q⟩
end EnT
namespace MxT
open PySem PySem.Spec PyProof.Rows L2
/-! ### max and min of a tuple of whole numbers -/
section
variable {prog : Program} {w : World} {A : Around} {E : Value → Shared → Prop} {s : Shared} {l : Addr} {its : List Value} {ns : List Int} {Q : Value → Shared → Prop}
theorem old_keptT {h' : Heap} (hk : ∀ b o, b ∉ [s.heap.objs.size] → (s.heap.push { cls := .type "tuple_iterator", data := .fields #[.ref l, .int 0 0] }).get? b = some o → h'.get? b = some o) :
    ∀ b o, s.heap.get? b = some o → h'.get? b = some o := fun b o e =>
  hk b o (fun z => absurd (Heap.lt_size e) ((List.mem_singleton.mp z) ▸ Nat.lt_irrefl _)) (Heap.get?_push_of_some _ e)
theorem maxT_raw (hh : A.handled = none) (hl : s.heap.IsTuple l its.toArray) (hi : IntsAre its ns) (hne : 0 < ns.length)
    (h : ∀ h' tk M t', (∀ b o, s.heap.get? b = some o → h'.get? b = some o) → M ∈ ns → (∀ a, a ∈ ns → a ≤ M) → Q (.int M t') { s with heap := h', toks := tk }) : wpAny (model prog w) A (call (.builtin "max") [.ref l]) Q E s := by
  obtain ⟨xs, e⟩ := hi.allInts.items
  have hn : numsOf (intItems xs).toList = ns := by rw [← e]; exact hi.numsOf
  rw [nums_intItems] at hn
  subst hn
  rw [e] at hl
  have hsz : 0 < xs.size := by simpa using hne
  have hlt : l < s.heap.objs.size := by
    obtain ⟨_, e, _⟩ := hl
    exact Heap.lt_size e
  refine PySem.call_max_walk (wpAny_pyIter_tuple hl ?_)
  refine ⟨_, _, _, _, _, _, _, rfl, Walks.tuple (A := A.in1) hh _ l (Nat.ne_of_lt hlt) (intItems xs), ⟨⟨_, Heap.get?_push_size _ rfl, rfl, rfl⟩, hl.push _⟩, fun b hb => ?_, by simpa [intItems] using hsz, CmpOf.ints_gt (numAt xs) (fun _ _ => intItems_at), fun v h' tk hv hk => ?_⟩
  · show b < (s.heap.push _).objs.size
    rw [Heap.size_push]
    have hb' : b = s.heap.objs.size ∨ b = l := by simpa using hb
    rcases hb' with z | z
    · rw [z]; exact Nat.lt_succ_self _
    · rw [z]; exact Nat.lt_succ_of_lt hlt
  · have hv' : (intItems xs)[argBest (fun i j => decide (numAt xs i > numAt xs j)) (xs.size - 1)]? = some v := by simpa [intItems] using hv
    obtain ⟨t, rfl⟩ := intItems_at hv'
    obtain ⟨h1, h2⟩ := argBest_gt (numAt xs) (xs.size - 1)
    refine h h' tk _ t (old_keptT hk) ?_ fun a ha => ?_
    · rw [numAt_eq]; exact PySem.getD_mem (by rw [List.length_map, Array.length_toList]; omega)
    · obtain ⟨j, hj, rfl⟩ := mem_getD ha
      have hj2 : j < xs.size := by simpa using hj
      rw [← numAt_eq]; exact h2 j (by omega)
theorem minT_raw (hh : A.handled = none) (hl : s.heap.IsTuple l its.toArray) (hi : IntsAre its ns) (hne : 0 < ns.length)
    (h : ∀ h' tk M t', (∀ b o, s.heap.get? b = some o → h'.get? b = some o) → M ∈ ns → (∀ a, a ∈ ns → M ≤ a) → Q (.int M t') { s with heap := h', toks := tk }) : wpAny (model prog w) A (call (.builtin "min") [.ref l]) Q E s := by
  obtain ⟨xs, e⟩ := hi.allInts.items
  have hn : numsOf (intItems xs).toList = ns := by rw [← e]; exact hi.numsOf
  rw [nums_intItems] at hn
  subst hn
  rw [e] at hl
  have hsz : 0 < xs.size := by simpa using hne
  have hlt : l < s.heap.objs.size := by
    obtain ⟨_, e, _⟩ := hl
    exact Heap.lt_size e
  refine PySem.call_min_walk (wpAny_pyIter_tuple hl ?_)
  refine ⟨_, _, _, _, _, _, _, rfl, Walks.tuple (A := A.in1) hh _ l (Nat.ne_of_lt hlt) (intItems xs), ⟨⟨_, Heap.get?_push_size _ rfl, rfl, rfl⟩, hl.push _⟩, fun b hb => ?_, by simpa [intItems] using hsz, CmpOf.ints_lt (numAt xs) (fun _ _ => intItems_at), fun v h' tk hv hk => ?_⟩
  · show b < (s.heap.push _).objs.size
    rw [Heap.size_push]
    have hb' : b = s.heap.objs.size ∨ b = l := by simpa using hb
    rcases hb' with z | z
    · rw [z]; exact Nat.lt_succ_self _
    · rw [z]; exact Nat.lt_succ_of_lt hlt
  · have hv' : (intItems xs)[argBest (fun i j => decide (numAt xs i < numAt xs j)) (xs.size - 1)]? = some v := by simpa [intItems] using hv
    obtain ⟨t, rfl⟩ := intItems_at hv'
    obtain ⟨h1, h2⟩ := argBest_lt (numAt xs) (xs.size - 1)
    refine h h' tk _ t (old_keptT hk) ?_ fun a ha => ?_
    · rw [numAt_eq]; exact PySem.getD_mem (by rw [List.length_map, Array.length_toList]; omega)
    · obtain ⟨j, hj, rfl⟩ := mem_getD ha
      have hj2 : j < xs.size := by simpa using hj
      rw [← numAt_eq]; exact h2 j (by omega)
end
section
variable {X : Cx}
def rMaxT (K : PySem.W.Frag) : List V → Hp → VK → Prop := fun vs H Q => ∃ (a : Addr) (ns : List Int), vs = [V.ref a] ∧ SqT K H a (ns.map V.int) ∧ 0 < ns.length ∧ ∀ m, m ∈ ns → (∀ y, y ∈ ns → y ≤ m) → Q (.int m) H
def rMinT (K : PySem.W.Frag) : List V → Hp → VK → Prop := fun vs H Q => ∃ (a : Addr) (ns : List Int), vs = [V.ref a] ∧ SqT K H a (ns.map V.int) ∧ 0 < ns.length ∧ ∀ m, m ∈ ns → (∀ y, y ∈ ns → m ≤ y) → Q (.int m) H
theorem call_maxT (hc : X.calm = true) : CallR X (.builtin "max") (rMaxT X.K) := by
  intro pins s σ H vs us Q I r h
  obtain ⟨a, ns, rfl, hs, hne, q⟩ := h
  obtain ⟨its, rv, hl, _⟩ := I.tuple hs
  rw [Vals.ref1 r]
  exact maxT_raw (I.ok.hd hc) hl rv.ints hne fun h' tk m t' hk h1 h2 => ⟨.int _, H, I.kept hk, ⟨_, rfl⟩, q m h1 h2⟩
theorem call_minT (hc : X.calm = true) : CallR X (.builtin "min") (rMinT X.K) := by
  intro pins s σ H vs us Q I r h
  obtain ⟨a, ns, rfl, hs, hne, q⟩ := h
  obtain ⟨its, rv, hl, _⟩ := I.tuple hs
  rw [Vals.ref1 r]
  exact minT_raw (I.ok.hd hc) hl rv.ints hne fun h' tk m t' hk h1 h2 => ⟨.int _, H, I.kept hk, ⟨_, rfl⟩, q m h1 h2⟩
end
end MxT
namespace Mine
open PySem L2
def top (i : Nat) : Stmt := PySem.Challenge.pw_neverhappens_k17_close.main.body.getD i (.Pass ⟨0, 0, 0, 0⟩)
abbrev s_close : Stmt := top 1
abbrev s_has_contradiction : Stmt := top 2
abbrev s_shortened : Stmt := top 3
abbrev s_frozen : Stmt := top 4
abbrev s_l_cell : Stmt := top 6
abbrev s_l_source : Stmt := top 7
abbrev s_l_pick : Stmt := top 8
abbrev s_l_hull : Stmt := top 9
abbrev s_l_same : Stmt := top 10
abbrev s_l_points : Stmt := top 11
abbrev s_l_fits : Stmt := top 12
abbrev s_l_number : Stmt := top 13
abbrev s_l_bounded : Stmt := top 14
abbrev s_l_diagonal : Stmt := top 15
abbrev s_l_small : Stmt := top 16
abbrev s_l_closed : Stmt := top 17
abbrev s_l_wide : Stmt := top 18
abbrev s_l_way : Stmt := top 19
abbrev s_l_ring : Stmt := top 20
abbrev s_law : Stmt := top 21
abbrev p_close : List Str := ["matrix"]
abbrev p_has_contradiction : List Str := ["rows"]
abbrev p_shortened : List Str := ["rows", "middle"]
abbrev p_frozen : List Str := ["rows"]
abbrev p_l_cell : List Str := ["_law_script", "_law_at"]
abbrev p_l_source : List Str := ["_law_cell_here"]
abbrev p_l_pick : List Str := ["_law_source_here", "_law_size"]
abbrev p_l_hull : List Str := ["_law_points_here", "_law_size"]
abbrev p_l_same : List Str := ["_law_actual", "_law_due"]
abbrev p_l_points : List Str := ["_law_matrix"]
abbrev p_l_fits : List Str := ["_law_matrix", "_law_point", "_law_c", "_law_value"]
abbrev p_l_number : List Str := ["_law_source_here"]
abbrev p_l_bounded : List Str := ["_law_matrix", "_law_i", "_law_j", "_law_number_here"]
abbrev p_l_diagonal : List Str := ["_law_source_here", "_law_rows"]
abbrev p_l_small : List Str := ["_law_source_here"]
abbrev p_l_closed : List Str := ["_law_matrix"]
abbrev p_l_wide : List Str := ["_law_source_here"]
abbrev p_l_way : List Str := ["_law_sums", "_law_first", "_law_last"]
abbrev p_l_ring : List Str := ["_law_source_here"]
abbrev p_law : List Str := ["_law_script"]
/-- what the program's top leaves: where each def stands -/
structure Txt (w : World) (K : PySem.W.Frag) (mg : Str → Option Value) where
  a_close : Addr
  d_close : FuncData
  F_close : Fun K "close" "close" s_close a_close d_close
  b_close : Binds K d_close p_close []
  m_close : mg "close" = some (.ref a_close)
  a_has_contradiction : Addr
  d_has_contradiction : FuncData
  F_has_contradiction : Fun K "has_contradiction" "has_contradiction" s_has_contradiction a_has_contradiction d_has_contradiction
  b_has_contradiction : Binds K d_has_contradiction p_has_contradiction []
  m_has_contradiction : mg "has_contradiction" = some (.ref a_has_contradiction)
  a_shortened : Addr
  d_shortened : FuncData
  F_shortened : Fun K "shortened" "shortened" s_shortened a_shortened d_shortened
  b_shortened : Binds K d_shortened p_shortened []
  m_shortened : mg "shortened" = some (.ref a_shortened)
  a_frozen : Addr
  d_frozen : FuncData
  F_frozen : Fun K "frozen" "frozen" s_frozen a_frozen d_frozen
  b_frozen : Binds K d_frozen p_frozen []
  m_frozen : mg "frozen" = some (.ref a_frozen)
  a_l_cell : Addr
  d_l_cell : FuncData
  F_l_cell : Fun K "_law_cell" "_law_cell" s_l_cell a_l_cell d_l_cell
  b_l_cell : Binds K d_l_cell p_l_cell []
  m_l_cell : mg "_law_cell" = some (.ref a_l_cell)
  a_l_source : Addr
  d_l_source : FuncData
  F_l_source : Fun K "_law_source" "_law_source" s_l_source a_l_source d_l_source
  b_l_source : Binds K d_l_source p_l_source []
  m_l_source : mg "_law_source" = some (.ref a_l_source)
  a_l_pick : Addr
  d_l_pick : FuncData
  F_l_pick : Fun K "_law_pick" "_law_pick" s_l_pick a_l_pick d_l_pick
  b_l_pick : Binds K d_l_pick p_l_pick []
  m_l_pick : mg "_law_pick" = some (.ref a_l_pick)
  a_l_hull : Addr
  d_l_hull : FuncData
  F_l_hull : Fun K "_law_hull" "_law_hull" s_l_hull a_l_hull d_l_hull
  b_l_hull : Binds K d_l_hull p_l_hull []
  m_l_hull : mg "_law_hull" = some (.ref a_l_hull)
  a_l_same : Addr
  d_l_same : FuncData
  F_l_same : Fun K "_law_same" "_law_same" s_l_same a_l_same d_l_same
  b_l_same : Binds K d_l_same p_l_same []
  m_l_same : mg "_law_same" = some (.ref a_l_same)
  a_l_points : Addr
  d_l_points : FuncData
  F_l_points : Fun K "_law_points" "_law_points" s_l_points a_l_points d_l_points
  b_l_points : Binds K d_l_points p_l_points []
  m_l_points : mg "_law_points" = some (.ref a_l_points)
  a_l_fits : Addr
  d_l_fits : FuncData
  F_l_fits : Fun K "_law_fits" "_law_fits" s_l_fits a_l_fits d_l_fits
  b_l_fits : Binds K d_l_fits p_l_fits []
  m_l_fits : mg "_law_fits" = some (.ref a_l_fits)
  a_l_number : Addr
  d_l_number : FuncData
  F_l_number : Fun K "_law_number" "_law_number" s_l_number a_l_number d_l_number
  b_l_number : Binds K d_l_number p_l_number []
  m_l_number : mg "_law_number" = some (.ref a_l_number)
  a_l_bounded : Addr
  d_l_bounded : FuncData
  F_l_bounded : Fun K "_law_bounded" "_law_bounded" s_l_bounded a_l_bounded d_l_bounded
  b_l_bounded : Binds K d_l_bounded p_l_bounded []
  m_l_bounded : mg "_law_bounded" = some (.ref a_l_bounded)
  a_l_diagonal : Addr
  d_l_diagonal : FuncData
  F_l_diagonal : Fun K "_law_diagonal" "_law_diagonal" s_l_diagonal a_l_diagonal d_l_diagonal
  b_l_diagonal : Binds K d_l_diagonal p_l_diagonal []
  m_l_diagonal : mg "_law_diagonal" = some (.ref a_l_diagonal)
  a_l_small : Addr
  d_l_small : FuncData
  F_l_small : Fun K "_law_small" "_law_small" s_l_small a_l_small d_l_small
  b_l_small : Binds K d_l_small p_l_small []
  m_l_small : mg "_law_small" = some (.ref a_l_small)
  a_l_closed : Addr
  d_l_closed : FuncData
  F_l_closed : Fun K "_law_closed" "_law_closed" s_l_closed a_l_closed d_l_closed
  b_l_closed : Binds K d_l_closed p_l_closed []
  m_l_closed : mg "_law_closed" = some (.ref a_l_closed)
  a_l_wide : Addr
  d_l_wide : FuncData
  F_l_wide : Fun K "_law_wide" "_law_wide" s_l_wide a_l_wide d_l_wide
  b_l_wide : Binds K d_l_wide p_l_wide []
  m_l_wide : mg "_law_wide" = some (.ref a_l_wide)
  a_l_way : Addr
  d_l_way : FuncData
  F_l_way : Fun K "_law_way" "_law_way" s_l_way a_l_way d_l_way
  b_l_way : Binds K d_l_way p_l_way []
  m_l_way : mg "_law_way" = some (.ref a_l_way)
  a_l_ring : Addr
  d_l_ring : FuncData
  F_l_ring : Fun K "_law_ring" "_law_ring" s_l_ring a_l_ring d_l_ring
  b_l_ring : Binds K d_l_ring p_l_ring []
  m_l_ring : mg "_law_ring" = some (.ref a_l_ring)
  a_law : Addr
  d_law : FuncData
  F_law : Fun K "law" "law" s_law a_law d_law
  b_law : Binds K d_law p_law []
  m_law : mg "law" = some (.ref a_law)
  z_abs : mg "abs" = none
  z_any : mg "any" = none
  z_bool : mg "bool" = none
  z_enumerate : mg "enumerate" = none
  z_int : mg "int" = none
  z_isinstance : mg "isinstance" = none
  z_len : mg "len" = none
  z_list : mg "list" = none
  z_max : mg "max" = none
  z_min : mg "min" = none
  z_range : mg "range" = none
  z_str : mg "str" = none
  z_sum : mg "sum" = none
  z_tuple : mg "tuple" = none
  z_zip : mg "zip" = none
abbrev n_close : List Str := ["matrix", "rows", "i", "row", "j", "most", "middle"]
theorem sc_close : FnScope n_close p_close (defScope s_close) := ⟨rfl, rfl, rfl, by decide +kernel, rfl, by decide +kernel, by decide +kernel⟩
abbrev n_has_contradiction : List Str := ["rows", "at", "row"]
theorem sc_has_contradiction : FnScope n_has_contradiction p_has_contradiction (defScope s_has_contradiction) := ⟨rfl, rfl, rfl, by decide +kernel, rfl, by decide +kernel, by decide +kernel⟩
abbrev n_shortened : List Str := ["rows", "middle", "through", "row", "most", "second"]
theorem sc_shortened : FnScope n_shortened p_shortened (defScope s_shortened) := ⟨rfl, rfl, rfl, by decide +kernel, rfl, by decide +kernel, by decide +kernel⟩
abbrev n_frozen : List Str := ["rows", "row"]
theorem sc_frozen : FnScope n_frozen p_frozen (defScope s_frozen) := ⟨rfl, rfl, rfl, by decide +kernel, rfl, by decide +kernel, by decide +kernel⟩
abbrev n_l_cell : List Str := ["_law_script", "_law_at"]
theorem sc_l_cell : FnScope n_l_cell p_l_cell (defScope s_l_cell) := ⟨rfl, rfl, rfl, by decide +kernel, rfl, by decide +kernel, by decide +kernel⟩
abbrev n_l_source : List Str := ["_law_cell_here"]
theorem sc_l_source : FnScope n_l_source p_l_source (defScope s_l_source) := ⟨rfl, rfl, rfl, by decide +kernel, rfl, by decide +kernel, by decide +kernel⟩
abbrev n_l_pick : List Str := ["_law_source_here", "_law_size", "_law_k", "_law_digit", "_law_mixed"]
theorem sc_l_pick : FnScope n_l_pick p_l_pick (defScope s_l_pick) := ⟨rfl, rfl, rfl, by decide +kernel, rfl, by decide +kernel, by decide +kernel⟩
abbrev n_l_hull : List Str := ["_law_points_here", "_law_size", "_law_rows", "_law_i", "_law_row", "_law_j", "_law_point"]
theorem sc_l_hull : FnScope n_l_hull p_l_hull (defScope s_l_hull) := ⟨rfl, rfl, rfl, by decide +kernel, rfl, by decide +kernel, by decide +kernel⟩
abbrev n_l_same : List Str := ["_law_actual", "_law_due", "_law_k"]
theorem sc_l_same : FnScope n_l_same p_l_same (defScope s_l_same) := ⟨rfl, rfl, rfl, by decide +kernel, rfl, by decide +kernel, by decide +kernel⟩
abbrev n_l_points : List Str := ["_law_matrix", "_law_i", "_law_points_here", "_law_c", "_law_longer", "_law_point", "_law_value"]
theorem sc_l_points : FnScope n_l_points p_l_points (defScope s_l_points) := ⟨rfl, rfl, rfl, by decide +kernel, rfl, by decide +kernel, by decide +kernel⟩
abbrev n_l_fits : List Str := ["_law_matrix", "_law_point", "_law_c", "_law_value", "_law_k"]
theorem sc_l_fits : FnScope n_l_fits p_l_fits (defScope s_l_fits) := ⟨rfl, rfl, rfl, by decide +kernel, rfl, by decide +kernel, by decide +kernel⟩
abbrev n_l_number : List Str := ["_law_source_here", "_law_unit"]
theorem sc_l_number : FnScope n_l_number p_l_number (defScope s_l_number) := ⟨rfl, rfl, rfl, by decide +kernel, rfl, by decide +kernel, by decide +kernel⟩
abbrev n_l_bounded : List Str := ["_law_matrix", "_law_i", "_law_j", "_law_number_here", "_law_rows", "_law_k", "_law_start", "_law_m"]
theorem sc_l_bounded : FnScope n_l_bounded p_l_bounded (defScope s_l_bounded) := ⟨rfl, rfl, rfl, by decide +kernel, rfl, by decide +kernel, by decide +kernel⟩
abbrev n_l_diagonal : List Str := ["_law_source_here", "_law_rows", "_law_odd", "_law_at", "_law_i", "_law_row"]
theorem sc_l_diagonal : FnScope n_l_diagonal p_l_diagonal (defScope s_l_diagonal) := ⟨rfl, rfl, rfl, by decide +kernel, rfl, by decide +kernel, by decide +kernel⟩
abbrev n_l_small : List Str := ["_law_source_here", "_law_size", "_law_low", "_law_rows", "_law_i", "_law_j", "_law_matrix"]
theorem sc_l_small : FnScope n_l_small p_l_small (defScope s_l_small) := ⟨rfl, rfl, rfl, by decide +kernel, rfl, by decide +kernel, by decide +kernel⟩
abbrev n_l_closed : List Str := ["_law_matrix", "_law_size", "_law_far", "_law_row", "_law_entry", "_law_rows", "_law_i", "_law_box", "_law_j"]
theorem sc_l_closed : FnScope n_l_closed p_l_closed (defScope s_l_closed) := ⟨rfl, rfl, rfl, by decide +kernel, rfl, by decide +kernel, by decide +kernel⟩
abbrev n_l_wide : List Str := ["_law_source_here", "_law_size", "_law_values", "_law_k", "_law_unit", "_law_low", "_law_rows", "_law_i", "_law_row", "_law_j", "_law_matrix"]
theorem sc_l_wide : FnScope n_l_wide p_l_wide (defScope s_l_wide) := ⟨rfl, rfl, rfl, by decide +kernel, rfl, by decide +kernel, by decide +kernel⟩
abbrev n_l_way : List Str := ["_law_sums", "_law_first", "_law_last"]
theorem sc_l_way : FnScope n_l_way p_l_way (defScope s_l_way) := ⟨rfl, rfl, rfl, by decide +kernel, rfl, by decide +kernel, by decide +kernel⟩
abbrev n_l_ring : List Str := ["_law_source_here", "_law_size", "_law_near", "_law_left", "_law_order", "_law_k", "_law_unit", "_law_entries", "_law_far", "_law_entry", "_law_place", "_law_sums", "_law_rows", "_law_told", "_law_i", "_law_ways", "_law_j", "_law_row", "_law_at"]
theorem sc_l_ring : FnScope n_l_ring p_l_ring (defScope s_l_ring) := ⟨rfl, rfl, rfl, by decide +kernel, rfl, by decide +kernel, by decide +kernel⟩
abbrev n_law : List Str := ["_law_script", "_law_source_here", "_law_pair", "_law_choice"]
theorem sc_law : FnScope n_law p_law (defScope s_law) := ⟨rfl, rfl, rfl, by decide +kernel, rfl, by decide +kernel, by decide +kernel⟩
/-! ### a list against the empty one -/
def rEqL0 (K : PySem.W.Frag) (neg : Bool) : R2 := fun x y H Q => ∃ (a b : Addr) (xs : List V), x = .ref a ∧ y = .ref b ∧ SqL K H a xs ∧ SqL K H b [] ∧ Q (.bl (if neg then !xs.isEmpty else xs.isEmpty)) H
theorem op_neL0 {X : Cx} (hu : X.A.units < cLine) : OpR X (compareOp .NotEq) (rEqL0 X.K true) := by
  intro pins s σ H x y v u Q I rx ry h
  obtain ⟨a, b, xs, rfl, rfl, ha, hb, q⟩ := h
  obtain rfl : v = Value.ref a := rx
  obtain rfl : u = Value.ref b := ry
  obtain ⟨its, r1, t1, _⟩ := I.list ha
  obtain ⟨its2, r2, t2, _⟩ := I.list hb
  cases r2
  cases r1 with
  | nil => exact SeqAt.RcNeAt.lists (e := fun _ => true) t1.isList t2.isList rfl hu (fun j h1 h2 => absurd h2 (by simp)) _ _ _ _ ⟨.bl _, H, I, rfl, q⟩
  | cons _ _ => exact SeqAt.RcNeAt.lists_lengths t1.isList t2.isList (by simp) hu _ _ _ _ ⟨.bl _, H, I, rfl, q⟩
theorem op_eqL0 {X : Cx} (hu : X.A.units < cLine) : OpR X (compareOp .Eq) (rEqL0 X.K false) := by
  intro pins s σ H x y v u Q I rx ry h
  obtain ⟨a, b, xs, rfl, rfl, ha, hb, q⟩ := h
  obtain rfl : v = Value.ref a := rx
  obtain rfl : u = Value.ref b := ry
  obtain ⟨its, r1, t1, _⟩ := I.list ha
  obtain ⟨its2, r2, t2, _⟩ := I.list hb
  cases r2
  cases r1 with
  | nil => exact SeqAt.eq_listAt (e := fun _ => true) t1.isList t2.isList rfl hu (fun j h1 h2 => absurd h2 (by simp)) ⟨.bl _, H, I, rfl, q⟩
  | cons _ _ => exact SeqAt.eq_list_lengthsAt t1.isList t2.isList (by simp) hu ⟨.bl _, H, I, rfl, q⟩
/-! ### built-in names -/
theorem bt_int : bootBuiltins "int" = some (.type "int") := by decide +kernel
theorem bt_str : bootBuiltins "str" = some (.type "str") := by decide +kernel
theorem bt_bool : bootBuiltins "bool" = some (.type "bool") := by decide +kernel
theorem bt_tuple : bootBuiltins "tuple" = some (.type "tuple") := by decide +kernel
theorem bt_list : bootBuiltins "list" = some (.type "list") := by decide +kernel
theorem bt_dict : bootBuiltins "dict" = some (.type "dict") := by decide +kernel
theorem bb_max : bootBuiltins "max" = some (.builtin "max") := by decide +kernel
theorem bb_min : bootBuiltins "min" = some (.builtin "min") := by decide +kernel
theorem bb_isinstance : bootBuiltins "isinstance" = some (.builtin "isinstance") := by decide +kernel
/-! ### a source of draws: a list of three ints, which draws alone change -/
def Src (H : Hp) (a : Addr) : Prop := ∃ c m k : Int, H a = some (.lst [.int c, .int m, .int k])
/-- a source stands at a, and nothing else that was tracked has changed -/
structure Stp (a : Addr) (H H' : Hp) : Prop where
  s : Src H' a
  k : ∀ b o, b ≠ a → H b = some o → H' b = some o
theorem Stp.refl {a : Addr} {H : Hp} (h : Src H a) : Stp a H H := ⟨h, fun _ _ _ e => e⟩
theorem Stp.trans {a : Addr} {H H1 H2 : Hp} (x : Stp a H H1) (y : Stp a H1 H2) : Stp a H H2 := ⟨y.s, fun b o hb e => y.k b o hb (x.k b o hb e)⟩
theorem Src.ne {a p : Addr} {H : Hp} (h : Src H a) (n : H p = none) : a ≠ p := by
  obtain ⟨c, m, k, h⟩ := h
  exact ne_of_none h n
theorem Stp.free {a p : Addr} {H H' : Hp} (x : Stp a H H') (n : H' p = none) : H p = none := by
  cases q : H p with
  | none => rfl
  | some o =>
    have ne : p ≠ a := fun z => x.s.ne n z.symm
    rw [x.k p o ne q] at n
    cases n
/-- a new object beside the source -/
theorem Stp.new {a p : Addr} {H H' : Hp} {o : HO} (x : Stp a H H') (n : H' p = none) : Stp a H (upd H' p o) := by
  have ne := x.s.ne n
  obtain ⟨c, m, k, h⟩ := x.s
  refine ⟨⟨c, m, k, by rw [upd_ne ne]; exact h⟩, fun b u hb e => ?_⟩
  have e' := x.k b u hb e
  rw [upd_ne (ne_of_none e' n)]
  exact e'
theorem Stp.same {a : Addr} {H H' H2 : Hp} (x : Stp a H H') (s : Same H' H2) : Stp a H H2 := by
  obtain ⟨c, m, k, h⟩ := x.s
  exact ⟨⟨c, m, k, s _ _ h⟩, fun b o hb e => s b o (x.k b o hb e)⟩
theorem Stp.of_same {a : Addr} {H H' : Hp} (h : Src H a) (s : Same H H') : Stp a H H' := (Stp.refl h).same s
theorem Same.new {H : Hp} {p : Addr} (h : H p = none) (o : HO) : Same H (upd H p o) := fun b u q => by rw [upd_ne (ne_of_none q h)]; exact q
/-- a source that is new ahead of its draws: all that was tracked stands -/
theorem Stp.fresh {a : Addr} {H H1 H2 : Hp} (s : Same H H1) (n : H a = none) (x : Stp a H1 H2) : Same H H2 := fun b o e => x.k b o (ne_of_none e n) (s b o e)
theorem Stp.rd {K : PySem.W.Frag} {a p : Addr} {H H' : Hp} {xs : List V} (x : Stp a H H') (h : SqT K H p xs) (hs : Src H a) : SqT K H' p xs := by
  obtain ⟨c, m, k, hs⟩ := hs
  rcases h with (h | ⟨o, h⟩) | h
  · exact .inl (.inl (x.k _ _ (ne_of h hs (by intro z; cases z)) h))
  · exact .inl (.inr ⟨o, x.k _ _ (ne_of h hs (by intro z; cases z)) h⟩)
  · exact .inr h
theorem Stp.rdL {K : PySem.W.Frag} {a p : Addr} {H H' : Hp} {xs : List V} (x : Stp a H H') (h : SqL K H p xs) (ne : p ≠ a) : SqL K H' p xs := by
  rcases h with (h | ⟨o, h⟩) | h
  · exact .inl (.inl (x.k _ _ ne h))
  · exact .inl (.inr ⟨o, x.k _ _ ne h⟩)
  · exact .inr h
theorem Same.tup {K : PySem.W.Frag} {p : Addr} {H H' : Hp} {xs : List V} (x : Same H H') (h : SqT K H p xs) : SqT K H' p xs := by
  rcases h with (h | ⟨o, h⟩) | h
  · exact .inl (.inl (x _ _ h))
  · exact .inl (.inr ⟨o, x _ _ h⟩)
  · exact .inr h
/-! ### numbers -/
theorem ifT {c : Bool} {A B : Prop} (h : c = true) (a : A) : if c = true then A else B := by rw [if_pos h]; exact a
theorem ifF {c : Bool} {A B : Prop} (h : c = false) (b : B) : if c = true then A else B := by rw [h]; exact iteF b
theorem fmod_bd {x m : Int} (h : 0 < m) : 0 ≤ x.fmod m ∧ x.fmod m < m := ⟨Int.fmod_nonneg_of_pos x h, Int.fmod_lt_of_pos x h⟩
theorem fm64 {x m : Int} (h : 0 < m) (h2 : m ≤ 2 ^ 64) : -(2 ^ 64) < x.fmod m ∧ x.fmod m < 2 ^ 64 :=
  ⟨Int.lt_of_lt_of_le (by decide) (fmod_bd h).1, Int.lt_of_lt_of_le (fmod_bd h).2 h2⟩
theorem atI_int {α : Type} {xs : List α} {r : Int} (h0 : 0 ≤ r) (h : r.toNat < xs.length) : atI xs r = some xs[r.toNat] := by
  have e := atI_nat (xs := xs) (j := r.toNat) (List.getElem?_eq_getElem h)
  rwa [Int.toNat_of_nonneg h0] at e
/-! ### the promises of the draws -/
def spCell (K : PySem.W.Frag) : Sp := fun vs H Q _ => ∃ (l : Addr) (ns : List Int) (j : Int), vs = [.ref l, .int j] ∧ SqL K H l (ns.map V.int) ∧ 0 ≤ j ∧ ∀ i : Int, Q (.int i) H
def spSource : Sp := fun vs H Q _ => ∃ c : Int, vs = [.int c] ∧ ∀ p H', H p = none → Same H H' → Src H' p → Q (.ref p) H'
def spPick : Sp := fun vs H Q _ => ∃ (a : Addr) (n : Int), vs = [.ref a, .int n] ∧ Src H a ∧ n < 1073741824 ∧ ∀ (r : Int) (H' : Hp), Stp a H H' → 0 ≤ r → (r < n ∨ r = 0) → Q (.int r) H'
def spOne (K : PySem.W.Frag) : Sp := fun vs H Q _ => ∃ (a : Addr) (row : V), vs = [.ref a, row] ∧ Src H a ∧
  ((∃ (p : Addr) (xs : List V), row = .ref p ∧ p ≠ a ∧ SqL K H p xs ∧ 0 < xs.length ∧ xs.length < 1000 ∧ ∀ v H', v ∈ xs → Stp a H H' → Q v H') ∨
   (∃ z : Str, row = .str z ∧ 0 < z.length ∧ z.length < 1000 ∧ ∀ (c : Nat) H', c ∈ z.cps.toList → Stp a H H' → Q (.str ⟨#[c]⟩) H'))
section
variable {P : Program} {w : World} {K : PySem.W.Frag} {mg : Str → Option Value} {base : Heap}
theorem ok_l_cell (T : Txt w K mg) : FnOk P w K mg base CX0 1 T.a_l_cell T.d_l_cell p_l_cell (spCell K) := by
  refine T.F_l_cell.ok sc_l_cell (fun vs H Q E h => ?_) (fun cdv A outer s H vs Q E hr h => ?_)
  · obtain ⟨l, ns, j, rfl, _⟩ := h
    rfl
  obtain ⟨l, ns, j, rfl, hS, h0, q⟩ := h
  refine ⟨_, (pss_cons (ps_if (pt_cmpR op_lt (pv 1) (pe_callB call_len_seq rfl T.z_len PySem.boot_len (pa_cons (pv 0) pa_nil)) (nomark _)) (pss_one (ps_ret (pe_ix ix_list (pv 0) (pv 1) (fun _ _ => rfl)))) pss_nil)
      (pss_one (ps_ret pe_int))), ?_⟩
  have hl : (ns.map V.int).length = ns.length := List.length_map _
  refine ⟨_, rfl, _, rfl, l, _, rfl, .inl hS, _, _, rfl, rfl, _, rfl, ?_⟩
  refine ite2 (fun c => ?_) (fun c => ?_)
  · have c' : j < (((ns.map V.int).length : Nat) : Int) := of_decide_eq_true c
    rw [hl] at c'
    have hk : j.toNat < ns.length := by omega
    have e := atI_int (xs := ns.map V.int) h0 (by omega)
    rw [List.getElem_map] at e
    exact ⟨_, rfl, _, rfl, l, _, _, _, rfl, rfl, hS, e, q _⟩
  · exact q 0
theorem ok_l_source (T : Txt w K mg) : FnOk P w K mg base CX0 1 T.a_l_source T.d_l_source p_l_source spSource := by
  refine T.F_l_source.ok sc_l_source (fun vs H Q E h => ?_) (fun cdv A outer s H vs Q E hr h => ?_)
  · obtain ⟨c, rfl, _⟩ := h
    rfl
  obtain ⟨c, rfl, q⟩ := h
  refine ⟨_, (pss_one (ps_ret (pe_lst (pa_cons (pv 0) (pa_cons (pv 0) (pa_cons pe_int pa_nil)))))), ?_⟩
  refine ⟨_, rfl, _, rfl, (by show 3 ≤ sizeLine; decide), fun p hp => ?_⟩
  exact q p _ hp (Same.new hp _) ⟨c, c, 0, upd_same⟩
theorem ok_l_pick (T : Txt w K mg) : FnOk P w K mg base CX0 1 T.a_l_pick T.d_l_pick p_l_pick spPick := by
  refine T.F_l_pick.ok sc_l_pick (fun vs H Q E h => ?_) (fun cdv A outer s H vs Q E hr h => ?_)
  · obtain ⟨a, n, rfl, _⟩ := h
    rfl
  obtain ⟨a, n, rfl, ⟨c, m, k, hS⟩, hn, q⟩ := h
  refine ⟨_, (pss_cons (ps_set (i := 2) sc_l_pick.nd rfl (Or.inl rfl) (pe_ix ix_list (pv 0) pe_int (fun _ _ => rfl)))
      (pss_cons (ps_asg (pe_op op_add (pv 2) pe_int) (pg_sub (pv 0) pe_int set_list))
      (pss_cons (ps_if (pt_cmpR op_lt (pv 1) pe_int (nomark _)) (pss_one (ps_ret pe_int)) pss_nil)
      (pss_cons (ps_if (PW.pt (pw_and (pt_cmpR op_ge (pe_ix ix_list (pv 0) pe_int (fun _ _ => rfl)) (pe_op op_pow pe_int pe_int) (nomark _)) (pw_and1 (pt_cmpR op_gt (pe_ix ix_list (pv 0) pe_int (fun _ _ => rfl)) pe_int (nomark _))))) (pss_cons (ps_set (i := 3) sc_l_pick.nd rfl (Or.inl rfl) (pe_op op_modN (pe_callTy call_int1 rfl T.z_int bt_int (pa_cons (pe_ix ix_list (pv 0) pe_int (fun _ _ => rfl)) pa_nil)) (pv 1)))
      (pss_cons (ps_asg (pe_op op_fdivN (pe_ix ix_list (pv 0) pe_int (fun _ _ => rfl)) (pv 1)) (pg_sub (pv 0) pe_int set_list))
      (pss_one (ps_ret (pv 3))))) pss_nil)
      (pss_cons (ps_set (i := 4) sc_l_pick.nd rfl (Or.inl rfl) (pe_op op_modN (pe_callTy call_int1 rfl T.z_int bt_int (pa_cons (pe_op op_add (pe_op op_add (pe_ix ix_list (pv 0) pe_int (fun _ _ => rfl)) (pe_op op_mul pe_int (pv 2))) pe_int) pa_nil)) pe_int))
      (pss_cons (ps_set (i := 4) sc_l_pick.nd rfl (Or.inl rfl) (pe_op op_modN (pe_callTy call_int1 rfl T.z_int bt_int (pa_cons (pe_op op_mul (pv 4) (pe_op op_add (pv 4) pe_int)) pa_nil)) pe_int))
      (pss_cons (ps_set (i := 4) sc_l_pick.nd rfl (Or.inl rfl) (pe_op op_modN (pe_callTy call_int1 rfl T.z_int bt_int (pa_cons (pe_op op_add (pe_op op_mul (pv 4) (pe_op op_add (pv 4) pe_int)) (pe_op op_mul pe_int (pv 2))) pa_nil)) pe_int))
      (pss_one (ps_ret (pe_op op_modN (pe_callTy call_int1 rfl T.z_int bt_int (pa_cons (pe_op op_fdivN (pv 4) pe_int) pa_nil)) (pv 1))))))))))), ?_⟩
  refine ⟨_, rfl, a, _, 2, _, rfl, rfl, SqL.of hS, rfl, ?_⟩
  refine ⟨_, rfl, k, 1, rfl, rfl, _, rfl, a, _, 2, 2, rfl, rfl, hS, rfl, ?_⟩
  have h1 : (upd H a (.lst [.int c, .int m, .int (k + 1)])) a = some (.lst [.int c, .int m, .int (k + 1)]) := upd_same
  have st : Stp a H (upd H a (.lst [.int c, .int m, .int (k + 1)])) := ⟨⟨c, m, k + 1, upd_same⟩, fun b o hb e => by rw [upd_ne hb]; exact e⟩
  refine ⟨_, rfl, n, 2, rfl, rfl, _, rfl, ?_⟩
  refine ite2 (fun _ => ?_) (fun c2 => ?_)
  · exact q 0 _ st (Int.le_refl 0) (.inr rfl)
  have hn2 : ¬ n < 2 := of_decide_eq_false (Bool.eq_false_iff.mpr c2)
  refine ⟨_, rfl, a, _, 0, _, rfl, rfl, SqL.of h1, rfl, 10, 18, rfl, rfl, ⟨by decide, by decide, by decide⟩, _, _, rfl, rfl, _, rfl, ?_⟩
  refine ite2 (fun _ => ⟨_, rfl, a, _, 1, _, rfl, rfl, SqL.of h1, rfl, _, _, rfl, rfl, _, rfl, ite2 (fun _ => ?first) (fun _ => ?second)⟩) (fun _ => iteF ?third)
  case first =>
    refine ⟨_, rfl, a, _, 1, _, rfl, rfl, SqL.of h1, rfl, .inl ⟨_, rfl, ?_⟩⟩
    refine ⟨_, rfl, _, _, rfl, rfl, by omega, ?_⟩
    refine ⟨_, rfl, a, _, 1, _, rfl, rfl, SqL.of h1, rfl, _, rfl, m, n, rfl, rfl, ⟨by omega, by omega⟩, _, rfl, a, _, 1, 1, rfl, rfl, h1, rfl, ?_⟩
    refine ⟨_, rfl, ?_⟩
    have b := fmod_bd (x := m) (m := n) (by omega)
    refine q _ _ ⟨⟨c, m.fdiv n, k + 1, upd_same⟩, fun b o hb e => ?_⟩ b.1 (.inl b.2)
    rw [upd_ne hb]
    exact st.k b o hb e
  all_goals
    refine ⟨_, rfl, a, _, 0, _, rfl, rfl, SqL.of h1, rfl, _, rfl, 7919, k, rfl, rfl, .inl ⟨by decide, by decide⟩, _, _, rfl, rfl, _, _, rfl, rfl, .inl ⟨_, rfl, ?_⟩⟩
    refine ⟨_, _, rfl, rfl, (by intro z; cases z), ?_⟩
    refine ⟨_, rfl, _, rfl, _, _, rfl, rfl, _, _, rfl, rfl, .inl (fm64 (by decide) (by decide)), .inl ⟨_, rfl, ?_⟩⟩
    refine ⟨_, _, rfl, rfl, (by intro z; cases z), ?_⟩
    refine ⟨_, rfl, _, rfl, _, _, rfl, rfl, _, _, rfl, rfl, .inl (fm64 (by decide) (by decide)), _, rfl, 31, k, rfl, rfl, .inl ⟨by decide, by decide⟩, _, _, rfl, rfl, .inl ⟨_, rfl, ?_⟩⟩
    refine ⟨_, _, rfl, rfl, (by intro z; cases z), ?_⟩
    refine ⟨_, rfl, _, _, rfl, rfl, ⟨by decide, by decide⟩, .inl ⟨_, rfl, ?_⟩⟩
    refine ⟨_, rfl, _, _, rfl, rfl, (by omega), ?_⟩
    exact q _ _ st (fmod_bd (by omega)).1 (.inl (fmod_bd (by omega)).2)
end
/-! ### data: equal data are the same to _law_same -/
def Dok : Nat → PyData → Prop
  | 0, _ => False
  | _ + 1, .none => True
  | _ + 1, .bool _ => True
  | _ + 1, .int _ => True
  | _ + 1, .str _ => True
  | n + 1, .tuple ds => ds.length ≤ 100000 ∧ ∀ d ∈ ds, Dok n d
  | n + 1, .list ds => ds.length ≤ 100000 ∧ ∀ d ∈ ds, Dok n d
  | _ + 1, .dict _ => False
theorem dpAll_len {K : PySem.W.Frag} {H : Hp} : ∀ {vs : List V} {ds : List PyData}, DpAll K H vs ds → vs.length = ds.length
  | _, _, .nil => rfl
  | _, _, .cons _ r => congrArg (· + 1) (dpAll_len r)
theorem dpAll_get {K : PySem.W.Frag} {H : Hp} : ∀ {vs : List V} {ds : List PyData} {i : Nat} {d : PyData}, DpAll K H vs ds → ds[i]? = some d → ∃ v, vs[i]? = some v ∧ Dp K H v d
  | _, _, _, _, .nil, e => by simp at e
  | _, _, 0, d, .cons h _, e => by
    simp at e
    subst e
    exact ⟨_, rfl, h⟩
  | _, _, i + 1, d, .cons _ r, e => by
    obtain ⟨v, h1, h2⟩ := dpAll_get (i := i) r (by simpa using e)
    exact ⟨v, by simpa using h1, h2⟩
theorem tyL {K : PySem.W.Frag} {H : Hp} {a : Addr} {xs : List V} (h : SqL K H a xs) : TyX K H (.ref a) (.type "list") := by
  rcases h with (h | ⟨o, h⟩) | ⟨o, its, n, h, c, _⟩
  · exact .base (.lst h)
  · exact .base (.frz h)
  · exact .kList h c
theorem tyT {K : PySem.W.Frag} {H : Hp} {a : Addr} {xs : List V} (h : SqT K H a xs) : TyX K H (.ref a) (.type "tuple") := by
  rcases h with (h | ⟨o, h⟩) | ⟨o, its, n, h, c, _⟩
  · exact .base (.tup h)
  · exact .fTuple h
  · exact .kTuple h c
theorem isi {K : PySem.W.Frag} {H : Hp} {Q : VK} {x : V} {t c : String} (b : Bool) (ty : TyX K H x (.type t)) (kb : kitB t c = some b) (q : Q (.bl b) H) : rIsi K [x, .ty c] H Q := ⟨x, .ty c, _, _, b, rfl, .ty c, ty, kit_ty kb, q⟩
theorem kb_nt : kitB "NoneType" "tuple" = some false := by decide +kernel
theorem kb_nl : kitB "NoneType" "list" = some false := by decide +kernel
theorem kb_bt : kitB "bool" "tuple" = some false := by decide +kernel
theorem kb_bl : kitB "bool" "list" = some false := by decide +kernel
theorem kb_bb : kitB "bool" "bool" = some true := by decide +kernel
theorem kb_it : kitB "int" "tuple" = some false := by decide +kernel
theorem kb_il : kitB "int" "list" = some false := by decide +kernel
theorem kb_ib : kitB "int" "bool" = some false := by decide +kernel
theorem kb_ii : kitB "int" "int" = some true := by decide +kernel
theorem kb_st : kitB "str" "tuple" = some false := by decide +kernel
theorem kb_sl : kitB "str" "list" = some false := by decide +kernel
theorem kb_sb : kitB "str" "bool" = some false := by decide +kernel
theorem kb_si : kitB "str" "int" = some false := by decide +kernel
theorem kb_ss : kitB "str" "str" = some true := by decide +kernel
theorem kb_tt : kitB "tuple" "tuple" = some true := by decide +kernel
theorem kb_tl : kitB "tuple" "list" = some false := by decide +kernel
theorem kb_lt : kitB "list" "tuple" = some false := by decide +kernel
theorem kb_ll : kitB "list" "list" = some true := by decide +kernel
def spSame (K : PySem.W.Frag) (n : Nat) : Sp := fun vs H Q _ => ∃ (x y : V) (d : PyData), vs = [x, y] ∧ Dp K H x d ∧ Dp K H y d ∧ Dok n d ∧ Q (.bl true) H
section
variable {P : Program} {w : World} {K : PySem.W.Frag} {mg : Str → Option Value} {base : Heap}
theorem ok_l_same0 (T : Txt w K mg) : FnOk P w K mg base CX0 0 T.a_l_same T.d_l_same p_l_same (spSame K 0) := by
  have no : ∀ vs H Q E, ¬ spSame K 0 vs H Q E := fun vs H Q E h => by
    obtain ⟨x, y, d, _, _, _, h, _⟩ := h
    exact h
  exact ⟨fun vs H Q E h => absurd h (no vs H Q E), fun A outer s H args us vs Q E _ _ _ _ h => absurd h (no vs H Q E)⟩
/-- the part for two lists or two tuples -/
theorem same_seq {n : Nat} {H : Hp} {p r : Addr} {xs ys : List V} {ds : List PyData} (h1 : SqL K H p xs ∨ SqT K H p xs) (h2 : SqL K H r ys ∨ SqT K H r ys) (d1 : DpAll K H xs ds) (d2 : DpAll K H ys ds)
    (hd : ∀ d ∈ ds, Dok n d) {i : Nat} (hi : i < ds.length) {R : V → Hp → Prop} (q : R (.bl true) H) :
    tCall (spSame K n) [] E0 (tCons (tOp (rIx K) (tVar 0) (tVar 2)) (tCons (tOp (rIx K) (tVar 1) (tVar 2)) tNil)) [some (.ref p), some (.ref r), some (.int (0 + (i : Int)))] H R := by
  obtain ⟨x, e1, q1⟩ := dpAll_get (i := i) d1 (List.getElem?_eq_getElem hi)
  obtain ⟨y, e2, q2⟩ := dpAll_get (i := i) d2 (List.getElem?_eq_getElem hi)
  have a1 : atI xs (0 + (i : Int)) = some x := by rw [Int.zero_add]; exact atI_nat e1
  have a2 : atI ys (0 + (i : Int)) = some y := by rw [Int.zero_add]; exact atI_nat e2
  have k2 : tOp (rIx K) (tVar 1) (tVar 2) [some (.ref p), some (.ref r), some (.int (0 + (i : Int)))] H (fun v H' => tNil [some (.ref p), some (.ref r), some (.int (0 + (i : Int)))] H' fun vs H'' => spSame K n ((x :: v :: vs) ++ []) H'' R E0) := by
    refine ⟨_, rfl, _, rfl, ?_⟩
    have z : spSame K n [x, y] H R E0 := ⟨x, y, _, rfl, q1, q2, hd _ (List.getElem_mem hi), q⟩
    rcases h2 with h2 | h2
    · exact .inl ⟨r, _, _, _, rfl, rfl, h2, a2, z⟩
    · exact .inr (.inl ⟨r, _, _, _, rfl, rfl, h2, a2, z⟩)
  refine ⟨_, rfl, _, rfl, ?_⟩
  rcases h1 with h1 | h1
  · exact .inl ⟨p, _, _, _, rfl, rfl, h1, a1, k2⟩
  · exact .inr (.inl ⟨p, _, _, _, rfl, rfl, h1, a1, k2⟩)
theorem ok_l_same (T : Txt w K mg) : ∀ n : Nat, FnOk P w K mg base CX0 n T.a_l_same T.d_l_same p_l_same (spSame K n)
  | 0 => ok_l_same0 T
  | n + 1 => by
    have g_l_same := ok_l_same T n
    refine T.F_l_same.ok sc_l_same (fun vs H Q E h => ?_) (fun cdv A outer s H vs Q E hr h => ?_)
    · obtain ⟨x, y, d, rfl, _⟩ := h
      rfl
    obtain ⟨x, y, d, rfl, hx, hy, hd, q⟩ := h
    refine ⟨_, (pss_cons (ps_if (PW.pt (pw_or (pt_val (pe_callB call_isi rfl T.z_isinstance bb_isinstance (pa_cons (pv 1) (pa_cons (pe_bltn (v := .ty "tuple") rfl T.z_tuple bt_tuple rfl) pa_nil)))) (pw_or1 (pt_val (pe_callB call_isi rfl T.z_isinstance bb_isinstance (pa_cons (pv 1) (pa_cons (pe_bltn (v := .ty "list") rfl T.z_list bt_list rfl) pa_nil))))))) (pss_cons (ps_if (PW.pt (pw_or (pt_cmpR op_ne (pe_callB call_isi rfl T.z_isinstance bb_isinstance (pa_cons (pv 1) (pa_cons (pe_bltn (v := .ty "tuple") rfl T.z_tuple bt_tuple rfl) pa_nil))) (pe_callB call_isi rfl T.z_isinstance bb_isinstance (pa_cons (pv 0) (pa_cons (pe_bltn (v := .ty "tuple") rfl T.z_tuple bt_tuple rfl) pa_nil))) (nomark _)) (pw_or1 (pt_cmpR op_ne (pe_callB call_isi rfl T.z_isinstance bb_isinstance (pa_cons (pv 1) (pa_cons (pe_bltn (v := .ty "list") rfl T.z_list bt_list rfl) pa_nil))) (pe_callB call_isi rfl T.z_isinstance bb_isinstance (pa_cons (pv 0) (pa_cons (pe_bltn (v := .ty "list") rfl T.z_list bt_list rfl) pa_nil))) (nomark _))))) (pss_one (ps_ret pe_bl)) pss_nil)
      (pss_cons (ps_if (pt_cmpR op_ne (pe_callB call_len_seq rfl T.z_len PySem.boot_len (pa_cons (pv 0) pa_nil)) (pe_callB call_len_seq rfl T.z_len PySem.boot_len (pa_cons (pv 1) pa_nil)) (nomark _)) (pss_one (ps_ret pe_bl)) pss_nil)
      (pss_cons (ps_for PassesOwn.never rfl (pi_range1 rfl T.z_range (pa_cons (pe_callB call_len_seq rfl T.z_len PySem.boot_len (pa_cons (pv 1) pa_nil)) pa_nil)) (pg_name (i := 2) sc_l_same.nd rfl (Or.inl rfl))
        (pss_one (ps_if (pt_not (pt_val (pe_call g_l_same (hr.mono (by first | decide | omega)) rfl T.m_l_same T.F_l_same.kp T.b_l_same .nil pass0 (pa_cons (pe_ix ix_seq (pv 0) (pv 2) (fun _ _ => rfl)) (pa_cons (pe_ix ix_seq (pv 1) (pv 2) (fun _ _ => rfl)) pa_nil))))) (pss_one (ps_ret pe_bl)) pss_nil)))
      (pss_one (ps_ret pe_bl))))) pss_nil)
      (pss_cons (ps_if (pt_cmpR op_isN (pv 1) pe_non (nomark _)) (pss_one (ps_ret (pe_cmpR op_isN (pv 0) pe_non (nomark _)))) pss_nil)
      (pss_cons (ps_if (pt_val (pe_callB call_isi rfl T.z_isinstance bb_isinstance (pa_cons (pv 1) (pa_cons (pe_bltn (v := .ty "bool") rfl T.z_bool bt_bool rfl) pa_nil)))) (pss_one (ps_ret (pe_and (pe_callB call_isi rfl T.z_isinstance bb_isinstance (pa_cons (pv 0) (pa_cons (pe_bltn (v := .ty "bool") rfl T.z_bool bt_bool rfl) pa_nil))) (pe_one (pe_cmpR op_eq (pv 0) (pv 1) (nomark _)))))) pss_nil)
      (pss_cons (ps_if (pt_val (pe_callB call_isi rfl T.z_isinstance bb_isinstance (pa_cons (pv 1) (pa_cons (pe_bltn (v := .ty "int") rfl T.z_int bt_int rfl) pa_nil)))) (pss_one (ps_ret (pe_and (pe_callB call_isi rfl T.z_isinstance bb_isinstance (pa_cons (pv 0) (pa_cons (pe_bltn (v := .ty "int") rfl T.z_int bt_int rfl) pa_nil))) (pe_and (pe_not (pe_callB call_isi rfl T.z_isinstance bb_isinstance (pa_cons (pv 0) (pa_cons (pe_bltn (v := .ty "bool") rfl T.z_bool bt_bool rfl) pa_nil)))) (pe_one (pe_cmpR op_eq (pv 0) (pv 1) (nomark _))))))) pss_nil)
      (pss_one (ps_ret (pe_and (pe_callB call_isi rfl T.z_isinstance bb_isinstance (pa_cons (pv 0) (pa_cons (pe_bltn (v := .ty "str") rfl T.z_str bt_str rfl) pa_nil))) (pe_one (pe_cmpR op_eq (pv 0) (pv 1) (nomark _)))))))))), ?_⟩
    cases hx with
    | non =>
      cases hy
      refine ⟨_, rfl, _, _, _, _, false, rfl, .ty _, (.base .non), kit_ty kb_nt, ⟨_, rfl, iteF ⟨_, rfl, _, _, _, _, false, rfl, .ty _, (.base .non), kit_ty kb_nl, ⟨_, rfl, iteF ?_⟩⟩⟩⟩
      refine ⟨_, rfl, rfl, _, rfl, iteT ?_⟩
      exact ⟨_, rfl, rfl, q⟩
    | bl b =>
      cases hy
      refine ⟨_, rfl, _, _, _, _, false, rfl, .ty _, (.base (.bl _)), kit_ty kb_bt, ⟨_, rfl, iteF ⟨_, rfl, _, _, _, _, false, rfl, .ty _, (.base (.bl _)), kit_ty kb_bl, ⟨_, rfl, iteF ?_⟩⟩⟩⟩
      refine ⟨_, rfl, rfl, _, rfl, iteF ?_⟩
      refine ⟨_, rfl, _, _, _, _, true, rfl, .ty _, (.base (.bl _)), kit_ty kb_bb, ⟨_, rfl, iteT ?_⟩⟩
      refine ⟨_, rfl, _, _, _, _, true, rfl, .ty _, (.base (.bl _)), kit_ty kb_bb, ⟨_, rfl, iteT ?_⟩⟩
      refine ⟨_, rfl, _, rfl, rfl, ?_⟩
      rw [decide_eq_true rfl]
      exact q
    | int b =>
      cases hy
      refine ⟨_, rfl, _, _, _, _, false, rfl, .ty _, (.base (.int _)), kit_ty kb_it, ⟨_, rfl, iteF ⟨_, rfl, _, _, _, _, false, rfl, .ty _, (.base (.int _)), kit_ty kb_il, ⟨_, rfl, iteF ?_⟩⟩⟩⟩
      refine ⟨_, rfl, rfl, _, rfl, iteF ?_⟩
      refine ⟨_, rfl, _, _, _, _, false, rfl, .ty _, (.base (.int _)), kit_ty kb_ib, ⟨_, rfl, iteF ?_⟩⟩
      refine ⟨_, rfl, _, _, _, _, true, rfl, .ty _, (.base (.int _)), kit_ty kb_ii, ⟨_, rfl, iteT ?_⟩⟩
      refine ⟨_, rfl, _, _, _, _, true, rfl, .ty _, (.base (.int _)), kit_ty kb_ii, ⟨_, rfl, iteT ?_⟩⟩
      refine ⟨_, rfl, _, _, _, _, false, rfl, .ty _, (.base (.int _)), kit_ty kb_ib, ⟨_, rfl, _, rfl, iteT ?_⟩⟩
      refine ⟨_, rfl, _, rfl, rfl, ?_⟩
      rw [decide_eq_true rfl]
      exact q
    | str b =>
      cases hy
      refine ⟨_, rfl, _, _, _, _, false, rfl, .ty _, (.base (.str _)), kit_ty kb_st, ⟨_, rfl, iteF ⟨_, rfl, _, _, _, _, false, rfl, .ty _, (.base (.str _)), kit_ty kb_sl, ⟨_, rfl, iteF ?_⟩⟩⟩⟩
      refine ⟨_, rfl, rfl, _, rfl, iteF ?_⟩
      refine ⟨_, rfl, _, _, _, _, false, rfl, .ty _, (.base (.str _)), kit_ty kb_sb, ⟨_, rfl, iteF ?_⟩⟩
      refine ⟨_, rfl, _, _, _, _, false, rfl, .ty _, (.base (.str _)), kit_ty kb_si, ⟨_, rfl, iteF ?_⟩⟩
      refine ⟨_, rfl, _, _, _, _, true, rfl, .ty _, (.base (.str _)), kit_ty kb_ss, ⟨_, rfl, iteT ?_⟩⟩
      refine ⟨_, rfl, _, rfl, rfl, ?_⟩
      rw [decide_eq_true rfl]
      exact q
    | @lst p xs ds h1 d1 =>
      cases hy with
      | @lst r ys _ h2 d2 =>
      have l1 := dpAll_len d1
      have l2 := dpAll_len d2
      obtain ⟨hlen, hd⟩ := hd
      refine ⟨_, rfl, _, _, _, _, false, rfl, .ty _, (tyL h2), kit_ty kb_lt, ⟨_, rfl, iteF ⟨_, rfl, _, _, _, _, true, rfl, .ty _, (tyL h2), kit_ty kb_ll, ⟨_, rfl, iteT ?_⟩⟩⟩⟩
      refine ⟨_, rfl, _, _, _, _, false, rfl, .ty _, (tyL h2), kit_ty kb_lt, ⟨_, rfl, _, _, _, _, false, rfl, .ty _, (tyL h1), kit_ty kb_lt, ⟨rfl, _, rfl, iteF ?_⟩⟩⟩
      refine ⟨_, rfl, _, _, _, _, true, rfl, .ty _, (tyL h2), kit_ty kb_ll, ⟨_, rfl, _, _, _, _, true, rfl, .ty _, (tyL h1), kit_ty kb_ll, ⟨rfl, _, rfl, iteF ?_⟩⟩⟩
      refine ⟨_, rfl, p, _, rfl, .inl h1, _, rfl, r, _, rfl, .inl h2, rfl, _, rfl, ?_⟩
      refine iteNS (congrArg V.int (by omega)) ?_
      refine ⟨_, rfl, r, _, rfl, .inl h2, _, rfl, by omega, by omega, for_range (lo := 0) (fun i σ H' => H' = H ∧ ∃ v : Option V, σ = [some (.ref p), some (.ref r), v]) ⟨rfl, none, rfl⟩ ?_ ?_⟩
      · rintro i σ H' hi ⟨rfl, v, rfl⟩
        refine same_seq (.inl h1) (.inl h2) d1 d2 hd (by omega) ⟨_, rfl, iteF ?_⟩
        exact ⟨rfl, _, rfl⟩
      · rintro σ H' ⟨rfl, v, rfl⟩
        exact q
    | @tup p xs ds h1 d1 =>
      cases hy with
      | @tup r ys _ h2 d2 =>
      have l1 := dpAll_len d1
      have l2 := dpAll_len d2
      obtain ⟨hlen, hd⟩ := hd
      refine ⟨_, rfl, _, _, _, _, true, rfl, .ty _, (tyT h2), kit_ty kb_tt, ⟨_, rfl, iteT ?_⟩⟩
      refine ⟨_, rfl, _, _, _, _, true, rfl, .ty _, (tyT h2), kit_ty kb_tt, ⟨_, rfl, _, _, _, _, true, rfl, .ty _, (tyT h1), kit_ty kb_tt, ⟨rfl, _, rfl, iteF ?_⟩⟩⟩
      refine ⟨_, rfl, _, _, _, _, false, rfl, .ty _, (tyT h2), kit_ty kb_tl, ⟨_, rfl, _, _, _, _, false, rfl, .ty _, (tyT h1), kit_ty kb_tl, ⟨rfl, _, rfl, iteF ?_⟩⟩⟩
      refine ⟨_, rfl, p, _, rfl, .inr h1, _, rfl, r, _, rfl, .inr h2, rfl, _, rfl, ?_⟩
      refine iteNS (congrArg V.int (by omega)) ?_
      refine ⟨_, rfl, r, _, rfl, .inr h2, _, rfl, by omega, by omega, for_range (lo := 0) (fun i σ H' => H' = H ∧ ∃ v : Option V, σ = [some (.ref p), some (.ref r), v]) ⟨rfl, none, rfl⟩ ?_ ?_⟩
      · rintro i σ H' hi ⟨rfl, v, rfl⟩
        refine same_seq (.inr h1) (.inr h2) d1 d2 hd (by omega) ⟨_, rfl, iteF ?_⟩
        exact ⟨rfl, _, rfl⟩
      · rintro σ H' ⟨rfl, v, rfl⟩
        exact q
end
/-! ### rows and matrices of whole numbers -/
open ZG (Sq ItzG walk_zipG)
theorem Sq.same {K : PySem.W.Frag} {t : Bool} {p : Addr} {H H' : Hp} {xs : List V} (s : Same H H') (h : Sq t K H p xs) : Sq t K H' p xs := by
  cases t
  · exact s.seq h
  · exact Same.tup s h
theorem Sq.upd_same {K : PySem.W.Frag} {p : Addr} {H : Hp} {xs : List V} : Sq false K (upd H p (.lst xs)) p xs := SqL.of L2.upd_same
theorem Sq.upd_sameT {K : PySem.W.Frag} {p : Addr} {H : Hp} {xs : List V} : Sq true K (upd H p (.tup xs)) p xs := SqT.of L2.upd_same
/-- what stood stands but at D -/
def But (D : Addr) (H H' : Hp) : Prop := ∀ b o, b ≠ D → H b = some o → H' b = some o
theorem But.of_same {D : Addr} {H H' : Hp} (s : Same H H') : But D H H' := fun b o _ e => s b o e
theorem But.upd {D : Addr} {H : Hp} (o : HO) : But D H (upd H D o) := fun b u ne e => by rw [upd_ne ne]; exact e
theorem But.trans {D : Addr} {H H1 H2 : Hp} (a : But D H H1) (b : But D H1 H2) : But D H H2 := fun c o ne e => b c o ne (a c o ne e)
theorem Sq.but {K : PySem.W.Frag} {t : Bool} {p D : Addr} {H H' : Hp} {xs : List V} (s : But D H H') (ne : p ≠ D) (h : Sq t K H p xs) : Sq t K H' p xs := by
  cases t
  · rcases h with (h | ⟨o, h⟩) | h
    · exact .inl (.inl (s _ _ ne h))
    · exact .inl (.inr ⟨o, s _ _ ne h⟩)
    · exact .inr h
  · rcases h with (h | ⟨o, h⟩) | h
    · exact .inl (.inl (s _ _ ne h))
    · exact .inl (.inr ⟨o, s _ _ ne h⟩)
    · exact .inr h
/-- a matrix at p: rows of kind t2 in a row of kind t1 -/
def Mx (t1 t2 : Bool) (K : PySem.W.Frag) (H : Hp) (p : Addr) (M : List (List Int)) : Prop :=
  ∃ as : List Addr, Sq t1 K H p (as.map V.ref) ∧ as.length = M.length ∧ ∀ (i : Nat) (a : Addr) (r : List Int), as[i]? = some a → M[i]? = some r → Sq t2 K H a (r.map V.int)
theorem Mx.same {t1 t2 : Bool} {K : PySem.W.Frag} {H H' : Hp} {p : Addr} {M : List (List Int)} (s : Same H H') (h : Mx t1 t2 K H p M) : Mx t1 t2 K H' p M := by
  obtain ⟨as, h1, h2, h3⟩ := h
  exact ⟨as, Sq.same s h1, h2, fun i a r e1 e2 => Sq.same s (h3 i a r e1 e2)⟩
/-- its i-th row -/
theorem Mx.row {t1 t2 : Bool} {K : PySem.W.Frag} {H : Hp} {p : Addr} {M : List (List Int)} (h : Mx t1 t2 K H p M) : ∃ vs : List V, Sq t1 K H p vs ∧ vs.length = M.length ∧ ∀ (i : Nat) (v : V), vs[i]? = some v → ∃ (a : Addr) (r : List Int), v = .ref a ∧ M[i]? = some r ∧ Sq t2 K H a (r.map V.int) := by
  obtain ⟨as, h1, h2, h3⟩ := h
  refine ⟨as.map V.ref, h1, by rw [List.length_map]; exact h2, fun i v e => ?_⟩
  rw [List.getElem?_map] at e
  cases ea : as[i]? with
  | none => rw [ea] at e; cases e
  | some a =>
    rw [ea] at e
    cases e
    have hi : i < M.length := by
      have := (List.getElem?_eq_some_iff.mp ea).1
      omega
    exact ⟨a, M[i], rfl, List.getElem?_eq_getElem hi, h3 i a _ ea (List.getElem?_eq_getElem hi)⟩
theorem refs_of {K : PySem.W.Frag} {t2 : Bool} {H : Hp} : ∀ {ys : List V} {M : List (List Int)}, ys.length = M.length → (∀ (j : Nat) (y : V), ys[j]? = some y → ∃ (a : Addr) (r : List Int), y = .ref a ∧ M[j]? = some r ∧ Sq t2 K H a (r.map V.int)) →
    ∃ as : List Addr, ys = as.map V.ref ∧ as.length = M.length ∧ ∀ (i : Nat) (a : Addr) (r : List Int), as[i]? = some a → M[i]? = some r → Sq t2 K H a (r.map V.int)
  | [], [], _, _ => ⟨[], rfl, rfl, fun i a r e => by simp at e⟩
  | [], _ :: _, h, _ => by simp at h
  | _ :: _, [], h, _ => by simp at h
  | y :: ys, r :: M, h, k => by
    obtain ⟨as, e1, e2, e3⟩ := refs_of (ys := ys) (M := M) (by simpa using h) (fun j z e => by
      obtain ⟨a, r', h1, h2, h3⟩ := k (j + 1) z (by simpa using e)
      exact ⟨a, r', h1, by simpa using h2, h3⟩)
    obtain ⟨a, r', h1, h2, h3⟩ := k 0 y rfl
    have er : r = r' := by simpa using h2
    subst er
    subst h1 e1
    refine ⟨a :: as, rfl, by simp [e2], fun i b q e4 e5 => ?_⟩
    cases i with
    | zero =>
      cases e4
      cases e5
      exact h3
    | succ i => exact e3 i b q (by simpa using e4) (by simpa using e5)
theorem Mx.of {t1 t2 : Bool} {K : PySem.W.Frag} {H : Hp} {p : Addr} {ys : List V} {M : List (List Int)} (h : Sq t1 K H p ys) (l : ys.length = M.length) (k : ∀ (j : Nat) (y : V), ys[j]? = some y → ∃ (a : Addr) (r : List Int), y = .ref a ∧ M[j]? = some r ∧ Sq t2 K H a (r.map V.int)) : Mx t1 t2 K H p M := by
  obtain ⟨as, rfl, e2, e3⟩ := refs_of l k
  exact ⟨as, h, e2, e3⟩
theorem ys_ints {ns : List Int} : ∀ {ys : List V}, ys.length = ns.length → (∀ (j : Nat) (y : V), ys[j]? = some y → ∃ c, ns[j]? = some c ∧ y = .int c) → ys = ns.map V.int := by
  induction ns with
  | nil =>
    intro ys l _
    cases ys with
    | nil => rfl
    | cons _ _ => simp at l
  | cons n ns ih =>
    intro ys l k
    cases ys with
    | nil => simp at l
    | cons y ys =>
      obtain ⟨c, h1, h2⟩ := k 0 y rfl
      have e : n = c := by simpa using h1
      subst e h2
      rw [ih (ys := ys) (by simpa using l) (fun j z e => by
        obtain ⟨c, h1, h2⟩ := k (j + 1) z (by simpa using e)
        exact ⟨c, by simpa using h1, h2⟩)]
      rfl
/-- tuple(..) of a list or a tuple -/
def rTupOf (K : PySem.W.Frag) : List V → Hp → VK → Prop := fun xs H Q => ∃ p ys, xs = [.ref p] ∧ ((SqL K H p ys ∧ ∀ l, H l = none → Q (.ref l) (upd H l (.tup ys))) ∨ (SqT K H p ys ∧ Q (.ref p) H))
def rLenOf (K : PySem.W.Frag) : List V → Hp → VK → Prop := fun xs H Q => ∃ p ys, xs = [.ref p] ∧ (SqL K H p ys ∨ SqT K H p ys) ∧ Q (.int ys.length) H
/-- as data -/
def rowD (r : List Int) : PyData := .tuple (r.map PyData.int)
def matD (M : List (List Int)) : PyData := .tuple (M.map rowD)
theorem dp_ints {K : PySem.W.Frag} {H : Hp} : ∀ r : List Int, DpAll K H (r.map V.int) (r.map PyData.int)
  | [] => .nil
  | _ :: r => .cons (.int _) (dp_ints r)
theorem dp_rows {K : PySem.W.Frag} {H : Hp} : ∀ {as : List Addr} {M : List (List Int)}, as.length = M.length → (∀ (i : Nat) (a : Addr) (r : List Int), as[i]? = some a → M[i]? = some r → Sq true K H a (r.map V.int)) → DpAll K H (as.map V.ref) (M.map rowD)
  | [], [], _, _ => .nil
  | [], _ :: _, h, _ => by simp at h
  | _ :: _, [], h, _ => by simp at h
  | a :: as, r :: M, h, k => .cons (.tup (k 0 a r rfl rfl) (dp_ints r)) (dp_rows (by simpa using h) fun i b q e1 e2 => k (i + 1) b q (by simpa using e1) (by simpa using e2))
theorem Mx.dp {K : PySem.W.Frag} {H : Hp} {p : Addr} {M : List (List Int)} (h : Mx true true K H p M) : Dp K H (.ref p) (matD M) := by
  obtain ⟨as, h1, h2, h3⟩ := h
  exact .tup h1 (dp_rows h2 h3)
/-- all its rows have n numbers, n of them -/
def Sz (n : Nat) (M : List (List Int)) : Prop := M.length = n ∧ ∀ r ∈ M, r.length = n
theorem Sz.dok {n : Nat} {M : List (List Int)} (h : Sz n M) (hn : n ≤ 1000) : Dok 3 (matD M) := by
  refine ⟨by rw [List.length_map, h.1]; omega, fun d hd => ?_⟩
  obtain ⟨r, hr, rfl⟩ := List.mem_map.mp hd
  refine ⟨by rw [List.length_map, h.2 r hr]; omega, fun d hd => ?_⟩
  obtain ⟨c, _, rfl⟩ := List.mem_map.mp hd
  trivial
/-- a box: None, or a matrix -/
def BoxAt (K : PySem.W.Frag) (H : Hp) (v : V) : Option (List (List Int)) → Prop
  | none => v = .non
  | some M => ∃ p, v = .ref p ∧ Mx true true K H p M
def boxD : Option (List (List Int)) → PyData
  | none => .none
  | some M => matD M
theorem BoxAt.same {K : PySem.W.Frag} {H H' : Hp} {v : V} {B : Option (List (List Int))} (s : Same H H') (h : BoxAt K H v B) : BoxAt K H' v B := by
  cases B with
  | none => exact h
  | some M =>
    obtain ⟨p, e, h⟩ := h
    exact ⟨p, e, h.same s⟩
theorem BoxAt.dp {K : PySem.W.Frag} {H : Hp} {v : V} {B : Option (List (List Int))} (h : BoxAt K H v B) : Dp K H v (boxD B) := by
  cases B with
  | none =>
    obtain rfl : v = .non := h
    exact .non
  | some M =>
    obtain ⟨p, rfl, h⟩ := h
    exact h.dp
def BSz (n : Nat) (B : Option (List (List Int))) : Prop := ∀ M, B = some M → Sz n M
theorem BSz.dok {n : Nat} {B : Option (List (List Int))} (h : BSz n B) (hn : n ≤ 1000) : Dok 3 (boxD B) := by
  cases B with
  | none => trivial
  | some M => exact (h M rfl).dok hn
/-! ### comprehensions that leave what stood -/
def LcP (S : Hp → Prop) (R : Nat → V → Hp → Prop) (D : Addr) (i : Nat) (H : Hp) : Prop := S H ∧ ∃ acc : List V, H D = some (.lst acc) ∧ acc.length = i ∧ ∀ (j : Nat) (y : V), acc[j]? = some y → R j y H
theorem lcp_step {S : Hp → Prop} {R : Nat → V → Hp → Prop} {D : Addr} {i : Nat} {H H4 : Hp} {y : V} (P : LcP S R D i H) (e : ∀ o, H D = some o → H4 D = some o) (hi : i < sizeLine) (s : ∀ o, S (upd H4 D o)) (m : ∀ (j : Nat) (z : V) (o : HO), R j z H → R j z (upd H4 D o)) (r : ∀ o, R i y (upd H4 D o)) :
    ∃ acc, H4 D = some (.lst acc) ∧ acc.length < sizeLine ∧ LcP S R D (i + 1) (upd H4 D (.lst (acc ++ [y]))) := by
  obtain ⟨_, acc, h1, h2, h3⟩ := P
  refine ⟨acc, e _ h1, by omega, s _, _, upd_same, by simp [h2], fun j z ez => ?_⟩
  by_cases hj : j < i
  · rw [List.getElem?_append_left (by omega)] at ez
    exact m j z _ (h3 j z ez)
  · rw [List.getElem?_append_right (by omega)] at ez
    have ej : j = i := by
      have := (List.getElem?_eq_some_iff.mp ez).1
      simp at this
      omega
    subst ej
    rw [h2, Nat.sub_self] at ez
    have ez' : y = z := by simpa using ez
    rw [← ez']
    exact r _
/-- what the step of a comprehension that only makes new objects is to reach -/
theorem lcp_same {R : Nat → V → Hp → Prop} {D : Addr} {i : Nat} {H1 H H4 : Hp} {y : V} (P : LcP (Same H1) R D i H) (hD : H1 D = none) (s : Same H H4) (hi : i < sizeLine) (mono : ∀ (j : Nat) (z : V) (G G' : Hp), R j z G → But D G G' → R j z G') (r : R i y H4) :
    ∃ acc, H4 D = some (.lst acc) ∧ acc.length < sizeLine ∧ LcP (Same H1) R D (i + 1) (upd H4 D (.lst (acc ++ [y]))) :=
  lcp_step P (fun o e => s _ _ e) hi (fun o b u e => by rw [upd_ne (ne_of_none e hD)]; exact s _ _ (P.1 _ _ e)) (fun j z o q => mono j z _ _ q ((But.of_same s).trans (But.upd o))) fun o => mono i y _ _ r (But.upd o)
theorem lcp_start {R : Nat → V → Hp → Prop} {D : Addr} {H1 : Hp} (hD : H1 D = none) : LcP (Same H1) R D 0 (upd H1 D (.lst [])) :=
  ⟨fun b u e => by rw [upd_ne (ne_of_none e hD)]; exact e, [], upd_same, rfl, fun j y e => by simp at e⟩
/-- its numbers -/
def RInt (ns : List Int) : Nat → V → Hp → Prop := fun j y _ => ∃ c, ns[j]? = some c ∧ y = .int c
theorem RInt.mono {ns : List Int} {D : Addr} : ∀ (j : Nat) (z : V) (G G' : Hp), RInt ns j z G → But D G G' → RInt ns j z G' := fun _ _ _ _ h _ => h
/-- its rows -/
def RRow (K : PySem.W.Frag) (t : Bool) (M : List (List Int)) (D : Addr) : Nat → V → Hp → Prop := fun j y H => ∃ (a : Addr) (r : List Int), y = .ref a ∧ M[j]? = some r ∧ a ≠ D ∧ Sq t K H a (r.map V.int)
theorem RRow.mono {K : PySem.W.Frag} {t : Bool} {M : List (List Int)} {D : Addr} : ∀ (j : Nat) (z : V) (G G' : Hp), RRow K t M D j z G → But D G G' → RRow K t M D j z G' := by
  rintro j z G G' ⟨a, r, h1, h2, h3, h4⟩ b
  exact ⟨a, r, h1, h2, h3, Sq.but b h3 h4⟩
theorem lcp_ints {K : PySem.W.Frag} {S : Hp → Prop} {ns : List Int} {D : Addr} {n : Nat} {H : Hp} (P : LcP S (RInt ns) D n H) (hn : n = ns.length) : H D = some (.lst (ns.map V.int)) := by
  obtain ⟨_, acc, h1, h2, h3⟩ := P
  rw [h1, ys_ints (ns := ns) (by omega) h3]
theorem lcp_rows {K : PySem.W.Frag} {S : Hp → Prop} {t : Bool} {M : List (List Int)} {D : Addr} {n : Nat} {H : Hp} (P : LcP S (RRow K t M D) D n H) (hn : n = M.length) : Mx false t K H D M := by
  obtain ⟨_, acc, h1, h2, h3⟩ := P
  exact Mx.of (t1 := false) (SqL.of h1) (by omega) fun j y e => by
    obtain ⟨a, r, q1, q2, _, q3⟩ := h3 j y e
    exact ⟨a, r, q1, q2, q3⟩
theorem LcP.ne {S : Hp → Prop} {R : Nat → V → Hp → Prop} {D l : Addr} {i : Nat} {H : Hp} (P : LcP S R D i H) (hl : H l = none) : l ≠ D := by
  obtain ⟨_, acc, h, _⟩ := P
  exact fun z => absurd (z ▸ hl) (by rw [h]; intro z; cases z)
theorem lt_line {n : Nat} (h : n ≤ 10000000) : n < sizeLine := by rw [sizeLine_eq]; omega
/-- a comprehension without a test -/
theorem tyes {σ : L2.St} {H : Hp} {A B : Hp → Prop} (h : A H) : tYes σ H (fun b H3 => if b = true then A H3 else B H3) := by
  show if true = true then A H else B H
  rw [if_pos rfl]
  exact h
theorem get_int {r : List Int} {j : Nat} {v : V} (e : (r.map V.int)[j]? = some v) : ∃ k, r[j]? = some k ∧ v = .int k := by
  rw [List.getElem?_map] at e
  cases h : r[j]? with
  | none => rw [h] at e; cases e
  | some k => rw [h] at e; cases e; exact ⟨k, rfl, rfl⟩
theorem Sz.get {n i : Nat} {M : List (List Int)} {r : List Int} (h : Sz n M) (e : M[i]? = some r) : r.length = n := h.2 r (List.mem_of_getElem? e)
theorem zw_get {α β γ : Type} {f : α → β → γ} {xs : List α} {ys : List β} {i : Nat} {x : α} {y : β} (e1 : xs[i]? = some x) (e2 : ys[i]? = some y) : (List.zipWith f xs ys)[i]? = some (f x y) := by
  rw [List.getElem?_zipWith, e1, e2]
theorem lcp_put {R : Nat → V → Hp → Prop} {D : Addr} {i : Nat} {H1 H H4 : Hp} {y : V} {acc : List V} (P : LcP (Same H1) R D i H) (e : H D = some (.lst acc)) (hD : H1 D = none) (s : Same H H4) (hi : i < sizeLine) (mono : ∀ (j : Nat) (z : V) (G G' : Hp), R j z G → But D G G' → R j z G') (r : R i y H4) :
    LcP (Same H1) R D (i + 1) (upd H4 D (.lst (acc ++ [y]))) := by
  obtain ⟨acc', h1, _, h3⟩ := lcp_same P hD s hi mono r
  have := s _ _ e
  rw [this] at h1
  cases h1
  exact h3
/-- (0,) and the numbers of a row -/
theorem cat0 {K : PySem.W.Frag} {H : Hp} {t a : Addr} {r : List Int} {Q : VK} (h1 : SqT K H t [.int 0]) (h2 : SqT K H a (r.map V.int)) (hz : r.length ≤ 1000) (q : ∀ z H', Same H H' → SqT K H' z ((0 :: r).map V.int) → Q (.ref z) H') : rCatT K (.ref t) (.ref a) H Q := by
  refine ⟨t, a, _, _, rfl, rfl, h1, h2, by simp, ?_, fun e => ?_, fun ne p hp => ?_⟩
  · rw [List.length_map, sizeLine_eq]
    simp
    omega
  · have e' : r = [] := List.map_eq_nil_iff.mp e
    subst e'
    exact q t H (Same.refl H) h1
  · exact q p _ (Same.new hp _) (SqT.of upd_same)
theorem atI_row {r : List Int} {i : Nat} (h : i < r.length) : atI (r.map V.int) (0 + (i : Int)) = some (.int (r.getD i 0)) := by
  rw [Int.zero_add]
  refine atI_nat ?_
  rw [List.getElem?_map, List.getElem?_eq_getElem h]
  simp [List.getD, h]
theorem LcP.acc {S : Hp → Prop} {R : Nat → V → Hp → Prop} {D : Addr} {i : Nat} {H : Hp} (P : LcP S R D i H) : ∃ acc : List V, H D = some (.lst acc) ∧ acc.length = i := by
  obtain ⟨_, acc, h1, h2, _⟩ := P
  exact ⟨acc, h1, h2⟩
theorem map_get {α β : Type} {f : α → β} {xs : List α} {i : Nat} {x : α} (e : xs[i]? = some x) : (xs.map f)[i]? = some (f x) := by rw [List.getElem?_map, e]; rfl
/-! ### entries of a matrix -/
def getM (M : List (List Int)) (i j : Nat) : Int := (M.getD i []).getD j 0
theorem getM_of {M : List (List Int)} {i j : Nat} {r : List Int} {k : Int} (h1 : M[i]? = some r) (h2 : r[j]? = some k) : getM M i j = k := by
  simp [getM, List.getD_eq_getElem?_getD, h1, h2]
theorem Sz.at {n i : Nat} {M : List (List Int)} (h : Sz n M) (hi : i < n) : ∃ r, M[i]? = some r ∧ r.length = n := by
  have hi' : i < M.length := by rw [h.1]; exact hi
  exact ⟨M[i], List.getElem?_eq_getElem hi', h.2 _ (List.getElem_mem hi')⟩
theorem Sz.at2 {n i j : Nat} {M : List (List Int)} (h : Sz n M) (hi : i < n) (hj : j < n) : ∃ r, M[i]? = some r ∧ r.length = n ∧ r[j]? = some (getM M i j) := by
  obtain ⟨r, e, l⟩ := h.at hi
  have hj' : j < r.length := by omega
  refine ⟨r, e, l, ?_⟩
  rw [getM_of e (List.getElem?_eq_getElem hj')]
  exact List.getElem?_eq_getElem hj'
theorem split_lt {n : Nat} {c : Nat → Prop} : (∀ i < n + 1, c i) ↔ (∀ i < n, c i) ∧ c n := by
  constructor
  · exact fun h => ⟨fun i hi => h i (by omega), h n (by omega)⟩
  · rintro ⟨h1, h2⟩ i hi
    by_cases e : i = n
    · rw [e]; exact h2
    · exact h1 i (by omega)
theorem ixN_int {n : Nat} {c : Int} (h0 : 0 ≤ c) (h : c < (n : Int)) : ixN n c = some c.toNat := by
  unfold ixN
  rw [if_pos h0, if_pos h]
/-! ### closed matrices, and the best one below a matrix -/
def mkR (n : Nat) (f : Nat → Int) : List Int := (List.range n).map f
def mkM (n : Nat) (f : Nat → Nat → Int) : List (List Int) := (List.range n).map fun i => mkR n (f i)
theorem range_at {n i : Nat} (h : i < n) : (List.range n)[i]? = some i := by simp [h]
theorem mkR_at {n i : Nat} {f : Nat → Int} (h : i < n) : (mkR n f)[i]? = some (f i) := map_get (range_at h)
theorem mkM_at {n i : Nat} {f : Nat → Nat → Int} (h : i < n) : (mkM n f)[i]? = some (mkR n (f i)) := map_get (range_at h)
theorem mkR_len {n : Nat} {f : Nat → Int} : (mkR n f).length = n := by simp [mkR]
theorem mkM_sz {n : Nat} {f : Nat → Nat → Int} : Sz n (mkM n f) := by
  refine ⟨by simp [mkM], fun r hr => ?_⟩
  obtain ⟨i, _, rfl⟩ := List.mem_map.mp hr
  exact mkR_len
theorem mkM_get {n i j : Nat} {f : Nat → Nat → Int} (hi : i < n) (hj : j < n) : getM (mkM n f) i j = f i j := getM_of (mkM_at hi) (mkR_at hj)
theorem sz_ext {n : Nat} {M N : List (List Int)} (h1 : Sz n M) (h2 : Sz n N) (e : ∀ i < n, ∀ j < n, getM M i j = getM N i j) : M = N := by
  refine List.ext_getElem? fun i => ?_
  by_cases hi : i < n
  · obtain ⟨r, e1, l1⟩ := h1.at hi
    obtain ⟨r', e2, l2⟩ := h2.at hi
    rw [e1, e2]
    congr 1
    refine List.ext_getElem? fun j => ?_
    by_cases hj : j < n
    · have a1 : r[j]? = some (r[j]'(by omega)) := List.getElem?_eq_getElem _
      have a2 : r'[j]? = some (r'[j]'(by omega)) := List.getElem?_eq_getElem _
      rw [a1, a2, ← getM_of e1 a1, ← getM_of e2 a2, e i hi j hj]
    · rw [List.getElem?_eq_none (by omega), List.getElem?_eq_none (by omega)]
  · rw [List.getElem?_eq_none (by rw [h1.1]; omega), List.getElem?_eq_none (by rw [h2.1]; omega)]
theorem mkM_congr {n : Nat} {f g : Nat → Nat → Int} (h : ∀ i < n, ∀ j < n, f i j = g i j) : mkM n f = mkM n g := sz_ext mkM_sz mkM_sz fun i hi j hj => by rw [mkM_get hi hj, mkM_get hi hj, h i hi j hj]
theorem mkM_self {n : Nat} {M : List (List Int)} (h : Sz n M) : mkM n (getM M) = M := sz_ext mkM_sz h fun i hi j hj => mkM_get hi hj
structure Clo (n : Nat) (C : Nat → Nat → Int) : Prop where
  d : ∀ i < n, C i i = 0
  t : ∀ i < n, ∀ j < n, ∀ k < n, C i j ≤ C i k + C k j
def LeF (n : Nat) (C D : Nat → Nat → Int) : Prop := ∀ i < n, ∀ j < n, C i j ≤ D i j
theorem LeF.trans {n : Nat} {A B C : Nat → Nat → Int} (h : LeF n A B) (k : LeF n B C) : LeF n A C := fun i hi j hj => Int.le_trans (h i hi j hj) (k i hi j hj)
theorem LeF.refl {n : Nat} (A : Nat → Nat → Int) : LeF n A A := fun _ _ _ _ => Int.le_refl _
/-- the greatest closed matrix below D; none if there is no closed one below D -/
def Best (n : Nat) (D : Nat → Nat → Int) : Option (List (List Int)) → Prop
  | none => ∀ C, Clo n C → ¬ LeF n C D
  | some R => Sz n R ∧ Clo n (getM R) ∧ LeF n (getM R) D ∧ ∀ C, Clo n C → LeF n C D → LeF n C (getM R)
theorem Best.sz {n : Nat} {D : Nat → Nat → Int} {B : Option (List (List Int))} (h : Best n D B) : BSz n B := by
  intro M e
  subst e
  exact h.1
theorem Best.uniq {n : Nat} {D : Nat → Nat → Int} : ∀ {B B' : Option (List (List Int))}, Best n D B → Best n D B' → B = B'
  | none, none, _, _ => rfl
  | none, some R, h, k => absurd k.2.2.1 (h _ k.2.1)
  | some R, none, h, k => absurd h.2.2.1 (k _ h.2.1)
  | some R, some R', h, k => by
    have e : R = R' := sz_ext h.1 k.1 fun i hi j hj => by
      have h1 := k.2.2.2 _ h.2.1 h.2.2.1 i hi j hj
      have h2 := h.2.2.2 _ k.2.1 k.2.2.1 i hi j hj
      omega
    rw [e]
/-- only what is closed and below counts -/
theorem Best.congr {n : Nat} {D E : Nat → Nat → Int} (h : ∀ C, Clo n C → (LeF n C D ↔ LeF n C E)) : ∀ {B : Option (List (List Int))}, Best n D B → Best n E B
  | none, k => fun C hC hE => k C hC ((h C hC).mpr hE)
  | some R, k => ⟨k.1, k.2.1, (h _ k.2.1).mp k.2.2.1, fun C hC hE => k.2.2.2 C hC ((h C hC).mpr hE)⟩
theorem Best.self {n : Nat} {R : List (List Int)} (z : Sz n R) (c : Clo n (getM R)) : Best n (getM R) (some R) := ⟨z, c, LeF.refl _, fun _ _ h => h⟩
/-! ### shortening through each column in turn -/
def fw0 (n : Nat) (D : Nat → Nat → Int) : Nat → Nat → Int := fun i j => if i = j then min (D i j) 0 else D i j
def fwS (k : Nat) (D : Nat → Nat → Int) : Nat → Nat → Int := fun i j => min (D i j) (D i k + D k j)
/-- what holds ahead of the turn with column k -/
structure Fw (n : Nat) (D0 : Nat → Nat → Int) (k : Nat) (D : Nat → Nat → Int) : Prop where
  d : ∀ i < n, D i i ≤ 0
  le : LeF n D D0
  gr : ∀ C, Clo n C → LeF n C D0 → LeF n C D
  t : (∀ i < n, 0 ≤ D i i) → ∀ m < k, ∀ i < n, ∀ j < n, D i j ≤ D i m + D m j
theorem Fw.start {n : Nat} (D0 : Nat → Nat → Int) : Fw n D0 0 (fw0 n D0) where
  d := fun i hi => by
    unfold fw0
    rw [if_pos rfl]
    omega
  le := fun i hi j hj => by
    unfold fw0
    split <;> omega
  gr := fun C hC h i hi j hj => by
    unfold fw0
    have a := h i hi j hj
    split
    · rename_i e
      subst e
      have b := hC.d i hi
      omega
    · exact a
  t := fun _ m hm => by omega
theorem Fw.step {n k : Nat} {D0 D : Nat → Nat → Int} (h : Fw n D0 k D) (hk : k < n) (pos : ∀ i < n, 0 ≤ D i i) : Fw n D0 (k + 1) (fwS k D) where
  d := fun i hi => by
    have a := h.d i hi
    unfold fwS
    omega
  le := fun i hi j hj => by
    have a := h.le i hi j hj
    unfold fwS
    omega
  gr := fun C hC hl i hi j hj => by
    have a := h.gr C hC hl i hi j hj
    have b := h.gr C hC hl i hi k hk
    have c := h.gr C hC hl k hk j hj
    have e := hC.t i hi j hj k hk
    unfold fwS
    omega
  t := fun _ m hm i hi j hj => by
    have T := h.t pos
    have pk := pos k hk
    unfold fwS
    by_cases e : m = k
    · subst e
      omega
    · have hmk : m < k := by omega
      have mn : m < n := by omega
      have a1 := T m hmk i hi j hj
      have a2 := T m hmk k hk j hj
      have a3 := T m hmk i hi k hk
      have a4 := T m hmk k hk k hk
      omega
theorem Fw.done {n : Nat} {D0 D : Nat → Nat → Int} (h : Fw n D0 n D) (pos : ∀ i < n, 0 ≤ D i i) : Best n D0 (some (mkM n D)) := by
  have c : Clo n (getM (mkM n D)) := ⟨fun i hi => by
    rw [mkM_get hi hi]
    have := pos i hi
    have := h.d i hi
    omega, fun i hi j hj k hk => by
    rw [mkM_get hi hj, mkM_get hi hk, mkM_get hk hj]
    exact h.t pos k hk i hi j hj⟩
  refine ⟨mkM_sz, c, fun i hi j hj => ?_, fun C hC hl i hi j hj => ?_⟩
  · rw [mkM_get hi hj]
    exact h.le i hi j hj
  · rw [mkM_get hi hj]
    exact h.gr C hC hl i hi j hj
theorem Fw.bad {n k i : Nat} {D0 D : Nat → Nat → Int} (h : Fw n D0 k D) (hi : i < n) (neg : D i i < 0) : Best n D0 none := fun C hC hl => by
  have a := h.gr C hC hl i hi i hi
  have b := hC.d i hi
  omega
theorem Fw.congr {n k : Nat} {D0 D E : Nat → Nat → Int} (h : Fw n D0 k D) (hk : k ≤ n) (e : ∀ i < n, ∀ j < n, D i j = E i j) : Fw n D0 k E where
  d := fun i hi => by rw [← e i hi i hi]; exact h.d i hi
  le := fun i hi j hj => by rw [← e i hi j hj]; exact h.le i hi j hj
  gr := fun C hC hl i hi j hj => by rw [← e i hi j hj]; exact h.gr C hC hl i hi j hj
  t := fun pos m hm i hi j hj => by
    have mn : m < n := by omega
    rw [← e i hi j hj, ← e i hi m mn, ← e m mn j hj]
    exact h.t (fun i hi => by rw [e i hi i hi]; exact pos i hi) m hm i hi j hj
/-! ### close -/
theorem bb_any : bootBuiltins "any" = some (.builtin "any") := by decide +kernel
theorem bb_all : bootBuiltins "all" = some (.builtin "all") := by decide +kernel
def spFrozen (K : PySem.W.Frag) : Sp := fun vs H Q _ => ∃ (p : Addr) (M : List (List Int)), vs = [.ref p] ∧ Mx false false K H p M ∧ M.length ≤ 1000 ∧ ∀ q H', Same H H' → Mx true true K H' q M → Q (.ref q) H'
def spContra (K : PySem.W.Frag) : Sp := fun vs H Q _ => ∃ (p : Addr) (M : List (List Int)) (n : Nat), vs = [.ref p] ∧ Mx false false K H p M ∧ Sz n M ∧ n ≤ 900 ∧ ∀ b H', Same H H' → (b = true ↔ ∃ i < n, getM M i i < 0) → Q (.bl b) H'
def spShort (K : PySem.W.Frag) : Sp := fun vs H Q _ => ∃ (p : Addr) (M : List (List Int)) (n k : Nat), vs = [.ref p, .int k] ∧ Mx false false K H p M ∧ Sz n M ∧ n ≤ 900 ∧ k < n ∧ ∀ q H', Same H H' → Mx false false K H' q (mkM n (fwS k (getM M))) → Q (.ref q) H'
def spClose (K : PySem.W.Frag) : Sp := fun vs H Q _ => ∃ (t1 t2 : Bool) (p : Addr) (M : List (List Int)) (n : Nat), vs = [.ref p] ∧ Mx t1 t2 K H p M ∧ Sz n M ∧ n ≤ 900 ∧ ∀ v H' B, Same H H' → BoxAt K H' v B → Best n (getM M) B → Q v H'
theorem Mx.getT {t1 t2 : Bool} {K : PySem.W.Frag} {H : Hp} {p : Addr} {M : List (List Int)} {i : Nat} {r : List Int} (h : Mx t1 t2 K H p M) (e : M[i]? = some r) : ∃ (vs : List V) (a : Addr), Sq t1 K H p vs ∧ atI vs (i : Int) = some (.ref a) ∧ Sq t2 K H a (r.map V.int) := by
  obtain ⟨as, h1, h2, h3⟩ := h
  have hi : i < M.length := (List.getElem?_eq_some_iff.mp e).1
  have ea : as[i]? = some (as[i]'(by omega)) := List.getElem?_eq_getElem _
  exact ⟨_, _, h1, atI_nat (map_get ea), h3 i _ r ea e⟩
/-- a list of truth values at D, k of them; one holds if and only if A -/
def AnyP (H1 : Hp) (D : Addr) (k : Nat) (A : Prop) (H : Hp) : Prop := Same H1 H ∧ ∃ bs : List Bool, H D = some (.lst (bs.map V.bl)) ∧ bs.length = k ∧ (bs.any id = true ↔ A)
theorem AnyP.start {H1 : Hp} {D : Addr} {A : Prop} (hD : H1 D = none) (a : ¬ A) : AnyP H1 D 0 A (upd H1 D (.lst [])) :=
  ⟨Same.new hD _, [], upd_same, rfl, ⟨fun z => by simp at z, fun z => absurd z a⟩⟩
theorem AnyP.imp {H1 H : Hp} {D : Addr} {k k' : Nat} {A A' : Prop} (h : AnyP H1 D k A H) (ek : k = k') (e : A ↔ A') : AnyP H1 D k' A' H := by
  obtain ⟨s, bs, h1, h2, h3⟩ := h
  exact ⟨s, bs, h1, by omega, h3.trans e⟩
theorem AnyP.push {H1 H H4 : Hp} {D : Addr} {k : Nat} {A : Prop} {b : Bool} (h : AnyP H1 D k A H) (hD : H1 D = none) (s : Same H H4) (hk : k < sizeLine) :
    ∃ acc, H4 D = some (.lst acc) ∧ acc.length < sizeLine ∧ AnyP H1 D (k + 1) (A ∨ b = true) (upd H4 D (.lst (acc ++ [.bl b]))) := by
  obtain ⟨s1, bs, h1, h2, h3⟩ := h
  refine ⟨_, s _ _ h1, by rw [List.length_map]; omega, fun c u e => by rw [upd_ne (ne_of_none e hD)]; exact s _ _ (s1 _ _ e), bs ++ [b], by rw [List.map_append]; exact upd_same, by simp [h2], ?_⟩
  rw [List.any_append, Bool.or_eq_true, h3]
  simp
theorem ex_lt {n : Nat} {c : Nat → Prop} : (∃ i < n + 1, c i) ↔ (∃ i < n, c i) ∨ c n := by
  constructor
  · rintro ⟨i, hi, h⟩
    by_cases e : i = n
    · exact .inr (e ▸ h)
    · exact .inl ⟨i, by omega, h⟩
  · rintro (⟨i, hi, h⟩ | h)
    · exact ⟨i, by omega, h⟩
    · exact ⟨n, by omega, h⟩
section
variable {P : Program} {w : World} {K : PySem.W.Frag} {mg : Str → Option Value} {base : Heap}
theorem ok_frozen (T : Txt w K mg) : FnOk P w K mg base CX0 1 T.a_frozen T.d_frozen p_frozen (spFrozen K) := by
  refine T.F_frozen.ok sc_frozen (fun vs H Q E h => ?_) (fun cdv A outer s H vs Q E hr h => ?_)
  · obtain ⟨p, M, rfl, _⟩ := h
    rfl
  obtain ⟨p, M, rfl, hM, hn, q⟩ := h
  refine ⟨_, (pss_one (ps_ret (pe_callTy call_tuple_of rfl T.z_tuple bt_tuple (pa_cons (pe_lc (own := [("row", 1)]) (g := gName 1) (tt := tYes) rfl sc_frozen.nd (pi_list (pv 0)) (blkOk_by (own := [("row", 1)]) (N := n_frozen) (sc := defScope s_frozen) (by decide +kernel)) (fun _ _ _ _ _ => (pg_name (i := 1) sc_frozen.nd rfl (Or.inl rfl))) (fun _ _ _ _ _ => pts_nil) (fun _ _ _ _ _ => (pe_callTy (show CallR _ _ (rTupOf K) from call_tuple_of) rfl T.z_tuple bt_tuple (pa_cons (pv 1) pa_nil)))) pa_nil)))), ?_⟩
  obtain ⟨vs, hv, hl, hrow⟩ := hM.row
  refine ⟨_, rfl, p, rfl, ⟨vs, hv⟩, fun D hD => ?_⟩
  refine lc_it (walk_list (xs := vs)) (LcP (Same H) (RRow K true M D) D) (lcp_start hD) (fun i G _ P => P.1.seq hv) ?_ ?_
  · rintro i x G G' hi P ⟨rfl, ex⟩
    obtain ⟨a, r, rfl, er, ha⟩ := hrow i x ex
    refine ⟨rfl, tyes ?_⟩
    refine ⟨_, rfl, a, _, rfl, .inl ⟨P.1.seq ha, fun l hl => ?_⟩⟩
    exact lcp_same P hD (Same.new hl _) (lt_line (by omega)) RRow.mono ⟨l, r, rfl, er, P.ne hl, Sq.upd_sameT⟩
  · intro G P
    obtain ⟨as, h1, h2, h3⟩ := lcp_rows P hl
    refine ⟨D, _, rfl, .inl ⟨h1, fun l hl => ?_⟩⟩
    exact q l _ (P.1.trans (Same.new hl _)) ⟨as, Sq.upd_sameT, h2, fun i a r e1 e2 => Sq.same (Same.new hl _) (h3 i a r e1 e2)⟩
theorem ok_has_contradiction (T : Txt w K mg) : FnOk P w K mg base CX0 1 T.a_has_contradiction T.d_has_contradiction p_has_contradiction (spContra K) := by
  refine T.F_has_contradiction.ok sc_has_contradiction (fun vs H Q E h => ?_) (fun cdv A outer s H vs Q E hr h => ?_)
  · obtain ⟨p, M, n, rfl, _⟩ := h
    rfl
  obtain ⟨p, M, n, rfl, hM, sM, hn, q⟩ := h
  refine ⟨_, (pss_one (ps_ret (pe_callB (cr_any rfl) rfl T.z_any bb_any (pa_cons (pe_lc (own := [("at", 1), ("row", 2)]) (g := gTup K 2 (gCons (gName 1) (gCons (gName 2) gNil))) (tt := tYes) rfl sc_has_contradiction.nd (EnT.pi_enumG (by rfl) T.z_enumerate (pa_cons (pv 0) pa_nil)) (blkOk_by (own := [("at", 1), ("row", 2)]) (N := n_has_contradiction) (sc := defScope s_has_contradiction) (by decide +kernel)) (fun _ _ _ _ _ => (pg_tup rfl (pgs_cons (pg_name (i := 1) sc_has_contradiction.nd rfl (Or.inl rfl)) (pgs_cons (pg_name (i := 2) sc_has_contradiction.nd rfl (Or.inl rfl)) pgs_nil)))) (fun _ _ _ _ _ => pts_nil) (fun _ _ _ _ _ => (pe_cmpR op_lt (pe_ix (show IxR _ (rIxL K) from ix_list) (pv 2) (pv 1) (fun _ _ => rfl)) pe_int (nomark _)))) pa_nil)))), ?_⟩
  obtain ⟨vs, hv, hl, hrow⟩ := hM.row
  have lv : vs.length = n := by rw [hl, sM.1]
  refine ⟨_, rfl, false, p, _, rfl, hv, fun D hD => ?_⟩
  refine lc_it EnT.walk_enumG (fun i G => AnyP H D i (∃ i' < i, getM M i' i' < 0) G) (AnyP.start hD (by rintro ⟨i, h, _⟩; omega)) (fun i G _ P => Sq.same P.1 hv) ?_ ?_
  · rintro i x G G' hi P ⟨t, u, v, rfl, ht, rfl, eu, ev⟩
    cases eu
    obtain ⟨a, r, rfl, er, ha⟩ := hrow i v ev
    have lr := sM.get er
    have e0 : r[i]? = some (r[i]'(by omega)) := List.getElem?_eq_getElem _
    refine ⟨t, _, rfl, SqT.of upd_same, rfl, _, _, rfl, _, _, rfl, rfl, ?_⟩
    refine ⟨rfl, tyes ?_⟩
    refine ⟨_, rfl, _, rfl, a, _, _, _, rfl, rfl, (P.1.trans (Same.new ht _)).seq ha, atI_nat (map_get e0), _, _, rfl, rfl, ?_⟩
    obtain ⟨acc, z1, z2, z3⟩ := P.push (b := decide (r[i]'(by omega) < 0)) hD (Same.new ht (.tup [.int i, .ref a])) (lt_line (by omega))
    refine ⟨acc, z1, z2, z3.imp rfl ?_⟩
    rw [ex_lt, getM_of er e0, decide_eq_true_eq]
  · rintro G ⟨sG, bs, h1, h2, h3⟩
    rw [lv] at h3
    exact ⟨D, bs, rfl, SqL.of h1, q _ _ sG h3⟩
theorem ok_shortened (T : Txt w K mg) : FnOk P w K mg base CX0 1 T.a_shortened T.d_shortened p_shortened (spShort K) := by
  refine T.F_shortened.ok sc_shortened (fun vs H Q E h => ?_) (fun cdv A outer s H vs Q E hr h => ?_)
  · obtain ⟨p, M, n, k, rfl, _⟩ := h
    rfl
  obtain ⟨p, M, n, k, rfl, hM, sM, hn, hk, q⟩ := h
  refine ⟨_, (pss_cons (ps_set (i := 2) sc_shortened.nd rfl (Or.inr rfl) (pe_ix ix_list (pv 0) (pv 1) (fun _ _ => rfl)))
      (pss_one (ps_ret (pe_lc (own := [("row", 3)]) (g := gName 3) (tt := tYes) rfl sc_shortened.nd (pi_list (pv 0)) (blkOk_by (own := [("row", 3)]) (N := n_shortened) (sc := defScope s_shortened) (by decide +kernel)) (fun _ _ _ _ _ => (pg_name (i := 3) sc_shortened.nd rfl (Or.inr rfl))) (fun _ _ _ _ _ => pts_nil) (fun _ _ _ _ _ => (pe_lc (own := [("most", 4), ("second", 5)]) (g := gTup K 2 (gCons (gName 4) (gCons (gName 5) gNil))) (tt := tYes) rfl sc_shortened.nd (show PI _ _ _ (ZG.iZipG K _) from (ZG.pi_zipG (by rfl) T.z_zip (pa_cons (pv 3) (pa_cons (pv 2) pa_nil)))) (blkOk_by (own := [("most", 4), ("second", 5)]) (N := n_shortened) (sc := relS _ (defScope s_shortened)) (by decide +kernel)) (fun _ _ _ _ _ => (pg_tup rfl (pgs_cons (pg_name (i := 4) sc_shortened.nd rfl (Or.inl rfl)) (pgs_cons (pg_name (i := 5) sc_shortened.nd rfl (Or.inl rfl)) pgs_nil)))) (fun _ _ _ _ _ => pts_nil) (fun _ _ _ _ _ => (pe_callB (call_min2 rfl) rfl T.z_min bb_min (pa_cons (pv 4) (pa_cons (pe_op op_add (pe_ix (show IxR _ (rIxL K) from ix_list) (pv 3) (pv 1) (fun _ _ => rfl)) (pv 5)) pa_nil)))))))))), ?_⟩
  obtain ⟨rk, ek, lk⟩ := sM.at hk
  obtain ⟨vs0, ak, g1, g2, g3⟩ := hM.getT ek
  obtain ⟨vs, hv, hl, hrow⟩ := hM.row
  have lv : vs.length = n := by rw [hl, sM.1]
  refine ⟨_, rfl, _, rfl, p, _, _, _, rfl, rfl, g1, g2, ?_⟩
  refine ⟨_, rfl, p, rfl, ⟨vs, hv⟩, fun D hD => ?_⟩
  refine lc_it (walk_list (xs := vs)) (LcP (Same H) (RRow K false (mkM n (fwS k (getM M))) D) D) (lcp_start hD) (fun i G _ P => P.1.seq hv) ?_ ?_
  · rintro i x G G' hi P ⟨rfl, ex⟩
    rw [lv] at hi
    obtain ⟨a, r, rfl, er, ha⟩ := hrow i x ex
    have lr := sM.get er
    refine ⟨rfl, tyes ?_⟩
    have ha2 := Sq.same P.1 ha
    have hk2 := Sq.same P.1 g3
    refine ⟨_, rfl, _, rfl, false, false, a, ak, _, _, rfl, ha2, hk2, fun D2 hD2 => ?_⟩
    refine lc_it (walk_zipG (n := n) (by rw [List.length_map, List.length_map]; omega)) (LcP (Same G') (RInt (mkR n (fwS k (getM M) i))) D2) (lcp_start hD2) (fun i F _ P2 => ⟨Sq.same P2.1 ha2, Sq.same P2.1 hk2⟩) ?_ ?_
    · rintro j y F F' hj P2 ⟨t2, c1, c2, rfl, ht2, rfl, e1, e2⟩
      obtain ⟨k1, f1, rfl⟩ := get_int e1
      obtain ⟨k2, f2, rfl⟩ := get_int e2
      have e3 : r[k]? = some (r[k]'(by omega)) := List.getElem?_eq_getElem _
      refine ⟨t2, _, rfl, SqT.of upd_same, rfl, _, _, rfl, _, _, rfl, rfl, ?_⟩
      refine ⟨rfl, tyes ?_⟩
      refine ⟨_, rfl, _, rfl, _, rfl, a, _, _, _, rfl, rfl, (P2.1.trans (Same.new ht2 _)).seq ha2, atI_nat (map_get e3), _, rfl, _, _, rfl, rfl, _, _, rfl, ?_⟩
      refine lcp_same P2 hD2 (Same.new ht2 _) (lt_line (by omega)) RInt.mono ⟨_, mkR_at hj, ?_⟩
      unfold fwS
      rw [getM_of er f1, getM_of er e3, getM_of ek f2]
      congr 1
      split <;> omega
    · intro F P2
      have e := lcp_ints (K := K) P2 mkR_len.symm
      exact lcp_same P hD P2.1 (lt_line (by omega)) RRow.mono ⟨D2, _, rfl, mkM_at hi, P.ne hD2, SqL.of e⟩
  · intro G P
    exact q D G P.1 (lcp_rows P (by rw [lv, mkM_sz.1]))
theorem ok_close (T : Txt w K mg) : FnOk P w K mg base CX0 2 T.a_close T.d_close p_close (spClose K) := by
  have g_frozen := ok_frozen (P := P) (w := w) (base := base) T
  have g_has_contradiction := ok_has_contradiction (P := P) (w := w) (base := base) T
  have g_shortened := ok_shortened (P := P) (w := w) (base := base) T
  refine T.F_close.ok sc_close (fun vs H Q E h => ?_) (fun cdv A outer s H vs Q E hr h => ?_)
  · obtain ⟨t1, t2, p, M, n, rfl, _⟩ := h
    rfl
  obtain ⟨t1, t2, p, M, n, rfl, hM, sM, hn, q⟩ := h
  refine ⟨_, (pss_cons (ps_setLc (i := 1) (own := [("i", 2), ("row", 3)]) (g := gTup K 2 (gCons (gName 2) (gCons (gName 3) gNil))) (tt := tYes) rfl sc_close.nd rfl rfl (sw_true rfl rfl rfl (by decide +kernel)) (EnT.pi_enumG (by rfl) T.z_enumerate (pa_cons (pv 0) pa_nil)) (blkOk_by (own := [("i", 2), ("row", 3)]) (N := n_close) (sc := defScope s_close) (by decide +kernel)) (fun _ _ _ _ _ => (pg_tup rfl (pgs_cons (pg_name (i := 2) sc_close.nd rfl (Or.inr rfl)) (pgs_cons (pg_name (i := 3) sc_close.nd rfl (Or.inl rfl)) pgs_nil)))) (fun _ _ _ _ _ => pts_nil) (fun _ _ _ _ _ => (pe_lc (own := [("j", 4), ("most", 5)]) (g := gTup K 2 (gCons (gName 4) (gCons (gName 5) gNil))) (tt := tYes) rfl sc_close.nd (show PI _ _ _ (EnT.iEnumG K _) from (EnT.pi_enumG (by rfl) T.z_enumerate (pa_cons (pv 3) pa_nil))) (blkOk_by (own := [("j", 4), ("most", 5)]) (N := n_close) (sc := relS _ (defScope s_close)) (by decide +kernel)) (fun _ _ _ _ _ => (pg_tup rfl (pgs_cons (pg_name (i := 4) sc_close.nd rfl (Or.inl rfl)) (pgs_cons (pg_name (i := 5) sc_close.nd rfl (Or.inl rfl)) pgs_nil)))) (fun _ _ _ _ _ => pts_nil) (fun _ _ _ _ _ => (pe_ifExp (pt_cmpR op_eq (pv 2) (pv 4) (nomark _)) (pe_callB (call_min2 rfl) rfl T.z_min bb_min (pa_cons (pv 5) (pa_cons pe_int pa_nil))) (pv 5))))))
      (pss_cons (ps_for PassesOwn.never rfl (pi_range1 rfl T.z_range (pa_cons (pe_callB call_len_seq rfl T.z_len PySem.boot_len (pa_cons (pv 1) pa_nil)) pa_nil)) (pg_name (i := 6) sc_close.nd rfl (Or.inl rfl))
        (pss_cons (ps_if (pt_val (pe_call g_has_contradiction (hr.mono (by first | decide | omega)) rfl T.m_has_contradiction T.F_has_contradiction.kp T.b_has_contradiction .nil pass0 (pa_cons (pv 1) pa_nil))) (pss_one (ps_ret pe_non)) pss_nil)
      (pss_one (ps_set (i := 1) sc_close.nd rfl (Or.inl rfl) (pe_call g_shortened (hr.mono (by first | decide | omega)) rfl T.m_shortened T.F_shortened.kp T.b_shortened .nil pass0 (pa_cons (pv 1) (pa_cons (pv 6) pa_nil)))))))
      (pss_one (ps_ret (pe_ifExp (pt_val (pe_call g_has_contradiction (hr.mono (by first | decide | omega)) rfl T.m_has_contradiction T.F_has_contradiction.kp T.b_has_contradiction .nil pass0 (pa_cons (pv 1) pa_nil))) pe_non (pe_call g_frozen (hr.mono (by first | decide | omega)) rfl T.m_frozen T.F_frozen.kp T.b_frozen .nil pass0 (pa_cons (pv 1) pa_nil))))))), ?_⟩
  obtain ⟨vs, hv, hl, hrow⟩ := hM.row
  have lv : vs.length = n := by rw [hl, sM.1]
  refine ⟨_, rfl, t1, p, _, rfl, hv, fun D hD => ?_⟩
  refine lc_it EnT.walk_enumG (LcP (Same H) (RRow K false (mkM n (fw0 n (getM M))) D) D) (lcp_start hD) (fun i G _ P => Sq.same P.1 hv) ?_ ?_
  · rintro i x G G' hi P ⟨t, u, v, rfl, ht, rfl, eu, ev⟩
    cases eu
    rw [lv] at hi
    obtain ⟨a, r, rfl, er, ha⟩ := hrow i v ev
    have lr := sM.get er
    have s1 : Same G (upd G t (.tup [.int i, .ref a])) := Same.new ht _
    refine ⟨t, _, rfl, SqT.of upd_same, rfl, _, _, rfl, _, _, rfl, rfl, ?_⟩
    refine ⟨rfl, tyes ?_⟩
    have ha2 := Sq.same (P.1.trans s1) ha
    refine ⟨_, rfl, t2, a, _, rfl, ha2, fun D2 hD2 => ?_⟩
    refine lc_it EnT.walk_enumG (LcP (Same _) (RInt (mkR n (fw0 n (getM M) i))) D2) (lcp_start hD2) (fun i F _ P2 => Sq.same P2.1 ha2) ?_ ?_
    · rintro j y F F' hj P2 ⟨t3, c1, c2, rfl, ht3, rfl, e1, e2⟩
      cases e1
      obtain ⟨k2, f2, rfl⟩ := get_int e2
      rw [List.length_map, lr] at hj
      refine ⟨t3, _, rfl, SqT.of upd_same, rfl, _, _, rfl, _, _, rfl, rfl, ?_⟩
      refine ⟨rfl, tyes ?_⟩
      refine ⟨_, rfl, _, rfl, rfl, _, rfl, ite2 (fun h => ?_) (fun h => ?_)⟩
      · have hij : i = j := by
          have h' := of_decide_eq_true h
          have := V.int.inj h'
          omega
        subst hij
        refine ⟨_, rfl, _, _, rfl, ?_⟩
        refine lcp_same P2 hD2 (Same.new ht3 _) (lt_line (by omega)) RInt.mono ⟨_, mkR_at hj, ?_⟩
        unfold fw0
        rw [if_pos rfl, getM_of er f2]
        congr 1
        split <;> omega
      · have hij : i ≠ j := fun z => h (decide_eq_true (by rw [z]))
        refine ⟨_, rfl, ?_⟩
        refine lcp_same P2 hD2 (Same.new ht3 _) (lt_line (by omega)) RInt.mono ⟨_, mkR_at hj, ?_⟩
        unfold fw0
        rw [if_neg hij, getM_of er f2]
    · intro F P2
      have e := lcp_ints (K := K) P2 (by rw [List.length_map, lr, mkR_len])
      exact lcp_same P hD (s1.trans P2.1) (lt_line (by omega)) RRow.mono ⟨D2, _, rfl, mkM_at hi, P.ne (s1.free hD2), SqL.of e⟩
  intro G P
  have m0 := lcp_rows P (by rw [lv, mkM_sz.1])
  have F0 : Fw n (getM M) 0 (getM (mkM n (fw0 n (getM M)))) := (Fw.start (getM M)).congr (by omega) fun i hi j hj => (mkM_get hi hj).symm
  obtain ⟨as, g1, g2, _⟩ := id m0
  have la : as.length = n := by rw [g2, mkM_sz.1]
  refine ⟨_, rfl, D, _, rfl, .inl g1, _, rfl, by omega, by rw [List.length_map, la]; omega, for_range (lo := 0) (fun i σ G' => ∃ (D' : Addr) (N : List (List Int)) (c : Option V), σ = [some (.ref p), some (.ref D'), none, none, none, none, c] ∧ Same H G' ∧ Mx false false K G' D' N ∧ Sz n N ∧ Fw n (getM M) i (getM N))
    ⟨D, _, none, rfl, P.1, m0, mkM_sz, F0⟩ ?_ ?_⟩
  · rintro i σ G1 hi ⟨D', N, c, rfl, s1, m1, z1, f1⟩
    rw [List.length_map, la] at hi
    refine ⟨_, rfl, D', N, n, rfl, m1, z1, hn, fun b G2 s2 hb => ⟨_, rfl, ?_⟩⟩
    cases b with
    | true =>
      obtain ⟨i', hi', neg⟩ := hb.mp rfl
      exact ifT rfl (q .non G2 none (s1.trans s2) rfl (f1.bad hi' neg))
    | false =>
      have pos : ∀ i < n, 0 ≤ getM N i i := fun i' hi' => by
        refine Int.not_lt.mp fun neg => ?_
        exact absurd (hb.mpr ⟨i', hi', neg⟩) (by decide)
      refine ifF rfl ?_
      refine ⟨_, rfl, _, rfl, D', N, n, i, congrArg (fun z => [V.ref D', V.int z]) (Int.zero_add _), m1.same s2, z1, hn, (by omega), fun q1 G3 s3 m3 => ?_⟩
      exact ⟨q1, _, _, rfl, (s1.trans s2).trans s3, m3, mkM_sz, (f1.step (by omega) pos).congr (by omega) fun i hi j hj => (mkM_get hi hj).symm⟩
  · rintro σ G1 ⟨D', N, c, rfl, s1, m1, z1, f1⟩
    rw [List.length_map, la, Int.toNat_natCast] at f1
    refine ⟨_, rfl, D', N, n, rfl, m1, z1, hn, fun b G2 s2 hb => ⟨_, rfl, ?_⟩⟩
    cases b with
    | true =>
      obtain ⟨i', hi', neg⟩ := hb.mp rfl
      exact ifT rfl (q .non G2 none (s1.trans s2) rfl (f1.bad hi' neg))
    | false =>
      have pos : ∀ i < n, 0 ≤ getM N i i := fun i' hi' => by
        refine Int.not_lt.mp fun neg => ?_
        exact absurd (hb.mpr ⟨i', hi', neg⟩) (by decide)
      refine ifF rfl ?_
      refine ⟨_, rfl, D', N, rfl, m1.same s2, by rw [z1.1]; omega, fun p' H' s' hM' => ?_⟩
      have bst := f1.done pos
      rw [mkM_self z1] at bst
      exact q _ _ (some N) ((s1.trans s2).trans s') ⟨p', rfl, hM'⟩ bst
end
/-! ### drawn numbers and points -/
def spNumber : Sp := fun vs H Q _ => ∃ a : Addr, vs = [.ref a] ∧ Src H a ∧ ∀ (r : Int) H', Stp a H H' → Q (.int r) H'
def spSize : Sp := fun vs H Q _ => ∃ a : Addr, vs = [.ref a] ∧ Src H a ∧ ∀ (n : Nat) H', Stp a H H' → n ≤ 20 → Q (.int n) H'
theorem ixInt {ns : List Int} {r : Int} (h0 : 0 ≤ r) (h : r < (ns.length : Int)) : ∃ u : Int, atI (ns.map V.int) r = some (.int u) := by
  have e := atI_int (xs := ns.map V.int) h0 (by rw [List.length_map]; omega)
  rw [List.getElem_map] at e
  exact ⟨_, e⟩
theorem Src.new {a p : Addr} {H : Hp} {o : HO} (h : Src H a) (n : H p = none) : Src (upd H p o) a := (Stp.refl h).new n |>.s
/-- points: a list of tuples, the list a tracked one -/
def Pts (K : PySem.W.Frag) (H : Hp) (p : Addr) (Ps : List (List Int)) : Prop :=
  ∃ as : List Addr, H p = some (.lst (as.map V.ref)) ∧ as.length = Ps.length ∧ ∀ (i : Nat) (a : Addr) (r : List Int), as[i]? = some a → Ps[i]? = some r → SqT K H a (r.map V.int)
theorem Pts.mx {K : PySem.W.Frag} {H : Hp} {p : Addr} {Ps : List (List Int)} (h : Pts K H p Ps) : Mx false true K H p Ps := by
  obtain ⟨as, h1, h2, h3⟩ := h
  exact ⟨as, SqL.of h1, h2, h3⟩
theorem Pts.same {K : PySem.W.Frag} {H H' : Hp} {p : Addr} {Ps : List (List Int)} (s : Same H H') (h : Pts K H p Ps) : Pts K H' p Ps := by
  obtain ⟨as, h1, h2, h3⟩ := h
  exact ⟨as, s _ _ h1, h2, fun i a r e1 e2 => Same.tup s (h3 i a r e1 e2)⟩
theorem Stp.put {a D : Addr} {G F : Hp} {o : HO} (x : Stp a G F) (hs : Src G a) (hD : G D = none) : Stp a G (upd F D o) := by
  have ne := hs.ne hD
  obtain ⟨c, m, k, h⟩ := x.s
  exact ⟨⟨c, m, k, by rw [upd_ne ne]; exact h⟩, fun b u hb e => by rw [upd_ne (ne_of_none e hD)]; exact x.k b u hb e⟩
/-- the points so far, none of them at p -/
def PtsN (K : PySem.W.Frag) (H : Hp) (p : Addr) (Ps : List (List Int)) : Prop :=
  ∃ as : List Addr, H p = some (.lst (as.map V.ref)) ∧ as.length = Ps.length ∧ ∀ (i : Nat) (a : Addr) (r : List Int), as[i]? = some a → Ps[i]? = some r → a ≠ p ∧ SqT K H a (r.map V.int)
theorem PtsN.pts {K : PySem.W.Frag} {H : Hp} {p : Addr} {Ps : List (List Int)} (h : PtsN K H p Ps) : Pts K H p Ps := by
  obtain ⟨as, h1, h2, h3⟩ := h
  exact ⟨as, h1, h2, fun i a r e1 e2 => (h3 i a r e1 e2).2⟩
theorem ints_of {acc : List V} (h : ∀ (j : Nat) (y : V), acc[j]? = some y → ∃ k : Int, y = .int k) : ∃ ns : List Int, acc = ns.map V.int := by
  induction acc with
  | nil => exact ⟨[], rfl⟩
  | cons y acc ih =>
    obtain ⟨k, rfl⟩ := h 0 y rfl
    obtain ⟨ns, rfl⟩ := ih fun j y e => h (j + 1) y (by simpa using e)
    exact ⟨k :: ns, rfl⟩
/-- one point more -/
theorem PtsN.push {K : PySem.W.Frag} {G F : Hp} {p t : Addr} {Ps : List (List Int)} {as : List Addr} {ns : List Int} (e2 : as.length = Ps.length) (e3 : ∀ (i : Nat) (a : Addr) (r : List Int), as[i]? = some a → Ps[i]? = some r → a ≠ p ∧ SqT K G a (r.map V.int))
    (k : ∀ (x : Addr) (xs : List V), SqT K G x xs → SqT K F x xs) (ht : SqT K F t (ns.map V.int)) (ne : t ≠ p) : PtsN K (upd F p (.lst (as.map V.ref ++ [.ref t]))) p (Ps ++ [ns]) := by
  refine ⟨as ++ [t], by rw [List.map_append]; exact upd_same, by simp [e2], fun i a r h1 h2 => ?_⟩
  have put : ∀ {x : Addr} {xs : List V}, x ≠ p → SqT K F x xs → SqT K (upd F p (.lst (as.map V.ref ++ [.ref t]))) x xs := fun nx h => Sq.but (t := true) (But.upd _) nx h
  by_cases hi : i < as.length
  · rw [List.getElem?_append_left hi] at h1
    rw [List.getElem?_append_left (by omega)] at h2
    obtain ⟨q1, q2⟩ := e3 i a r h1 h2
    exact ⟨q1, put q1 (k _ _ q2)⟩
  · rw [List.getElem?_append_right (by omega)] at h1
    rw [List.getElem?_append_right (by omega)] at h2
    have ei : i = as.length := by
      have := (List.getElem?_eq_some_iff.mp h1).1
      simp at this
      omega
    subst ei
    rw [Nat.sub_self] at h1
    rw [e2, Nat.sub_self] at h2
    have h1' : t = a := by simpa using h1
    have h2' : ns = r := by simpa using h2
    subst h1' h2'
    exact ⟨ne, put ne ht⟩
/-- all have n numbers, and there are few -/
def Few (n : Nat) (Ps : List (List Int)) : Prop := Ps.length ≤ 20 ∧ ∀ r ∈ Ps, r.length = n
def spSeeds (K : PySem.W.Frag) : Sp := fun vs H Q _ => ∃ (a : Addr) (n : Nat), vs = [.ref a, .int n] ∧ Src H a ∧ n ≤ 20 ∧ ∀ p H' Ps, Stp a H H' → H p = none → Pts K H' p Ps → Few n Ps → Q (.ref p) H'
section
variable {P : Program} {w : World} {K : PySem.W.Frag} {mg : Str → Option Value} {base : Heap}
theorem ok_l_number (T : Txt w K mg) : FnOk P w K mg base CX0 2 T.a_l_number T.d_l_number p_l_number spNumber := by
  have g_l_pick := ok_l_pick (P := P) (w := w) (base := base) T
  refine T.F_l_number.ok sc_l_number (fun vs H Q E h => ?_) (fun cdv A outer s H vs Q E hr h => ?_)
  · obtain ⟨a, rfl, _⟩ := h
    rfl
  obtain ⟨a, rfl, hS, q⟩ := h
  refine ⟨_, (pss_cons (ps_set (i := 1) sc_l_number.nd rfl (Or.inl rfl) (pe_ix ix_list (pe_lst (pa_cons pe_int (pa_cons pe_int (pa_cons pe_int (pa_cons (pe_op op_pow pe_int pe_int) (pa_cons (pe_op op_pow pe_int pe_int) pa_nil)))))) (pe_call g_l_pick (hr.mono (by first | decide | omega)) rfl T.m_l_pick T.F_l_pick.kp T.b_l_pick .nil pass0 (pa_cons (pv 0) (pa_cons pe_int pa_nil))) (fun _ _ => rfl)))
      (pss_one (ps_ret (pe_op op_sub (pe_op op_add (pe_op op_mul (pe_op op_sub (pe_call g_l_pick (hr.mono (by first | decide | omega)) rfl T.m_l_pick T.F_l_pick.kp T.b_l_pick .nil pass0 (pa_cons (pv 0) (pa_cons pe_int pa_nil))) pe_int) (pv 1)) (pe_call g_l_pick (hr.mono (by first | decide | omega)) rfl T.m_l_pick T.F_l_pick.kp T.b_l_pick .nil pass0 (pa_cons (pv 0) (pa_cons pe_int pa_nil)))) pe_int)))), ?_⟩
  refine ⟨10, 8, rfl, rfl, ⟨by decide, by decide, by decide⟩, 10, 17, rfl, rfl, ⟨by decide, by decide, by decide⟩, (by show 5 ≤ sizeLine; decide), fun l hl => ?_⟩
  refine ⟨_, rfl, a, 5, rfl, hS.new hl, by decide, fun r H1 st r0 r1 => ?_⟩
  have hl1 : H1 l = some (.lst ([1, 1, 1000, 10 ^ 8, 10 ^ 17].map V.int)) := st.k _ _ (hS.ne hl).symm upd_same
  obtain ⟨u, eu⟩ := ixInt (ns := [1, 1, 1000, 10 ^ 8, 10 ^ 17]) (r := r) r0 (by show r < 5; omega)
  refine ⟨l, _, r, _, rfl, rfl, SqL.of hl1, eu, ?_⟩
  have s1 : Stp a H H1 := ((Stp.refl hS).new hl).trans st
  refine ⟨_, rfl, a, 19, rfl, s1.s, by decide, fun r2 H2 st2 r20 r21 => ?_⟩
  refine ⟨_, _, rfl, rfl, _, rfl, _, _, rfl, rfl, .inl ⟨by omega, by omega⟩, ?_⟩
  refine ⟨_, rfl, a, 7, rfl, (s1.trans st2).s, by decide, fun r3 H3 st3 r30 r31 => ?_⟩
  refine ⟨_, _, rfl, rfl, _, _, rfl, rfl, ?_⟩
  exact q _ _ ((s1.trans st2).trans st3)
end
/-! ### the least box of some points -/
def lmax : List Int → Int
  | [] => 0
  | [x] => x
  | x :: y :: r => max x (lmax (y :: r))
theorem lmax_mem : ∀ {xs : List Int}, xs ≠ [] → lmax xs ∈ xs
  | [], h => absurd rfl h
  | [x], _ => by simp [lmax]
  | x :: y :: r, _ => by
    have ih := lmax_mem (xs := y :: r) (by simp)
    unfold lmax
    by_cases h : x ≤ lmax (y :: r)
    · rw [Int.max_eq_right h]
      exact List.mem_cons_of_mem _ ih
    · rw [Int.max_eq_left (by omega)]
      exact List.mem_cons_self
theorem lmax_le : ∀ {xs : List Int} {x : Int}, x ∈ xs → x ≤ lmax xs
  | [], _, h => by simp at h
  | [z], x, h => by
    have e : x = z := by simpa using h
    rw [e]
    exact Int.le_refl _
  | z :: y :: r, x, h => by
    unfold lmax
    rcases List.mem_cons.mp h with rfl | h
    · omega
    · have := lmax_le (xs := y :: r) h
      omega
theorem lmax_eq {xs : List Int} {m : Int} (h1 : m ∈ xs) (h2 : ∀ y ∈ xs, y ≤ m) : m = lmax xs := by
  have ne : xs ≠ [] := fun z => by rw [z] at h1; simp at h1
  have a := h2 _ (lmax_mem ne)
  have b := lmax_le h1
  omega
theorem lmax_append {xs ys : List Int} (h1 : xs ≠ []) (h2 : ys ≠ []) : lmax (xs ++ ys) = max (lmax xs) (lmax ys) := by
  symm
  refine lmax_eq ?_ fun y hy => ?_
  · by_cases h : lmax xs ≤ lmax ys
    · rw [Int.max_eq_right h]
      exact List.mem_append.mpr (.inr (lmax_mem h2))
    · rw [Int.max_eq_left (by omega)]
      exact List.mem_append.mpr (.inl (lmax_mem h1))
  · rcases List.mem_append.mp hy with h | h
    · have := lmax_le h
      omega
    · have := lmax_le h
      omega
/-- column i minus column j of a point -/
def dif (i j : Nat) (r : List Int) : Int := (0 :: r).getD i 0 - (0 :: r).getD j 0
def hullM (n : Nat) (Ps : List (List Int)) : List (List Int) := (List.range (n + 1)).map fun i => (List.range (n + 1)).map fun j => lmax (Ps.map (dif i j))
def hull (n : Nat) (Ps : List (List Int)) : Option (List (List Int)) := if Ps = [] then none else some (hullM n Ps)
theorem hullM_sz (n : Nat) (Ps : List (List Int)) : Sz (n + 1) (hullM n Ps) := by
  refine ⟨by simp [hullM], fun r hr => ?_⟩
  obtain ⟨i, _, rfl⟩ := List.mem_map.mp hr
  simp
theorem hull_sz (n : Nat) (Ps : List (List Int)) : BSz (n + 1) (hull n Ps) := by
  intro M e
  unfold hull at e
  split at e
  · cases e
  · cases e
    exact hullM_sz n Ps
theorem range_get {n i : Nat} (h : i < n) : (List.range n)[i]? = some i := by simp [h]
def spHull (K : PySem.W.Frag) : Sp := fun vs H Q _ => ∃ (p : Addr) (n : Nat) (Ps : List (List Int)), vs = [.ref p, .int n] ∧ n ≤ 900 ∧ Mx false true K H p Ps ∧ (∀ r ∈ Ps, r.length = n) ∧ Ps.length ≤ 1000000 ∧ ∀ v H', Same H H' → BoxAt K H' v (hull n Ps) → Q v H'
section
variable {P : Program} {w : World} {K : PySem.W.Frag} {mg : Str → Option Value} {base : Heap}
theorem ok_l_hull (T : Txt w K mg) : FnOk P w K mg base CX0 1 T.a_l_hull T.d_l_hull p_l_hull (spHull K) := by
  refine T.F_l_hull.ok sc_l_hull (fun vs H Q E h => ?_) (fun cdv A outer s H vs Q E hr h => ?_)
  · obtain ⟨p, n, Ps, rfl, _⟩ := h
    rfl
  obtain ⟨p, n, Ps, rfl, hn, hM, hl, hz, q⟩ := h
  refine ⟨_, (pss_cons (ps_if (pt_cmpR (op_eqL0 hr.units0) (pv 0) (pe_lst pa_nil) (nomark _)) (pss_one (ps_ret pe_non)) pss_nil)
      (pss_cons (ps_set (i := 2) sc_l_hull.nd rfl (Or.inl rfl) (pe_lst pa_nil))
      (pss_cons (ps_for PassesOwn.never rfl (pi_range1 rfl T.z_range (pa_cons (pe_op op_add (pv 1) pe_int) pa_nil)) (pg_name (i := 3) sc_l_hull.nd rfl (Or.inr rfl))
        (pss_cons (ps_set (i := 4) sc_l_hull.nd rfl (Or.inl rfl) (pe_lst pa_nil))
      (pss_cons (ps_for PassesOwn.never rfl (pi_range1 rfl T.z_range (pa_cons (pe_op op_add (pv 1) pe_int) pa_nil)) (pg_name (i := 5) sc_l_hull.nd rfl (Or.inr rfl))
        (pss_one (ps_expr (pe_bm PySem.F.plainAttrs_list PySem.F.slot_list_append PySem.F.type_list_append mt_append (pv 4) (pa_cons (pe_callB (cr_max rfl) rfl T.z_max bb_max (pa_cons (pe_lc (own := [("_law_point", 6)]) (g := gName 6) (tt := tYes) rfl sc_l_hull.nd (pi_list (pv 0)) (blkOk_by (own := [("_law_point", 6)]) (N := n_l_hull) (sc := defScope s_l_hull) (by decide +kernel)) (fun _ _ _ _ _ => (pg_name (i := 6) sc_l_hull.nd rfl (Or.inl rfl))) (fun _ _ _ _ _ => pts_nil) (fun _ _ _ _ _ => (pe_op op_sub (pe_ix (show IxR _ (rIxT K) from ix_tup) (pe_op (show OpR _ _ (rCatT K) from op_catT) (pe_tup (pa_cons pe_int pa_nil)) (pv 6)) (pv 3) (fun _ _ => rfl)) (pe_ix (show IxR _ (rIxT K) from ix_tup) (pe_op (show OpR _ _ (rCatT K) from op_catT) (pe_tup (pa_cons pe_int pa_nil)) (pv 6)) (pv 5) (fun _ _ => rfl))))) pa_nil)) pa_nil)))))
      (pss_one (ps_expr (pe_bm PySem.F.plainAttrs_list PySem.F.slot_list_append PySem.F.type_list_append mt_append (pv 2) (pa_cons (pe_callTy call_tuple_of rfl T.z_tuple bt_tuple (pa_cons (pv 4) pa_nil)) pa_nil)))))))
      (pss_one (ps_ret (pe_callTy call_tuple_of rfl T.z_tuple bt_tuple (pa_cons (pv 2) pa_nil))))))), ?_⟩
  obtain ⟨vs, hv, lv, hrow⟩ := hM.row
  refine ⟨_, rfl, (by show 0 ≤ sizeLine; decide), fun e he => ?_⟩
  have s0 : Same H (upd H e (.lst [])) := Same.new he _
  refine ⟨p, e, vs, rfl, rfl, s0.seq hv, SqL.of upd_same, _, rfl, ?_⟩
  by_cases hPs : Ps = []
  · subst hPs
    have ev : vs = [] := List.length_eq_zero_iff.mp (by simpa using lv)
    subst ev
    exact ifT rfl (q .non _ s0 rfl)
  have nev : vs ≠ [] := fun z => by
    subst z
    exact hPs (List.length_eq_zero_iff.mp (by simpa using lv.symm))
  refine ifF (by cases vs with
    | nil => exact absurd rfl nev
    | cons _ _ => rfl) ?_
  refine ⟨(by show 0 ≤ sizeLine; decide), fun pr hpr => ?_⟩
  refine ⟨_, rfl, _, _, rfl, rfl, _, rfl, by omega, by omega, for_range (lo := 0) (fun i σ G => (∃ b c d f : Option V, σ = [some (.ref p), some (.int n), some (.ref pr), b, c, d, f]) ∧ LcP (Same (upd H e (.lst []))) (RRow K true (hullM n Ps) pr) pr i G)
    ⟨⟨none, none, none, none, rfl⟩, lcp_start hpr⟩ ?_ ?_⟩
  · rintro i σ G hi ⟨⟨b, c, d, f, rfl⟩, P⟩
    refine ⟨(by show 0 ≤ sizeLine; decide), fun pw hpw => ?_⟩
    refine ⟨_, rfl, _, _, rfl, rfl, _, rfl, by omega, by omega, for_range (lo := 0) (fun j σ F => (∃ d f : Option V, σ = [some (.ref p), some (.int n), some (.ref pr), some (.int (0 + (i : Int))), some (.ref pw), d, f]) ∧ LcP (Same G) (RInt ((List.range (n + 1)).map fun j => lmax (Ps.map (dif i j)))) pw j F)
      ⟨⟨d, f, rfl⟩, lcp_start hpw⟩ ?_ ?_⟩
    · rintro j σ F hj ⟨⟨d', f', rfl⟩, PF⟩
      obtain ⟨acc, a1, a2⟩ := PF.acc
      have sF : Same H F := (s0.trans P.1).trans PF.1
      have hvF := sF.seq hv
      refine ⟨_, rfl, .inl ⟨rfl, _, SqL.of a1⟩, ?_⟩
      refine ⟨_, rfl, p, rfl, ⟨vs, hvF⟩, fun D hD => ?_⟩
      refine lc_it (walk_list (xs := vs)) (LcP (Same F) (RInt (Ps.map (dif i j))) D) (lcp_start hD) (fun _ F1 _ PD => PD.1.seq hvF) ?_ ?_
      · rintro k x F1 F2 hk PD ⟨rfl, ex⟩
        obtain ⟨a, r, rfl, er, ha⟩ := hrow k x ex
        have lr := hl r (List.mem_of_getElem? er)
        refine ⟨rfl, tyes ?_⟩
        have ha1 := Sq.same (sF.trans PD.1) ha
        refine ⟨(by show 1 ≤ sizeLine; decide), fun t1 ht1 => ?_⟩
        refine ⟨_, rfl, cat0 (SqT.of upd_same) (Same.tup (Same.new ht1 _) ha1) (by omega) fun z1 Fa sa hz1 => ?_⟩
        refine ⟨_, rfl, z1, _, _, _, rfl, rfl, hz1, atI_row (by simp; omega), ?_⟩
        have s1 := (Same.new ht1 (.tup [.int 0])).trans sa
        refine ⟨(by show 1 ≤ sizeLine; decide), fun t2 ht2 => ?_⟩
        refine ⟨_, rfl, cat0 (SqT.of upd_same) (Same.tup (s1.trans (Same.new ht2 _)) ha1) (by omega) fun z2 Fb sb hz2 => ?_⟩
        refine ⟨_, rfl, z2, _, _, _, rfl, rfl, hz2, atI_row (by simp; omega), ?_⟩
        refine ⟨_, _, rfl, rfl, ?_⟩
        exact lcp_same PD hD (s1.trans ((Same.new ht2 _).trans sb)) (lt_line (by omega)) RInt.mono ⟨dif i j r, map_get er, rfl⟩
      · intro F1 PD
        have ne : Ps.map (dif i j) ≠ [] := fun z => hPs (List.map_eq_nil_iff.mp z)
        refine ⟨D, _, rfl, SqL.of (lcp_ints (K := K) PD (by rw [List.length_map]; exact lv)), List.length_pos_iff.mpr ne, fun m hm hx => ?_⟩
        have em := lmax_eq hm hx
        refine ⟨pw, acc, _, rfl, rfl, PD.1 _ _ a1, lt_line (by omega), ⟨_, _, rfl⟩, ?_⟩
        exact lcp_put PF a1 hpw PD.1 (lt_line (by omega)) RInt.mono ⟨m, by rw [em]; exact map_get (range_get (by omega)), rfl⟩
    · rintro σ F ⟨⟨d', f', rfl⟩, PF⟩
      obtain ⟨acc, a1, a2⟩ := P.acc
      have a1F := PF.1 _ _ a1
      refine ⟨_, rfl, .inl ⟨rfl, _, SqL.of a1F⟩, ?_⟩
      refine ⟨_, rfl, pw, _, rfl, .inl ⟨SqL.of (lcp_ints (K := K) PF (by simp)), fun t ht => ?_⟩⟩
      have tn : t ≠ pr := fun z => by
        rw [← z, ht] at a1F
        cases a1F
      refine ⟨pr, acc, _, rfl, rfl, by rw [upd_ne tn.symm]; exact a1F, lt_line (by omega), ⟨_, _, _, _, rfl⟩, ?_⟩
      exact lcp_put P a1 hpr (PF.1.trans (Same.new ht _)) (lt_line (by omega)) RRow.mono ⟨t, _, rfl, map_get (range_get (by omega)), tn, Sq.upd_sameT⟩
  · rintro σ G ⟨⟨b, c, d, f, rfl⟩, P⟩
    obtain ⟨as, h1, h2, h3⟩ := lcp_rows P (by simp [hullM])
    refine ⟨_, rfl, pr, _, rfl, .inl ⟨h1, fun l hl => ?_⟩⟩
    refine q (.ref l) _ ((s0.trans P.1).trans (Same.new hl _)) ?_
    unfold hull
    rw [if_neg hPs]
    exact ⟨l, rfl, as, Sq.upd_sameT, h2, fun i a r e1 e2 => Sq.same (Same.new hl _) (h3 i a r e1 e2)⟩
end
/-! ### the least box is closed -/
theorem getM_hull {n : Nat} {Ps : List (List Int)} {i j : Nat} (hi : i < n + 1) (hj : j < n + 1) : getM (hullM n Ps) i j = lmax (Ps.map (dif i j)) := getM_of (map_get (range_get hi)) (map_get (range_get hj))
theorem hull_tri {n : Nat} {Ps : List (List Int)} (hP : Ps ≠ []) {i j k : Nat} (hi : i < n + 1) (hj : j < n + 1) (hk : k < n + 1) : getM (hullM n Ps) i j ≤ getM (hullM n Ps) i k + getM (hullM n Ps) k j := by
  rw [getM_hull hi hj, getM_hull hi hk, getM_hull hk hj]
  obtain ⟨r, hr, e⟩ := List.mem_map.mp (lmax_mem (xs := Ps.map (dif i j)) fun z => hP (List.map_eq_nil_iff.mp z))
  have h1 : dif i k r ≤ lmax (Ps.map (dif i k)) := lmax_le (List.mem_map_of_mem hr)
  have h2 : dif k j r ≤ lmax (Ps.map (dif k j)) := lmax_le (List.mem_map_of_mem hr)
  rw [← e]
  unfold dif at *
  omega
theorem hull_diag {n : Nat} {Ps : List (List Int)} (hP : Ps ≠ []) {i : Nat} (hi : i < n + 1) : getM (hullM n Ps) i i = 0 := by
  rw [getM_hull hi hi]
  obtain ⟨r, hr, e⟩ := List.mem_map.mp (lmax_mem (xs := Ps.map (dif i i)) fun z => hP (List.map_eq_nil_iff.mp z))
  rw [← e]
  unfold dif
  omega
/-- the points at these addresses -/
def PA (K : PySem.W.Frag) (H : Hp) (as : List Addr) (Ps : List (List Int)) : Prop := as.length = Ps.length ∧ ∀ (i : Nat) (a : Addr) (r : List Int), as[i]? = some a → Ps[i]? = some r → SqT K H a (r.map V.int)
theorem Pts.pa {K : PySem.W.Frag} {H : Hp} {p : Addr} {Ps : List (List Int)} (h : Pts K H p Ps) : ∃ as, H p = some (.lst (as.map V.ref)) ∧ PA K H as Ps := by
  obtain ⟨as, h1, h2, h3⟩ := h
  exact ⟨as, h1, h2, h3⟩
theorem PA.pts {K : PySem.W.Frag} {H : Hp} {p : Addr} {as : List Addr} {Ps : List (List Int)} (h : PA K H as Ps) (e : H p = some (.lst (as.map V.ref))) : Pts K H p Ps := ⟨as, e, h.1, h.2⟩
theorem PA.same {K : PySem.W.Frag} {H H' : Hp} {as : List Addr} {Ps : List (List Int)} (s : Same H H') (h : PA K H as Ps) : PA K H' as Ps := ⟨h.1, fun i a r e1 e2 => Same.tup s (h.2 i a r e1 e2)⟩
theorem PA.stp {K : PySem.W.Frag} {a : Addr} {H H' : Hp} {as : List Addr} {Ps : List (List Int)} (s : Stp a H H') (hs : Src H a) (h : PA K H as Ps) : PA K H' as Ps := ⟨h.1, fun i b r e1 e2 => s.rd (h.2 i b r e1 e2) hs⟩
theorem PA.drop {K : PySem.W.Frag} {H : Hp} {as : List Addr} {Ps : List (List Int)} (k : Nat) (h : PA K H as Ps) : PA K H (as.drop k) (Ps.drop k) := by
  refine ⟨by rw [List.length_drop, List.length_drop, h.1], fun i a r e1 e2 => ?_⟩
  rw [List.getElem?_drop] at e1 e2
  exact h.2 _ a r e1 e2
theorem PA.take {K : PySem.W.Frag} {H : Hp} {as : List Addr} {Ps : List (List Int)} (k : Nat) (h : PA K H as Ps) : PA K H (as.take k) (Ps.take k) := by
  refine ⟨by rw [List.length_take, List.length_take, h.1], fun i a r e1 e2 => ?_⟩
  rw [List.getElem?_take] at e1 e2
  split at e1
  · rename_i hk
    rw [if_pos hk] at e2
    exact h.2 _ a r e1 e2
  · cases e1
theorem PA.append {K : PySem.W.Frag} {H : Hp} {as bs : List Addr} {Ps Qs : List (List Int)} (h : PA K H as Ps) (k : PA K H bs Qs) : PA K H (as ++ bs) (Ps ++ Qs) := by
  refine ⟨by rw [List.length_append, List.length_append, h.1, k.1], fun i a r e1 e2 => ?_⟩
  by_cases hi : i < as.length
  · rw [List.getElem?_append_left hi] at e1
    rw [List.getElem?_append_left (by rw [← h.1]; exact hi)] at e2
    exact h.2 i a r e1 e2
  · rw [List.getElem?_append_right (by omega)] at e1
    rw [List.getElem?_append_right (by rw [← h.1]; omega), ← h.1] at e2
    exact k.2 _ a r e1 e2
theorem PA.one {K : PySem.W.Frag} {H : Hp} {a : Addr} {r : List Int} (h : SqT K H a (r.map V.int)) : PA K H [a] [r] := by
  refine ⟨rfl, fun i b q e1 e2 => ?_⟩
  cases i with
  | zero =>
    cases e1
    cases e2
    exact h
  | succ i => simp at e1
theorem Pts.stp {K : PySem.W.Frag} {a p : Addr} {H H' : Hp} {Ps : List (List Int)} (s : Stp a H H') (hs : Src H a) (ne : p ≠ a) (h : Pts K H p Ps) : Pts K H' p Ps := by
  obtain ⟨as, h1, h2⟩ := h.pa
  exact (h2.stp s hs).pts (s.k _ _ ne h1)
/-! ### all points of a matrix, listed -/
def valsL (M : List (List Int)) (c : Nat) : List Int := (List.range (getM M c 0 + 1 - (0 - getM M 0 c)).toNat).map fun (k : Nat) => (0 - getM M 0 c) + (k : Int)
def fitP (M : List (List Int)) (c : Nat) (p : List Int) (v : Int) : Prop := ∀ k < p.length, v - p.getD k 0 ≤ getM M c (k + 1) ∧ p.getD k 0 - v ≤ getM M (k + 1) c
instance (M : List (List Int)) (c : Nat) (p : List Int) (v : Int) : Decidable (fitP M c p v) := inferInstanceAs (Decidable (∀ k < p.length, _))
def stepV (M : List (List Int)) (c : Nat) (p : List Int) (vs : List Int) : List (List Int) := (vs.filter fun v => decide (fitP M c p v)).map fun v => p ++ [v]
def stepL (M : List (List Int)) (c : Nat) (Ps : List (List Int)) : List (List Int) := Ps.flatMap fun p => stepV M c p (valsL M c)
def ptsL (M : List (List Int)) : Nat → List (List Int)
  | 0 => [[]]
  | c + 1 => stepL M (c + 1) (ptsL M c)
def InP (M : List (List Int)) (c : Nat) (p : List Int) : Prop := p.length = c ∧ ∀ i < c + 1, ∀ j < c + 1, i ≠ j → dif i j p ≤ getM M i j
theorem mem_vals {M : List (List Int)} {c : Nat} {v : Int} : v ∈ valsL M c ↔ 0 - getM M 0 c ≤ v ∧ v ≤ getM M c 0 := by
  unfold valsL
  rw [List.mem_map]
  constructor
  · rintro ⟨k, hk, rfl⟩
    rw [List.mem_range] at hk
    omega
  · rintro ⟨h1, h2⟩
    exact ⟨(v - (0 - getM M 0 c)).toNat, List.mem_range.mpr (by omega), by omega⟩
theorem snoc_get {p : List Int} {v : Int} {i : Nat} (h : i ≤ p.length) : (0 :: (p ++ [v])).getD i 0 = (0 :: p).getD i 0 := by
  rw [← List.cons_append, List.getD_eq_getElem?_getD, List.getElem?_append_left (by simp; omega), ← List.getD_eq_getElem?_getD]
theorem snoc_last {p : List Int} {v : Int} : (0 :: (p ++ [v])).getD (p.length + 1) 0 = v := by
  rw [← List.cons_append, List.getD_eq_getElem?_getD, List.getElem?_append_right (by simp)]
  simp
theorem cons_get {p : List Int} {k : Nat} : (0 :: p).getD (k + 1) 0 = p.getD k 0 := rfl
theorem mem_pts {M : List (List Int)} : ∀ {c : Nat} {p : List Int}, p ∈ ptsL M c ↔ InP M c p
  | 0, p => by
    unfold ptsL InP
    constructor
    · intro h
      have e : p = [] := by simpa using h
      subst e
      exact ⟨rfl, fun i hi j hj ne => by omega⟩
    · rintro ⟨h, _⟩
      rw [List.length_eq_zero_iff.mp h]
      exact List.mem_singleton.mpr rfl
  | c + 1, p => by
    show p ∈ stepL M (c + 1) (ptsL M c) ↔ _
    unfold stepL stepV
    rw [List.mem_flatMap]
    constructor
    · rintro ⟨q, hq, hp⟩
      obtain ⟨v, hv, rfl⟩ := List.mem_map.mp hp
      obtain ⟨hv1, hv2⟩ := List.mem_filter.mp hv
      have hf : fitP M (c + 1) q v := of_decide_eq_true hv2
      obtain ⟨lq, iq⟩ := mem_pts.mp hq
      have hr := mem_vals.mp hv1
      refine ⟨by simp [lq], fun i hi j hj ne => ?_⟩
      have last : (0 :: (q ++ [v])).getD (c + 1) 0 = v := by
        have := snoc_last (p := q) (v := v)
        rwa [lq] at this
      unfold dif
      by_cases h1 : i = c + 1
      · subst h1
        rw [last, snoc_get (by omega)]
        cases j with
        | zero =>
          show v - 0 ≤ _
          omega
        | succ j =>
          rw [cons_get]
          exact (hf j (by omega)).1
      · by_cases h2 : j = c + 1
        · subst h2
          rw [last, snoc_get (by omega)]
          cases i with
          | zero =>
            show 0 - v ≤ _
            omega
          | succ i =>
            rw [cons_get]
            exact (hf i (by omega)).2
        · rw [snoc_get (by omega), snoc_get (by omega)]
          exact iq i (by omega) j (by omega) ne
    · rintro ⟨lp, ip⟩
      have ne : p ≠ [] := fun z => by rw [z] at lp; simp at lp
      obtain ⟨q, v, rfl⟩ : ∃ q v, p = q ++ [v] := ⟨p.dropLast, p.getLast ne, (List.dropLast_concat_getLast ne).symm⟩
      have lq : q.length = c := by simpa using lp
      have last : (0 :: (q ++ [v])).getD (c + 1) 0 = v := by
        have := snoc_last (p := q) (v := v)
        rwa [lq] at this
      refine ⟨q, mem_pts.mpr ⟨lq, fun i hi j hj ne => ?_⟩, List.mem_map.mpr ⟨v, List.mem_filter.mpr ⟨mem_vals.mpr ?_, decide_eq_true fun k hk => ?_⟩, rfl⟩⟩
      · have := ip i (by omega) j (by omega) ne
        unfold dif at *
        rwa [snoc_get (by omega), snoc_get (by omega)] at this
      · have a := ip (c + 1) (by omega) 0 (by omega) (by omega)
        have b := ip 0 (by omega) (c + 1) (by omega) (by omega)
        unfold dif at a b
        rw [last, snoc_get (by omega)] at a b
        have e : (0 :: q).getD 0 0 = 0 := rfl
        rw [e] at a b
        omega
      · have a := ip (c + 1) (by omega) (k + 1) (by omega) (by omega)
        have b := ip (k + 1) (by omega) (c + 1) (by omega) (by omega)
        unfold dif at a b
        rw [last, snoc_get (by omega), cons_get] at a b
        exact ⟨a, b⟩
/-- the point of a closed matrix in which a column is as small as can be -/
def colP (n : Nat) (C : Nat → Nat → Int) (j : Nat) : List Int := mkR n fun k => C (k + 1) j - C 0 j
theorem colP_get {n : Nat} {C : Nat → Nat → Int} {i j : Nat} (hi : i < n + 1) : (0 :: colP n C j).getD i 0 = C i j - C 0 j := by
  cases i with
  | zero =>
    show (0 : Int) = _
    omega
  | succ i =>
    rw [cons_get, List.getD_eq_getElem?_getD]
    unfold colP
    rw [mkR_at (by omega)]
    rfl
theorem colP_in {n : Nat} {C : Nat → Nat → Int} {M : List (List Int)} {j : Nat} (c : Clo (n + 1) C) (l : LeF (n + 1) C (getM M)) (hj : j < n + 1) : colP n C j ∈ ptsL M n := by
  refine mem_pts.mpr ⟨mkR_len, fun i hi k hk _ => ?_⟩
  unfold dif
  rw [colP_get hi, colP_get hk]
  have a := c.t i hi j hj k hk
  have b := l i hi k hk
  omega
theorem best_pts {n : Nat} {M : List (List Int)} (hd : ∀ i < n + 1, 0 ≤ getM M i i) : Best (n + 1) (getM M) (hull n (ptsL M n)) := by
  unfold hull
  split
  · rename_i e
    intro C hC hl
    have := colP_in hC hl (j := 0) (by omega)
    rw [e] at this
    simp at this
  · rename_i ne
    refine ⟨hullM_sz n _, ⟨fun i hi => hull_diag ne hi, fun i hi j hj k hk => hull_tri ne hi hj hk⟩, fun i hi j hj => ?_, fun C hC hl i hi j hj => ?_⟩
    · by_cases e : i = j
      · subst e
        rw [hull_diag ne hi]
        exact hd i hi
      · rw [getM_hull hi hj]
        obtain ⟨r, hr, er⟩ := List.mem_map.mp (lmax_mem (xs := (ptsL M n).map (dif i j)) fun z => ne (List.map_eq_nil_iff.mp z))
        rw [← er]
        exact (mem_pts.mp hr).2 i hi j hj e
    · rw [getM_hull hi hj]
      have h1 : dif i j (colP n C j) ≤ _ := lmax_le (List.mem_map_of_mem (colP_in hC hl hj))
      unfold dif at h1
      rw [colP_get hi, colP_get hj] at h1
      have := hC.d j hj
      unfold dif
      omega
theorem best_neg {n i : Nat} {D : Nat → Nat → Int} (hi : i < n) (neg : D i i < 0) : Best n D none := fun C hC hl => by
  have a := hl i hi i hi
  have b := hC.d i hi
  omega
/-- the points that the law lists for a matrix, or None -/
noncomputable def ptsB (n : Nat) : Option (List (List Int)) → List (List Int)
  | none => []
  | some M => open Classical in if ∀ i < n + 1, 0 ≤ getM M i i then ptsL M n else []
theorem best_ptsB {n : Nat} {M : List (List Int)} : Best (n + 1) (getM M) (hull n (ptsB n (some M))) := by
  show Best (n + 1) (getM M) (hull n (open Classical in if ∀ i < n + 1, 0 ≤ getM M i i then ptsL M n else []))
  split
  · rename_i h
    exact best_pts h
  · rename_i h
    have e : hull n [] = none := rfl
    rw [e]
    obtain ⟨i, h1⟩ := Classical.not_forall.mp h
    obtain ⟨hi, h2⟩ := Classical.not_imp.mp h1
    exact best_neg hi (by omega)
def spFits (K : PySem.W.Frag) : Sp := fun vs H Q _ => ∃ (p t : Addr) (M : List (List Int)) (r : List Int) (n c : Nat) (v : Int), vs = [.ref p, .ref t, .int c, .int v] ∧ n ≤ 900 ∧ Mx true true K H p M ∧ Sz (n + 1) M ∧ c ≤ n ∧ r.length ≤ n ∧ SqT K H t (r.map V.int) ∧ Q (.bl (decide (fitP M c r v))) H
/-- few enough to be listed -/
structure Small (n : Nat) (M : List (List Int)) : Prop where
  lo : ∀ c < n + 1, -1000000 ≤ getM M 0 c ∧ getM M 0 c ≤ 1000000
  hi : ∀ c < n + 1, -1000000 ≤ getM M c 0 ∧ getM M c 0 ≤ 1000000
  pts : ∀ c ≤ n, (ptsL M c).length ≤ 1000000
def spPoints (K : PySem.W.Frag) : Sp := fun vs H Q _ => ∃ (va : V) (B : Option (List (List Int))) (n : Nat), vs = [va] ∧ n ≤ 900 ∧ BoxAt K H va B ∧ BSz (n + 1) B ∧ (∀ M, B = some M → Small n M) ∧ ∀ q H', Same H H' → Pts K H' q (ptsB n B) → Q (.ref q) H'
/-- a tuple and one number more -/
theorem catV {K : PySem.W.Frag} {H : Hp} {t a : Addr} {r : List Int} {v : Int} {Q : VK} (h1 : SqT K H t (r.map V.int)) (h2 : SqT K H a [.int v]) (hz : r.length ≤ 1000) (q : ∀ z H', Same H H' → SqT K H' z ((r ++ [v]).map V.int) → (H z = none ∨ z = a) → Q (.ref z) H') : rCatA K (.ref t) (.ref a) H Q := by
  refine ⟨t, a, _, _, rfl, rfl, h1, h2, ?_, fun e => ?_, fun _ e => ?_, fun _ _ p hp => ?_⟩
  · rw [List.length_map, sizeLine_eq]
    simp
    omega
  · have e' : r = [] := List.map_eq_nil_iff.mp e
    subst e'
    exact q a H (Same.refl H) h2 (.inr rfl)
  · cases e
  · exact q p _ (Same.new hp _) (by rw [List.map_append]; exact SqT.of upd_same) (.inl hp)
theorem stepV_succ {M : List (List Int)} {c k : Nat} {p vs : List Int} {v : Int} (e : vs[k]? = some v) : stepV M c p (vs.take (k + 1)) = stepV M c p (vs.take k) ++ (if fitP M c p v then [p ++ [v]] else []) := by
  unfold stepV
  rw [List.take_succ, e]
  simp only [Option.toList_some, List.filter_append, List.map_append]
  congr 1
  by_cases h : fitP M c p v
  · simp [h]
  · simp [h]
theorem stepL_succ {M : List (List Int)} {c j : Nat} {Ps : List (List Int)} {p : List Int} (e : Ps[j]? = some p) : stepL M c (Ps.take (j + 1)) = stepL M c (Ps.take j) ++ stepV M c p (valsL M c) := by
  unfold stepL
  rw [List.take_succ, e]
  simp
theorem stepV_len {M : List (List Int)} {c k : Nat} {p vs : List Int} : (stepV M c p (vs.take k)).length ≤ (stepV M c p vs).length := by
  unfold stepV
  rw [List.length_map, List.length_map]
  exact (List.Sublist.filter _ (List.take_sublist k vs)).length_le
theorem stepL_len {M : List (List Int)} {c j : Nat} {Ps : List (List Int)} : (stepL M c (Ps.take j)).length ≤ (stepL M c Ps).length := by
  unfold stepL
  have e : Ps.flatMap (fun p => stepV M c p (valsL M c)) = (Ps.take j).flatMap (fun p => stepV M c p (valsL M c)) ++ (Ps.drop j).flatMap (fun p => stepV M c p (valsL M c)) := by
    rw [← List.flatMap_append, List.take_append_drop]
  rw [e, List.length_append]
  omega
theorem part_len {M : List (List Int)} {c j k : Nat} {Ps : List (List Int)} {p : List Int} (e : Ps[j]? = some p) : (stepL M c (Ps.take j) ++ stepV M c p ((valsL M c).take k)).length ≤ (stepL M c Ps).length := by
  have h1 := stepL_len (M := M) (c := c) (j := j + 1) (Ps := Ps)
  rw [stepL_succ e, List.length_append] at h1
  have h2 := stepV_len (M := M) (c := c) (k := k) (p := p) (vs := valsL M c)
  rw [List.length_append]
  omega
theorem vals_len {M : List (List Int)} {c : Nat} : (valsL M c).length = (getM M c 0 + 1 - (0 - getM M 0 c)).toNat := by simp [valsL]
theorem vals_get {M : List (List Int)} {c k : Nat} (h : k < (getM M c 0 + 1 - (0 - getM M 0 c)).toNat) : (valsL M c)[k]? = some (0 - getM M 0 c + (k : Int)) := map_get (range_at h)
section
variable {P : Program} {w : World} {K : PySem.W.Frag} {mg : Str → Option Value} {base : Heap}
theorem ok_l_fits (T : Txt w K mg) : FnOk P w K mg base CX0 1 T.a_l_fits T.d_l_fits p_l_fits (spFits K) := by
  refine T.F_l_fits.ok sc_l_fits (fun vs H Q E h => ?_) (fun cdv A outer s H vs Q E hr h => ?_)
  · obtain ⟨p, t, M, r, n, c, v, rfl, _⟩ := h
    rfl
  obtain ⟨p, t, M, r, n, c, v, rfl, hn, hM, sM, hc, hl, ht, q⟩ := h
  refine ⟨_, (pss_cons (ps_for PassesOwn.never rfl (pi_range1 rfl T.z_range (pa_cons (pe_callB call_len_seq rfl T.z_len PySem.boot_len (pa_cons (pv 1) pa_nil)) pa_nil)) (pg_name (i := 4) sc_l_fits.nd rfl (Or.inl rfl))
        (pss_one (ps_if (PW.pt (pw_or (pt_cmpR op_gt (pe_op op_sub (pv 3) (pe_ix ix_tup (pv 1) (pv 4) (fun _ _ => rfl))) (pe_ix ix_tup (pe_ix ix_tup (pv 0) (pv 2) (fun _ _ => rfl)) (pe_op op_add (pv 4) pe_int) (fun _ _ => rfl)) (nomark _)) (pw_or1 (pt_cmpR op_gt (pe_op op_sub (pe_ix ix_tup (pv 1) (pv 4) (fun _ _ => rfl)) (pv 3)) (pe_ix ix_tup (pe_ix ix_tup (pv 0) (pe_op op_add (pv 4) pe_int) (fun _ _ => rfl)) (pv 2) (fun _ _ => rfl)) (nomark _))))) (pss_one (ps_ret pe_bl)) pss_nil)))
      (pss_one (ps_ret pe_bl))), ?_⟩
  refine ⟨_, rfl, t, _, rfl, .inr ht, _, rfl, by omega, by rw [List.length_map]; omega, for_range (lo := 0) (fun i σ G => G = H ∧ (∃ b : Option V, σ = [some (.ref p), some (.ref t), some (.int c), some (.int v), b]) ∧ ∀ k < i, v - r.getD k 0 ≤ getM M c (k + 1) ∧ r.getD k 0 - v ≤ getM M (k + 1) c) ⟨rfl, ⟨none, rfl⟩, fun k h => by omega⟩ ?_ ?_⟩
  · rintro i σ G hi ⟨rfl, ⟨b, rfl⟩, hA⟩
    rw [List.length_map] at hi
    have hi' : i < r.length := by omega
    obtain ⟨r1, e1, l1, g1⟩ := sM.at2 (i := c) (j := i + 1) (by omega) (by omega)
    obtain ⟨r2, e2, l2, g2⟩ := sM.at2 (i := i + 1) (j := c) (by omega) (by omega)
    obtain ⟨vs1, a1, x1, x2, x3⟩ := hM.getT e1
    obtain ⟨vs2, a2, y1, y2, y3⟩ := hM.getT e2
    have ei : (0 + (i : Int) + 1) = ((i + 1 : Nat) : Int) := by omega
    have f1 : atI (r1.map V.int) (0 + (i : Int) + 1) = some (.int (getM M c (i + 1))) := by rw [ei]; exact atI_nat (map_get g1)
    have f2 : atI vs2 (0 + (i : Int) + 1) = some (.ref a2) := by rw [ei]; exact y2
    refine ⟨_, rfl, _, rfl, _, rfl, t, _, _, _, rfl, rfl, ht, atI_row hi', _, _, rfl, rfl, ?_⟩
    refine ⟨_, rfl, _, rfl, p, _, _, _, rfl, rfl, x1, x2, _, rfl, _, _, rfl, rfl, a1, _, _, _, rfl, rfl, x3, f1, _, _, rfl, rfl, _, rfl, ?_⟩
    refine ite2 (fun h => ifT rfl ?_) (fun h => ?_)
    · have h' : v - r.getD i 0 > getM M c (i + 1) := of_decide_eq_true h
      have e : decide (fitP M c r v) = false := decide_eq_false fun z => by
        have := (z i hi').1
        omega
      rw [e] at q
      exact q
    have h' : ¬ v - r.getD i 0 > getM M c (i + 1) := of_decide_eq_false (Bool.eq_false_iff.mpr h)
    refine ⟨_, rfl, _, rfl, t, _, _, _, rfl, rfl, ht, atI_row hi', _, rfl, _, _, rfl, rfl, ?_⟩
    refine ⟨_, rfl, _, rfl, _, _, rfl, rfl, p, _, _, _, rfl, rfl, y1, f2, _, rfl, a2, _, _, _, rfl, rfl, y3, atI_nat (map_get g2), _, _, rfl, rfl, _, rfl, ?_⟩
    refine ite2 (fun h => ?_) (fun h => ?_)
    · have h2 : r.getD i 0 - v > getM M (i + 1) c := of_decide_eq_true h
      have e : decide (fitP M c r v) = false := decide_eq_false fun z => by
        have := (z i hi').2
        omega
      rw [e] at q
      exact q
    · have h2 : ¬ r.getD i 0 - v > getM M (i + 1) c := of_decide_eq_false (Bool.eq_false_iff.mpr h)
      refine ⟨rfl, ⟨_, rfl⟩, fun k hk => ?_⟩
      by_cases e : k = i
      · subst e
        exact ⟨by omega, by omega⟩
      · exact hA k (by omega)
  · rintro σ G ⟨rfl, ⟨b, rfl⟩, hA⟩
    rw [List.length_map, Int.toNat_natCast] at hA
    have e : decide (fitP M c r v) = true := decide_eq_true hA
    rw [e] at q
    exact q
theorem ok_l_points (T : Txt w K mg) : FnOk P w K mg base CX0 2 T.a_l_points T.d_l_points p_l_points (spPoints K) := by
  have g_l_fits := ok_l_fits (P := P) (w := w) (base := base) T
  refine T.F_l_points.ok sc_l_points (fun vs H Q E h => ?_) (fun cdv A outer s H vs Q E hr h => ?_)
  · obtain ⟨va, B, n, rfl, _⟩ := h
    rfl
  obtain ⟨va, B, n, rfl, hn, hB, zB, sm, q⟩ := h
  refine ⟨_, (pss_cons (ps_if (PW.pt (pw_or (pt_cmpR op_isN (pv 0) pe_non (nomark _)) (pw_or1 (pt_cmpR op_lt (pe_callB (cr_min rfl) rfl T.z_min bb_min (pa_cons (pe_lc (own := [("_law_i", 1)]) (g := gName 1) (tt := tYes) rfl sc_l_points.nd (pi_range1 rfl T.z_range (pa_cons (pe_callB call_len_seq rfl T.z_len PySem.boot_len (pa_cons (pv 0) pa_nil)) pa_nil)) (blkOk_by (own := [("_law_i", 1)]) (N := n_l_points) (sc := defScope s_l_points) (by decide +kernel)) (fun _ _ _ _ _ => (pg_name (i := 1) sc_l_points.nd rfl (Or.inl rfl))) (fun _ _ _ _ _ => pts_nil) (fun _ _ _ _ _ => (pe_ix (show IxR _ (rIxT K) from ix_tup) (pe_ix (show IxR _ (rIxT K) from ix_tup) (pv 0) (pv 1) (fun _ _ => rfl)) (pv 1) (fun _ _ => rfl)))) pa_nil)) pe_int (nomark _))))) (pss_one (ps_ret (pe_lst pa_nil))) pss_nil)
      (pss_cons (ps_set (i := 2) sc_l_points.nd rfl (Or.inl rfl) (pe_lst (pa_cons (pe_tup pa_nil) pa_nil)))
      (pss_cons (ps_for PassesOwn.never rfl (pi_range2 rfl T.z_range (pa_cons pe_int (pa_cons (pe_callB call_len_seq rfl T.z_len PySem.boot_len (pa_cons (pv 0) pa_nil)) pa_nil))) (pg_name (i := 3) sc_l_points.nd rfl (Or.inl rfl))
        (pss_cons (ps_set (i := 4) sc_l_points.nd rfl (Or.inl rfl) (pe_lst pa_nil))
      (pss_cons (ps_for PassesOwn.never rfl (pi_list (pv 2)) (pg_name (i := 5) sc_l_points.nd rfl (Or.inl rfl))
        (pss_one (ps_for PassesOwn.never rfl (pi_range2 rfl T.z_range (pa_cons (pe_op op_sub pe_int (pe_ix ix_tup (pe_ix ix_tup (pv 0) pe_int (fun _ _ => rfl)) (pv 3) (fun _ _ => rfl))) (pa_cons (pe_op op_add (pe_ix ix_tup (pe_ix ix_tup (pv 0) (pv 3) (fun _ _ => rfl)) pe_int (fun _ _ => rfl)) pe_int) pa_nil))) (pg_name (i := 6) sc_l_points.nd rfl (Or.inl rfl))
        (pss_one (ps_if (pt_val (pe_call g_l_fits (hr.mono (by first | decide | omega)) rfl T.m_l_fits T.F_l_fits.kp T.b_l_fits .nil pass0 (pa_cons (pv 0) (pa_cons (pv 5) (pa_cons (pv 3) (pa_cons (pv 6) pa_nil)))))) (pss_one (ps_expr (pe_bm PySem.F.plainAttrs_list PySem.F.slot_list_append PySem.F.type_list_append mt_append (pv 4) (pa_cons (pe_op op_catA (pv 5) (pe_tup (pa_cons (pv 6) pa_nil))) pa_nil)))) pss_nil)))))
      (pss_one (ps_set (i := 2) sc_l_points.nd rfl (Or.inl rfl) (pe_callTy call_list_of rfl T.z_list bt_list (pa_cons (pv 4) pa_nil)))))))
      (pss_one (ps_ret (pv 2)))))), ?_⟩
  cases B with
  | none =>
    obtain rfl : va = .non := hB
    refine ⟨_, rfl, rfl, _, rfl, ifT rfl (ifT rfl ?_)⟩
    exact ⟨(by show 0 ≤ sizeLine; decide), fun p hp => q p _ (Same.new hp _) ⟨[], upd_same, rfl, fun i a r e => by simp at e⟩⟩
  | some M =>
  obtain ⟨pa, rfl, hM⟩ := hB
  have sM := zB M rfl
  have S := sm M rfl
  refine ⟨_, rfl, rfl, _, rfl, ifF rfl ?_⟩
  obtain ⟨vs, hv, lv, _⟩ := hM.row
  have lv1 : vs.length = n + 1 := by rw [lv, sM.1]
  refine ⟨_, rfl, pa, _, rfl, .inr hv, _, rfl, by omega, by omega, fun D hD => ?_⟩
  rw [lv1]
  refine lc_it walk_range (LcP (Same H) (RInt (mkR (n + 1) fun i => getM M i i)) D) (lcp_start hD) (fun _ _ _ _ => trivial) ?_ ?_
  · rintro j x F F' hj PF ⟨rfl, rfl⟩
    have hj' : j < n + 1 := by omega
    obtain ⟨r, e, l, g⟩ := sM.at2 hj' hj'
    obtain ⟨vs1, a1, x1, x2, x3⟩ := (hM.same PF.1).getT e
    refine ⟨rfl, tyes ?_⟩
    refine ⟨_, rfl, _, rfl, pa, _, _, _, rfl, rfl, x1, by rw [Int.zero_add]; exact x2, _, rfl, a1, _, _, _, rfl, rfl, x3, by rw [Int.zero_add]; exact atI_nat (map_get g), ?_⟩
    exact lcp_same PF hD (Same.refl _) (lt_line (by omega)) RInt.mono ⟨_, mkR_at hj', rfl⟩
  intro F PF
  refine ⟨D, _, rfl, SqL.of (lcp_ints (K := K) PF (by rw [mkR_len]; omega)), by rw [mkR_len]; omega, fun m hm hx => ?_⟩
  obtain ⟨i0, hi0, em⟩ := List.mem_map.mp hm
  rw [List.mem_range] at hi0
  have sF := PF.1
  refine ⟨_, _, rfl, rfl, _, rfl, ite2 (fun h => ?_) (fun h => ?_)⟩
  · have h' : m < 0 := of_decide_eq_true h
    have e : ptsB n (some M) = [] := if_neg fun z => by
      have := z i0 hi0
      omega
    rw [e] at q
    exact ⟨(by show 0 ≤ sizeLine; decide), fun p hp => q p _ (sF.trans (Same.new hp _)) ⟨[], upd_same, rfl, fun i a r e => by simp at e⟩⟩
  have h' : ¬ m < 0 := of_decide_eq_false (Bool.eq_false_iff.mpr h)
  have eB : ptsB n (some M) = ptsL M n := if_pos fun i hi => by
    have := hx (getM M i i) (List.mem_map.mpr ⟨i, List.mem_range.mpr hi, rfl⟩)
    omega
  rw [eB] at q
  refine ⟨(by show 0 ≤ sizeLine; decide), fun t0 ht0 => ?_⟩
  refine ⟨(by show 1 ≤ sizeLine; decide), fun D0 hD0 => ?_⟩
  have s0 : Same H (upd (upd F t0 (.tup [])) D0 (.lst [.ref t0])) := sF.trans ((Same.new ht0 _).trans (Same.new hD0 _))
  have p0 : Pts K (upd (upd F t0 (.tup [])) D0 (.lst [.ref t0])) D0 (ptsL M 0) := ⟨[t0], upd_same, rfl, fun i a r e1 e2 => by
    cases i with
    | zero =>
      cases e1
      cases e2
      exact Same.tup (Same.new hD0 _) (SqT.of upd_same)
    | succ i => simp at e1⟩
  generalize upd (upd F t0 (.tup [])) D0 (.lst [.ref t0]) = H0 at s0 p0
  refine ⟨_, rfl, pa, _, rfl, .inr (Same.tup s0 hv), 1, _, rfl, ⟨by decide, by decide, by omega, by omega⟩, for_range (lo := 1) (fun i σ G => ∃ (D' : Addr) (c l x y : Option V), σ = [some (.ref pa), none, some (.ref D'), c, l, x, y] ∧ Same H G ∧ Pts K G D' (ptsL M i)) ⟨D0, none, none, none, none, rfl, s0, p0⟩ ?_ ?_⟩
  · rintro i σ G hi ⟨D', c, l, x, y, rfl, sG, pG⟩
    rw [lv1] at hi
    have hi' : i < n := by omega
    obtain ⟨as, k1, pa1⟩ := pG.pa
    refine ⟨(by show 0 ≤ sizeLine; decide), fun L hL => ?_⟩
    have nDL : D' ≠ L := ne_of_none k1 hL
    have sL : Same G (upd G L (.lst [])) := Same.new hL _
    have ec : (1 + (i : Int)) = ((i + 1 : Nat) : Int) := by omega
    obtain ⟨r0, e0, l0, g0⟩ := sM.at2 (i := 0) (j := i + 1) (by omega) (by omega)
    obtain ⟨rc, e1, l1, g1⟩ := sM.at2 (i := i + 1) (j := 0) (by omega) (by omega)
    obtain ⟨vs0, a0, x1, x2, x3⟩ := hM.getT e0
    obtain ⟨vs1, a1, y1, y2, y3⟩ := hM.getT e1
    have la := pa1.1
    have hbig : (stepL M (i + 1) (ptsL M i)).length ≤ 1000000 := S.pts (i + 1) (by omega)
    refine ⟨_, rfl, D', rfl, ⟨_, SqL.of (sL _ _ k1)⟩, ?_⟩
    refine for_it (walk_list (xs := as.map V.ref)) (fun j σ F => (∃ x y : Option V, σ = [some (.ref pa), none, some (.ref D'), some (.int (1 + (i : Int))), some (.ref L), x, y]) ∧ Same G F ∧ PtsN K F L (stepL M (i + 1) ((ptsL M i).take j))) ⟨⟨x, y, rfl⟩, sL, [], upd_same, rfl, fun i a r e => by simp at e⟩ (fun j σ F _ P => SqL.of (P.2.1 _ _ k1)) ?_ ?_
    · rintro j v σ F F' hj ⟨⟨x, y, rfl⟩, sF, pF⟩ ⟨rfl, ev⟩
      rw [List.length_map, la] at hj
      have ep : (ptsL M i)[j]? = some (ptsL M i)[j] := List.getElem?_eq_getElem hj
      have ip := mem_pts.mp (List.mem_of_getElem? ep)
      generalize (ptsL M i)[j] = pt at ep ip
      have ea : as[j]? = some (as[j]'(by omega)) := List.getElem?_eq_getElem _
      have htp := pa1.2 j _ _ ea ep
      have ev' : V.ref (as[j]'(by omega)) = v := by
        have := map_get (f := V.ref) ea
        rw [this] at ev
        exact Option.some.inj ev
      subst ev'
      generalize as[j]'(by omega) = tp at htp
      have sHF := sG.trans sF
      have lo := S.lo (i + 1) (by omega)
      have hi2 := S.hi (i + 1) (by omega)
      have f0 : atI (r0.map V.int) (1 + (i : Int)) = some (.int (getM M 0 (i + 1))) := by rw [ec]; exact atI_nat (map_get g0)
      have f1 : atI vs1 (1 + (i : Int)) = some (.ref a1) := by rw [ec]; exact y2
      refine ⟨_, rfl, pa, _, ((0 : Nat) : Int), _, rfl, rfl, Same.tup sHF x1, x2, _, rfl, a0, _, _, _, rfl, rfl, Same.tup sHF x3, f0, _, _, rfl, rfl, ?_⟩
      refine ⟨_, rfl, _, rfl, pa, _, _, _, rfl, rfl, Same.tup sHF y1, f1, a1, _, ((0 : Nat) : Int), _, rfl, rfl, Same.tup sHF y3, atI_nat (map_get g1), _, _, rfl, rfl, ?_⟩
      refine ⟨_, _, rfl, ⟨by omega, by omega, by omega, by omega⟩, for_range (lo := 0 - getM M 0 (i + 1)) (fun k σ F1 => (∃ y : Option V, σ = [some (.ref pa), none, some (.ref D'), some (.int (1 + (i : Int))), some (.ref L), some (.ref tp), y]) ∧ Same G F1 ∧ PtsN K F1 L (stepL M (i + 1) ((ptsL M i).take j) ++ stepV M (i + 1) pt ((valsL M (i + 1)).take k))) ⟨⟨y, rfl⟩, sF, ?_⟩ ?_ ?_⟩
      · rw [List.take_zero]
        show PtsN K _ L (_ ++ [])
        rw [List.append_nil]
        exact pF
      · rintro k σ F1 hk ⟨⟨y, rfl⟩, sF1, pF1⟩
        have evk := vals_get (M := M) (c := i + 1) hk
        have sHF1 := sG.trans sF1
        have htp1 := Same.tup sF1 htp
        refine ⟨_, rfl, _, rfl, _, rfl, _, rfl, pa, tp, M, pt, n, i + 1, 0 - getM M 0 (i + 1) + (k : Int), ?_, hn, hM.same sHF1, sM, by omega, by rw [ip.1]; omega, htp1, _, rfl, ?_⟩
        · show [V.ref pa, V.ref tp, V.int (1 + (i : Int)), _] = _
          rw [ec]
        have eS := stepV_succ (M := M) (c := i + 1) (p := pt) evk
        refine ite2 (fun h => ?_) (fun h => ?_)
        · have h' : fitP M (i + 1) pt (0 - getM M 0 (i + 1) + (k : Int)) := of_decide_eq_true h
          rw [if_pos h'] at eS
          obtain ⟨bs, b1, b2, b3⟩ := id pF1
          have lb : bs.length ≤ 1000000 := by
            rw [b2]
            exact Nat.le_trans (part_len ep) hbig
          refine ⟨_, rfl, .inl ⟨rfl, _, SqL.of b1⟩, ?_⟩
          refine ⟨_, rfl, _, rfl, (by show 1 ≤ sizeLine; decide), fun t1 ht1 => ?_⟩
          have nt1 : t1 ≠ L := fun z => by rw [z, b1] at ht1; cases ht1
          have sT := Same.new ht1 (.tup [V.int (0 - getM M 0 (i + 1) + (k : Int))])
          refine catV (Same.tup sT htp1) (SqT.of upd_same) (by rw [ip.1]; omega) fun z F2 s2 hz nz => ?_
          have nzL : z ≠ L := by
            rcases nz with h | h
            · exact fun e => by
                rw [e, sT _ _ b1] at h
                cases h
            · rw [h]; exact nt1
          have sF2 := sT.trans s2
          refine ⟨L, _, _, rfl, rfl, sF2 _ _ b1, ?_, ⟨_, rfl⟩, ?_, ?_⟩
          · rw [List.length_map, sizeLine_eq]
            omega
          · intro b o e
            rw [upd_ne (ne_of_none e hL)]
            exact sF2 _ _ (sF1 _ _ e)
          · rw [eS, ← List.append_assoc]
            exact PtsN.push b2 b3 (fun x xs h => Same.tup sF2 h) hz nzL
        · have h' : ¬ fitP M (i + 1) pt (0 - getM M 0 (i + 1) + (k : Int)) := of_decide_eq_false (Bool.eq_false_iff.mpr h)
          rw [if_neg h', List.append_nil] at eS
          refine ⟨⟨_, rfl⟩, sF1, ?_⟩
          rw [eS]
          exact pF1
      · rintro σ F1 ⟨⟨y, rfl⟩, sF1, pF1⟩
        rw [← vals_len, List.take_length, ← stepL_succ ep] at pF1
        exact ⟨⟨_, _, rfl⟩, sF1, pF1⟩
    · rintro σ F ⟨⟨x, y, rfl⟩, sF, pF⟩
      rw [List.length_map, la, List.take_length] at pF
      obtain ⟨bs, b1, b2, b3⟩ := pF
      refine ⟨_, rfl, L, _, rfl, .inl (SqL.of b1), fun D2 hD2 => ?_⟩
      exact ⟨D2, _, _, _, _, rfl, (sG.trans sF).trans (Same.new hD2 _), bs, upd_same, b2, fun i a r e1 e2 => Same.tup (Same.new hD2 _) (b3 i a r e1 e2).2⟩
  · rintro σ G ⟨D', c, l, x, y, rfl, sG, pG⟩
    have en : ((vs.length : Int) - 1).toNat = n := by omega
    rw [en] at pG
    exact ⟨_, rfl, q D' G sG pG⟩
end
/-! ### one bound put into a closed matrix -/
theorem bb_sum : bootBuiltins "sum" = some (.builtin "sum") := by decide +kernel
theorem bb_abs : bootBuiltins "abs" = some (.builtin "abs") := by decide +kernel
def cutF (D : Nat → Nat → Int) (i j : Nat) (c : Int) : Nat → Nat → Int := fun a b => if a = i ∧ b = j then min (D a b) c else D a b
theorem cutF_le {n i j : Nat} {c : Int} {C D : Nat → Nat → Int} (hi : i < n) (hj : j < n) : LeF n C (cutF D i j c) ↔ LeF n C D ∧ C i j ≤ c := by
  constructor
  · intro h
    refine ⟨fun a ha b hb => ?_, ?_⟩
    · have := h a ha b hb
      unfold cutF at this
      split at this
      · omega
      · exact this
    · have := h i hi j hj
      unfold cutF at this
      rw [if_pos ⟨rfl, rfl⟩] at this
      omega
  · rintro ⟨h1, h2⟩ a ha b hb
    unfold cutF
    have := h1 a ha b hb
    split
    · rename_i e
      obtain ⟨rfl, rfl⟩ := e
      omega
    · exact this
def bndF (R : Nat → Nat → Int) (i j : Nat) (c : Int) : Nat → Nat → Int := fun k m => min (R k m) (R k i + c + R j m)
def bndB (n i j : Nat) (c : Int) : Option (List (List Int)) → Option (List (List Int))
  | none => none
  | some M => if c + getM M j i < 0 then none else some (mkM n (bndF (getM M) i j c))
theorem bndB_neg {n i j : Nat} {c : Int} {M : List (List Int)} (h : c + getM M j i < 0) : bndB n i j c (some M) = none := if_pos h
theorem bndB_pos {n i j : Nat} {c : Int} {M : List (List Int)} (h : ¬ c + getM M j i < 0) : bndB n i j c (some M) = some (mkM n (bndF (getM M) i j c)) := if_neg h
theorem bndB_sz {n i j : Nat} {c : Int} {B : Option (List (List Int))} : BSz n (bndB n i j c B) := by
  intro M e
  cases B with
  | none => cases e
  | some R =>
    by_cases h : c + getM R j i < 0
    · rw [bndB_neg h] at e
      cases e
    · rw [bndB_pos h] at e
      cases e
      exact mkM_sz
theorem bnd_best {n i j : Nat} {c : Int} {D : Nat → Nat → Int} {B : Option (List (List Int))} (h : Best n D B) (hi : i < n) (hj : j < n) : Best n (cutF D i j c) (bndB n i j c B) := by
  cases B with
  | none => exact fun C hC hl => h C hC ((cutF_le hi hj).mp hl).1
  | some R =>
    obtain ⟨z, cl, le, gr⟩ := h
    by_cases neg : c + getM R j i < 0
    · rw [bndB_neg neg]
      intro C hC hl
      obtain ⟨h1, h2⟩ := (cutF_le hi hj).mp hl
      have a := gr C hC h1 j hj i hi
      have b := hC.t i hi i hi j hj
      have d := hC.d i hi
      omega
    · rw [bndB_pos neg]
      refine ⟨mkM_sz, ⟨fun k hk => ?_, fun k hk m hm l hl => ?_⟩, fun a ha b hb => ?_, fun C hC hl k hk m hm => ?_⟩
      · rw [mkM_get hk hk]
        unfold bndF
        have a := cl.d k hk
        have b := cl.t j hj i hi k hk
        omega
      · rw [mkM_get hk hm, mkM_get hk hl, mkM_get hl hm]
        unfold bndF
        have a1 := cl.t k hk m hm l hl
        have a2 := cl.t k hk i hi l hl
        have a3 := cl.t j hj m hm l hl
        have a4 := cl.t j hj i hi l hl
        omega
      · rw [mkM_get ha hb]
        have x := le a ha b hb
        unfold cutF bndF
        split
        · rename_i e
          obtain ⟨rfl, rfl⟩ := e
          have d1 := cl.d a ha
          have d2 := cl.d b hb
          omega
        · omega
      · rw [mkM_get hk hm]
        obtain ⟨h1, h2⟩ := (cutF_le hi hj).mp hl
        have g := gr C hC h1
        have a := g k hk m hm
        have b := g k hk i hi
        have d := g j hj m hm
        have e := hC.t k hk m hm i hi
        have f := hC.t i hi m hm j hj
        unfold bndF
        omega
def spBounded (K : PySem.W.Frag) : Sp := fun vs H Q _ => ∃ (va : V) (B : Option (List (List Int))) (n i j : Nat) (c : Int), vs = [va, .int i, .int j, .int c] ∧ n ≤ 900 ∧ BoxAt K H va B ∧ BSz n B ∧ i < n ∧ j < n ∧ ∀ v H', Same H H' → BoxAt K H' v (bndB n i j c B) → Q v H'
section
variable {P : Program} {w : World} {K : PySem.W.Frag} {mg : Str → Option Value} {base : Heap}
theorem ok_l_bounded (T : Txt w K mg) : FnOk P w K mg base CX0 1 T.a_l_bounded T.d_l_bounded p_l_bounded (spBounded K) := by
  refine T.F_l_bounded.ok sc_l_bounded (fun vs H Q E h => ?_) (fun cdv A outer s H vs Q E hr h => ?_)
  · obtain ⟨va, B, n, i, j, c, rfl, _⟩ := h
    rfl
  obtain ⟨va, B, n, i, j, c, rfl, hn, hB, zB, hi, hj, q⟩ := h
  refine ⟨_, (pss_cons (ps_if (PW.pt (pw_or (pt_cmpR op_isN (pv 0) pe_non (nomark _)) (pw_or1 (pt_cmpR op_lt (pe_op op_add (pv 3) (pe_ix ix_tup (pe_ix ix_tup (pv 0) (pv 2) (fun _ _ => rfl)) (pv 1) (fun _ _ => rfl))) pe_int (nomark _))))) (pss_one (ps_ret pe_non)) pss_nil)
      (pss_cons (ps_set (i := 4) sc_l_bounded.nd rfl (Or.inl rfl) (pe_lst pa_nil))
      (pss_cons (ps_for PassesOwn.never rfl (pi_range1 rfl T.z_range (pa_cons (pe_callB call_len_seq rfl T.z_len PySem.boot_len (pa_cons (pv 0) pa_nil)) pa_nil)) (pg_name (i := 5) sc_l_bounded.nd rfl (Or.inr rfl))
        (pss_cons (ps_set (i := 6) sc_l_bounded.nd rfl (Or.inr rfl) (pe_op op_add (pe_ix ix_tup (pe_ix ix_tup (pv 0) (pv 5) (fun _ _ => rfl)) (pv 1) (fun _ _ => rfl)) (pv 3)))
      (pss_one (ps_expr (pe_bm PySem.F.plainAttrs_list PySem.F.slot_list_append PySem.F.type_list_append mt_append (pv 4) (pa_cons (pe_callTy call_tuple_of rfl T.z_tuple bt_tuple (pa_cons (pe_lc (own := [("_law_m", 7)]) (g := gName 7) (tt := tYes) rfl sc_l_bounded.nd (pi_range1 rfl T.z_range (pa_cons (pe_callB call_len_seq rfl T.z_len PySem.boot_len (pa_cons (pv 0) pa_nil)) pa_nil)) (blkOk_by (own := [("_law_m", 7)]) (N := n_l_bounded) (sc := defScope s_l_bounded) (by decide +kernel)) (fun _ _ _ _ _ => (pg_name (i := 7) sc_l_bounded.nd rfl (Or.inl rfl))) (fun _ _ _ _ _ => pts_nil) (fun _ _ _ _ _ => (pe_callB (call_min2 rfl) rfl T.z_min bb_min (pa_cons (pe_ix (show IxR _ (rIxT K) from ix_tup) (pe_ix (show IxR _ (rIxT K) from ix_tup) (pv 0) (pv 5) (fun _ _ => rfl)) (pv 7) (fun _ _ => rfl)) (pa_cons (pe_op op_add (pv 6) (pe_ix (show IxR _ (rIxT K) from ix_tup) (pe_ix (show IxR _ (rIxT K) from ix_tup) (pv 0) (pv 2) (fun _ _ => rfl)) (pv 7) (fun _ _ => rfl))) pa_nil))))) pa_nil)) pa_nil))))))
      (pss_one (ps_ret (pe_callTy call_tuple_of rfl T.z_tuple bt_tuple (pa_cons (pv 4) pa_nil))))))), ?_⟩
  cases B with
  | none =>
    obtain rfl : va = .non := hB
    refine ⟨_, rfl, rfl, _, rfl, ifT rfl (ifT rfl ?_)⟩
    exact q _ _ (Same.refl _) rfl
  | some M =>
  obtain ⟨pa, rfl, hM⟩ := hB
  have sM := zB M rfl
  refine ⟨_, rfl, rfl, _, rfl, ifF rfl ?_⟩
  obtain ⟨vs, hv, lv, _⟩ := hM.row
  have lv1 : vs.length = n := by rw [lv, sM.1]
  obtain ⟨rj, ej, lj, gj⟩ := sM.at2 hj hi
  obtain ⟨vsj, aj, x1, x2, x3⟩ := hM.getT ej
  refine ⟨_, rfl, _, rfl, _, rfl, pa, _, _, _, rfl, rfl, x1, x2, _, rfl, aj, _, _, _, rfl, rfl, x3, atI_nat (map_get gj), _, _, rfl, rfl, _, _, rfl, rfl, _, rfl, ite2 (fun h => ?_) (fun h => ?_)⟩
  · have h' : c + getM M j i < 0 := of_decide_eq_true h
    exact q _ _ (Same.refl _) (by rw [bndB_neg h']; rfl)
  have h' : ¬ c + getM M j i < 0 := of_decide_eq_false (Bool.eq_false_iff.mpr h)
  have eB : bndB n i j c (some M) = some (mkM n (bndF (getM M) i j c)) := bndB_pos h'
  rw [eB] at q
  refine ⟨(by show 0 ≤ sizeLine; decide), fun pr hpr => ?_⟩
  have s0 : Same H (upd H pr (.lst [])) := Same.new hpr _
  refine ⟨_, rfl, pa, _, rfl, .inr (Same.tup s0 hv), _, rfl, by omega, by omega, for_range (lo := 0) (fun k σ G => (∃ x y z : Option V, σ = [some (.ref pa), some (.int i), some (.int j), some (.int c), some (.ref pr), x, y, z]) ∧ LcP (Same H) (RRow K true (mkM n (bndF (getM M) i j c)) pr) pr k G) ⟨⟨none, none, none, rfl⟩, lcp_start hpr⟩ ?_ ?_⟩
  · rintro k σ G hk ⟨⟨x, y, z, rfl⟩, P⟩
    rw [lv1] at hk
    have hk' : k < n := by omega
    obtain ⟨rk, ek, lk, gk⟩ := sM.at2 hk' hi
    obtain ⟨vsk, ak, y1, y2, y3⟩ := hM.getT ek
    have ek0 : atI vsk (0 + (k : Int)) = some (.ref ak) := by rw [Int.zero_add]; exact y2
    refine ⟨_, rfl, _, rfl, pa, _, _, _, rfl, rfl, Same.tup P.1 y1, ek0, _, rfl, ak, _, _, _, rfl, rfl, Same.tup P.1 y3, atI_nat (map_get gk), _, rfl, _, _, rfl, rfl, ?_⟩
    obtain ⟨acc, a1, a2⟩ := P.acc
    refine ⟨_, rfl, .inl ⟨rfl, _, SqL.of a1⟩, ?_⟩
    refine ⟨_, rfl, pa, _, rfl, .inr (Same.tup P.1 hv), _, rfl, by omega, by omega, fun D hD => ?_⟩
    rw [lv1]
    refine lc_it walk_range (LcP (Same G) (RInt (mkR n (bndF (getM M) i j c k))) D) (lcp_start hD) (fun _ _ _ _ => trivial) ?_ ?_
    · rintro m x F F' hm PF ⟨rfl, rfl⟩
      have hm' : m < n := by omega
      have sF := P.1.trans PF.1
      refine ⟨rfl, tyes ?_⟩
      have gkm : rk[m]? = some (getM M k m) := by
        obtain ⟨r2, e2, _, g2⟩ := sM.at2 hk' hm'
        rw [ek] at e2
        cases e2
        exact g2
      have gjm : rj[m]? = some (getM M j m) := by
        obtain ⟨r2, e2, _, g2⟩ := sM.at2 hj hm'
        rw [ej] at e2
        cases e2
        exact g2
      have i1 : atI (rk.map V.int) (0 + (m : Int)) = some (.int (getM M k m)) := by rw [Int.zero_add]; exact atI_nat (map_get gkm)
      have i2 : atI (rj.map V.int) (0 + (m : Int)) = some (.int (getM M j m)) := by rw [Int.zero_add]; exact atI_nat (map_get gjm)
      refine ⟨_, rfl, _, rfl, pa, _, _, _, rfl, rfl, Same.tup sF y1, ek0, _, rfl, ak, _, _, _, rfl, rfl, Same.tup sF y3, i1, ?_⟩
      refine ⟨_, rfl, _, rfl, _, rfl, pa, _, _, _, rfl, rfl, Same.tup sF x1, x2, _, rfl, aj, _, _, _, rfl, rfl, Same.tup sF x3, i2, _, _, rfl, rfl, _, _, rfl, ?_⟩
      refine lcp_same PF hD (Same.refl _) (lt_line (by omega)) RInt.mono ⟨_, mkR_at hm', ?_⟩
      unfold bndF
      congr 1
      split <;> omega
    · intro F PF
      refine ⟨D, _, rfl, .inl ⟨SqL.of (lcp_ints (K := K) PF (by rw [mkR_len]; omega)), fun t ht => ?_⟩⟩
      have a1F := PF.1 _ _ a1
      have tn : t ≠ pr := fun z => by
        rw [← z, ht] at a1F
        cases a1F
      refine ⟨pr, acc, _, rfl, rfl, by rw [upd_ne tn.symm]; exact a1F, lt_line (by omega), ⟨_, _, _, rfl⟩, ?_⟩
      exact lcp_put P a1 hpr (PF.1.trans (Same.new ht _)) (lt_line (by omega)) RRow.mono ⟨t, _, rfl, mkM_at hk', tn, Sq.upd_sameT⟩
  · rintro σ G ⟨⟨x, y, z, rfl⟩, P⟩
    obtain ⟨as, h1, h2, h3⟩ := lcp_rows P (by rw [lv1, mkM_sz.1]; omega)
    refine ⟨_, rfl, pr, _, rfl, .inl ⟨h1, fun l hl => ?_⟩⟩
    exact q (.ref l) _ (P.1.trans (Same.new hl _)) ⟨l, rfl, as, Sq.upd_sameT, h2, fun i a r e1 e2 => Sq.same (Same.new hl _) (h3 i a r e1 e2)⟩
end
/-! ### a closed matrix by all bounds, one after the other -/
def absI (x : Int) : Int := if x < 0 then -x else x
theorem abs_sum : ∀ {xs : List Int}, 0 ≤ (xs.map absI).sum ∧ ∀ x ∈ xs, absI x ≤ (xs.map absI).sum
  | [] => ⟨by simp, fun x h => by simp at h⟩
  | y :: ys => by
    obtain ⟨h1, h2⟩ := abs_sum (xs := ys)
    have hy : 0 ≤ absI y := by unfold absI; split <;> omega
    rw [List.map_cons, List.sum_cons]
    refine ⟨by omega, fun x hx => ?_⟩
    rcases List.mem_cons.mp hx with rfl | h
    · omega
    · have := h2 x h
      omega
theorem le_abs (x : Int) : x ≤ absI x := by unfold absI; split <;> omega
theorem mkR_rep {n : Nat} {c : Int} : (mkR n fun _ => c) = List.replicate n c := by
  refine List.eq_replicate_iff.mpr ⟨mkR_len, fun b hb => ?_⟩
  obtain ⟨_, _, e⟩ := List.mem_map.mp hb
  exact e.symm
theorem rep_row {n : Nat} {c : Int} : (List.replicate n [V.int c]).flatten = (mkR n fun _ => c).map V.int := by
  rw [mkR_rep, List.map_replicate]
  induction n with
  | zero => rfl
  | succ n ih => rw [List.replicate_succ, List.replicate_succ, List.flatten_cons, ih]; rfl
theorem set_row {n i : Nat} {f : Nat → Int} {c : Int} : ((mkR n f).map V.int).set i (.int c) = (mkR n fun b => if i = b then c else f b).map V.int := by
  rw [← List.map_set]
  congr 1
  refine List.ext_getElem? fun b => ?_
  by_cases hb : b < n
  · rw [List.getElem?_set, mkR_at hb, mkR_at hb, mkR_len]
    by_cases e : i = b
    · rw [if_pos e, if_pos e, if_pos (by omega)]
    · rw [if_neg e, if_neg e]
  · rw [List.getElem?_eq_none (by rw [List.length_set, mkR_len]; omega), List.getElem?_eq_none (by rw [mkR_len]; omega)]
def farF (far : Int) : Nat → Nat → Int := fun a b => if a = b then 0 else far
theorem far_clo {n : Nat} {far : Int} (h : 0 ≤ far) : Clo n (getM (mkM n (farF far))) := by
  refine ⟨fun i hi => by rw [mkM_get hi hi]; exact if_pos rfl, fun i hi j hj k hk => ?_⟩
  rw [mkM_get hi hj, mkM_get hi hk, mkM_get hk hj]
  unfold farF
  repeat' split
  all_goals omega
/-- what is bounded ahead of row i, column j -/
def Prc (n : Nat) (M : List (List Int)) (far : Int) (i j : Nat) (C : Nat → Nat → Int) : Prop :=
  (∀ a < n, ∀ b < n, a ≠ b → C a b ≤ far) ∧ ∀ a < n, ∀ b < n, a ≠ b → (a < i ∨ (a = i ∧ b < j)) → C a b ≤ getM M a b
theorem prc_start {n : Nat} {M : List (List Int)} {far : Int} {C : Nat → Nat → Int} (hC : Clo n C) : LeF n C (getM (mkM n (farF far))) ↔ Prc n M far 0 0 C := by
  constructor
  · intro h
    refine ⟨fun a ha b hb ne => ?_, fun a ha b hb ne h => by omega⟩
    have := h a ha b hb
    rw [mkM_get ha hb] at this
    unfold farF at this
    rwa [if_neg ne] at this
  · rintro ⟨h, _⟩ a ha b hb
    rw [mkM_get ha hb]
    unfold farF
    split
    · rename_i e
      subst e
      have := hC.d a ha
      omega
    · rename_i ne
      exact h a ha b hb ne
theorem prc_step {n i j : Nat} {M : List (List Int)} {far : Int} {C : Nat → Nat → Int} (hi : i < n) (hj : j < n) (ne : i ≠ j) : Prc n M far i j C ∧ C i j ≤ getM M i j ↔ Prc n M far i (j + 1) C := by
  constructor
  · rintro ⟨⟨h1, h2⟩, h3⟩
    refine ⟨h1, fun a ha b hb nab h => ?_⟩
    by_cases e : a = i ∧ b = j
    · obtain ⟨rfl, rfl⟩ := e
      exact h3
    · exact h2 a ha b hb nab (by omega)
  · rintro ⟨h1, h2⟩
    exact ⟨⟨h1, fun a ha b hb nab h => h2 a ha b hb nab (by omega)⟩, h2 i hi j hj ne (by omega)⟩
theorem prc_skip {n i : Nat} {M : List (List Int)} {far : Int} {C : Nat → Nat → Int} : Prc n M far i i C ↔ Prc n M far i (i + 1) C :=
  ⟨fun ⟨h1, h2⟩ => ⟨h1, fun a ha b hb nab h => h2 a ha b hb nab (by omega)⟩, fun ⟨h1, h2⟩ => ⟨h1, fun a ha b hb nab h => h2 a ha b hb nab (by omega)⟩⟩
theorem prc_row {n i : Nat} {M : List (List Int)} {far : Int} {C : Nat → Nat → Int} : Prc n M far i n C ↔ Prc n M far (i + 1) 0 C :=
  ⟨fun ⟨h1, h2⟩ => ⟨h1, fun a ha b hb nab h => h2 a ha b hb nab (by omega)⟩, fun ⟨h1, h2⟩ => ⟨h1, fun a ha b hb nab h => h2 a ha b hb nab (by omega)⟩⟩
theorem prc_end {n : Nat} {M : List (List Int)} {far : Int} {C : Nat → Nat → Int} (hC : Clo n C) (hd : ∀ a < n, 0 ≤ getM M a a) (hf : ∀ a < n, ∀ b < n, getM M a b ≤ far) : Prc n M far n 0 C ↔ LeF n C (getM M) := by
  constructor
  · rintro ⟨_, h2⟩ a ha b hb
    by_cases e : a = b
    · subst e
      have := hC.d a ha
      have := hd a ha
      omega
    · exact h2 a ha b hb e (by omega)
  · intro h
    refine ⟨fun a ha b hb _ => Int.le_trans (h a ha b hb) (hf a ha b hb), fun a ha b hb _ _ => h a ha b hb⟩
def spClosed (K : PySem.W.Frag) : Sp := fun vs H Q _ => ∃ (p : Addr) (M : List (List Int)) (n : Nat), vs = [.ref p] ∧ n ≤ 900 ∧ Mx true true K H p M ∧ Sz n M ∧ ∀ v H' B, Same H H' → BoxAt K H' v B → Best n (getM M) B → Q v H'
section
variable {P : Program} {w : World} {K : PySem.W.Frag} {mg : Str → Option Value} {base : Heap}
theorem ok_l_closed (T : Txt w K mg) : FnOk P w K mg base CX0 2 T.a_l_closed T.d_l_closed p_l_closed (spClosed K) := by
  have g_l_bounded := ok_l_bounded (P := P) (w := w) (base := base) T
  refine T.F_l_closed.ok sc_l_closed (fun vs H Q E h => ?_) (fun cdv A outer s H vs Q E hr h => ?_)
  · obtain ⟨p, M, n, rfl, _⟩ := h
    rfl
  obtain ⟨p, M, n, rfl, hn, hM, sM, q⟩ := h
  refine ⟨_, (pss_cons (ps_set (i := 1) sc_l_closed.nd rfl (Or.inl rfl) (pe_callB call_len_seq rfl T.z_len PySem.boot_len (pa_cons (pv 0) pa_nil)))
      (pss_cons (ps_set (i := 2) sc_l_closed.nd rfl (Or.inl rfl) pe_int)
      (pss_cons (ps_for PassesOwn.never rfl (pi_tup (pv 0)) (pg_name (i := 3) sc_l_closed.nd rfl (Or.inl rfl))
        (pss_one (ps_set (i := 2) sc_l_closed.nd rfl (Or.inl rfl) (pe_op op_add (pv 2) (pe_callB (cr_sum rfl) rfl T.z_sum bb_sum (pa_cons (pe_lc (own := [("_law_entry", 4)]) (g := gName 4) (tt := tYes) rfl sc_l_closed.nd (pi_tup (pv 3)) (blkOk_by (own := [("_law_entry", 4)]) (N := n_l_closed) (sc := defScope s_l_closed) (by decide +kernel)) (fun _ _ _ _ _ => (pg_name (i := 4) sc_l_closed.nd rfl (Or.inl rfl))) (fun _ _ _ _ _ => pts_nil) (fun _ _ _ _ _ => (pe_callB call_abs rfl T.z_abs bb_abs (pa_cons (pv 4) pa_nil)))) pa_nil))))))
      (pss_cons (ps_set (i := 5) sc_l_closed.nd rfl (Or.inl rfl) (pe_lst pa_nil))
      (pss_cons (ps_for PassesOwn.never rfl (pi_range1 rfl T.z_range (pa_cons (pv 1) pa_nil)) (pg_name (i := 6) sc_l_closed.nd rfl (Or.inl rfl))
        (pss_cons (ps_set (i := 3) sc_l_closed.nd rfl (Or.inl rfl) (pe_op op_rep (pe_lst (pa_cons (pv 2) pa_nil)) (pv 1)))
      (pss_cons (ps_asg pe_int (pg_sub (pv 3) (pv 6) set_list))
      (pss_one (ps_expr (pe_bm PySem.F.plainAttrs_list PySem.F.slot_list_append PySem.F.type_list_append mt_append (pv 5) (pa_cons (pe_callTy call_tuple_of rfl T.z_tuple bt_tuple (pa_cons (pv 3) pa_nil)) pa_nil)))))))
      (pss_cons (ps_set (i := 7) sc_l_closed.nd rfl (Or.inl rfl) (pe_callTy call_tuple_of rfl T.z_tuple bt_tuple (pa_cons (pv 5) pa_nil)))
      (pss_cons (ps_for PassesOwn.never rfl (pi_range1 rfl T.z_range (pa_cons (pv 1) pa_nil)) (pg_name (i := 6) sc_l_closed.nd rfl (Or.inl rfl))
        (pss_cons (ps_if (pt_cmpR op_lt (pe_ix ix_tup (pe_ix ix_tup (pv 0) (pv 6) (fun _ _ => rfl)) (pv 6) (fun _ _ => rfl)) pe_int (nomark _)) (pss_one (ps_ret pe_non)) pss_nil)
      (pss_one (ps_for PassesOwn.never rfl (pi_range1 rfl T.z_range (pa_cons (pv 1) pa_nil)) (pg_name (i := 8) sc_l_closed.nd rfl (Or.inl rfl))
        (pss_one (ps_if (pt_cmpR op_ne (pv 6) (pv 8) (nomark _)) (pss_one (ps_set (i := 7) sc_l_closed.nd rfl (Or.inl rfl) (pe_call g_l_bounded (hr.mono (by first | decide | omega)) rfl T.m_l_bounded T.F_l_bounded.kp T.b_l_bounded .nil pass0 (pa_cons (pv 7) (pa_cons (pv 6) (pa_cons (pv 8) (pa_cons (pe_ix ix_tup (pe_ix ix_tup (pv 0) (pv 6) (fun _ _ => rfl)) (pv 8) (fun _ _ => rfl)) pa_nil))))))) pss_nil))))))
      (pss_one (ps_ret (pv 7)))))))))), ?_⟩
  obtain ⟨vs, hv, lv, hrow⟩ := hM.row
  have lv1 : vs.length = n := by rw [lv, sM.1]
  refine ⟨_, rfl, p, _, rfl, .inr hv, ?_⟩
  rw [lv1]
  refine ⟨_, rfl, p, rfl, ⟨vs, hv⟩, ?_⟩
  refine for_it (walk_tup (xs := vs)) (fun i σ G => (∃ (far : Int) (x : Option V), σ = [some (.ref p), some (.int n), some (.int far), x, none, none, none, none, none] ∧ 0 ≤ far ∧ ∀ a < i, ∀ b < n, getM M a b ≤ far) ∧ Same H G) ⟨⟨1, none, rfl, by omega, fun a h => by omega⟩, Same.refl _⟩ (fun i σ G _ P => Same.tup P.2 hv) ?_ ?_
  · rintro i x σ G G' hi ⟨⟨far, y, rfl, f0, f1⟩, sG⟩ ⟨rfl, ex⟩
    rw [lv1] at hi
    obtain ⟨a, r, rfl, er, ha⟩ := hrow i x ex
    have lr := sM.get er
    refine ⟨_, rfl, _, rfl, a, rfl, ⟨_, Same.tup sG ha⟩, fun D hD => ?_⟩
    refine lc_it (walk_tup (xs := r.map V.int)) (LcP (Same G') (RInt (r.map absI)) D) (lcp_start hD) (fun j F _ P => Same.tup (sG.trans P.1) ha) ?_ ?_
    · rintro j x F F' hj PF ⟨rfl, ex⟩
      obtain ⟨k, fk, rfl⟩ := get_int ex
      rw [List.length_map] at hj
      refine ⟨rfl, tyes ?_⟩
      refine ⟨_, rfl, _, rfl, ?_⟩
      exact lcp_same PF hD (Same.refl _) (lt_line (by omega)) RInt.mono ⟨_, map_get fk, rfl⟩
    · intro F PF
      refine ⟨D, _, rfl, SqL.of (lcp_ints (K := K) PF (by rw [List.length_map, List.length_map])), _, _, rfl, rfl, ?_⟩
      obtain ⟨z1, z2⟩ := abs_sum (xs := r)
      refine ⟨⟨_, _, rfl, by omega, fun a' ha' b hb => ?_⟩, sG.trans PF.1⟩
      by_cases e : a' = i
      · subst e
        have hb' : b < r.length := by omega
        have eb : r[b]? = some (r[b]) := List.getElem?_eq_getElem hb'
        rw [getM_of er eb]
        have h1 := z2 _ (List.getElem_mem hb')
        have h2 := le_abs r[b]
        omega
      · have := f1 a' (by omega) b hb
        omega
  rintro σ G ⟨⟨far, y, rfl, f0, f1⟩, sG⟩
  rw [lv1] at f1
  -- the rows of far bounds
  refine ⟨(by show 0 ≤ sizeLine; decide), fun pr hpr => ?_⟩
  refine ⟨_, rfl, _, rfl, by omega, by omega, for_range (lo := 0) (fun i σ F => (∃ x y : Option V, σ = [some (.ref p), some (.int n), some (.int far), x, none, some (.ref pr), y, none, none]) ∧ LcP (Same G) (RRow K true (mkM n (farF far)) pr) pr i F) ⟨⟨_, none, rfl⟩, lcp_start hpr⟩ ?_ ?_⟩
  · rintro i σ F hi ⟨⟨x, y, rfl⟩, P⟩
    have hi' : i < n := by omega
    obtain ⟨acc, a1, a2⟩ := P.acc
    refine ⟨_, rfl, (by show 1 ≤ sizeLine; decide), fun l hl => ?_⟩
    refine ⟨_, rfl, l, _, _, rfl, rfl, upd_same, by omega, by omega, ?_, fun l2 hl2 => ?_⟩
    · rw [Int.toNat_natCast, sizeLine_eq]
      show 1 * n ≤ _
      omega
    rw [Int.toNat_natCast, rep_row]
    have s1 := (Same.new hl (.lst [V.int far])).trans (Same.new hl2 (.lst ((mkR n fun _ => far).map V.int)))
    have b1 := s1 _ _ a1
    have n2 : pr ≠ l2 := ne_of_none ((Same.new hl (.lst [V.int far])) _ _ a1) hl2
    refine ⟨_, rfl, _, rfl, l2, _, _, _, rfl, rfl, upd_same, ixN_int (by omega) (by rw [List.length_map, mkR_len]; omega), ?_⟩
    have ei : (0 + (i : Int)).toNat = i := by omega
    rw [ei, set_row, upd_upd]
    refine ⟨_, rfl, .inl ⟨rfl, _, SqL.of (by rw [upd_ne n2, upd_ne (ne_of_none a1 hl)]; exact a1)⟩, ?_⟩
    refine ⟨_, rfl, l2, _, rfl, .inl ⟨SqL.of upd_same, fun t ht => ?_⟩⟩
    have s2 : Same F (upd (upd (upd F l (.lst [V.int far])) l2 (.lst ((mkR n fun b => if i = b then 0 else far).map V.int))) t (.tup ((mkR n fun b => if i = b then 0 else far).map V.int))) :=
      ((Same.new hl _).trans (Same.new hl2 _)).trans (Same.new ht _)
    have tn : t ≠ pr := fun z => by
      have e : upd (upd F l (.lst [V.int far])) l2 (.lst ((mkR n fun b => if i = b then 0 else far).map V.int)) pr = some (.lst acc) := by rw [upd_ne n2, upd_ne (ne_of_none a1 hl)]; exact a1
      rw [← z, ht] at e
      cases e
    refine ⟨pr, acc, _, rfl, rfl, s2 _ _ a1, lt_line (by omega), ⟨_, _, rfl⟩, ?_⟩
    exact lcp_put P a1 hpr s2 (lt_line (by omega)) RRow.mono ⟨t, _, rfl, mkM_at hi', tn, Sq.upd_sameT⟩
  rintro σ F ⟨⟨x, y, rfl⟩, P⟩
  obtain ⟨as, h1, h2, h3⟩ := lcp_rows P (by rw [mkM_sz.1]; omega)
  refine ⟨_, rfl, pr, _, rfl, .inl ⟨h1, fun l hl => ?_⟩⟩
  have s1 : Same H (upd F l (.tup (as.map V.ref))) := (sG.trans P.1).trans (Same.new hl _)
  have m1 : Mx true true K (upd F l (.tup (as.map V.ref))) l (mkM n (farF far)) := ⟨as, Sq.upd_sameT, h2, fun i a r e1 e2 => Sq.same (Same.new hl _) (h3 i a r e1 e2)⟩
  generalize upd F l (.tup (as.map V.ref)) = H1 at s1 m1
  refine ⟨_, rfl, _, rfl, by omega, by omega, for_range (lo := 0) (fun i σ G => ∃ (x y z : Option V) (vb : V) (D : Nat → Nat → Int) (B : Option (List (List Int))), σ = [some (.ref p), some (.int n), some (.int far), x, none, some (.ref pr), y, some vb, z] ∧ Same H G ∧ BoxAt K G vb B ∧ Best n D B ∧ (∀ C, Clo n C → (LeF n C D ↔ Prc n M far i 0 C)) ∧ ∀ a < i, 0 ≤ getM M a a)
    ⟨_, _, none, _, _, some (mkM n (farF far)), rfl, s1, ⟨l, rfl, m1⟩, Best.self mkM_sz (far_clo f0), fun C hC => prc_start hC, fun a h => by omega⟩ ?_ ?_⟩
  · rintro i σ G hi ⟨x, y, z, vb, D, B, rfl, sG, bB, bst, iff, dg⟩
    have hi' : i < n := by omega
    obtain ⟨r, er, lr⟩ := sM.at hi'
    obtain ⟨vs1, a, x1, x2, x3⟩ := hM.getT er
    have i2 : atI vs1 (0 + (i : Int)) = some (.ref a) := by rw [Int.zero_add]; exact x2
    have gi : r[i]? = some (getM M i i) := by
      have := List.getElem?_eq_getElem (show i < r.length by omega)
      rw [this, ← getM_of er this]
    refine ⟨_, rfl, _, rfl, p, _, _, _, rfl, rfl, Same.tup sG x1, i2, _, rfl, a, _, _, _, rfl, rfl, Same.tup sG x3, by rw [Int.zero_add]; exact atI_nat (map_get gi), _, _, rfl, rfl, _, rfl, ite2 (fun h => ?_) (fun h => ?_)⟩
    · have h' : getM M i i < 0 := of_decide_eq_true h
      exact q .non G none sG rfl (best_neg hi' h')
    have h' : ¬ getM M i i < 0 := of_decide_eq_false (Bool.eq_false_iff.mpr h)
    refine ⟨_, rfl, _, rfl, by omega, by omega, for_range (lo := 0) (fun j σ G => ∃ (x z : Option V) (vb : V) (D : Nat → Nat → Int) (B : Option (List (List Int))), σ = [some (.ref p), some (.int n), some (.int far), x, none, some (.ref pr), some (.int (0 + (i : Int))), some vb, z] ∧ Same H G ∧ BoxAt K G vb B ∧ Best n D B ∧ (∀ C, Clo n C → (LeF n C D ↔ Prc n M far i j C)))
      ⟨_, _, _, _, _, rfl, sG, bB, bst, iff⟩ ?_ ?_⟩
    · rintro j σ G hj ⟨x, z, vb, D, B, rfl, sG, bB, bst, iff⟩
      have hj' : j < n := by omega
      have gj : r[j]? = some (getM M i j) := by
        have := List.getElem?_eq_getElem (show j < r.length by omega)
        rw [this, ← getM_of er this]
      refine ⟨_, rfl, _, rfl, rfl, _, rfl, ite2 (fun h => ?_) (fun h => ?_)⟩
      · have ne : i ≠ j := fun z => by
          subst z
          simp at h
        refine ⟨_, rfl, _, rfl, _, rfl, _, rfl, _, rfl, p, _, _, _, rfl, rfl, Same.tup sG x1, i2, _, rfl, a, _, _, _, rfl, rfl, Same.tup sG x3, by rw [Int.zero_add]; exact atI_nat (map_get gj), ?_⟩
        refine ⟨vb, B, n, i, j, getM M i j, ?_, hn, bB, bst.sz, hi', hj', fun v G2 s2 b2 => ?_⟩
        · show [vb, V.int (0 + (i : Int)), V.int (0 + (j : Int)), _] = _
          rw [Int.zero_add, Int.zero_add]
        refine ⟨_, _, _, _, _, rfl, sG.trans s2, b2, bnd_best bst hi' hj', fun C hC => ?_⟩
        rw [cutF_le hi' hj', iff C hC, prc_step hi' hj' ne]
      · have e : i = j := by
          refine Classical.byContradiction fun ne => h ?_
          simp
          omega
        subst e
        exact ⟨_, _, _, _, _, rfl, sG, bB, bst, fun C hC => (iff C hC).trans prc_skip⟩
    · rintro σ G ⟨x, z, vb, D, B, rfl, sG, bB, bst, iff⟩
      rw [Int.toNat_natCast] at iff
      exact ⟨_, _, _, _, _, _, rfl, sG, bB, bst, fun C hC => (iff C hC).trans prc_row, split_lt.mpr ⟨dg, by omega⟩⟩
  · rintro σ G ⟨x, y, z, vb, D, B, rfl, sG, bB, bst, iff, dg⟩
    rw [Int.toNat_natCast] at iff dg
    exact ⟨_, rfl, q vb G B sG bB (bst.congr fun C hC => (iff C hC).trans (prc_end hC dg f1))⟩
end
/-! ### rows that are written: lists of numbers in a list -/
def RowsL (H : Hp) (as : List Addr) (Rs : List (List Int)) : Prop := as.length = Rs.length ∧ ∀ (i : Nat) (x : Addr) (r : List Int), as[i]? = some x → Rs[i]? = some r → H x = some (.lst (r.map V.int))
theorem RowsL.keep {H H' : Hp} {as : List Addr} {Rs : List (List Int)} (h : RowsL H as Rs) (k : ∀ x ∈ as, ∀ o, H x = some o → H' x = some o) : RowsL H' as Rs :=
  ⟨h.1, fun i x r e1 e2 => k x (List.mem_of_getElem? e1) _ (h.2 i x r e1 e2)⟩
theorem RowsL.at {H : Hp} {as : List Addr} {Rs : List (List Int)} {i : Nat} (h : RowsL H as Rs) (hi : i < Rs.length) : ∃ x r, as[i]? = some x ∧ Rs[i]? = some r ∧ H x = some (.lst (r.map V.int)) := by
  have ea : as[i]? = some (as[i]'(by rw [h.1]; exact hi)) := List.getElem?_eq_getElem _
  have er : Rs[i]? = some Rs[i] := List.getElem?_eq_getElem hi
  exact ⟨_, _, ea, er, h.2 i _ _ ea er⟩
theorem nodup_ix {α : Type} {as : List α} (nd : as.Nodup) {i j : Nat} {x : α} (h1 : as[i]? = some x) (h2 : as[j]? = some x) : i = j := by
  obtain ⟨l1, q1⟩ := List.getElem?_eq_some_iff.mp h1
  obtain ⟨l2, q2⟩ := List.getElem?_eq_some_iff.mp h2
  have p := List.pairwise_iff_getElem.mp nd
  rcases Nat.lt_trichotomy i j with h | h | h
  · exact absurd (q1.trans q2.symm) (p i j l1 l2 h)
  · exact h
  · exact absurd (q2.trans q1.symm) (p j i l2 l1 h)
theorem RowsL.put {H : Hp} {as : List Addr} {Rs : List (List Int)} {i : Nat} {x : Addr} {r' : List Int} (h : RowsL H as Rs) (nd : as.Nodup) (ea : as[i]? = some x) : RowsL (upd H x (.lst (r'.map V.int))) as (Rs.set i r') := by
  refine ⟨by rw [List.length_set]; exact h.1, fun j y q e1 e2 => ?_⟩
  rw [List.getElem?_set] at e2
  by_cases hj : i = j
  · subst hj
    rw [if_pos rfl] at e2
    rw [ea] at e1
    cases e1
    split at e2
    · cases e2
      exact upd_same
    · cases e2
  · rw [if_neg hj] at e2
    have ne : y ≠ x := fun z => by
      subst z
      exact hj (nodup_ix nd ea e1)
    rw [upd_ne ne]
    exact h.2 j y q e1 e2
/-- the diagonal's entry i becomes v -/
def setD (Rs : List (List Int)) (i : Nat) (v : Int) : List (List Int) := Rs.set i ((Rs.getD i []).set i v)
theorem setD_eq {Rs : List (List Int)} {i : Nat} {r : List Int} {v : Int} (e : Rs[i]? = some r) : setD Rs i v = Rs.set i (r.set i v) := by
  unfold setD
  rw [List.getD_eq_getElem?_getD, e]
  rfl
theorem setD_at {Rs : List (List Int)} {i : Nat} {r : List Int} {v : Int} (e : Rs[i]? = some r) : (setD Rs i v)[i]? = some (r.set i v) := by
  rw [setD_eq e, List.getElem?_set, if_pos rfl, if_pos (List.getElem?_eq_some_iff.mp e).1]
theorem setD_sz {n i : Nat} {Rs : List (List Int)} {v : Int} (h : Sz n Rs) (hi : i < n) : Sz n (setD Rs i v) := by
  obtain ⟨r, e, l⟩ := h.at hi
  rw [setD_eq e]
  refine ⟨by rw [List.length_set]; exact h.1, fun q hq => ?_⟩
  rcases List.mem_or_eq_of_mem_set hq with h1 | h1
  · exact h.2 q h1
  · rw [h1, List.length_set]
    exact l
theorem setD_get {n i a b : Nat} {Rs : List (List Int)} {v : Int} (h : Sz n Rs) (hi : i < n) (ha : a < n) (hb : b < n) : getM (setD Rs i v) a b = if a = i ∧ b = i then v else getM Rs a b := by
  obtain ⟨r, e, l⟩ := h.at hi
  by_cases e1 : a = i
  · subst e1
    by_cases e2 : b = a
    · subst e2
      rw [if_pos ⟨rfl, rfl⟩]
      exact getM_of (setD_at e) (by rw [List.getElem?_set, if_pos rfl, if_pos (by omega)])
    · rw [if_neg (fun z => e2 z.2)]
      have eb : r[b]? = some (r[b]'(by omega)) := List.getElem?_eq_getElem _
      rw [getM_of e eb]
      exact getM_of (setD_at e) (by rw [List.getElem?_set, if_neg (fun z => e2 z.symm)]; exact eb)
  · rw [if_neg (fun z => e1 z.1)]
    obtain ⟨q, eq', lq⟩ := h.at ha
    have eb : q[b]? = some (q[b]'(by omega)) := List.getElem?_eq_getElem _
    rw [getM_of eq' eb]
    exact getM_of (by rw [setD_eq e, List.getElem?_set, if_neg (fun z => e1 z.symm)]; exact eq') eb
theorem setD_setD {Rs : List (List Int)} {i : Nat} {r : List Int} {v w : Int} (e : Rs[i]? = some r) : (setD Rs i v).set i (r.set i w) = setD Rs i w := by
  rw [setD_eq e, setD_eq e, List.set_set]
/-- rows that were made since H0 -/
structure RowsN (a : Addr) (H0 G : Hp) (pr : Addr) (as : List Addr) (Rs : List (List Int)) : Prop where
  st : Stp a H0 G
  s0 : Src H0 a
  e : G pr = some (.lst (as.map V.ref))
  rw : RowsL G as Rs
  nd : as.Nodup
  nw : ∀ x ∈ as, H0 x = none
  np : pr ∉ as
  n0 : H0 pr = none
theorem RowsN.na {a : Addr} {H0 G : Hp} {pr : Addr} {as : List Addr} {Rs : List (List Int)} (h : RowsN a H0 G pr as Rs) : ∀ x ∈ as, x ≠ a := fun x hx => (h.s0.ne (h.nw x hx)).symm
theorem RowsN.npa {a : Addr} {H0 G : Hp} {pr : Addr} {as : List Addr} {Rs : List (List Int)} (h : RowsN a H0 G pr as Rs) : pr ≠ a := (h.s0.ne h.n0).symm
theorem RowsN.go {a : Addr} {H0 G G' : Hp} {pr : Addr} {as : List Addr} {Rs : List (List Int)} (h : RowsN a H0 G pr as Rs) (s : Stp a G G') : RowsN a H0 G' pr as Rs :=
  ⟨h.st.trans s, h.s0, s.k _ _ h.npa h.e, h.rw.keep fun x hx o e => s.k x o (h.na x hx) e, h.nd, h.nw, h.np, h.n0⟩
theorem RowsN.put {a : Addr} {H0 G : Hp} {pr : Addr} {as : List Addr} {Rs : List (List Int)} {i : Nat} {x : Addr} {r' : List Int} (h : RowsN a H0 G pr as Rs) (ea : as[i]? = some x) : RowsN a H0 (upd G x (.lst (r'.map V.int))) pr as (Rs.set i r') :=
  ⟨h.st.put h.s0 (h.nw x (List.mem_of_getElem? ea)), h.s0, by
    have ne : pr ≠ x := fun z => h.np (by rw [z]; exact List.mem_of_getElem? ea)
    rw [upd_ne ne]
    exact h.e, h.rw.put h.nd ea, h.nd, h.nw, h.np, h.n0⟩
theorem RowsN.start {a : Addr} {H0 G : Hp} {pr : Addr} (s : Stp a H0 G) (s0 : Src H0 a) (hp : G pr = none) : RowsN a H0 (upd G pr (.lst [])) pr [] [] :=
  ⟨s.new hp, s0, upd_same, ⟨rfl, fun i x r e => by simp at e⟩, List.nodup_nil, fun x hx => by simp at hx, by simp, s.free hp⟩
/-- one row more -/
theorem RowsN.push {a : Addr} {H0 G F : Hp} {pr D : Addr} {as : List Addr} {Rs : List (List Int)} {ns : List Int} (h : RowsN a H0 G pr as Rs) (s : Stp a G F) (hD : G D = none) (eD : F D = some (.lst (ns.map V.int))) :
    RowsN a H0 (upd F pr (.lst (as.map V.ref ++ [.ref D]))) pr (as ++ [D]) (Rs ++ [ns]) := by
  have h' := h.go s
  have dp : D ≠ pr := fun z => by
    have e := h.e
    rw [← z, hD] at e
    cases e
  have nin : D ∉ as := fun z => by
    obtain ⟨i, hi, e⟩ := List.getElem_of_mem z
    obtain ⟨x, r, e1, e2, e3⟩ := h.rw.at (i := i) (by rw [← h.rw.1]; exact hi)
    rw [List.getElem?_eq_getElem hi, e] at e1
    cases e1
    rw [hD] at e3
    cases e3
  refine ⟨h'.st.put h.s0 h.n0, h.s0, by rw [List.map_append]; exact upd_same, ⟨by simp [h.rw.1], fun i x r e1 e2 => ?_⟩, ?_, fun x hx => ?_, ?_, h.n0⟩
  · by_cases hi : i < as.length
    · rw [List.getElem?_append_left hi] at e1
      rw [List.getElem?_append_left (by rw [← h.rw.1]; exact hi)] at e2
      have ne : x ≠ pr := fun z => h.np (by rw [← z]; exact List.mem_of_getElem? e1)
      rw [upd_ne ne]
      exact h'.rw.2 i x r e1 e2
    · rw [List.getElem?_append_right (by omega)] at e1
      rw [List.getElem?_append_right (by rw [← h.rw.1]; omega), ← h.rw.1] at e2
      have ei : i - as.length = 0 := by
        have := (List.getElem?_eq_some_iff.mp e1).1
        simp at this
        omega
      rw [ei] at e1 e2
      have e1' : D = x := by simpa using e1
      have e2' : ns = r := by simpa using e2
      subst e1' e2'
      rw [upd_ne dp]
      exact eD
  · rw [List.nodup_append]
    refine ⟨h.nd, by simp, fun x hx y hy z => ?_⟩
    have : y = D := by simpa using hy
    subst this
    subst z
    exact nin hx
  · rcases List.mem_append.mp hx with q | q
    · exact h.nw x q
    · have : x = D := by simpa using q
      rw [this]
      exact h.st.free hD
  · intro z
    rcases List.mem_append.mp z with q | q
    · exact h.np q
    · have : pr = D := by simpa using q
      exact dp this.symm
def spDiag (K : PySem.W.Frag) : Sp := fun vs H Q _ => ∃ (a pr : Addr) (as : List Addr) (Rs : List (List Int)) (n : Nat) (H0 : Hp), vs = [.ref a, .ref pr] ∧ 1 ≤ n ∧ n ≤ 900 ∧ RowsN a H0 H pr as Rs ∧ Sz n Rs ∧
  ∀ t H' M, Stp a H0 H' → Mx true true K H' t M → Sz n M → (∀ i < n, ∀ j < n, i ≠ j → getM M i j = getM Rs i j) → (∀ i < n, -3 ≤ getM M i i ∧ getM M i i ≤ 3) → Q (.ref t) H'
section
variable {P : Program} {w : World} {K : PySem.W.Frag} {mg : Str → Option Value} {base : Heap}
theorem ok_l_diagonal (T : Txt w K mg) : FnOk P w K mg base CX0 2 T.a_l_diagonal T.d_l_diagonal p_l_diagonal (spDiag K) := by
  have g_l_pick := ok_l_pick (P := P) (w := w) (base := base) T
  refine T.F_l_diagonal.ok sc_l_diagonal (fun vs H Q E h => ?_) (fun cdv A outer s H vs Q E hr h => ?_)
  · obtain ⟨a, pr, as, Rs, n, H0, rfl, _⟩ := h
    rfl
  obtain ⟨a, pr, as, Rs, n, H0, rfl, h1n, hn, hR, zR, q⟩ := h
  refine ⟨_, (pss_cons (ps_set (i := 2) sc_l_diagonal.nd rfl (Or.inl rfl) (pe_call g_l_pick (hr.mono (by first | decide | omega)) rfl T.m_l_pick T.F_l_pick.kp T.b_l_pick .nil pass0 (pa_cons (pv 0) (pa_cons pe_int pa_nil))))
      (pss_cons (ps_set (i := 3) sc_l_diagonal.nd rfl (Or.inl rfl) (pe_call g_l_pick (hr.mono (by first | decide | omega)) rfl T.m_l_pick T.F_l_pick.kp T.b_l_pick .nil pass0 (pa_cons (pv 0) (pa_cons (pe_callB call_len_seq rfl T.z_len PySem.boot_len (pa_cons (pv 1) pa_nil)) pa_nil))))
      (pss_cons (ps_for PassesOwn.never rfl (pi_range1 rfl T.z_range (pa_cons (pe_callB call_len_seq rfl T.z_len PySem.boot_len (pa_cons (pv 1) pa_nil)) pa_nil)) (pg_name (i := 4) sc_l_diagonal.nd rfl (Or.inl rfl))
        (pss_cons (ps_set (i := 5) sc_l_diagonal.nd rfl (Or.inl rfl) (pe_ix ix_list (pv 1) (pv 4) (fun _ _ => rfl)))
      (pss_cons (ps_asg pe_int (pg_sub (pv 5) (pv 4) set_list))
      (C8.pss_cut (ps_if (pt_cmpR op_lt (pv 2) pe_int (nomark _)) (pss_one (ps_asg (pe_call g_l_pick (hr.mono (by first | decide | omega)) rfl T.m_l_pick T.F_l_pick.kp T.b_l_pick .nil pass0 (pa_cons (pv 0) (pa_cons pe_int pa_nil))) (pg_sub (pv 5) (pv 4) set_list))) pss_nil)
      (pss_one (ps_if (PW.pt (pw_and (pt_cmpR op_eq (pv 2) pe_int (nomark _)) (pw_and1 (pt_cmpR op_eq (pv 4) (pv 3) (nomark _))))) (pss_one (ps_asg (pe_op op_sub (pe_op op_sub pe_int pe_int) (pe_call g_l_pick (hr.mono (by first | decide | omega)) rfl T.m_l_pick T.F_l_pick.kp T.b_l_pick .nil pass0 (pa_cons (pv 0) (pa_cons pe_int pa_nil)))) (pg_sub (pv 5) (pv 4) set_list))) pss_nil))))))
      (pss_one (ps_ret (pe_callTy call_tuple_of rfl T.z_tuple bt_tuple (pa_cons (pe_lc (own := [("_law_row", 5)]) (g := gName 5) (tt := tYes) rfl sc_l_diagonal.nd (pi_list (pv 1)) (blkOk_by (own := [("_law_row", 5)]) (N := n_l_diagonal) (sc := defScope s_l_diagonal) (by decide +kernel)) (fun _ _ _ _ _ => (pg_name (i := 5) sc_l_diagonal.nd rfl (Or.inl rfl))) (fun _ _ _ _ _ => pts_nil) (fun _ _ _ _ _ => (pe_callTy (show CallR _ _ (rTupOf K) from call_tuple_of) rfl T.z_tuple bt_tuple (pa_cons (pv 5) pa_nil)))) pa_nil))))))), ?_⟩
  have lr := hR.rw.1
  have la : as.length = n := by rw [lr, zR.1]
  refine ⟨_, rfl, a, 6, rfl, hR.st.s, by decide, fun odd H1 st1 _ _ => ?_⟩
  have hR1 := hR.go st1
  refine ⟨_, rfl, _, rfl, pr, _, rfl, .inl (SqL.of hR1.e), a, _, rfl, hR1.st.s, by rw [List.length_map, la]; omega, fun at_ H2 st2 _ _ => ?_⟩
  have hR2 := hR1.go st2
  refine ⟨_, rfl, pr, _, rfl, .inl (SqL.of hR2.e), _, rfl, by omega, by rw [List.length_map, la]; omega, for_range (lo := 0) (fun i σ G => (∃ x y : Option V, σ = [some (.ref a), some (.ref pr), some (.int odd), some (.int at_), x, y]) ∧ ∃ Rs' : List (List Int), RowsN a H0 G pr as Rs' ∧ Sz n Rs' ∧ (∀ i < n, ∀ j < n, i ≠ j → getM Rs' i j = getM Rs i j) ∧ ∀ i' < i, -3 ≤ getM Rs' i' i' ∧ getM Rs' i' i' ≤ 3)
    ⟨⟨none, none, rfl⟩, Rs, hR2, zR, fun _ _ _ _ _ => rfl, fun i h => by omega⟩ ?_ ?_⟩
  · rintro i σ G hi ⟨⟨x, y, rfl⟩, Rs', hG, zG, off, dg⟩
    rw [List.length_map, la] at hi
    have hi' : i < n := by omega
    obtain ⟨xr, r, ea, er, ex⟩ := hG.rw.at (i := i) (by rw [zG.1]; exact hi')
    have lr := zG.get er
    have i1 : atI (as.map V.ref) (0 + (i : Int)) = some (.ref xr) := by rw [Int.zero_add]; exact atI_nat (map_get ea)
    have ix : ∀ f : List Int, f.length = n → ixN (f.map V.int).length (0 + (i : Int)) = some i := fun f hf => by
      have := ixN_int (n := (f.map V.int).length) (c := 0 + (i : Int)) (by omega) (by rw [List.length_map, hf]; omega)
      rw [this]
      congr 1
      omega
    refine ⟨_, rfl, _, rfl, pr, _, _, _, rfl, rfl, SqL.of hG.e, i1, ?_⟩
    refine ⟨_, rfl, _, rfl, xr, _, _, _, rfl, rfl, ex, ix r lr, ?_⟩
    have sr : (r.map V.int).set i (.int 0) = (r.set i 0).map V.int := by rw [← List.map_set]
    rw [sr]
    have hG1 := hG.put (r' := r.set i 0) ea
    rw [← setD_eq er] at hG1
    -- the ways through
    refine ⟨fun σ F => σ = [some (.ref a), some (.ref pr), some (.int odd), some (.int at_), some (.int (0 + (i : Int))), some (.ref xr)] ∧ ∃ v : Int, -3 ≤ v ∧ v ≤ 3 ∧ RowsN a H0 F pr as (setD Rs' i v), ?_, ?_⟩
    · refine ⟨_, rfl, _, _, rfl, rfl, _, rfl, ite2 (fun _ => ?_) (fun _ => ?_)⟩
      · refine ⟨_, rfl, a, 4, rfl, hG1.st.s, by decide, fun d F st d0 d1 => ?_⟩
        have hF := hG1.go st
        obtain ⟨x2, r2, ea2, er2, ex2⟩ := hF.rw.at (i := i) (by rw [(setD_sz zG hi').1]; exact hi')
        rw [ea] at ea2
        cases ea2
        rw [setD_at er] at er2
        cases er2
        refine ⟨_, rfl, _, rfl, xr, _, _, _, rfl, rfl, ex2, ix _ (by rw [List.length_set]; exact lr), ?_⟩
        have sr2 : ((r.set i 0).map V.int).set i (.int d) = (r.set i d).map V.int := by rw [← List.map_set, List.set_set]
        rw [sr2]
        have hF2 := hF.put (r' := r.set i d) ea
        rw [setD_setD er] at hF2
        exact ⟨rfl, d, by omega, by omega, hF2⟩
      · exact ⟨rfl, 0, by omega, by omega, hG1⟩
    · rintro σ F ⟨rfl, v, v1, v2, hF⟩
      have fin : ∀ (F : Hp) (v : Int), -3 ≤ v → v ≤ 3 → RowsN a H0 F pr as (setD Rs' i v) → (∃ x y : Option V, [some (V.ref a), some (.ref pr), some (.int odd), some (.int at_), some (.int (0 + (i : Int))), some (.ref xr)] = [some (.ref a), some (.ref pr), some (.int odd), some (.int at_), x, y]) ∧ ∃ Rs' : List (List Int), RowsN a H0 F pr as Rs' ∧ Sz n Rs' ∧ (∀ i < n, ∀ j < n, i ≠ j → getM Rs' i j = getM Rs i j) ∧ ∀ i' < i + 1, -3 ≤ getM Rs' i' i' ∧ getM Rs' i' i' ≤ 3 := fun F v v1 v2 hF => by
        refine ⟨⟨_, _, rfl⟩, _, hF, setD_sz zG hi', fun a' ha b hb ne => ?_, fun i' h => ?_⟩
        · rw [setD_get zG hi' ha hb, if_neg (by omega)]
          exact off a' ha b hb ne
        · rw [setD_get zG hi' (by omega) (by omega)]
          split
          · exact ⟨v1, v2⟩
          · rename_i z
            exact dg i' (by omega)
      refine ⟨_, rfl, rfl, _, rfl, ite2 (fun _ => ?_) (fun _ => ?_)⟩
      · refine ⟨_, rfl, _, rfl, rfl, _, rfl, ite2 (fun _ => ?_) (fun _ => ?_)⟩
        · refine ⟨_, _, rfl, rfl, _, rfl, a, 3, rfl, hF.st.s, by decide, fun d F3 st d0 d1 => ?_⟩
          have hF3 := hF.go st
          obtain ⟨x2, r2, ea2, er2, ex2⟩ := hF3.rw.at (i := i) (by rw [(setD_sz zG hi').1]; exact hi')
          rw [ea] at ea2
          cases ea2
          rw [setD_at er] at er2
          cases er2
          refine ⟨_, _, rfl, rfl, _, rfl, _, rfl, xr, _, _, _, rfl, rfl, ex2, ix _ (by rw [List.length_set]; exact lr), ?_⟩
          dsimp only
          have ev : -3 ≤ (0 : Int) - 1 - d ∧ (0 : Int) - 1 - d ≤ 3 := by omega
          generalize (0 : Int) - 1 - d = dv at ev
          have sr2 : ((r.set i v).map V.int).set i (.int dv) = (r.set i dv).map V.int := by rw [← List.map_set, List.set_set]
          rw [sr2]
          have hF4 := hF3.put (r' := r.set i dv) ea
          rw [setD_setD er] at hF4
          exact fin _ _ ev.1 ev.2 hF4
        · exact fin _ _ v1 v2 hF
      · exact fin _ _ v1 v2 hF
  · rintro σ G ⟨⟨x, y, rfl⟩, Rs', hG, zG, off, dg⟩
    rw [List.length_map, la, Int.toNat_natCast] at dg
    refine ⟨_, rfl, pr, rfl, ⟨_, SqL.of hG.e⟩, fun D hD => ?_⟩
    refine lc_it (walk_list (xs := as.map V.ref)) (LcP (Same G) (RRow K true Rs' D) D) (lcp_start hD) (fun i F _ P => P.1.seq (SqL.of hG.e)) ?_ ?_
    · rintro i x F F' hi P ⟨rfl, ex⟩
      rw [List.length_map, la] at hi
      obtain ⟨xr, r, ea, er, er2⟩ := hG.rw.at (i := i) (by rw [zG.1]; exact hi)
      rw [map_get ea] at ex
      cases ex
      refine ⟨rfl, tyes ?_⟩
      refine ⟨_, rfl, xr, _, rfl, .inl ⟨SqL.of (P.1 _ _ er2), fun l hl => ?_⟩⟩
      exact lcp_same P hD (Same.new hl _) (lt_line (by omega)) RRow.mono ⟨l, r, rfl, er, P.ne hl, Sq.upd_sameT⟩
    · intro F P
      obtain ⟨bs, h1, h2, h3⟩ := lcp_rows P (by rw [List.length_map, la, zG.1])
      refine ⟨D, _, rfl, .inl ⟨h1, fun l hl => ?_⟩⟩
      exact q l _ Rs' (hG.st.same (P.1.trans (Same.new hl _))) ⟨bs, Sq.upd_sameT, h2, fun i a r e1 e2 => Sq.same (Same.new hl _) (h3 i a r e1 e2)⟩ zG off dg
end
/-! ### drawn matrices with their closed ones -/
theorem ints_ofQ {q : Int → Prop} {acc : List V} (h : ∀ (j : Nat) (y : V), acc[j]? = some y → ∃ k : Int, y = .int k ∧ q k) : ∃ ns : List Int, acc = ns.map V.int ∧ ∀ k ∈ ns, q k := by
  induction acc with
  | nil => exact ⟨[], rfl, fun k hk => by simp at hk⟩
  | cons y acc ih =>
    obtain ⟨k, rfl, hk⟩ := h 0 y rfl
    obtain ⟨ns, rfl, hn⟩ := ih fun j y e => h (j + 1) y (by simpa using e)
    exact ⟨k :: ns, rfl, fun z hz => by
      rcases List.mem_cons.mp hz with rfl | hz
      · exact hk
      · exact hn z hz⟩
theorem stepL_cap {M : List (List Int)} {c m : Nat} {Ps : List (List Int)} (h : (valsL M c).length ≤ m) : (stepL M c Ps).length ≤ Ps.length * m := by
  unfold stepL
  induction Ps with
  | nil => simp
  | cons p Ps ih =>
    rw [List.flatMap_cons, List.length_append, List.length_cons, Nat.add_mul]
    have h1 : (stepV M c p (valsL M c)).length ≤ m := by
      unfold stepV
      rw [List.length_map]
      exact Nat.le_trans (List.length_filter_le _ _) h
    omega
theorem ptsL_cap {M : List (List Int)} {m n : Nat} (h : ∀ c ≤ n, (valsL M c).length ≤ m) : ∀ c ≤ n, (ptsL M c).length ≤ m ^ c
  | 0, _ => by simp [ptsL]
  | c + 1, hc => by
    have ih := ptsL_cap h c (by omega)
    have := stepL_cap (Ps := ptsL M c) (h (c + 1) hc)
    rw [Nat.pow_succ]
    exact Nat.le_trans this (Nat.mul_le_mul_right m ih)
theorem ptsB_or (n : Nat) (M : List (List Int)) : ptsB n (some M) = ptsL M n ∨ ptsB n (some M) = [] := by
  by_cases h : ∀ i < n + 1, 0 ≤ getM M i i
  · exact .inl (if_pos h)
  · exact .inr (if_neg h)
def spPair (K : PySem.W.Frag) : Sp := fun vs H Q _ => ∃ a : Addr, vs = [.ref a] ∧ Src H a ∧ ∀ (l : Addr) (H' : Hp) (pm : Addr) (vb : V) (M : List (List Int)) (B : Option (List (List Int))) (n : Nat), Stp a H H' → H l = none → H' l = some (.lst [.ref pm, vb]) → Mx true true K H' pm M → Sz n M → n ≤ 900 → BoxAt K H' vb B → Best n (getM M) B → Q (.ref l) H'
section
variable {P : Program} {w : World} {K : PySem.W.Frag} {mg : Str → Option Value} {base : Heap}
theorem ok_l_small (T : Txt w K mg) : FnOk P w K mg base CX0 3 T.a_l_small T.d_l_small p_l_small (spPair K) := by
  have g_l_pick := ok_l_pick (P := P) (w := w) (base := base) T
  have g_l_diagonal := ok_l_diagonal (P := P) (w := w) (base := base) T
  have g_l_points := ok_l_points (P := P) (w := w) (base := base) T
  have g_l_hull := ok_l_hull (P := P) (w := w) (base := base) T
  refine T.F_l_small.ok sc_l_small (fun vs H Q E h => ?_) (fun cdv A outer s H vs Q E hr h => ?_)
  · obtain ⟨a, rfl, _⟩ := h
    rfl
  obtain ⟨a, rfl, hS, q⟩ := h
  refine ⟨_, (pss_cons (ps_set (i := 1) sc_l_small.nd rfl (Or.inl rfl) (pe_call g_l_pick (hr.mono (by first | decide | omega)) rfl T.m_l_pick T.F_l_pick.kp T.b_l_pick .nil pass0 (pa_cons (pv 0) (pa_cons pe_int pa_nil))))
      (pss_cons (ps_set (i := 2) sc_l_small.nd rfl (Or.inr rfl) (pe_call g_l_pick (hr.mono (by first | decide | omega)) rfl T.m_l_pick T.F_l_pick.kp T.b_l_pick .nil pass0 (pa_cons (pv 0) (pa_cons pe_int pa_nil))))
      (pss_cons (ps_set (i := 3) sc_l_small.nd rfl (Or.inl rfl) (pe_lst pa_nil))
      (pss_cons (ps_for PassesOwn.never rfl (pi_range1 rfl T.z_range (pa_cons (pe_op op_add (pv 1) pe_int) pa_nil)) (pg_name (i := 4) sc_l_small.nd rfl (Or.inl rfl))
        (pss_one (ps_expr (pe_bm PySem.F.plainAttrs_list PySem.F.slot_list_append PySem.F.type_list_append mt_append (pv 3) (pa_cons (pe_lc (own := [("_law_j", 5)]) (g := gName 5) (tt := tYes) rfl sc_l_small.nd (pi_range1 rfl T.z_range (pa_cons (pe_op op_add (pv 1) pe_int) pa_nil)) (blkOk_by (own := [("_law_j", 5)]) (N := n_l_small) (sc := defScope s_l_small) (by decide +kernel)) (fun _ _ _ _ _ => (pg_name (i := 5) sc_l_small.nd rfl (Or.inl rfl))) (fun _ _ _ _ _ => pts_nil) (fun _ _ _ _ _ => (pe_op op_sub (pe_call g_l_pick (hr.mono (by first | decide | omega)) rfl T.m_l_pick T.F_l_pick.kp T.b_l_pick .nil pass0 (pa_cons (pv 0) (pa_cons pe_int pa_nil))) (pv 2)))) pa_nil)))))
      (pss_cons (ps_set (i := 6) sc_l_small.nd rfl (Or.inl rfl) (pe_call g_l_diagonal (hr.mono (by first | decide | omega)) rfl T.m_l_diagonal T.F_l_diagonal.kp T.b_l_diagonal .nil pass0 (pa_cons (pv 0) (pa_cons (pv 3) pa_nil))))
      (pss_one (ps_ret (pe_lst (pa_cons (pv 6) (pa_cons (pe_call g_l_hull (hr.mono (by first | decide | omega)) rfl T.m_l_hull T.F_l_hull.kp T.b_l_hull .nil pass0 (pa_cons (pe_call g_l_points (hr.mono (by first | decide | omega)) rfl T.m_l_points T.F_l_points.kp T.b_l_points .nil pass0 (pa_cons (pv 6) pa_nil)) (pa_cons (pv 1) pa_nil))) pa_nil)))))))))), ?_⟩
  refine ⟨_, rfl, a, 4, rfl, hS, by decide, fun r0 H1 st1 r00 r01 => ?_⟩
  obtain ⟨n, rfl⟩ : ∃ n : Nat, r0 = (n : Int) := ⟨r0.toNat, by omega⟩
  have hn3 : n ≤ 3 := by omega
  refine ⟨_, rfl, a, 3, rfl, st1.s, by decide, fun low H2 st2 lo0 lo1 => ?_⟩
  have s2 := st1.trans st2
  refine ⟨(by show 0 ≤ sizeLine; decide), fun pr hpr => ?_⟩
  have hR0 := RowsN.start s2 hS hpr
  refine ⟨_, rfl, _, _, rfl, rfl, _, rfl, by omega, by omega, for_range (lo := 0) (fun i σ G => (∃ x y z : Option V, σ = [some (.ref a), some (.int n), some (.int low), some (.ref pr), x, y, z]) ∧ ∃ (as : List Addr) (Rs : List (List Int)), RowsN a H G pr as Rs ∧ Rs.length = i ∧ ∀ r ∈ Rs, r.length = n + 1 ∧ ∀ k ∈ r, -2 ≤ k ∧ k ≤ 5)
    ⟨⟨none, none, none, rfl⟩, [], [], hR0, rfl, fun r hr => by simp at hr⟩ ?_ ?_⟩
  · rintro i σ G hi ⟨⟨x, y, z, rfl⟩, as, Rs, hG, lR, hq⟩
    refine ⟨_, rfl, .inl ⟨rfl, _, SqL.of hG.e⟩, ?_⟩
    refine ⟨_, rfl, _, _, rfl, rfl, _, rfl, by omega, by omega, fun D hD => ?_⟩
    have nD : a ≠ D := hG.st.s.ne hD
    refine lc_it walk_range (LcP (fun F => Stp a G F) (fun _ y _ => ∃ k : Int, y = .int k ∧ -2 ≤ k ∧ k ≤ 5) D) ⟨(Stp.refl hG.st.s).new hD, [], upd_same, rfl, fun j y e => by simp at e⟩ (fun _ _ _ _ => trivial) ?_ ?_
    · rintro j x F F' hj PF ⟨rfl, rfl⟩
      refine ⟨rfl, tyes ?_⟩
      refine ⟨_, rfl, a, 6, rfl, PF.1.s, by decide, fun d F2 st3 d0 d1 => ?_⟩
      refine ⟨_, rfl, _, _, rfl, rfl, ?_⟩
      exact lcp_step PF (fun o e => st3.k _ _ nD.symm e) (lt_line (by omega)) (fun o => (PF.1.trans st3).put hG.st.s hD) (fun _ _ _ h => h) fun _ => ⟨_, rfl, by omega, by omega⟩
    · intro F PF
      obtain ⟨sF, acc, h1, h2, h3⟩ := PF
      obtain ⟨ns, rfl, hns⟩ := ints_ofQ h3
      rw [List.length_map] at h2
      have hF := hG.go sF
      refine ⟨pr, _, _, rfl, rfl, hF.e, lt_line (by rw [List.length_map, hF.rw.1]; omega), ⟨_, _, _, rfl⟩, _, _, hG.push sF hD h1, by rw [List.length_append, lR]; rfl, fun r hr => ?_⟩
      rcases List.mem_append.mp hr with h | h
      · exact hq r h
      · have e : r = ns := by simpa using h
        rw [e]
        exact ⟨by omega, hns⟩
  rintro σ G ⟨⟨x, y, z, rfl⟩, as, Rs, hG, lR, hq⟩
  have zR : Sz (n + 1) Rs := ⟨by omega, fun r hr => (hq r hr).1⟩
  refine ⟨_, rfl, _, rfl, a, pr, as, Rs, n + 1, H, rfl, by omega, by omega, hG, zR, fun t H3 M st3 mM zM off dg => ?_⟩
  have bd : ∀ i < n + 1, ∀ j < n + 1, -3 ≤ getM M i j ∧ getM M i j ≤ 5 := fun i hi j hj => by
    by_cases e : i = j
    · subst e
      have := dg i hi
      omega
    · rw [off i hi j hj e]
      obtain ⟨r, er, _, g⟩ := zR.at2 hi hj
      have := (hq r (List.mem_of_getElem? er)).2 _ (List.mem_of_getElem? g)
      omega
  have vl : ∀ c ≤ n, (valsL M c).length ≤ 11 := fun c hc => by
    rw [vals_len]
    have h1 := bd c (by omega) 0 (by omega)
    have h2 := bd 0 (by omega) c (by omega)
    omega
  have cap : ∀ c ≤ n, (ptsL M c).length ≤ 1331 := fun c hc => by
    have h1 := ptsL_cap vl c hc
    have h2 : 11 ^ c ≤ 11 ^ 3 := Nat.pow_le_pow_right (by omega) (by omega)
    have h3 : 11 ^ 3 = 1331 := rfl
    omega
  have sm : Small n M := ⟨fun c hc => by have := bd 0 (by omega) c hc; omega, fun c hc => by have := bd c hc 0 (by omega); omega, fun c hc => by have := cap c hc; omega⟩
  refine ⟨_, rfl, _, rfl, _, some M, n, rfl, by omega, ⟨t, rfl, mM⟩, (fun N z => by cases z; exact zM), (fun N z => by cases z; exact sm), fun q1 H4 s4 p4 => ?_⟩
  have memb : ∀ r ∈ ptsB n (some M), r ∈ ptsL M n := fun r hr => by
    rcases ptsB_or n M with e | e
    · rwa [e] at hr
    · rw [e] at hr
      simp at hr
  have lenb : (ptsB n (some M)).length ≤ 1331 := by
    rcases ptsB_or n M with e | e
    · rw [e]
      exact cap n (Nat.le_refl n)
    · rw [e]
      simp
  refine ⟨_, rfl, q1, n, _, rfl, by omega, p4.mx, (fun r hr => (mem_pts.mp (memb r hr)).1), by omega, fun vb H5 s5 b5 => ?_⟩
  refine ⟨(by show 2 ≤ sizeLine; decide), fun l hl => ?_⟩
  have sn := Same.new hl (.lst [.ref t, vb])
  have stf : Stp a H (upd H5 l (.lst [.ref t, vb])) := st3.same ((s4.trans s5).trans sn)
  have hl0 : H l = none := (st3.same (s4.trans s5)).free hl
  exact q l _ t vb M _ (n + 1) stf hl0 upd_same (((mM.same s4).same s5).same sn) zM (by omega) (b5.same sn) best_ptsB
theorem ok_l_wide (T : Txt w K mg) : FnOk P w K mg base CX0 3 T.a_l_wide T.d_l_wide p_l_wide (spPair K) := by
  have g_l_pick := ok_l_pick (P := P) (w := w) (base := base) T
  have g_l_number := ok_l_number (P := P) (w := w) (base := base) T
  have g_l_diagonal := ok_l_diagonal (P := P) (w := w) (base := base) T
  have g_l_closed := ok_l_closed (P := P) (w := w) (base := base) T
  refine T.F_l_wide.ok sc_l_wide (fun vs H Q E h => ?_) (fun cdv A outer s H vs Q E hr h => ?_)
  · obtain ⟨a, rfl, _⟩ := h
    rfl
  obtain ⟨a, rfl, hS, q⟩ := h
  refine ⟨_, (pss_cons (ps_set (i := 1) sc_l_wide.nd rfl (Or.inl rfl) (pe_call g_l_pick (hr.mono (by first | decide | omega)) rfl T.m_l_pick T.F_l_pick.kp T.b_l_pick .nil pass0 (pa_cons (pv 0) (pa_cons pe_int pa_nil))))
      (pss_cons (ps_setLc (i := 2) (own := [("_law_k", 3)]) (g := gName 3) (tt := tYes) rfl sc_l_wide.nd rfl rfl (sw_true rfl rfl rfl (by decide +kernel)) (pi_range1 rfl T.z_range (pa_cons (pe_op op_add (pv 1) pe_int) pa_nil)) (blkOk_by (own := [("_law_k", 3)]) (N := n_l_wide) (sc := defScope s_l_wide) (by decide +kernel)) (fun _ _ _ _ _ => (pg_name (i := 3) sc_l_wide.nd rfl (Or.inl rfl))) (fun _ _ _ _ _ => pts_nil) (fun _ _ _ _ _ => (pe_call g_l_number (hr.mono (by first | decide | omega)) rfl T.m_l_number T.F_l_number.kp T.b_l_number .nil pass0 (pa_cons (pv 0) pa_nil))))
      (pss_cons (ps_set (i := 4) sc_l_wide.nd rfl (Or.inl rfl) (pe_ix ix_list (pe_lst (pa_cons pe_int (pa_cons pe_int (pa_cons (pe_op op_add (pe_op op_pow pe_int pe_int) pe_int) pa_nil)))) (pe_call g_l_pick (hr.mono (by first | decide | omega)) rfl T.m_l_pick T.F_l_pick.kp T.b_l_pick .nil pass0 (pa_cons (pv 0) (pa_cons pe_int pa_nil))) (fun _ _ => rfl)))
      (pss_cons (ps_set (i := 5) sc_l_wide.nd rfl (Or.inl rfl) (pe_call g_l_pick (hr.mono (by first | decide | omega)) rfl T.m_l_pick T.F_l_pick.kp T.b_l_pick .nil pass0 (pa_cons (pv 0) (pa_cons pe_int pa_nil))))
      (pss_cons (ps_set (i := 6) sc_l_wide.nd rfl (Or.inl rfl) (pe_lst pa_nil))
      (pss_cons (ps_for PassesOwn.never rfl (pi_range1 rfl T.z_range (pa_cons (pe_op op_add (pv 1) pe_int) pa_nil)) (pg_name (i := 7) sc_l_wide.nd rfl (Or.inl rfl))
        (pss_cons (ps_set (i := 8) sc_l_wide.nd rfl (Or.inl rfl) (pe_lst pa_nil))
      (pss_cons (ps_for PassesOwn.never rfl (pi_range1 rfl T.z_range (pa_cons (pe_op op_add (pv 1) pe_int) pa_nil)) (pg_name (i := 9) sc_l_wide.nd rfl (Or.inl rfl))
        (pss_one (ps_expr (pe_bm PySem.F.plainAttrs_list PySem.F.slot_list_append PySem.F.type_list_append mt_append (pv 8) (pa_cons (pe_op op_add (pe_op op_add (pe_op op_sub (pe_ix ix_list (pv 2) (pv 7) (fun _ _ => rfl)) (pe_ix ix_list (pv 2) (pv 9) (fun _ _ => rfl))) (pe_op op_mul (pe_op op_sub (pe_call g_l_pick (hr.mono (by first | decide | omega)) rfl T.m_l_pick T.F_l_pick.kp T.b_l_pick .nil pass0 (pa_cons (pv 0) (pa_cons pe_int pa_nil))) (pv 5)) (pv 4))) (pe_call g_l_pick (hr.mono (by first | decide | omega)) rfl T.m_l_pick T.F_l_pick.kp T.b_l_pick .nil pass0 (pa_cons (pv 0) (pa_cons pe_int pa_nil)))) pa_nil)))))
      (pss_one (ps_expr (pe_bm PySem.F.plainAttrs_list PySem.F.slot_list_append PySem.F.type_list_append mt_append (pv 6) (pa_cons (pv 8) pa_nil)))))))
      (pss_cons (ps_set (i := 10) sc_l_wide.nd rfl (Or.inl rfl) (pe_call g_l_diagonal (hr.mono (by first | decide | omega)) rfl T.m_l_diagonal T.F_l_diagonal.kp T.b_l_diagonal .nil pass0 (pa_cons (pv 0) (pa_cons (pv 6) pa_nil))))
      (pss_one (ps_ret (pe_lst (pa_cons (pv 10) (pa_cons (pe_call g_l_closed (hr.mono (by first | decide | omega)) rfl T.m_l_closed T.F_l_closed.kp T.b_l_closed .nil pass0 (pa_cons (pv 10) pa_nil)) pa_nil)))))))))))), ?_⟩
  refine ⟨_, rfl, a, 7, rfl, hS, by decide, fun r0 H1 st1 r00 r01 => ?_⟩
  obtain ⟨n, rfl⟩ : ∃ n : Nat, r0 = (n : Int) := ⟨r0.toNat, by omega⟩
  have hn : n ≤ 6 := by omega
  refine ⟨_, rfl, _, _, rfl, rfl, _, rfl, by omega, by omega, fun D hD => ?_⟩
  have nD : a ≠ D := st1.s.ne hD
  refine lc_it walk_range (LcP (fun F => Stp a H1 F) (fun _ y _ => ∃ k : Int, y = .int k) D) ⟨(Stp.refl st1.s).new hD, [], upd_same, rfl, fun j y e => by simp at e⟩ (fun _ _ _ _ => trivial) ?_ ?_
  · rintro j x F F' hj PF ⟨rfl, rfl⟩
    refine ⟨rfl, tyes ?_⟩
    refine ⟨_, rfl, a, rfl, PF.1.s, fun k F2 st3 => ?_⟩
    exact lcp_step PF (fun o e => st3.k _ _ nD.symm e) (lt_line (by omega)) (fun o => (PF.1.trans st3).put st1.s hD) (fun _ _ _ h => h) fun _ => ⟨_, rfl⟩
  intro F PF
  obtain ⟨sF, acc, h1, h2, h3⟩ := PF
  obtain ⟨vals, rfl⟩ := ints_of h3
  rw [List.length_map] at h2
  have lvals : vals.length = n + 1 := by omega
  have s1 := st1.trans sF
  refine ⟨10, 8, rfl, rfl, ⟨by decide, by decide, by decide⟩, _, _, rfl, rfl, (by show 3 ≤ sizeLine; decide), fun lu hlu => ?_⟩
  refine ⟨_, rfl, a, 3, rfl, s1.s.new hlu, by decide, fun u0 H2 st2 u00 u01 => ?_⟩
  have s2 := (s1.new (o := .lst ([1, 1000, 10 ^ 8 + 7].map V.int)) hlu).trans st2
  have elu : H2 lu = some (.lst ([1, 1000, 10 ^ 8 + 7].map V.int)) := st2.k _ _ (s1.s.ne hlu).symm upd_same
  obtain ⟨u, eu⟩ := ixInt (ns := [1, 1000, 10 ^ 8 + 7]) (r := u0) u00 (by show u0 < 3; omega)
  refine ⟨lu, _, u0, _, rfl, rfl, SqL.of elu, eu, ?_⟩
  have eD2 : H2 D = some (.lst (vals.map V.int)) := st2.k _ _ nD.symm (by rw [upd_ne (ne_of_none h1 hlu)]; exact h1)
  refine ⟨_, rfl, a, 3, rfl, st2.s, by decide, fun low H3 st3 lo0 lo1 => ?_⟩
  have eD3 := st3.k _ _ nD.symm eD2
  have s3 := s2.trans st3
  refine ⟨(by show 0 ≤ sizeLine; decide), fun pr hpr => ?_⟩
  have hR0 := RowsN.start s3 hS hpr
  have eD4 : (upd H3 pr (.lst [])) D = some (.lst (vals.map V.int)) := by rw [upd_ne (ne_of_none eD3 hpr)]; exact eD3
  have npr : D ≠ pr := ne_of_none eD3 hpr
  refine ⟨_, rfl, _, _, rfl, rfl, _, rfl, by omega, by omega, for_range (lo := 0) (fun i σ G => (∃ x y z m : Option V, σ = [some (.ref a), some (.int n), some (.ref D), none, some (.int u), some (.int low), some (.ref pr), x, y, z, m]) ∧ G D = some (.lst (vals.map V.int)) ∧ ∃ (as : List Addr) (Rs : List (List Int)), RowsN a H G pr as Rs ∧ Rs.length = i ∧ ∀ r ∈ Rs, r.length = n + 1)
    ⟨⟨none, none, none, none, rfl⟩, eD4, [], [], hR0, rfl, fun r hr => by simp at hr⟩ ?_ ?_⟩
  · rintro i σ G hi ⟨⟨x, y, z, m, rfl⟩, eG, as, Rs, hG, lR, hq⟩
    refine ⟨(by show 0 ≤ sizeLine; decide), fun pw hpw => ?_⟩
    have naw : a ≠ pw := hG.st.s.ne hpw
    have nDw : D ≠ pw := ne_of_none eG hpw
    refine ⟨_, rfl, _, _, rfl, rfl, _, rfl, by omega, by omega, for_range (lo := 0) (fun j σ F => (∃ z m : Option V, σ = [some (.ref a), some (.int n), some (.ref D), none, some (.int u), some (.int low), some (.ref pr), some (.int (0 + (i : Int))), some (.ref pw), z, m]) ∧ Stp a G F ∧ ∃ ns : List Int, F pw = some (.lst (ns.map V.int)) ∧ ns.length = j)
      ⟨⟨_, _, rfl⟩, (Stp.refl hG.st.s).new hpw, [], upd_same, rfl⟩ ?_ ?_⟩
    · rintro j σ F hj ⟨⟨z, m, rfl⟩, sF, ns, ens, lns⟩
      have eF := sF.k _ _ nD.symm eG
      refine ⟨_, rfl, .inl ⟨rfl, _, SqL.of ens⟩, ?_⟩
      refine ⟨_, rfl, _, rfl, D, _, _, _, rfl, rfl, SqL.of eF, atI_row (by omega), _, rfl, _, rfl, D, _, _, _, rfl, rfl, SqL.of eF, atI_row (by omega), _, _, rfl, rfl, ?_⟩
      refine ⟨_, rfl, a, 9, rfl, sF.s, by decide, fun d F2 st4 d0 d1 => ?_⟩
      refine ⟨_, rfl, _, _, rfl, rfl, _, rfl, _, _, rfl, rfl, .inl ⟨by omega, by omega⟩, _, _, rfl, rfl, ?_⟩
      refine ⟨_, rfl, a, 3, rfl, st4.s, by decide, fun e F3 st5 e0 e1 => ?_⟩
      have s45 := st4.trans st5
      refine ⟨_, _, rfl, rfl, ?_⟩
      have ens3 := s45.k _ _ naw.symm ens
      refine ⟨pw, _, _, rfl, rfl, ens3, lt_line (by rw [List.length_map]; omega), ⟨_, _, rfl⟩, (sF.trans s45).put hG.st.s hpw, ns ++ [_], by rw [List.map_append]; exact upd_same, by rw [List.length_append, lns]; rfl⟩
    · rintro σ F ⟨⟨z, m, rfl⟩, sF, ns, ens, lns⟩
      have hF := hG.go sF
      refine ⟨_, rfl, .inl ⟨rfl, _, SqL.of hF.e⟩, _, rfl, pr, _, _, rfl, rfl, hF.e, lt_line (by rw [List.length_map, hF.rw.1]; omega), ⟨_, _, _, _, rfl⟩, ?_, _, _, hG.push sF hpw ens, by rw [List.length_append, lR]; rfl, fun r hr => ?_⟩
      · rw [upd_ne npr]
        exact sF.k _ _ nD.symm eG
      · rcases List.mem_append.mp hr with h | h
        · exact hq r h
        · have e : r = ns := by simpa using h
          rw [e]
          omega
  rintro σ G ⟨⟨x, y, z, m, rfl⟩, eG, as, Rs, hG, lR, hq⟩
  have zR : Sz (n + 1) Rs := ⟨by omega, hq⟩
  refine ⟨_, rfl, _, rfl, a, pr, as, Rs, n + 1, H, rfl, by omega, by omega, hG, zR, fun t H4 M st4 mM zM off dg => ?_⟩
  refine ⟨_, rfl, _, rfl, t, M, n + 1, rfl, by omega, mM, zM, fun vb H5 B s5 b5 bst => ?_⟩
  refine ⟨(by show 2 ≤ sizeLine; decide), fun l hl => ?_⟩
  have sn := Same.new hl (.lst [.ref t, vb])
  exact q l _ t vb M B (n + 1) (st4.same (s5.trans sn)) ((st4.same s5).free hl) upd_same ((mM.same s5).same sn) zM (by omega) (b5.same sn) bst
end
/-! ### a ring of bounds: its closed matrix -/
def wayF (S : Nat → Int) (m p q : Nat) : Int := if p ≤ q then S q - S p else S q - S p + S m
structure Ring (m : Nat) (e : Nat → Int) (S : Nat → Int) (O P : Nat → Nat) : Prop where
  two : 2 ≤ m
  s0 : S 0 = 0
  ss : ∀ k < m, S (k + 1) = S k + e k
  ho : ∀ k < m, O k < m
  hp : ∀ i < m, P i < m
  op : ∀ i < m, O (P i) = i
  po : ∀ k < m, P (O k) = k
structure RingD (m : Nat) (e : Nat → Int) (S : Nat → Int) (O P : Nat → Nat) (D : Nat → Nat → Int) : Prop where
  succ : ∀ i < m, D i (O ((P i + 1) % m)) = e (P i)
  ge : ∀ i < m, ∀ j < m, wayF S m (P i) (P j) ≤ D i j
theorem ring_along {m : Nat} {e S : Nat → Int} {O P : Nat → Nat} {C D : Nat → Nat → Int} (R : Ring m e S O P) (RD : RingD m e S O P D) (hC : Clo m C) (hl : LeF m C D) (p : Nat) : ∀ d : Nat, p + d < m → C (O p) (O (p + d)) ≤ S (p + d) - S p
  | 0, h => by
    have := hC.d (O p) (R.ho p h)
    simp only [Nat.add_zero]
    omega
  | d + 1, h => by
    have ih := ring_along R RD hC hl p d (by omega)
    have hq := R.ho (p + d) (by omega)
    have hq1 := R.ho (p + (d + 1)) h
    have a := hC.t (O p) (R.ho p (by omega)) (O (p + (d + 1))) hq1 (O (p + d)) hq
    have b := hl (O (p + d)) hq (O (p + (d + 1))) hq1
    have c := RD.succ (O (p + d)) hq
    rw [R.po (p + d) (by omega), Nat.mod_eq_of_lt (show p + d + 1 < m by omega)] at c
    have s := R.ss (p + d) (by omega)
    have e1 : p + (d + 1) = p + d + 1 := by omega
    rw [e1] at a b ⊢
    omega
theorem ring_back {m : Nat} {e S : Nat → Int} {O P : Nat → Nat} {C D : Nat → Nat → Int} (R : Ring m e S O P) (RD : RingD m e S O P D) (hl : LeF m C D) : C (O (m - 1)) (O 0) ≤ S m - S (m - 1) := by
  have two := R.two
  have h1 := R.ho (m - 1) (by omega)
  have h0 := R.ho 0 (by omega)
  have b := hl _ h1 _ h0
  have c := RD.succ _ h1
  rw [R.po (m - 1) (by omega), show m - 1 + 1 = m by omega, Nat.mod_self] at c
  have s := R.ss (m - 1) (by omega)
  rw [show m - 1 + 1 = m by omega] at s
  omega
theorem ring_le {m : Nat} {e S : Nat → Int} {O P : Nat → Nat} {C D : Nat → Nat → Int} (R : Ring m e S O P) (RD : RingD m e S O P D) (hC : Clo m C) (hl : LeF m C D) {p q : Nat} (hp : p < m) (hq : q < m) : C (O p) (O q) ≤ wayF S m p q := by
  unfold wayF
  split
  · rename_i h
    have := ring_along R RD hC hl p (q - p) (by omega)
    rwa [show p + (q - p) = q by omega] at this
  · rename_i h
    have two := R.two
    have a := ring_along R RD hC hl p (m - 1 - p) (by omega)
    rw [show p + (m - 1 - p) = m - 1 by omega] at a
    have b := ring_back R RD hl
    have c := ring_along R RD hC hl 0 q (by omega)
    rw [Nat.zero_add, R.s0] at c
    have h1 := R.ho (m - 1) (by omega)
    have h0 := R.ho 0 (by omega)
    have t1 := hC.t (O p) (R.ho p hp) (O q) (R.ho q hq) (O (m - 1)) h1
    have t2 := hC.t (O (m - 1)) h1 (O q) (R.ho q hq) (O 0) h0
    omega
noncomputable def ringB (m : Nat) (S : Nat → Int) (P : Nat → Nat) : Option (List (List Int)) := if S m < 0 then none else some (mkM m fun i j => wayF S m (P i) (P j))
theorem ring_best {m : Nat} {e S : Nat → Int} {O P : Nat → Nat} {D : Nat → Nat → Int} (R : Ring m e S O P) (RD : RingD m e S O P D) : Best m D (ringB m S P) := by
  have two := R.two
  unfold ringB
  by_cases neg : S m < 0
  · rw [if_pos neg]
    intro C hC hl
    have a := ring_along R RD hC hl 0 (m - 1) (by omega)
    rw [Nat.zero_add, R.s0] at a
    have b := ring_back R RD hl
    have h1 := R.ho (m - 1) (by omega)
    have h0 := R.ho 0 (by omega)
    have t := hC.t (O 0) h0 (O 0) h0 (O (m - 1)) h1
    have d := hC.d (O 0) h0
    omega
  · rw [if_neg neg]
    refine ⟨mkM_sz, ⟨fun i hi => ?_, fun i hi j hj k hk => ?_⟩, fun i hi j hj => ?_, fun C hC hl i hi j hj => ?_⟩
    · rw [mkM_get hi hi]
      unfold wayF
      rw [if_pos (Nat.le_refl _)]
      omega
    · rw [mkM_get hi hj, mkM_get hi hk, mkM_get hk hj]
      unfold wayF
      repeat' split
      all_goals omega
    · rw [mkM_get hi hj]
      exact RD.ge i hi j hj
    · rw [mkM_get hi hj]
      have := ring_le R RD hC hl (R.hp i hi) (R.hp j hj)
      rwa [R.op i hi, R.op j hj] at this
/-- sums of a list, one after the other -/
def preS (es : List Int) (k : Nat) : Int := (es.take k).sum
theorem sum_snoc (xs : List Int) (x : Int) : (xs ++ [x]).sum = xs.sum + x := by
  induction xs with
  | nil => simp
  | cons y ys ih =>
    rw [List.cons_append, List.sum_cons, ih, List.sum_cons]
    omega
theorem preS_succ {es : List Int} {k : Nat} (h : k < es.length) : preS es (k + 1) = preS es k + es.getD k 0 := by
  unfold preS
  have e : es.take (k + 1) = es.take k ++ [es[k]] := by
    rw [List.take_succ, List.getElem?_eq_getElem h]
    rfl
  rw [e, sum_snoc, List.getD_eq_getElem?_getD, List.getElem?_eq_getElem h]
  rfl
theorem preS_abs {es : List Int} : ∀ {p q : Nat}, p ≤ q → q ≤ es.length → preS es q - preS es p ≤ preS (es.map absI) q - preS (es.map absI) p ∧ preS (es.map absI) p ≤ preS (es.map absI) q := by
  intro p q h hq
  induction q with
  | zero =>
    have e : p = 0 := by omega
    subst e
    omega
  | succ q ih =>
    by_cases e : p = q + 1
    · subst e
      omega
    · obtain ⟨h1, h2⟩ := ih (by omega) (by omega)
      rw [preS_succ (by omega), preS_succ (es := es.map absI) (by rw [List.length_map]; omega)]
      have eg : (es.map absI).getD q 0 = absI (es.getD q 0) := by
        rw [List.getD_eq_getElem?_getD, List.getD_eq_getElem?_getD, List.getElem?_map, List.getElem?_eq_getElem (show q < es.length by omega)]
        rfl
      rw [eg]
      have a := le_abs (es.getD q 0)
      have b : 0 ≤ absI (es.getD q 0) := by unfold absI; split <;> omega
      omega
theorem way_far {es : List Int} {p q : Nat} (hp : p < es.length) (hq : q < es.length) : wayF (preS es) es.length p q ≤ (es.map absI).sum := by
  have et : (es.map absI).sum = preS (es.map absI) es.length := by
    unfold preS
    rw [List.take_of_length_le (by rw [List.length_map]; exact Nat.le_refl _)]
  rw [et]
  have z : preS (es.map absI) 0 = 0 := rfl
  have z' : preS es 0 = 0 := rfl
  have a0 := preS_abs (es := es) (p := 0) (q := p) (by omega) (by omega)
  have a1 := preS_abs (es := es) (p := q) (q := es.length) (by omega) (Nat.le_refl _)
  have a2 := preS_abs (es := es) (p := p) (q := es.length) (by omega) (Nat.le_refl _)
  have a3 := preS_abs (es := es) (p := 0) (q := q) (by omega) (by omega)
  unfold wayF
  split
  · rename_i h
    have b := preS_abs (es := es) h (by omega)
    omega
  · rename_i h
    have b := preS_abs (es := es) (p := q) (q := p) (by omega) (by omega)
    omega
/-- places of a row of all numbers below m -/
theorem perm_ring {m : Nat} {L : List Nat} (h : L.Perm (List.range m)) : L.length = m ∧ L.Nodup ∧ (∀ i < m, i ∈ L) ∧ ∀ x ∈ L, x < m := by
  refine ⟨by rw [h.length_eq, List.length_range], h.nodup_iff.mpr List.nodup_range, fun i hi => h.mem_iff.mpr (List.mem_range.mpr hi), fun x hx => List.mem_range.mp (h.mem_iff.mp hx)⟩
/-- a row of places, as values -/
def NL (L : List Nat) : List V := L.map fun (i : Nat) => V.int (i : Int)
theorem erase_perm {α : Type} : ∀ {L : List α} {k : Nat} {x : α}, L[k]? = some x → L.Perm (x :: L.eraseIdx k)
  | [], _, _, e => by simp at e
  | y :: L, 0, x, e => by
    have : y = x := by simpa using e
    subst this
    exact List.Perm.refl _
  | y :: L, k + 1, x, e => by
    have ih := erase_perm (L := L) (k := k) (x := x) (by simpa using e)
    rw [List.eraseIdx_cons_succ]
    exact (List.Perm.cons y ih).trans (List.Perm.swap x y _)
theorem NL_erase {L : List Nat} {k : Nat} : (NL L).eraseIdx k = NL (L.eraseIdx k) := by
  unfold NL
  induction L generalizing k with
  | nil => rfl
  | cons y L ih =>
    cases k with
    | zero => rfl
    | succ k => simp only [List.map_cons, List.eraseIdx_cons_succ, ih]
theorem rg_nl (n : Nat) : rgV 0 ((n : Int) + 1) = NL (List.range (n + 1)) := by
  unfold rgV NL
  have e : ((n : Int) + 1 - 0).toNat = n + 1 := by omega
  rw [e]
  refine List.map_congr_left fun i _ => ?_
  rw [Int.zero_add]
/-- the place of each number in the order, as far as told -/
noncomputable def plc (P : Nat → Nat) (k : Nat) : Nat → Int := fun i => if P i < k then (P i : Int) else 0
theorem plc_full {m i : Nat} {P : Nat → Nat} (h : P i < m) : plc P m i = (P i : Int) := if_pos h
theorem plc_set {m k x : Nat} {P : Nat → Nat} (hx : x < m) (hP : ∀ i < m, (P i = k ↔ i = x)) : ((mkR m (plc P k)).map V.int).set x (.int (k : Int)) = (mkR m (plc P (k + 1))).map V.int := by
  rw [← List.map_set]
  congr 1
  refine List.ext_getElem? fun i => ?_
  by_cases hi : i < m
  · rw [List.getElem?_set, mkR_at hi, mkR_at hi, mkR_len]
    by_cases e : x = i
    · subst e
      have := (hP x hi).mpr rfl
      rw [if_pos rfl, if_pos hi]
      unfold plc
      rw [this, if_pos (by omega)]
    · have ne : P i ≠ k := fun z => e ((hP i hi).mp z).symm
      rw [if_neg e]
      unfold plc
      congr 1
      split <;> split <;> omega
  · rw [List.getElem?_eq_none (by rw [List.length_set, mkR_len]; omega), List.getElem?_eq_none (by rw [mkR_len]; omega)]
theorem mkR_snoc {k : Nat} {f : Nat → Int} : mkR k f ++ [f k] = mkR (k + 1) f := by
  unfold mkR
  rw [List.range_succ, List.map_append]
  rfl
theorem places {m : Nat} {O : List Nat} (pm : O.Perm (List.range m)) : ∃ P : Nat → Nat, (∀ i < m, P i < m ∧ O[P i]? = some i) ∧ ∀ k < m, ∀ x, O[k]? = some x → P x = k := by
  obtain ⟨l, nd, al, lt⟩ := perm_ring pm
  have ex : ∀ i, ∃ k, i < m → k < m ∧ O[k]? = some i := fun i => by
    by_cases hi : i < m
    · obtain ⟨k, hk, e⟩ := List.getElem_of_mem (al i hi)
      exact ⟨k, fun _ => ⟨by omega, by rw [List.getElem?_eq_getElem hk, e]⟩⟩
    · exact ⟨0, fun h => absurd h hi⟩
  obtain ⟨P, hP⟩ := Classical.skolem.mp ex
  refine ⟨P, hP, fun k hk x e => ?_⟩
  have hx := lt x (List.mem_of_getElem? e)
  exact nodup_ix nd (hP x hx).2 e
theorem Sq.over {K : PySem.W.Frag} {F : Hp} {p a : Addr} {xs ys zs : List V} (h : SqT K F a xs) (e : F p = some (.lst ys)) : SqT K (upd F p (.lst zs)) a xs := by
  rcases h with (h | ⟨o, h⟩) | h
  · exact .inl (.inl (by rw [upd_ne (ne_of h e (by intro z; cases z))]; exact h))
  · exact .inl (.inr ⟨o, by rw [upd_ne (ne_of h e (by intro z; cases z))]; exact h⟩)
  · exact .inr h
theorem lcp_over {K : PySem.W.Frag} {H F : Hp} {p q : Addr} {i : Nat} {M : List (List Int)} {xs ys : List V} (P : LcP (Same H) (RRow K true M q) q i F) (e : F p = some (.lst xs)) (hp : H p = none) (ne : q ≠ p) : LcP (Same H) (RRow K true M q) q i (upd F p (.lst ys)) := by
  obtain ⟨s, acc, h1, h2, h3⟩ := P
  refine ⟨fun b o eb => by rw [upd_ne (ne_of_none eb hp)]; exact s b o eb, acc, by rw [upd_ne ne]; exact h1, h2, fun j y ey => ?_⟩
  obtain ⟨a, r, q1, q2, q3, q4⟩ := h3 j y ey
  exact ⟨a, r, q1, q2, q3, Sq.over q4 e⟩
theorem lcp_go {K : PySem.W.Frag} {H F F' : Hp} {q : Addr} {i : Nat} {M : List (List Int)} (P : LcP (Same H) (RRow K true M q) q i F) (s : Same F F') : LcP (Same H) (RRow K true M q) q i F' := by
  obtain ⟨s0, acc, h1, h2, h3⟩ := P
  refine ⟨s0.trans s, acc, s _ _ h1, h2, fun j y ey => ?_⟩
  obtain ⟨a, r, q1, q2, q3, q4⟩ := h3 j y ey
  exact ⟨a, r, q1, q2, q3, Sq.same s q4⟩
theorem fmod_nat {p n : Nat} : ((p : Int) + 1).fmod ((n : Int) + 1) = (((p + 1) % (n + 1) : Nat) : Int) := by
  rw [Int.fmod_eq_emod_of_nonneg _ (by omega)]
  have e1 : (p : Int) + 1 = ((p + 1 : Nat) : Int) := by omega
  have e2 : (n : Int) + 1 = ((n + 1 : Nat) : Int) := by omega
  rw [e1, e2]
  first | exact (Int.natCast_emod _ _).symm | rfl
/-- the ring's matrix, entry by entry -/
def ringF (es : List Int) (O : List Nat) (P : Nat → Nat) (m : Nat) (near far : Int) : Nat → Nat → Int := fun i j =>
  if O.getD ((P i + 1) % m) 0 = j then es.getD (P i) 0 else if i = j then 0 else wayF (preS es) m (P i) (P j) * near + far * (1 - near) + ((i : Int) + 2 * (j : Int)).fmod 3
theorem ring_ok {es : List Int} {O : List Nat} {P : Nat → Nat} {m : Nat} {near : Int} (two : 2 ≤ m) (les : es.length = m) (lO : O.length = m) (lt : ∀ x ∈ O, x < m) (hP : ∀ i < m, P i < m ∧ O[P i]? = some i) (hPO : ∀ k < m, ∀ x, O[k]? = some x → P x = k) (h0 : 0 ≤ near) (h1 : near < 2) :
    Best m (ringF es O P m near (es.map absI).sum) (ringB m (preS es) P) := by
  have oD : ∀ k < m, O[k]? = some (O.getD k 0) := fun k hk => by
    rw [List.getD_eq_getElem?_getD, List.getElem?_eq_getElem (show k < O.length by omega)]
    rfl
  have R : Ring m (fun k => es.getD k 0) (preS es) (fun k => O.getD k 0) P :=
    ⟨two, rfl, fun k hk => preS_succ (by omega), fun k hk => lt _ (List.mem_of_getElem? (oD k hk)), fun i hi => (hP i hi).1, fun i hi => by
      have a := (hP i hi).2
      rw [oD _ (hP i hi).1] at a
      exact Option.some.inj a, fun k hk => hPO k hk _ (oD k hk)⟩
  refine ring_best R ⟨fun i hi => if_pos rfl, fun i hi j hj => ?_⟩
  have pi := (hP i hi).1
  have pj := (hP j hj).1
  unfold ringF
  by_cases e : O.getD ((P i + 1) % m) 0 = j
  · rw [if_pos e]
    have lm : (P i + 1) % m < m := Nat.mod_lt _ (by omega)
    have ej : P j = (P i + 1) % m := by rw [← e]; exact hPO _ lm _ (oD _ lm)
    have st := preS_succ (es := es) (k := P i) (by omega)
    rw [ej]
    unfold wayF
    by_cases hl : P i + 1 < m
    · rw [Nat.mod_eq_of_lt hl, if_pos (by omega)]
      omega
    · have em : P i + 1 = m := by omega
      rw [em, Nat.mod_self, if_neg (by omega)]
      rw [em] at st
      have z : preS es 0 = 0 := rfl
      omega
  · rw [if_neg e]
    by_cases eij : i = j
    · subst eij
      rw [if_pos rfl]
      unfold wayF
      rw [if_pos (Nat.le_refl _)]
      omega
    · rw [if_neg eij]
      have f0 := fmod_bd (x := (i : Int) + 2 * (j : Int)) (m := 3) (by decide)
      have wf := way_far (es := es) (p := P i) (q := P j) (by omega) (by omega)
      rw [les] at wf
      have hn : near = 0 ∨ near = 1 := by omega
      rcases hn with rfl | rfl <;> omega
/-! ### the ring, drawn -/
theorem ixMem {ns : List Int} {r : Int} (h0 : 0 ≤ r) (h : r < (ns.length : Int)) : ∃ u : Int, u ∈ ns ∧ atI (ns.map V.int) r = some (.int u) := by
  have e := atI_int (xs := ns.map V.int) h0 (by rw [List.length_map]; omega)
  rw [List.getElem_map] at e
  exact ⟨_, List.getElem_mem _, e⟩
def spNumberB : Sp := fun vs H Q _ => ∃ a : Addr, vs = [.ref a] ∧ Src H a ∧ ∀ (r : Int) H', Stp a H H' → -1000000000000000000 ≤ r → r ≤ 1000000000000000000 → Q (.int r) H'
def spWay (K : PySem.W.Frag) : Sp := fun vs H Q _ => ∃ (p : Addr) (S : Nat → Int) (m f l : Nat), vs = [.ref p, .int f, .int l] ∧ SqL K H p ((mkR (m + 1) S).map V.int) ∧ f < m ∧ l < m ∧ Q (.int (wayF S m f l)) H
theorem atI_last {m : Nat} {f : Nat → Int} : atI ((mkR (m + 1) f).map V.int) (-1) = some (.int (f m)) := by
  have e : ixN ((mkR (m + 1) f).map V.int).length (-1) = some m := by
    rw [List.length_map, mkR_len]
    unfold ixN
    rw [if_neg (by decide), if_pos (by omega)]
    congr 1
    omega
  unfold atI
  rw [e]
  show ((mkR (m + 1) f).map V.int)[m]? = _
  exact map_get (mkR_at (by omega))
theorem atI_mk {m i : Nat} {f : Nat → Int} (h : i < m) : atI ((mkR m f).map V.int) (i : Int) = some (.int (f i)) := atI_nat (map_get (mkR_at h))
section
variable {P : Program} {w : World} {K : PySem.W.Frag} {mg : Str → Option Value} {base : Heap}
theorem ok_l_numberB (T : Txt w K mg) : FnOk P w K mg base CX0 2 T.a_l_number T.d_l_number p_l_number spNumberB := by
  have g_l_pick := ok_l_pick (P := P) (w := w) (base := base) T
  refine T.F_l_number.ok sc_l_number (fun vs H Q E h => ?_) (fun cdv A outer s H vs Q E hr h => ?_)
  · obtain ⟨a, rfl, _⟩ := h
    rfl
  obtain ⟨a, rfl, hS, q⟩ := h
  refine ⟨_, (pss_cons (ps_set (i := 1) sc_l_number.nd rfl (Or.inl rfl) (pe_ix ix_list (pe_lst (pa_cons pe_int (pa_cons pe_int (pa_cons pe_int (pa_cons (pe_op op_pow pe_int pe_int) (pa_cons (pe_op op_pow pe_int pe_int) pa_nil)))))) (pe_call g_l_pick (hr.mono (by first | decide | omega)) rfl T.m_l_pick T.F_l_pick.kp T.b_l_pick .nil pass0 (pa_cons (pv 0) (pa_cons pe_int pa_nil))) (fun _ _ => rfl)))
      (pss_one (ps_ret (pe_op op_sub (pe_op op_add (pe_op op_mul (pe_op op_sub (pe_call g_l_pick (hr.mono (by first | decide | omega)) rfl T.m_l_pick T.F_l_pick.kp T.b_l_pick .nil pass0 (pa_cons (pv 0) (pa_cons pe_int pa_nil))) pe_int) (pv 1)) (pe_call g_l_pick (hr.mono (by first | decide | omega)) rfl T.m_l_pick T.F_l_pick.kp T.b_l_pick .nil pass0 (pa_cons (pv 0) (pa_cons pe_int pa_nil)))) pe_int)))), ?_⟩
  refine ⟨10, 8, rfl, rfl, ⟨by decide, by decide, by decide⟩, 10, 17, rfl, rfl, ⟨by decide, by decide, by decide⟩, (by show 5 ≤ sizeLine; decide), fun l hl => ?_⟩
  refine ⟨_, rfl, a, 5, rfl, hS.new hl, by decide, fun r H1 st r0 r1 => ?_⟩
  have hl1 : H1 l = some (.lst ([1, 1, 1000, 10 ^ 8, 10 ^ 17].map V.int)) := st.k _ _ (hS.ne hl).symm upd_same
  obtain ⟨u, mu, eu⟩ := ixMem (ns := [1, 1, 1000, 10 ^ 8, 10 ^ 17]) (r := r) r0 (by show r < 5; omega)
  refine ⟨l, _, r, _, rfl, rfl, SqL.of hl1, eu, ?_⟩
  have s1 : Stp a H H1 := ((Stp.refl hS).new hl).trans st
  refine ⟨_, rfl, a, 19, rfl, s1.s, by decide, fun r2 H2 st2 r20 r21 => ?_⟩
  refine ⟨_, _, rfl, rfl, _, rfl, _, _, rfl, rfl, .inl ⟨by omega, by omega⟩, ?_⟩
  refine ⟨_, rfl, a, 7, rfl, (s1.trans st2).s, by decide, fun r3 H3 st3 r30 r31 => ?_⟩
  refine ⟨_, _, rfl, rfl, _, _, rfl, rfl, ?_⟩
  have bd : -1000000000000000000 ≤ (r2 - 9) * u + r3 - 3 ∧ (r2 - 9) * u + r3 - 3 ≤ 1000000000000000000 := by
    have e8 : (10 : Int) ^ 8 = 100000000 := by decide
    have e17 : (10 : Int) ^ 17 = 100000000000000000 := by decide
    rw [e8, e17] at mu
    simp only [List.mem_cons, List.not_mem_nil, or_false] at mu
    rcases mu with rfl | rfl | rfl | rfl | rfl <;> omega
  exact q _ _ ((s1.trans st2).trans st3) bd.1 bd.2
theorem ok_l_way (T : Txt w K mg) : FnOk P w K mg base CX0 1 T.a_l_way T.d_l_way p_l_way (spWay K) := by
  refine T.F_l_way.ok sc_l_way (fun vs H Q E h => ?_) (fun cdv A outer s H vs Q E hr h => ?_)
  · obtain ⟨p, S, m, f, l, rfl, _⟩ := h
    rfl
  obtain ⟨p, S, m, f, l, rfl, hs, hf, hl, q⟩ := h
  refine ⟨_, (pss_cons (ps_if (pt_cmpR op_le (pv 1) (pv 2) (nomark _)) (pss_one (ps_ret (pe_op op_sub (pe_ix ix_list (pv 0) (pv 2) (fun _ _ => rfl)) (pe_ix ix_list (pv 0) (pv 1) (fun _ _ => rfl))))) pss_nil)
      (pss_one (ps_ret (pe_op op_add (pe_op op_sub (pe_ix ix_list (pv 0) (pv 2) (fun _ _ => rfl)) (pe_ix ix_list (pv 0) (pv 1) (fun _ _ => rfl))) (pe_ix ix_list (pv 0) (pe_un un_neg pe_int) (fun _ _ => rfl)))))), ?_⟩
  have xf := atI_mk (m := m + 1) (f := S) (i := f) (by omega)
  have xl := atI_mk (m := m + 1) (f := S) (i := l) (by omega)
  refine ⟨_, rfl, _, rfl, _, _, rfl, rfl, _, rfl, ite2 (fun h => ?_) (fun h => ?_)⟩
  · have h' : (f : Int) ≤ l := of_decide_eq_true h
    refine ⟨_, rfl, _, rfl, p, _, _, _, rfl, rfl, hs, xl, _, rfl, _, rfl, p, _, _, _, rfl, rfl, hs, xf, _, _, rfl, rfl, ?_⟩
    have e : wayF S m f l = S l - S f := if_pos (by omega)
    rw [e] at q
    exact q
  · have h' : ¬ (f : Int) ≤ l := of_decide_eq_false (Bool.eq_false_iff.mpr h)
    have e : wayF S m f l = S l - S f + S m := if_neg (by omega)
    rw [e] at q
    exact ⟨_, rfl, _, rfl, p, _, _, _, rfl, rfl, hs, xl, _, rfl, _, rfl, p, _, _, _, rfl, rfl, hs, xf, _, _, rfl, rfl, _, rfl, _, rfl, p, _, _, _, rfl, rfl, hs, atI_last, _, _, rfl, rfl, q⟩
theorem ok_l_ring (T : Txt w K mg) : FnOk P w K mg base CX0 3 T.a_l_ring T.d_l_ring p_l_ring (spPair K) := by
  have g_l_pick := ok_l_pick (P := P) (w := w) (base := base) T
  have g_l_number := ok_l_numberB (P := P) (w := w) (base := base) T
  have g_l_way := ok_l_way (P := P) (w := w) (base := base) T
  refine T.F_l_ring.ok sc_l_ring (fun vs H Q E h => ?_) (fun cdv A outer s H vs Q E hr h => ?_)
  · obtain ⟨a, rfl, _⟩ := h
    rfl
  obtain ⟨a, rfl, hS, q⟩ := h
  refine ⟨_, (pss_cons (ps_set (i := 1) sc_l_ring.nd rfl (Or.inl rfl) (pe_op op_add pe_int (pe_call g_l_pick (hr.mono (by first | decide | omega)) rfl T.m_l_pick T.F_l_pick.kp T.b_l_pick .nil pass0 (pa_cons (pv 0) (pa_cons pe_int pa_nil)))))
      (C8.pss_cut (ps_if (pt_cmpR op_eq (pe_call g_l_pick (hr.mono (by first | decide | omega)) rfl T.m_l_pick T.F_l_pick.kp T.b_l_pick .nil pass0 (pa_cons (pv 0) (pa_cons pe_int pa_nil))) pe_int (nomark _)) (pss_one (ps_set (i := 1) sc_l_ring.nd rfl (Or.inl rfl) (pe_op op_add pe_int (pe_call g_l_pick (hr.mono (by first | decide | omega)) rfl T.m_l_pick T.F_l_pick.kp T.b_l_pick .nil pass0 (pa_cons (pv 0) (pa_cons pe_int pa_nil)))))) pss_nil)
      (pss_cons (ps_set (i := 2) sc_l_ring.nd rfl (Or.inr rfl) (pe_call g_l_pick (hr.mono (by first | decide | omega)) rfl T.m_l_pick T.F_l_pick.kp T.b_l_pick .nil pass0 (pa_cons (pv 0) (pa_cons pe_int pa_nil))))
      (pss_cons (ps_set (i := 3) sc_l_ring.nd rfl (Or.inl rfl) (pe_listRg rfl rfl T.z_list (prg_1 rfl T.z_range (pe_op op_add (pv 1) pe_int))))
      (pss_cons (ps_set (i := 4) sc_l_ring.nd rfl (Or.inl rfl) (pe_lst pa_nil))
      (pss_cons (ps_for PassesOwn.never rfl (pi_range1 rfl T.z_range (pa_cons (pe_op op_add (pv 1) pe_int) pa_nil)) (pg_name (i := 5) sc_l_ring.nd rfl (Or.inl rfl))
        (pss_one (ps_expr (pe_bm PySem.F.plainAttrs_list PySem.F.slot_list_append PySem.F.type_list_append mt_append (pv 4) (pa_cons (pe_bm PySem.F.plainAttrs_list PySem.F.slot_list_pop PySem.F.type_list_pop mt_popAt (pv 3) (pa_cons (pe_call g_l_pick (hr.mono (by first | decide | omega)) rfl T.m_l_pick T.F_l_pick.kp T.b_l_pick .nil pass0 (pa_cons (pv 0) (pa_cons (pe_callB call_len_seq rfl T.z_len PySem.boot_len (pa_cons (pv 3) pa_nil)) pa_nil))) pa_nil)) pa_nil)))))
      (pss_cons (ps_set (i := 6) sc_l_ring.nd rfl (Or.inr rfl) (pe_ix ix_list (pe_lst (pa_cons pe_int (pa_cons (pe_op op_pow pe_int pe_int) pa_nil))) (pe_callTy call_int1 rfl T.z_int bt_int (pa_cons (pe_cmpR op_eq (pe_call g_l_pick (hr.mono (by first | decide | omega)) rfl T.m_l_pick T.F_l_pick.kp T.b_l_pick .nil pass0 (pa_cons (pv 0) (pa_cons pe_int pa_nil))) pe_int (nomark _)) pa_nil)) (fun _ _ => rfl)))
      (pss_cons (ps_setLc (i := 7) (own := [("_law_k", 5)]) (g := gName 5) (tt := tYes) rfl sc_l_ring.nd rfl rfl (sw_true rfl rfl rfl (by decide +kernel)) (pi_range1 rfl T.z_range (pa_cons (pv 1) pa_nil)) (blkOk_by (own := [("_law_k", 5)]) (N := n_l_ring) (sc := defScope s_l_ring) (by decide +kernel)) (fun _ _ _ _ _ => (pg_name (i := 5) sc_l_ring.nd rfl (Or.inl rfl))) (fun _ _ _ _ _ => pts_nil) (fun _ _ _ _ _ => (pe_op op_mul (pe_call g_l_number (hr.mono (by first | decide | omega)) rfl T.m_l_number T.F_l_number.kp T.b_l_number .nil pass0 (pa_cons (pv 0) pa_nil)) (pv 6))))
      (pss_cons (ps_expr (pe_bm PySem.F.plainAttrs_list PySem.F.slot_list_append PySem.F.type_list_append mt_append (pv 7) (pa_cons (pe_op op_sub (pe_op op_sub (pe_call g_l_pick (hr.mono (by first | decide | omega)) rfl T.m_l_pick T.F_l_pick.kp T.b_l_pick .nil pass0 (pa_cons (pv 0) (pa_cons pe_int pa_nil))) pe_int) (pe_callB (cr_sum rfl) rfl T.z_sum bb_sum (pa_cons (pv 7) pa_nil))) pa_nil)))
      (pss_cons (ps_set (i := 8) sc_l_ring.nd rfl (Or.inr rfl) (pe_callB (cr_sum rfl) rfl T.z_sum bb_sum (pa_cons (pe_lc (own := [("_law_entry", 9)]) (g := gName 9) (tt := tYes) rfl sc_l_ring.nd (pi_list (pv 7)) (blkOk_by (own := [("_law_entry", 9)]) (N := n_l_ring) (sc := defScope s_l_ring) (by decide +kernel)) (fun _ _ _ _ _ => (pg_name (i := 9) sc_l_ring.nd rfl (Or.inl rfl))) (fun _ _ _ _ _ => pts_nil) (fun _ _ _ _ _ => (pe_callB call_abs rfl T.z_abs bb_abs (pa_cons (pv 9) pa_nil)))) pa_nil)))
      (pss_cons (ps_set (i := 10) sc_l_ring.nd rfl (Or.inr rfl) (pe_op op_rep (pe_lst (pa_cons pe_int pa_nil)) (pe_op op_add (pv 1) pe_int)))
      (pss_cons (ps_set (i := 11) sc_l_ring.nd rfl (Or.inr rfl) (pe_lst (pa_cons pe_int pa_nil)))
      (pss_cons (ps_for PassesOwn.never rfl (pi_range1 rfl T.z_range (pa_cons (pe_op op_add (pv 1) pe_int) pa_nil)) (pg_name (i := 5) sc_l_ring.nd rfl (Or.inl rfl))
        (pss_cons (ps_asg (pv 5) (pg_sub (pv 10) (pe_ix ix_list (pv 4) (pv 5) (fun _ _ => rfl)) set_list))
      (pss_one (ps_expr (pe_bm PySem.F.plainAttrs_list PySem.F.slot_list_append PySem.F.type_list_append mt_append (pv 11) (pa_cons (pe_op op_add (pe_ix ix_list (pv 11) (pv 5) (fun _ _ => rfl)) (pe_ix ix_list (pv 7) (pv 5) (fun _ _ => rfl))) pa_nil))))))
      (pss_cons (ps_set (i := 12) sc_l_ring.nd rfl (Or.inl rfl) (pe_lst pa_nil))
      (pss_cons (ps_set (i := 13) sc_l_ring.nd rfl (Or.inl rfl) (pe_lst pa_nil))
      (pss_cons (ps_for PassesOwn.never rfl (pi_range1 rfl T.z_range (pa_cons (pe_op op_add (pv 1) pe_int) pa_nil)) (pg_name (i := 14) sc_l_ring.nd rfl (Or.inr rfl))
        (pss_cons (ps_set (i := 15) sc_l_ring.nd rfl (Or.inr rfl) (pe_lc (own := [("_law_j", 16)]) (g := gName 16) (tt := tYes) rfl sc_l_ring.nd (pi_range1 rfl T.z_range (pa_cons (pe_op op_add (pv 1) pe_int) pa_nil)) (blkOk_by (own := [("_law_j", 16)]) (N := n_l_ring) (sc := defScope s_l_ring) (by decide +kernel)) (fun _ _ _ _ _ => (pg_name (i := 16) sc_l_ring.nd rfl (Or.inl rfl))) (fun _ _ _ _ _ => pts_nil) (fun _ _ _ _ _ => (pe_call g_l_way (hr.mono (by first | decide | omega)) rfl T.m_l_way T.F_l_way.kp T.b_l_way .nil pass0 (pa_cons (pv 11) (pa_cons (pe_ix (show IxR _ (rIxL K) from ix_list) (pv 10) (pv 14) (fun _ _ => rfl)) (pa_cons (pe_ix (show IxR _ (rIxL K) from ix_list) (pv 10) (pv 16) (fun _ _ => rfl)) pa_nil)))))))
      (pss_cons (ps_setLc (i := 17) (own := [("_law_j", 16)]) (g := gName 16) (tt := tYes) rfl sc_l_ring.nd rfl rfl (sw_true rfl rfl rfl (by decide +kernel)) (pi_range1 rfl T.z_range (pa_cons (pe_op op_add (pv 1) pe_int) pa_nil)) (blkOk_by (own := [("_law_j", 16)]) (N := n_l_ring) (sc := defScope s_l_ring) (by decide +kernel)) (fun _ _ _ _ _ => (pg_name (i := 16) sc_l_ring.nd rfl (Or.inl rfl))) (fun _ _ _ _ _ => pts_nil) (fun _ _ _ _ _ => (pe_op op_add (pe_op op_add (pe_op op_mul (pe_ix (show IxR _ (rIxL K) from ix_list) (pv 15) (pv 16) (fun _ _ => rfl)) (pv 2)) (pe_op op_mul (pv 8) (pe_op op_sub pe_int (pv 2)))) (pe_op op_modN (pe_callTy call_int1 rfl T.z_int bt_int (pa_cons (pe_op op_add (pv 14) (pe_op op_mul pe_int (pv 16))) pa_nil)) pe_int))))
      (pss_cons (ps_asg pe_int (pg_sub (pv 17) (pv 14) set_list))
      (pss_cons (ps_set (i := 18) sc_l_ring.nd rfl (Or.inl rfl) (pe_ix ix_list (pv 4) (pe_op op_modN (pe_callTy call_int1 rfl T.z_int bt_int (pa_cons (pe_op op_add (pe_ix ix_list (pv 10) (pv 14) (fun _ _ => rfl)) pe_int) pa_nil)) (pe_op op_add (pv 1) pe_int)) (fun _ _ => rfl)))
      (pss_cons (ps_asg (pe_ix ix_list (pv 7) (pe_ix ix_list (pv 10) (pv 14) (fun _ _ => rfl)) (fun _ _ => rfl)) (pg_sub (pv 17) (pv 18) set_list))
      (pss_cons (ps_expr (pe_bm PySem.F.plainAttrs_list PySem.F.slot_list_append PySem.F.type_list_append mt_append (pv 12) (pa_cons (pe_callTy call_tuple_of rfl T.z_tuple bt_tuple (pa_cons (pv 17) pa_nil)) pa_nil)))
      (pss_one (ps_expr (pe_bm PySem.F.plainAttrs_list PySem.F.slot_list_append PySem.F.type_list_append mt_append (pv 13) (pa_cons (pe_callTy call_tuple_of rfl T.z_tuple bt_tuple (pa_cons (pv 15) pa_nil)) pa_nil)))))))))))
      (pss_cons (ps_if (pt_cmpR op_lt (pe_ix ix_list (pv 11) (pe_op op_add (pv 1) pe_int) (fun _ _ => rfl)) pe_int (nomark _)) (pss_one (ps_ret (pe_lst (pa_cons (pe_callTy call_tuple_of rfl T.z_tuple bt_tuple (pa_cons (pv 12) pa_nil)) (pa_cons pe_non pa_nil))))) pss_nil)
      (pss_one (ps_ret (pe_lst (pa_cons (pe_callTy call_tuple_of rfl T.z_tuple bt_tuple (pa_cons (pv 12) pa_nil)) (pa_cons (pe_callTy call_tuple_of rfl T.z_tuple bt_tuple (pa_cons (pv 13) pa_nil)) pa_nil)))))))))))))))))))))), ?_⟩
  refine ⟨_, rfl, a, 6, rfl, hS, by decide, fun r0 H1 st1 r00 r01 => ?_⟩
  refine ⟨_, _, rfl, rfl, ?_⟩
  refine ⟨fun σ G => ∃ n : Nat, σ = [some (.ref a), some (.int n), none, none, none, none, none, none, none, none, none, none, none, none, none, none, none, none, none] ∧ Stp a H G ∧ 1 ≤ n ∧ n ≤ 20, ?_, ?_⟩
  · refine ⟨_, rfl, a, 2, rfl, st1.s, by decide, fun r1 H2 st2 _ _ => ⟨rfl, _, rfl, ite2 (fun _ => ?_) (fun _ => ?_)⟩⟩
    · refine ⟨_, rfl, a, 14, rfl, st2.s, by decide, fun r2 H3 st3 r20 r21 => ⟨_, _, rfl, rfl, ?_⟩⟩
      refine ⟨(7 + r2).toNat, ?_, (st1.trans st2).trans st3, by omega, by omega⟩
      have e : ((7 + r2).toNat : Int) = 7 + r2 := by omega
      rw [e]
      rfl
    · refine ⟨(1 + r0).toNat, ?_, st1.trans st2, by omega, by omega⟩
      have e : ((1 + r0).toNat : Int) = 1 + r0 := by omega
      rw [e]
      rfl
  rintro σ G0 ⟨n, rfl, s0, n1, n20⟩
  refine ⟨_, rfl, a, 2, rfl, s0.s, by decide, fun near H2 st2 ne0 ne1 => ?_⟩
  have s2 := s0.trans st2
  refine ⟨_, rfl, _, _, rfl, rfl, _, rfl, ⟨by omega, by omega, by omega, by omega, by omega⟩, fun pl hpl => ?_⟩
  rw [rg_nl]
  have s3 : Stp a H (upd H2 pl (.lst (NL (List.range (n + 1))))) := s2.new hpl
  refine ⟨(by show 0 ≤ sizeLine; decide), fun po hpo => ?_⟩
  have npl : pl ≠ po := ne_of_none upd_same hpo
  have s4 := s3.new (o := .lst []) hpo
  have apo : a ≠ po := s3.s.ne hpo
  have apl : a ≠ pl := s2.s.ne hpl
  have hpl0 : H pl = none := s2.free hpl
  have hpo0 : H po = none := s3.free hpo
  refine ⟨_, rfl, _, _, rfl, rfl, _, rfl, by omega, by omega, for_range (lo := 0) (fun i σ G => (∃ c : Option V, σ = [some (.ref a), some (.int n), some (.int near), some (.ref pl), some (.ref po), c, none, none, none, none, none, none, none, none, none, none, none, none, none]) ∧ Stp a H G ∧ ∃ L O : List Nat, G pl = some (.lst (NL L)) ∧ G po = some (.lst (NL O)) ∧ O.length = i ∧ (L ++ O).Perm (List.range (n + 1)))
    ⟨⟨none, rfl⟩, s4, List.range (n + 1), [], by rw [upd_ne npl]; exact upd_same, upd_same, rfl, by rw [List.append_nil]⟩ ?_ ?_⟩
  · rintro i σ G hi ⟨⟨c, rfl⟩, sG, L, O, eL, eO, lO, pm⟩
    have ll : L.length + i = n + 1 := by
      have := pm.length_eq
      rw [List.length_append, List.length_range] at this
      omega
    have lNL : (NL L).length = L.length := List.length_map _
    refine ⟨_, rfl, .inl ⟨rfl, _, SqL.of eO⟩, _, rfl, .inl ⟨rfl, _, SqL.of eL⟩, ?_⟩
    refine ⟨_, rfl, _, rfl, pl, _, rfl, .inl (SqL.of eL), a, _, rfl, sG.s, by rw [lNL]; omega, fun r G2 st r1 r2 => ?_⟩
    rw [lNL] at r2
    have hk : r.toNat < L.length := by omega
    have eL2 := st.k _ _ apl.symm eL
    have eO2 := st.k _ _ apo.symm eO
    have ex : L[r.toNat]? = some L[r.toNat] := List.getElem?_eq_getElem hk
    have pe := erase_perm ex
    generalize L[r.toNat] = x at ex pe
    refine ⟨pl, _, r, r.toNat, .int (x : Int), rfl, rfl, eL2, by omega, by omega, (ixN_seq (ixN_int r1 (by rw [lNL]; omega))).1, map_get ex, ?_⟩
    have n1 : po ≠ pl := npl.symm
    refine ⟨po, _, _, rfl, rfl, by rw [upd_ne n1]; exact eO2, lt_line (by show (NL O).length ≤ _; unfold NL; rw [List.length_map]; omega), ⟨_, rfl⟩, ?_, L.eraseIdx r.toNat, O ++ [x], ?_, ?_, by rw [List.length_append, lO]; rfl, ?_⟩
    · exact ((sG.trans st).put hS hpl0).put hS hpo0
    · rw [upd_ne npl, NL_erase]
      exact upd_same
    · unfold NL
      rw [List.map_append]
      exact upd_same
    · refine List.Perm.trans ?_ pm
      rw [← List.append_assoc]
      have p1 : (L.eraseIdx r.toNat ++ O ++ [x]).Perm (x :: (L.eraseIdx r.toNat ++ O)) := List.perm_append_singleton x _
      refine p1.trans ?_
      rw [← List.cons_append]
      exact (List.Perm.append_right O pe).symm
  rintro σ G3 ⟨⟨c, rfl⟩, s5, L, O, eL, eO, lO, pmL⟩
  have em : ((n : Int) + 1).toNat = n + 1 := by omega
  rw [em] at lO
  have eLn : L = [] := by
    have := pmL.length_eq
    rw [List.length_append, List.length_range] at this
    exact List.length_eq_zero_iff.mp (by omega)
  subst eLn
  rw [List.nil_append] at pmL
  -- the unit and the entries
  refine ⟨10, 40, rfl, rfl, ⟨by decide, by decide, by decide⟩, (by show 2 ≤ sizeLine; decide), fun lu hlu => ?_⟩
  refine ⟨_, rfl, a, 8, rfl, s5.s.new hlu, by decide, fun r8 G4 st8 _ _ => ?_⟩
  have elu : G4 lu = some (.lst ([1, 10 ^ 40].map V.int)) := st8.k _ _ (s5.s.ne hlu).symm upd_same
  have s6 := (s5.new (o := .lst ([1, 10 ^ 40].map V.int)) hlu).trans st8
  have eO4 : G4 po = some (.lst (NL O)) := st8.k _ _ apo.symm (by rw [upd_ne (ne_of_none eO hlu)]; exact eO)
  obtain ⟨u, eu⟩ : ∃ u : Int, atI ([1, 10 ^ 40].map V.int) (if decide (V.int r8 = V.int 0) = true then 1 else 0) = some (.int u) := by
    split
    · exact ixInt (ns := [1, 10 ^ 40]) (r := 1) (by decide) (by decide)
    · exact ixInt (ns := [1, 10 ^ 40]) (r := 0) (by decide) (by decide)
  refine ⟨rfl, .inr ⟨_, rfl, lu, _, _, _, rfl, rfl, SqL.of elu, eu, ?_⟩⟩
  refine ⟨_, rfl, _, rfl, by omega, by omega, fun pe hpe => ?_⟩
  have ape : a ≠ pe := s6.s.ne hpe
  refine lc_it walk_range (LcP (fun F => Stp a G4 F) (fun _ y _ => ∃ k : Int, y = .int k) pe) ⟨(Stp.refl s6.s).new hpe, [], upd_same, rfl, fun j y e => by simp at e⟩ (fun _ _ _ _ => trivial) ?_ ?_
  · rintro j x F F' hj PF ⟨rfl, rfl⟩
    refine ⟨rfl, tyes ?_⟩
    refine ⟨_, rfl, a, rfl, PF.1.s, fun k F2 st3 k1 k2 => ?_⟩
    refine ⟨_, rfl, _, _, rfl, rfl, .inl ⟨by omega, by omega⟩, ?_⟩
    exact lcp_step PF (fun o e => st3.k _ _ ape.symm e) (lt_line (by omega)) (fun o => (PF.1.trans st3).put s6.s hpe) (fun _ _ _ h => h) fun _ => ⟨_, rfl⟩
  intro G5 PF
  obtain ⟨s7, acc, ee, le, h3⟩ := PF
  obtain ⟨es0, rfl⟩ := ints_of h3
  rw [List.length_map] at le
  have eO5 := s7.k _ _ apo.symm eO4
  have nope : po ≠ pe := ne_of_none eO4 hpe
  refine ⟨_, rfl, .inl ⟨rfl, _, SqL.of ee⟩, _, rfl, a, 5, rfl, s7.s, by decide, fun r9 G6 st9 _ _ => ?_⟩
  have ee6 := st9.k _ _ ape.symm ee
  have eO6 := st9.k _ _ apo.symm eO5
  have s8 := (s6.trans s7).trans st9
  have hpe0 : H pe = none := s6.free hpe
  refine ⟨_, _, rfl, rfl, _, rfl, pe, _, rfl, SqL.of ee6, _, _, rfl, rfl, pe, _, _, rfl, rfl, ee6, lt_line (by rw [List.length_map]; omega), ?_⟩
  dsimp only
  generalize (r9 - 1 - es0.sum : Int) = lastE
  have ees : (upd G6 pe (.lst (es0.map V.int ++ [.int lastE]))) pe = some (.lst ((es0 ++ [lastE]).map V.int)) := by rw [List.map_append]; exact upd_same
  have les : (es0 ++ [lastE]).length = n + 1 := by rw [List.length_append, le]; simp
  have eO7 : (upd G6 pe (.lst (es0.map V.int ++ [.int lastE]))) po = some (.lst (NL O)) := by rw [upd_ne nope]; exact eO6
  have s9 : Stp a H (upd G6 pe (.lst (es0.map V.int ++ [.int lastE]))) := s8.put hS hpe0
  generalize es0 ++ [lastE] = es at ees les
  generalize upd G6 pe (.lst (es0.map V.int ++ [.int lastE])) = H5 at ees eO7 s9
  generalize hm : n + 1 = m at *
  have two : 2 ≤ m := by omega
  have m21 : m ≤ 21 := by omega
  have emI : (n : Int) + 1 = (m : Int) := by omega
  have enI : (n : Int) = (m : Int) - 1 := by omega
  obtain ⟨P, hP, hPO⟩ := places pmL
  obtain ⟨lOm, ndO, alO, ltO⟩ := perm_ring pmL
  have oAt : ∀ k < m, ∃ x, O[k]? = some x ∧ x < m ∧ P x = k := fun k hk => by
    have e : O[k]? = some (O[k]'(by omega)) := List.getElem?_eq_getElem _
    exact ⟨_, e, ltO _ (List.mem_of_getElem? e), hPO k hk _ e⟩
  have aO : ∀ k x : Nat, O[k]? = some x → atI (NL O) (k : Int) = some (.int (x : Int)) := fun k x e => atI_nat (map_get e)
  have aE : ∀ k < m, atI (es.map V.int) (k : Int) = some (.int (es.getD k 0)) := fun k hk => by
    have := atI_row (r := es) (i := k) (by omega)
    rwa [Int.zero_add] at this
  -- the sum of all entries
  refine ⟨_, rfl, pe, rfl, ⟨_, SqL.of ees⟩, fun D3 hD3 => ?_⟩
  refine lc_it (walk_list (xs := es.map V.int)) (LcP (Same H5) (RInt (es.map absI)) D3) (lcp_start hD3) (fun j F _ P => SqL.of (P.1 _ _ ees)) ?_ ?_
  · rintro j x F F' hj PF ⟨rfl, ex⟩
    obtain ⟨k, fk, rfl⟩ := get_int ex
    rw [List.length_map] at hj
    refine ⟨rfl, tyes ?_⟩
    refine ⟨_, rfl, _, rfl, ?_⟩
    exact lcp_same PF hD3 (Same.refl _) (lt_line (by omega)) RInt.mono ⟨_, map_get fk, rfl⟩
  intro F5 PF5
  refine ⟨D3, _, rfl, SqL.of (lcp_ints (K := K) PF5 (by rw [List.length_map, List.length_map])), ?_⟩
  -- the places and the sums
  refine ⟨(by show 1 ≤ sizeLine; decide), fun l1 hl1 => ?_⟩
  refine ⟨_, rfl, _, _, rfl, rfl, l1, _, _, rfl, rfl, upd_same, by omega, by omega, ?_, fun pp hpp => ?_⟩
  · rw [emI, Int.toNat_natCast, sizeLine_eq]
    show 1 * m ≤ _
    omega
  rw [emI, Int.toNat_natCast, rep_row]
  have s10 : Same H5 (upd (upd F5 l1 (.lst [.int 0])) pp (.lst ((mkR m fun _ => 0).map V.int))) := (PF5.1.trans (Same.new hl1 _)).trans (Same.new hpp _)
  refine ⟨(by show 1 ≤ sizeLine; decide), fun ps hps => ?_⟩
  have s11 := s10.trans (Same.new hps (.lst [.int 0]))
  have nps : pp ≠ ps := ne_of_none upd_same hps
  have epp : (upd (upd (upd F5 l1 (.lst [.int 0])) pp (.lst ((mkR m fun _ => 0).map V.int))) ps (.lst [.int 0])) pp = some (.lst ((mkR m (plc P 0)).map V.int)) := by
    rw [upd_ne nps, upd_same]
    congr 3
  have eps : (upd (upd (upd F5 l1 (.lst [.int 0])) pp (.lst ((mkR m fun _ => 0).map V.int))) ps (.lst [.int 0])) ps = some (.lst ((mkR 1 (preS es)).map V.int)) := upd_same
  have hpp5 : H5 pp = none := (PF5.1.trans (Same.new hl1 _)).free hpp
  have hps5 : H5 ps = none := s10.free hps
  generalize upd (upd (upd F5 l1 (.lst [.int 0])) pp (.lst ((mkR m fun _ => 0).map V.int))) ps (.lst [.int 0]) = H6 at s11 epp eps
  refine ⟨_, rfl, _, _, rfl, rfl, _, rfl, by omega, by omega, for_range (lo := 0) (fun k σ F => (∃ c : Option V, σ = [some (.ref a), some (.int n), some (.int near), some (.ref pl), some (.ref po), c, some (.int u), some (.ref pe), some (.int (es.map absI).sum), none, some (.ref pp), some (.ref ps), none, none, none, none, none, none, none]) ∧ Same H5 F ∧ F pp = some (.lst ((mkR m (plc P k)).map V.int)) ∧ F ps = some (.lst ((mkR (k + 1) (preS es)).map V.int)))
    ⟨⟨_, rfl⟩, s11, epp, eps⟩ ?_ ?_⟩
  · rintro k σ F hk ⟨⟨c, rfl⟩, sF, e1, e2⟩
    have hk' : k < m := by omega
    obtain ⟨x, ex, hx, hPx⟩ := oAt k hk'
    have i1 : atI (NL O) (0 + (k : Int)) = some (.int (x : Int)) := by rw [Int.zero_add]; exact aO k x ex
    refine ⟨_, rfl, _, rfl, _, rfl, _, rfl, po, _, _, _, rfl, rfl, SqL.of (sF _ _ eO7), i1, pp, _, _, x, rfl, rfl, e1, ?_, ?_⟩
    · have := ixN_int (n := ((mkR m (plc P k)).map V.int).length) (c := (x : Int)) (by omega) (by rw [List.length_map, mkR_len]; omega)
      rw [this]
      rfl
    rw [Int.zero_add, plc_set hx fun i hi => ⟨fun z => by
      have h1 := (hP i hi).2
      rw [z, ex] at h1
      exact (Option.some.inj h1).symm, fun z => by rw [z]; exact hPx⟩]
    have sF1 : Same H5 (upd F pp (.lst ((mkR m (plc P (k + 1))).map V.int))) := fun b o e => by rw [upd_ne (ne_of_none e hpp5)]; exact sF b o e
    have e2' : (upd F pp (.lst ((mkR m (plc P (k + 1))).map V.int))) ps = some (.lst ((mkR (k + 1) (preS es)).map V.int)) := by rw [upd_ne nps.symm]; exact e2
    have i2 : atI ((mkR (k + 1) (preS es)).map V.int) (k : Int) = some (.int (preS es k)) := atI_mk (by omega)
    refine ⟨_, rfl, .inl ⟨rfl, _, SqL.of e2'⟩, ?_⟩
    refine ⟨_, rfl, _, rfl, ps, _, _, _, rfl, rfl, SqL.of e2', i2, _, rfl, _, rfl, pe, _, _, _, rfl, rfl, SqL.of (sF1 _ _ ees), aE k hk', _, _, rfl, rfl, ?_⟩
    refine ⟨ps, _, _, rfl, rfl, e2', lt_line (by rw [List.length_map, mkR_len]; omega), ⟨_, rfl⟩, fun b o e => by rw [upd_ne (ne_of_none e hps5)]; exact sF1 b o e, by rw [upd_ne nps]; exact upd_same, ?_⟩
    rw [upd_same]
    congr 2
    rw [← mkR_snoc (k := k + 1), List.map_append, preS_succ (by omega)]
    rfl
  rintro σ F6 ⟨⟨c, rfl⟩, s12, e1, e2⟩
  rw [em] at e1 e2
  -- the rows, and what is told
  refine ⟨(by show 0 ≤ sizeLine; decide), fun pr hpr => ?_⟩
  refine ⟨(by show 0 ≤ sizeLine; decide), fun pt hpt => ?_⟩
  have nrt : pr ≠ pt := ne_of_none upd_same hpt
  have hpt6 : F6 pt = none := (Same.new hpr (.lst [])).free hpt
  have iP : ∀ (G : Hp), Same F6 G → ∀ i < m, SqL K G pp ((mkR m (plc P m)).map V.int) ∧ atI ((mkR m (plc P m)).map V.int) (0 + (i : Int)) = some (.int (P i : Int)) := fun G sG i hi => by
    refine ⟨SqL.of (sG _ _ e1), ?_⟩
    rw [Int.zero_add, atI_mk hi, plc_full (hP i hi).1]
  refine ⟨_, rfl, _, _, rfl, rfl, _, rfl, by omega, by omega, for_range (lo := 0) (fun i σ G => (∃ y x z t : Option V, σ = [some (.ref a), some (.int n), some (.int near), some (.ref pl), some (.ref po), c, some (.int u), some (.ref pe), some (.int (es.map absI).sum), none, some (.ref pp), some (.ref ps), some (.ref pr), some (.ref pt), y, x, none, z, t]) ∧
      LcP (Same F6) (RRow K true (mkM m (ringF es O P m near (es.map absI).sum)) pr) pr i G ∧ LcP (Same F6) (RRow K true (mkM m fun i j => wayF (preS es) m (P i) (P j)) pt) pt i G)
    ⟨⟨_, _, _, _, rfl⟩, lcp_go (lcp_start hpr) (Same.new hpt _), ⟨(Same.new hpr _).trans (Same.new hpt _), [], upd_same, rfl, fun j y e => by simp at e⟩⟩ ?_ ?_⟩
  · rintro i σ G hi ⟨⟨y, x, z, t, rfl⟩, P1, P2⟩
    have hi' : i < m := by omega
    have sG := P1.1
    refine ⟨_, rfl, _, _, rfl, rfl, _, rfl, by omega, by omega, fun D hD => ?_⟩
    refine lc_it walk_range (LcP (Same G) (RInt (mkR m fun j => wayF (preS es) m (P i) (P j))) D) (lcp_start hD) (fun _ _ _ _ => trivial) ?_ ?_
    · rintro j x F F' hj PF ⟨rfl, rfl⟩
      have hj' : j < m := by omega
      have sF := sG.trans PF.1
      obtain ⟨q1, q2⟩ := iP _ sF i hi'
      obtain ⟨_, q3⟩ := iP _ sF j hj'
      refine ⟨rfl, tyes ?_⟩
      refine ⟨_, rfl, _, rfl, _, rfl, pp, _, _, _, rfl, rfl, q1, q2, _, rfl, _, rfl, pp, _, _, _, rfl, rfl, q1, q3, ?_⟩
      refine ⟨ps, preS es, m, P i, P j, rfl, SqL.of (sF _ _ e2), (hP i hi').1, (hP j hj').1, ?_⟩
      exact lcp_same PF hD (Same.refl _) (lt_line (by omega)) RInt.mono ⟨_, mkR_at hj', rfl⟩
    intro F1 PF1
    have eD := lcp_ints (K := K) PF1 (by rw [mkR_len]; omega)
    have s1 := PF1.1
    refine ⟨_, rfl, _, _, rfl, rfl, _, rfl, by omega, by omega, fun D2 hD2 => ?_⟩
    have nDD : D ≠ D2 := ne_of_none eD hD2
    refine lc_it walk_range (LcP (Same F1) (RInt (mkR m fun j => wayF (preS es) m (P i) (P j) * near + (es.map absI).sum * (1 - near) + ((i : Int) + 2 * (j : Int)).fmod 3)) D2) (lcp_start hD2) (fun _ _ _ _ => trivial) ?_ ?_
    · rintro j x F F' hj PF ⟨rfl, rfl⟩
      have hj' : j < m := by omega
      refine ⟨rfl, tyes ?_⟩
      have iw : atI ((mkR m fun j => wayF (preS es) m (P i) (P j)).map V.int) (0 + (j : Int)) = some (.int (wayF (preS es) m (P i) (P j))) := by rw [Int.zero_add]; exact atI_mk hj'
      refine ⟨_, rfl, _, rfl, D, _, _, _, rfl, rfl, SqL.of (PF.1 _ _ eD), iw, _, rfl, _, _, rfl, rfl, .inr ⟨by omega, by omega⟩, ?_⟩
      refine ⟨_, rfl, _, rfl, _, _, rfl, rfl, _, _, rfl, rfl, .inr ⟨by omega, by omega⟩, _, _, rfl, rfl, ?_⟩
      refine ⟨_, rfl, _, rfl, _, _, rfl, rfl, .inl ⟨by decide, by decide⟩, _, _, rfl, rfl, .inl ⟨_, rfl, ?_⟩⟩
      refine ⟨_, _, rfl, rfl, (by intro z; cases z), _, _, rfl, rfl, ?_⟩
      refine lcp_same PF hD2 (Same.refl _) (lt_line (by omega)) RInt.mono ⟨_, mkR_at hj', ?_⟩
      rw [Int.zero_add, Int.zero_add]
    intro F2 PF2
    have eD2 := lcp_ints (K := K) PF2 (by rw [mkR_len]; omega)
    have sG2 := (sG.trans s1).trans PF2.1
    obtain ⟨q1, q2⟩ := iP _ sG2 i hi'
    have ix : ∀ (f : Nat → Int) (k : Nat), k < m → ixN ((mkR m f).map V.int).length (0 + (k : Int)) = some k := fun f k hk => by
      have := ixN_int (n := ((mkR m f).map V.int).length) (c := 0 + (k : Int)) (by omega) (by rw [List.length_map, mkR_len]; omega)
      rw [this]
      congr 1
      omega
    refine ⟨_, rfl, _, rfl, D2, _, _, i, rfl, rfl, eD2, ix _ i hi', ?_⟩
    rw [set_row]
    have sX : ∀ zs : List V, Same F1 (upd F2 D2 (.lst zs)) := fun zs b o e => by rw [upd_ne (ne_of_none e hD2)]; exact PF2.1 b o e
    have lm : (P i + 1) % m < m := Nat.mod_lt _ (by omega)
    obtain ⟨xs, exs, hxs, _⟩ := oAt _ lm
    have sG3 := (sG.trans s1).trans (sX ((mkR m fun b => if i = b then 0 else wayF (preS es) m (P i) (P b) * near + (es.map absI).sum * (1 - near) + ((i : Int) + 2 * (b : Int)).fmod 3).map V.int))
    obtain ⟨q3, q4⟩ := iP _ sG3 i hi'
    have fm : ((P i : Int) + 1).fmod ((n : Int) + 1) = (((P i + 1) % m : Nat) : Int) := by rw [fmod_nat, hm]
    refine ⟨_, rfl, _, rfl, _, rfl, pp, _, _, _, rfl, rfl, q3, q4, _, _, rfl, rfl, .inl ⟨_, rfl, ?_⟩⟩
    refine ⟨_, rfl, _, _, rfl, rfl, _, _, rfl, rfl, (by omega), po, _, _, _, rfl, rfl, SqL.of ((s12.trans sG3) _ _ eO7), by rw [fm]; exact aO _ _ exs, ?_⟩
    refine ⟨_, rfl, _, rfl, _, rfl, pp, _, _, _, rfl, rfl, q3, q4, pe, _, _, _, rfl, rfl, SqL.of ((s12.trans sG3) _ _ ees), aE _ (hP i hi').1, ?_⟩
    refine ⟨_, rfl, _, rfl, D2, _, _, xs, rfl, rfl, upd_same, ?_, ?_⟩
    · have := ix (fun b => if i = b then 0 else wayF (preS es) m (P i) (P b) * near + (es.map absI).sum * (1 - near) + ((i : Int) + 2 * (b : Int)).fmod 3) xs hxs
      rwa [Int.zero_add] at this
    rw [set_row, upd_upd]
    have egd : O.getD ((P i + 1) % m) 0 = xs := by
      rw [List.getD_eq_getElem?_getD, exs]
      rfl
    have erow : (mkR m fun b => if xs = b then es.getD (P i) 0 else if i = b then 0 else wayF (preS es) m (P i) (P b) * near + (es.map absI).sum * (1 - near) + ((i : Int) + 2 * (b : Int)).fmod 3) = mkR m (ringF es O P m near (es.map absI).sum i) := by
      unfold ringF
      rw [egd]
    rw [erow]
    have sF4 := s1.trans (sX ((mkR m (ringF es O P m near (es.map absI).sum i)).map V.int))
    have eD4 : (upd F2 D2 (.lst ((mkR m (ringF es O P m near (es.map absI).sum i)).map V.int))) D2 = some (.lst ((mkR m (ringF es O P m near (es.map absI).sum i)).map V.int)) := upd_same
    have eD1 := (sX ((mkR m (ringF es O P m near (es.map absI).sum i)).map V.int)) _ _ eD
    generalize upd F2 D2 (.lst ((mkR m (ringF es O P m near (es.map absI).sum i)).map V.int)) = F4 at sF4 eD4 eD1
    obtain ⟨acc1, a1, a2⟩ := P1.acc
    obtain ⟨acc2, b1, b2⟩ := P2.acc
    refine ⟨_, rfl, .inl ⟨rfl, _, SqL.of (sF4 _ _ a1)⟩, _, rfl, D2, _, rfl, .inl ⟨SqL.of eD4, fun t1 ht1 => ?_⟩⟩
    have sT1 := sF4.trans (Same.new ht1 (.tup ((mkR m (ringF es O P m near (es.map absI).sum i)).map V.int)))
    have nt1 : t1 ≠ pr := fun z => by
      have := sF4 _ _ a1
      rw [← z, ht1] at this
      cases this
    refine ⟨pr, acc1, _, rfl, rfl, sT1 _ _ a1, lt_line (by omega), ?_⟩
    have R1 := lcp_put (y := .ref t1) P1 a1 hpr sT1 (lt_line (by omega)) RRow.mono ⟨t1, _, rfl, mkM_at hi', nt1, Sq.upd_sameT⟩
    have R2 := lcp_over (ys := acc1 ++ [.ref t1]) (lcp_go P2 sT1) (sT1 _ _ a1) hpr nrt.symm
    have eDw : (upd (upd F4 t1 (.tup ((mkR m (ringF es O P m near (es.map absI).sum i)).map V.int))) pr (.lst (acc1 ++ [.ref t1]))) D = some (.lst ((mkR m fun j => wayF (preS es) m (P i) (P j)).map V.int)) := by
      have nDp : D ≠ pr := (ne_of_none a1 hD).symm
      rw [upd_ne nDp]
      exact Same.new ht1 _ _ _ eD1
    have b1' : (upd (upd F4 t1 (.tup ((mkR m (ringF es O P m near (es.map absI).sum i)).map V.int))) pr (.lst (acc1 ++ [.ref t1]))) pt = some (.lst acc2) := by
      rw [upd_ne nrt.symm]
      exact sT1 _ _ b1
    have a1' : (upd (upd F4 t1 (.tup ((mkR m (ringF es O P m near (es.map absI).sum i)).map V.int))) pr (.lst (acc1 ++ [.ref t1]))) pr = some (.lst (acc1 ++ [.ref t1])) := upd_same
    generalize upd (upd F4 t1 (.tup ((mkR m (ringF es O P m near (es.map absI).sum i)).map V.int))) pr (.lst (acc1 ++ [.ref t1])) = F5 at R1 R2 eDw b1' a1'
    refine ⟨_, rfl, .inl ⟨rfl, _, SqL.of b1'⟩, _, rfl, D, _, rfl, .inl ⟨SqL.of eDw, fun t2 ht2 => ?_⟩⟩
    have sT2 := Same.new ht2 (.tup ((mkR m fun j => wayF (preS es) m (P i) (P j)).map V.int))
    have nt2 : t2 ≠ pt := fun z => by
      rw [← z, ht2] at b1'
      cases b1'
    refine ⟨pt, acc2, _, rfl, rfl, sT2 _ _ b1', lt_line (by omega), ⟨_, _, _, _, rfl⟩, lcp_over (lcp_go R1 sT2) (sT2 _ _ b1') hpt6 nrt, ?_⟩
    exact lcp_put (y := .ref t2) R2 b1' hpt6 sT2 (lt_line (by omega)) RRow.mono ⟨t2, _, rfl, mkM_at hi', nt2, Sq.upd_sameT⟩
  rintro σ G ⟨⟨y, x, z, t, rfl⟩, P1, P2⟩
  rw [em] at P1 P2
  have bst := ring_ok (near := near) two les lOm ltO hP hPO ne0 (by omega)
  have sG := P1.1
  have is : atI ((mkR (m + 1) (preS es)).map V.int) ((n : Int) + 1) = some (.int (preS es m)) := by
    rw [emI]
    exact atI_mk (by omega)
  obtain ⟨as, h1, h2, h3⟩ := lcp_rows P1 (by rw [mkM_sz.1])
  obtain ⟨bs, k1, k2, k3⟩ := lcp_rows P2 (by rw [mkM_sz.1])
  have stG : Stp a H G := s9.same (s12.trans sG)
  have bstM : Best m (getM (mkM m (ringF es O P m near (es.map absI).sum))) (ringB m (preS es) P) := bst.congr fun C _ => by
    constructor
    · intro h i hi j hj
      rw [mkM_get hi hj]
      exact h i hi j hj
    · intro h i hi j hj
      have := h i hi j hj
      rwa [mkM_get hi hj] at this
  refine ⟨_, rfl, _, rfl, _, _, rfl, rfl, ps, _, _, _, rfl, rfl, SqL.of (sG _ _ e2), is, _, _, rfl, rfl, _, rfl, ite2 (fun h => ?_) (fun h => ?_)⟩
  · have h' : preS es m < 0 := of_decide_eq_true h
    have eB : ringB m (preS es) P = none := if_pos h'
    rw [eB] at bstM
    refine ⟨_, rfl, pr, _, rfl, .inl ⟨h1, fun t1 ht1 => ?_⟩⟩
    refine ⟨(by show 2 ≤ sizeLine; decide), fun l hl => ?_⟩
    have sn := (Same.new ht1 (.tup (as.map V.ref))).trans (Same.new hl (.lst [.ref t1, .non]))
    exact q l _ t1 .non _ none m (stG.same sn) ((stG.same (Same.new ht1 _)).free hl) upd_same
      ⟨as, Sq.same (t := true) (Same.new hl _) Sq.upd_sameT, h2, fun i a r e1 e2 => Sq.same sn (h3 i a r e1 e2)⟩ mkM_sz (by omega) rfl bstM
  · have h' : ¬ preS es m < 0 := of_decide_eq_false (Bool.eq_false_iff.mpr h)
    have eB : ringB m (preS es) P = some (mkM m fun i j => wayF (preS es) m (P i) (P j)) := if_neg h'
    rw [eB] at bstM
    refine ⟨_, rfl, pr, _, rfl, .inl ⟨h1, fun t1 ht1 => ?_⟩⟩
    have sn1 := Same.new ht1 (.tup (as.map V.ref))
    refine ⟨_, rfl, pt, _, rfl, .inl ⟨sn1.seq k1, fun t2 ht2 => ?_⟩⟩
    have sn2 := Same.new ht2 (.tup (bs.map V.ref))
    refine ⟨(by show 2 ≤ sizeLine; decide), fun l hl => ?_⟩
    have sn3 := Same.new hl (.lst [.ref t1, .ref t2])
    have sn := (sn1.trans sn2).trans sn3
    exact q l _ t1 (.ref t2) _ (some _) m (stG.same sn) ((stG.same (sn1.trans sn2)).free hl) upd_same
      ⟨as, Sq.same (t := true) (sn2.trans sn3) Sq.upd_sameT, h2, fun i a r e1 e2 => Sq.same sn (h3 i a r e1 e2)⟩ mkM_sz (by omega)
      ⟨t2, rfl, bs, Sq.same (t := true) sn3 Sq.upd_sameT, k2, fun i a r e1 e2 => Sq.same sn (k3 i a r e1 e2)⟩ bstM
end
/-! ### the law -/
structure PairAt (K : PySem.W.Frag) (G : Hp) (l : Addr) : Prop where
  ex : ∃ (pm : Addr) (vb : V) (M : List (List Int)) (B : Option (List (List Int))) (n : Nat), G l = some (.lst [.ref pm, vb]) ∧ Mx true true K G pm M ∧ Sz n M ∧ n ≤ 900 ∧ BoxAt K G vb B ∧ Best n (getM M) B
def spLaw (K : PySem.W.Frag) : Sp := fun vs H Q _ => ∃ (a : Addr) (ns : List Int), vs = [.ref a] ∧ SqL K H a (ns.map V.int) ∧ ns.length ≤ 63 ∧ ∀ H', Q (.bl true) H'
section
variable {P : Program} {w : World} {K : PySem.W.Frag} {mg : Str → Option Value} {base : Heap}
theorem ok_law (T : Txt w K mg) : FnOk P w K mg base CX0 4 T.a_law T.d_law p_law (spLaw K) := by
  have g_l_cell := ok_l_cell (P := P) (w := w) (K := K) (base := base) T
  have g_l_source := ok_l_source (P := P) (w := w) (base := base) T
  have g_l_pick := ok_l_pick (P := P) (w := w) (base := base) T
  have g_l_ring := ok_l_ring (P := P) (w := w) (base := base) T
  have g_l_wide := ok_l_wide (P := P) (w := w) (base := base) T
  have g_l_small := ok_l_small (P := P) (w := w) (base := base) T
  have g_close := ok_close (P := P) (w := w) (base := base) T
  have g_l_same := ok_l_same (P := P) (w := w) (K := K) (base := base) T 3
  refine T.F_law.ok sc_law (fun vs H Q E h => ?_) (fun cdv A outer s H vs Q E hr h => ?_)
  · obtain ⟨a, ns, rfl, _⟩ := h
    rfl
  obtain ⟨a, ns, rfl, hS, h63, q⟩ := h
  refine ⟨_, (pss_cons (ps_set (i := 1) sc_law.nd rfl (Or.inl rfl) (pe_call g_l_source (hr.mono (by first | decide | omega)) rfl T.m_l_source T.F_l_source.kp T.b_l_source .nil pass0 (pa_cons (pe_call g_l_cell (hr.mono (by first | decide | omega)) rfl T.m_l_cell T.F_l_cell.kp T.b_l_cell .nil pass0 (pa_cons (pv 0) (pa_cons pe_int pa_nil))) pa_nil)))
      (pss_cons (ps_set (i := 2) sc_law.nd rfl (Or.inl rfl) (pe_lst pa_nil))
      (pss_cons (ps_set (i := 3) sc_law.nd rfl (Or.inl rfl) (pe_call g_l_pick (hr.mono (by first | decide | omega)) rfl T.m_l_pick T.F_l_pick.kp T.b_l_pick .nil pass0 (pa_cons (pv 1) (pa_cons pe_int pa_nil))))
      (C8.pss_cut (ps_if (pt_cmpR op_eq (pv 3) pe_int (nomark _)) (pss_one (ps_set (i := 2) sc_law.nd rfl (Or.inl rfl) (pe_call g_l_ring (hr.mono (by first | decide | omega)) rfl T.m_l_ring T.F_l_ring.kp T.b_l_ring .nil pass0 (pa_cons (pv 1) pa_nil)))) (pss_one (ps_if (pt_cmpR op_eq (pv 3) pe_int (nomark _)) (pss_one (ps_set (i := 2) sc_law.nd rfl (Or.inl rfl) (pe_call g_l_wide (hr.mono (by first | decide | omega)) rfl T.m_l_wide T.F_l_wide.kp T.b_l_wide .nil pass0 (pa_cons (pv 1) pa_nil)))) (pss_one (ps_set (i := 2) sc_law.nd rfl (Or.inl rfl) (pe_call g_l_small (hr.mono (by first | decide | omega)) rfl T.m_l_small T.F_l_small.kp T.b_l_small .nil pass0 (pa_cons (pv 1) pa_nil)))))))
      (pss_cons (ps_if (pt_not (pt_val (pe_call g_l_same (hr.mono (by first | decide | omega)) rfl T.m_l_same T.F_l_same.kp T.b_l_same .nil pass0 (pa_cons (pe_call g_close (hr.mono (by first | decide | omega)) rfl T.m_close T.F_close.kp T.b_close .nil pass0 (pa_cons (pe_ix ix_list (pv 2) pe_int (fun _ _ => rfl)) pa_nil)) (pa_cons (pe_ix ix_list (pv 2) pe_int (fun _ _ => rfl)) pa_nil))))) (pss_one (ps_ret pe_bl)) pss_nil)
      (pss_cons (ps_if (PW.pt (pw_and (pt_cmpR op_notN (pe_ix ix_list (pv 2) pe_int (fun _ _ => rfl)) pe_non (nomark _)) (pw_and (pt_cmpR op_lt (pe_callB call_len_seq rfl T.z_len PySem.boot_len (pa_cons (pe_ix ix_list (pv 2) pe_int (fun _ _ => rfl)) pa_nil)) pe_int (nomark _)) (pw_and1 (pt_not (pt_val (pe_call g_l_same (hr.mono (by first | decide | omega)) rfl T.m_l_same T.F_l_same.kp T.b_l_same .nil pass0 (pa_cons (pe_call g_close (hr.mono (by first | decide | omega)) rfl T.m_close T.F_close.kp T.b_close .nil pass0 (pa_cons (pe_ix ix_list (pv 2) pe_int (fun _ _ => rfl)) pa_nil)) (pa_cons (pe_ix ix_list (pv 2) pe_int (fun _ _ => rfl)) pa_nil))))))))) (pss_one (ps_ret pe_bl)) pss_nil)
      (pss_cons (ps_set (i := 2) sc_law.nd rfl (Or.inl rfl) (pe_call g_l_small (hr.mono (by first | decide | omega)) rfl T.m_l_small T.F_l_small.kp T.b_l_small .nil pass0 (pa_cons (pe_call g_l_source (hr.mono (by first | decide | omega)) rfl T.m_l_source T.F_l_source.kp T.b_l_source .nil pass0 (pa_cons (pe_call g_l_cell (hr.mono (by first | decide | omega)) rfl T.m_l_cell T.F_l_cell.kp T.b_l_cell .nil pass0 (pa_cons (pv 0) (pa_cons pe_int pa_nil))) pa_nil)) pa_nil)))
      (pss_cons (ps_if (pt_not (pt_val (pe_call g_l_same (hr.mono (by first | decide | omega)) rfl T.m_l_same T.F_l_same.kp T.b_l_same .nil pass0 (pa_cons (pe_call g_close (hr.mono (by first | decide | omega)) rfl T.m_close T.F_close.kp T.b_close .nil pass0 (pa_cons (pe_ix ix_list (pv 2) pe_int (fun _ _ => rfl)) pa_nil)) (pa_cons (pe_ix ix_list (pv 2) pe_int (fun _ _ => rfl)) pa_nil))))) (pss_one (ps_ret pe_bl)) pss_nil)
      (pss_cons (ps_set (i := 2) sc_law.nd rfl (Or.inl rfl) (pe_call g_l_wide (hr.mono (by first | decide | omega)) rfl T.m_l_wide T.F_l_wide.kp T.b_l_wide .nil pass0 (pa_cons (pe_call g_l_source (hr.mono (by first | decide | omega)) rfl T.m_l_source T.F_l_source.kp T.b_l_source .nil pass0 (pa_cons (pe_call g_l_cell (hr.mono (by first | decide | omega)) rfl T.m_l_cell T.F_l_cell.kp T.b_l_cell .nil pass0 (pa_cons (pv 0) (pa_cons pe_int pa_nil))) pa_nil)) pa_nil)))
      (pss_one (ps_ret (pe_call g_l_same (hr.mono (by first | decide | omega)) rfl T.m_l_same T.F_l_same.kp T.b_l_same .nil pass0 (pa_cons (pe_call g_close (hr.mono (by first | decide | omega)) rfl T.m_close T.F_close.kp T.b_close .nil pass0 (pa_cons (pe_ix ix_list (pv 2) pe_int (fun _ _ => rfl)) pa_nil)) (pa_cons (pe_ix ix_list (pv 2) pe_int (fun _ _ => rfl)) pa_nil)))))))))))))), ?_⟩
  refine ⟨_, rfl, a, ns, 0, rfl, hS, by decide, fun c => ?_⟩
  refine ⟨c, rfl, fun p0 H1 hp0 s1 src => ?_⟩
  refine ⟨(by show 0 ≤ sizeLine; decide), fun pe hpe => ?_⟩
  refine ⟨_, rfl, p0, 4, rfl, src.new hpe, by decide, fun ch H2 st2 _ _ => ?_⟩
  have sp : Stp p0 H1 H2 := ((Stp.refl src).new (o := .lst []) hpe).trans st2
  refine ⟨fun σ G => ∃ l : Addr, σ = [some (.ref a), some (.ref p0), some (.ref l), some (.int ch)] ∧ Same H G ∧ PairAt K G l, ?_, ?_⟩
  · have fin : ∀ (l : Addr) (H' : Hp) (pm : Addr) (vb : V) (M : List (List Int)) (B : Option (List (List Int))) (n : Nat), Stp p0 H2 H' → H2 l = none → H' l = some (.lst [.ref pm, vb]) → Mx true true K H' pm M → Sz n M → n ≤ 900 → BoxAt K H' vb B → Best n (getM M) B →
        ∃ l' : Addr, [some (V.ref a), some (.ref p0), some (.ref l), some (.int ch)] = [some (.ref a), some (.ref p0), some (.ref l'), some (.int ch)] ∧ Same H H' ∧ PairAt K H' l' := fun l H' pm vb M B n st _ e m z hn b bst =>
      ⟨l, rfl, Stp.fresh s1 hp0 (sp.trans st), ⟨pm, vb, M, B, n, e, m, z, hn, b, bst⟩⟩
    refine ⟨_, rfl, rfl, _, rfl, ite2 (fun _ => ?_) (fun _ => ?_)⟩
    · exact ⟨_, rfl, p0, rfl, st2.s, fin⟩
    · refine ⟨_, rfl, rfl, _, rfl, ite2 (fun _ => ?_) (fun _ => ?_)⟩
      · exact ⟨_, rfl, p0, rfl, st2.s, fin⟩
      · exact ⟨_, rfl, p0, rfl, st2.s, fin⟩
  rintro σ G ⟨l, rfl, sG, ⟨pm, vb, M, B, n, el, mM, zM, hn, bB, bst⟩⟩
  have dok : ∀ {n : Nat} {B : Option (List (List Int))}, BSz n B → n ≤ 900 → Dok 3 (boxD B) := fun z h => z.dok (by omega)
  refine ⟨_, rfl, l, _, (0 : Nat), _, rfl, rfl, SqL.of el, rfl, ?_⟩
  refine ⟨true, true, pm, M, n, rfl, mM, zM, hn, fun v G1 B1 s2 b1 bst1 => ?_⟩
  have eB := bst1.uniq bst
  subst eB
  refine ⟨_, rfl, l, _, (1 : Nat), _, rfl, rfl, SqL.of (s2 _ _ el), rfl, ?_⟩
  refine ⟨_, _, _, rfl, b1.dp, (bB.same s2).dp, dok bst.sz hn, _, rfl, ifF rfl ?_⟩
  have sG1 := sG.trans s2
  have bB1 := bB.same s2
  have el1 := s2 _ _ el
  -- the rest
  have rest : ∀ G2, Same H G2 → tSeq (tAsg (tCall (spPair K) [] E0 (tCons (tCall spSource [] E0 (tCons (tCall (spCell K) [] E0 (tCons (tVar 0) (tCons (tC (V.int 1)) tNil))) tNil)) tNil)) (gName 2))
      (tSeq (tIfS (tNot (tB (tCall (spSame K 3) [] E0 (tCons (tCall (spClose K) [] E0 (tCons (tOp (rIxL K) (tVar 2) (tC (V.int 0))) tNil)) (tCons (tOp (rIxL K) (tVar 2) (tC (V.int 1))) tNil))))) (tRet (tC (V.bl false))) tNext)
        (tSeq (tAsg (tCall (spPair K) [] E0 (tCons (tCall spSource [] E0 (tCons (tCall (spCell K) [] E0 (tCons (tVar 0) (tCons (tC (V.int 2)) tNil))) tNil)) tNil)) (gName 2))
          (tRet (tCall (spSame K 3) [] E0 (tCons (tCall (spClose K) [] E0 (tCons (tOp (rIxL K) (tVar 2) (tC (V.int 0))) tNil)) (tCons (tOp (rIxL K) (tVar 2) (tC (V.int 1))) tNil))))))
      { nx := fun x H' => Q V.non H', rt := Q } [some (.ref a), some (.ref p0), some (.ref l), some (.int ch)] G2 := fun G2 sG2 => by
    refine ⟨_, rfl, a, ns, 1, rfl, sG2.seq hS, by decide, fun c2 => ?_⟩
    refine ⟨c2, rfl, fun p1 H4 hp1 s4 src1 => ?_⟩
    refine ⟨p1, rfl, src1, fun l1 G5 pm1 vb1 M1 B1 n1 st5 _ e5 m5 z5 hn1 b5 bst5 => ?_⟩
    have S5 : Same G2 G5 := Stp.fresh s4 hp1 st5
    refine ⟨_, rfl, l1, _, (0 : Nat), _, rfl, rfl, SqL.of e5, rfl, ?_⟩
    refine ⟨true, true, pm1, M1, n1, rfl, m5, z5, hn1, fun v6 G6 B6 s6 b6 bst6 => ?_⟩
    have e6 := bst6.uniq bst5
    subst e6
    refine ⟨_, rfl, l1, _, (1 : Nat), _, rfl, rfl, SqL.of (s6 _ _ e5), rfl, ?_⟩
    refine ⟨_, _, _, rfl, b6.dp, (b5.same s6).dp, dok bst5.sz hn1, _, rfl, ifF rfl ?_⟩
    have S6 := (sG2.trans S5).trans s6
    refine ⟨_, rfl, a, ns, 2, rfl, S6.seq hS, by decide, fun c3 => ?_⟩
    refine ⟨c3, rfl, fun p2 H7 hp2 s7 src2 => ?_⟩
    refine ⟨p2, rfl, src2, fun l2 G8 pm2 vb2 M2 B2 n2 st8 _ e8 m8 z8 hn2 b8 bst8 => ?_⟩
    refine ⟨_, rfl, l2, _, (0 : Nat), _, rfl, rfl, SqL.of e8, rfl, ?_⟩
    refine ⟨true, true, pm2, M2, n2, rfl, m8, z8, hn2, fun v9 G9 B9 s9 b9 bst9 => ?_⟩
    have e9 := bst9.uniq bst8
    subst e9
    refine ⟨_, rfl, l2, _, (1 : Nat), _, rfl, rfl, SqL.of (s9 _ _ e8), rfl, ?_⟩
    exact ⟨_, _, _, rfl, b9.dp, (b8.same s9).dp, dok bst8.sz hn2, q _⟩
  refine ⟨_, rfl, l, _, (1 : Nat), _, rfl, rfl, SqL.of el1, rfl, rfl, _, rfl, ?_⟩
  cases B1 with
  | none =>
    obtain rfl : vb = .non := bB1
    exact ifF rfl (ifF rfl (rest G1 sG1))
  | some R =>
    obtain ⟨pb, rfl, mR⟩ := bB1
    obtain ⟨zR, cR, _, _⟩ := id bst
    obtain ⟨rs, hrs, lrs, _⟩ := mR.row
    refine ifT rfl ?_
    refine ⟨_, rfl, l, _, (1 : Nat), _, rfl, rfl, SqL.of el1, rfl, pb, _, rfl, .inr hrs, _, _, rfl, rfl, _, rfl, ite2 (fun _ => ?_) (fun _ => ifF rfl (rest G1 sG1))⟩
    refine ⟨_, rfl, l, _, (1 : Nat), _, rfl, rfl, SqL.of el1, rfl, ?_⟩
    refine ⟨true, true, pb, R, n, rfl, mR, zR, hn, fun v G2 B2 s3 b2 bst2 => ?_⟩
    have e2 := bst2.uniq (Best.self zR cR)
    subst e2
    refine ⟨_, rfl, l, _, (1 : Nat), _, rfl, rfl, SqL.of (s3 _ _ el1), rfl, ?_⟩
    refine ⟨_, _, _, rfl, b2.dp, (mR.same s3).dp, dok bst.sz hn, _, rfl, ifF rfl (rest G2 (sG1.trans s3))⟩
end
theorem all_mk {l : PySem.W.OpenLaw} {w : World} {K : PySem.W.Frag} {h : Heap} {mg : Str → Option Value} {fa : Addr} (X : K.In h) (G : h.Ns mainGlobals mg) (hfa : mg "law" = some (.ref fa))
    {f_close : Addr} {od_close an_close : Option Addr} {sl_close : Array (Option Value)} {oc_close kV_close dc_close pm_close cd_close ct_close : Value}
    (A_close : PySem.W.nsIn K mainGlobals "close" = some (some (.ref f_close))) (L_close : K.lookup f_close = some ⟨oc_close, od_close, .func (PySem.W.fnOf "close" "close" (defArgs s_close) (defBody s_close) (defScope s_close) .none kV_close dc_close pm_close an_close cd_close ct_close), sl_close⟩) (C_close : PySem.W.codeIn K cd_close "close" = true) (K_close : PySem.W.keepIn K (.ref f_close) = true)
    {f_has_contradiction : Addr} {od_has_contradiction an_has_contradiction : Option Addr} {sl_has_contradiction : Array (Option Value)} {oc_has_contradiction kV_has_contradiction dc_has_contradiction pm_has_contradiction cd_has_contradiction ct_has_contradiction : Value}
    (A_has_contradiction : PySem.W.nsIn K mainGlobals "has_contradiction" = some (some (.ref f_has_contradiction))) (L_has_contradiction : K.lookup f_has_contradiction = some ⟨oc_has_contradiction, od_has_contradiction, .func (PySem.W.fnOf "has_contradiction" "has_contradiction" (defArgs s_has_contradiction) (defBody s_has_contradiction) (defScope s_has_contradiction) .none kV_has_contradiction dc_has_contradiction pm_has_contradiction an_has_contradiction cd_has_contradiction ct_has_contradiction), sl_has_contradiction⟩) (C_has_contradiction : PySem.W.codeIn K cd_has_contradiction "has_contradiction" = true) (K_has_contradiction : PySem.W.keepIn K (.ref f_has_contradiction) = true)
    {f_shortened : Addr} {od_shortened an_shortened : Option Addr} {sl_shortened : Array (Option Value)} {oc_shortened kV_shortened dc_shortened pm_shortened cd_shortened ct_shortened : Value}
    (A_shortened : PySem.W.nsIn K mainGlobals "shortened" = some (some (.ref f_shortened))) (L_shortened : K.lookup f_shortened = some ⟨oc_shortened, od_shortened, .func (PySem.W.fnOf "shortened" "shortened" (defArgs s_shortened) (defBody s_shortened) (defScope s_shortened) .none kV_shortened dc_shortened pm_shortened an_shortened cd_shortened ct_shortened), sl_shortened⟩) (C_shortened : PySem.W.codeIn K cd_shortened "shortened" = true) (K_shortened : PySem.W.keepIn K (.ref f_shortened) = true)
    {f_frozen : Addr} {od_frozen an_frozen : Option Addr} {sl_frozen : Array (Option Value)} {oc_frozen kV_frozen dc_frozen pm_frozen cd_frozen ct_frozen : Value}
    (A_frozen : PySem.W.nsIn K mainGlobals "frozen" = some (some (.ref f_frozen))) (L_frozen : K.lookup f_frozen = some ⟨oc_frozen, od_frozen, .func (PySem.W.fnOf "frozen" "frozen" (defArgs s_frozen) (defBody s_frozen) (defScope s_frozen) .none kV_frozen dc_frozen pm_frozen an_frozen cd_frozen ct_frozen), sl_frozen⟩) (C_frozen : PySem.W.codeIn K cd_frozen "frozen" = true) (K_frozen : PySem.W.keepIn K (.ref f_frozen) = true)
    {f_l_cell : Addr} {od_l_cell an_l_cell : Option Addr} {sl_l_cell : Array (Option Value)} {oc_l_cell kV_l_cell dc_l_cell pm_l_cell cd_l_cell ct_l_cell : Value}
    (A_l_cell : PySem.W.nsIn K mainGlobals "_law_cell" = some (some (.ref f_l_cell))) (L_l_cell : K.lookup f_l_cell = some ⟨oc_l_cell, od_l_cell, .func (PySem.W.fnOf "_law_cell" "_law_cell" (defArgs s_l_cell) (defBody s_l_cell) (defScope s_l_cell) .none kV_l_cell dc_l_cell pm_l_cell an_l_cell cd_l_cell ct_l_cell), sl_l_cell⟩) (C_l_cell : PySem.W.codeIn K cd_l_cell "_law_cell" = true) (K_l_cell : PySem.W.keepIn K (.ref f_l_cell) = true)
    {f_l_source : Addr} {od_l_source an_l_source : Option Addr} {sl_l_source : Array (Option Value)} {oc_l_source kV_l_source dc_l_source pm_l_source cd_l_source ct_l_source : Value}
    (A_l_source : PySem.W.nsIn K mainGlobals "_law_source" = some (some (.ref f_l_source))) (L_l_source : K.lookup f_l_source = some ⟨oc_l_source, od_l_source, .func (PySem.W.fnOf "_law_source" "_law_source" (defArgs s_l_source) (defBody s_l_source) (defScope s_l_source) .none kV_l_source dc_l_source pm_l_source an_l_source cd_l_source ct_l_source), sl_l_source⟩) (C_l_source : PySem.W.codeIn K cd_l_source "_law_source" = true) (K_l_source : PySem.W.keepIn K (.ref f_l_source) = true)
    {f_l_pick : Addr} {od_l_pick an_l_pick : Option Addr} {sl_l_pick : Array (Option Value)} {oc_l_pick kV_l_pick dc_l_pick pm_l_pick cd_l_pick ct_l_pick : Value}
    (A_l_pick : PySem.W.nsIn K mainGlobals "_law_pick" = some (some (.ref f_l_pick))) (L_l_pick : K.lookup f_l_pick = some ⟨oc_l_pick, od_l_pick, .func (PySem.W.fnOf "_law_pick" "_law_pick" (defArgs s_l_pick) (defBody s_l_pick) (defScope s_l_pick) .none kV_l_pick dc_l_pick pm_l_pick an_l_pick cd_l_pick ct_l_pick), sl_l_pick⟩) (C_l_pick : PySem.W.codeIn K cd_l_pick "_law_pick" = true) (K_l_pick : PySem.W.keepIn K (.ref f_l_pick) = true)
    {f_l_hull : Addr} {od_l_hull an_l_hull : Option Addr} {sl_l_hull : Array (Option Value)} {oc_l_hull kV_l_hull dc_l_hull pm_l_hull cd_l_hull ct_l_hull : Value}
    (A_l_hull : PySem.W.nsIn K mainGlobals "_law_hull" = some (some (.ref f_l_hull))) (L_l_hull : K.lookup f_l_hull = some ⟨oc_l_hull, od_l_hull, .func (PySem.W.fnOf "_law_hull" "_law_hull" (defArgs s_l_hull) (defBody s_l_hull) (defScope s_l_hull) .none kV_l_hull dc_l_hull pm_l_hull an_l_hull cd_l_hull ct_l_hull), sl_l_hull⟩) (C_l_hull : PySem.W.codeIn K cd_l_hull "_law_hull" = true) (K_l_hull : PySem.W.keepIn K (.ref f_l_hull) = true)
    {f_l_same : Addr} {od_l_same an_l_same : Option Addr} {sl_l_same : Array (Option Value)} {oc_l_same kV_l_same dc_l_same pm_l_same cd_l_same ct_l_same : Value}
    (A_l_same : PySem.W.nsIn K mainGlobals "_law_same" = some (some (.ref f_l_same))) (L_l_same : K.lookup f_l_same = some ⟨oc_l_same, od_l_same, .func (PySem.W.fnOf "_law_same" "_law_same" (defArgs s_l_same) (defBody s_l_same) (defScope s_l_same) .none kV_l_same dc_l_same pm_l_same an_l_same cd_l_same ct_l_same), sl_l_same⟩) (C_l_same : PySem.W.codeIn K cd_l_same "_law_same" = true) (K_l_same : PySem.W.keepIn K (.ref f_l_same) = true)
    {f_l_points : Addr} {od_l_points an_l_points : Option Addr} {sl_l_points : Array (Option Value)} {oc_l_points kV_l_points dc_l_points pm_l_points cd_l_points ct_l_points : Value}
    (A_l_points : PySem.W.nsIn K mainGlobals "_law_points" = some (some (.ref f_l_points))) (L_l_points : K.lookup f_l_points = some ⟨oc_l_points, od_l_points, .func (PySem.W.fnOf "_law_points" "_law_points" (defArgs s_l_points) (defBody s_l_points) (defScope s_l_points) .none kV_l_points dc_l_points pm_l_points an_l_points cd_l_points ct_l_points), sl_l_points⟩) (C_l_points : PySem.W.codeIn K cd_l_points "_law_points" = true) (K_l_points : PySem.W.keepIn K (.ref f_l_points) = true)
    {f_l_fits : Addr} {od_l_fits an_l_fits : Option Addr} {sl_l_fits : Array (Option Value)} {oc_l_fits kV_l_fits dc_l_fits pm_l_fits cd_l_fits ct_l_fits : Value}
    (A_l_fits : PySem.W.nsIn K mainGlobals "_law_fits" = some (some (.ref f_l_fits))) (L_l_fits : K.lookup f_l_fits = some ⟨oc_l_fits, od_l_fits, .func (PySem.W.fnOf "_law_fits" "_law_fits" (defArgs s_l_fits) (defBody s_l_fits) (defScope s_l_fits) .none kV_l_fits dc_l_fits pm_l_fits an_l_fits cd_l_fits ct_l_fits), sl_l_fits⟩) (C_l_fits : PySem.W.codeIn K cd_l_fits "_law_fits" = true) (K_l_fits : PySem.W.keepIn K (.ref f_l_fits) = true)
    {f_l_number : Addr} {od_l_number an_l_number : Option Addr} {sl_l_number : Array (Option Value)} {oc_l_number kV_l_number dc_l_number pm_l_number cd_l_number ct_l_number : Value}
    (A_l_number : PySem.W.nsIn K mainGlobals "_law_number" = some (some (.ref f_l_number))) (L_l_number : K.lookup f_l_number = some ⟨oc_l_number, od_l_number, .func (PySem.W.fnOf "_law_number" "_law_number" (defArgs s_l_number) (defBody s_l_number) (defScope s_l_number) .none kV_l_number dc_l_number pm_l_number an_l_number cd_l_number ct_l_number), sl_l_number⟩) (C_l_number : PySem.W.codeIn K cd_l_number "_law_number" = true) (K_l_number : PySem.W.keepIn K (.ref f_l_number) = true)
    {f_l_bounded : Addr} {od_l_bounded an_l_bounded : Option Addr} {sl_l_bounded : Array (Option Value)} {oc_l_bounded kV_l_bounded dc_l_bounded pm_l_bounded cd_l_bounded ct_l_bounded : Value}
    (A_l_bounded : PySem.W.nsIn K mainGlobals "_law_bounded" = some (some (.ref f_l_bounded))) (L_l_bounded : K.lookup f_l_bounded = some ⟨oc_l_bounded, od_l_bounded, .func (PySem.W.fnOf "_law_bounded" "_law_bounded" (defArgs s_l_bounded) (defBody s_l_bounded) (defScope s_l_bounded) .none kV_l_bounded dc_l_bounded pm_l_bounded an_l_bounded cd_l_bounded ct_l_bounded), sl_l_bounded⟩) (C_l_bounded : PySem.W.codeIn K cd_l_bounded "_law_bounded" = true) (K_l_bounded : PySem.W.keepIn K (.ref f_l_bounded) = true)
    {f_l_diagonal : Addr} {od_l_diagonal an_l_diagonal : Option Addr} {sl_l_diagonal : Array (Option Value)} {oc_l_diagonal kV_l_diagonal dc_l_diagonal pm_l_diagonal cd_l_diagonal ct_l_diagonal : Value}
    (A_l_diagonal : PySem.W.nsIn K mainGlobals "_law_diagonal" = some (some (.ref f_l_diagonal))) (L_l_diagonal : K.lookup f_l_diagonal = some ⟨oc_l_diagonal, od_l_diagonal, .func (PySem.W.fnOf "_law_diagonal" "_law_diagonal" (defArgs s_l_diagonal) (defBody s_l_diagonal) (defScope s_l_diagonal) .none kV_l_diagonal dc_l_diagonal pm_l_diagonal an_l_diagonal cd_l_diagonal ct_l_diagonal), sl_l_diagonal⟩) (C_l_diagonal : PySem.W.codeIn K cd_l_diagonal "_law_diagonal" = true) (K_l_diagonal : PySem.W.keepIn K (.ref f_l_diagonal) = true)
    {f_l_small : Addr} {od_l_small an_l_small : Option Addr} {sl_l_small : Array (Option Value)} {oc_l_small kV_l_small dc_l_small pm_l_small cd_l_small ct_l_small : Value}
    (A_l_small : PySem.W.nsIn K mainGlobals "_law_small" = some (some (.ref f_l_small))) (L_l_small : K.lookup f_l_small = some ⟨oc_l_small, od_l_small, .func (PySem.W.fnOf "_law_small" "_law_small" (defArgs s_l_small) (defBody s_l_small) (defScope s_l_small) .none kV_l_small dc_l_small pm_l_small an_l_small cd_l_small ct_l_small), sl_l_small⟩) (C_l_small : PySem.W.codeIn K cd_l_small "_law_small" = true) (K_l_small : PySem.W.keepIn K (.ref f_l_small) = true)
    {f_l_closed : Addr} {od_l_closed an_l_closed : Option Addr} {sl_l_closed : Array (Option Value)} {oc_l_closed kV_l_closed dc_l_closed pm_l_closed cd_l_closed ct_l_closed : Value}
    (A_l_closed : PySem.W.nsIn K mainGlobals "_law_closed" = some (some (.ref f_l_closed))) (L_l_closed : K.lookup f_l_closed = some ⟨oc_l_closed, od_l_closed, .func (PySem.W.fnOf "_law_closed" "_law_closed" (defArgs s_l_closed) (defBody s_l_closed) (defScope s_l_closed) .none kV_l_closed dc_l_closed pm_l_closed an_l_closed cd_l_closed ct_l_closed), sl_l_closed⟩) (C_l_closed : PySem.W.codeIn K cd_l_closed "_law_closed" = true) (K_l_closed : PySem.W.keepIn K (.ref f_l_closed) = true)
    {f_l_wide : Addr} {od_l_wide an_l_wide : Option Addr} {sl_l_wide : Array (Option Value)} {oc_l_wide kV_l_wide dc_l_wide pm_l_wide cd_l_wide ct_l_wide : Value}
    (A_l_wide : PySem.W.nsIn K mainGlobals "_law_wide" = some (some (.ref f_l_wide))) (L_l_wide : K.lookup f_l_wide = some ⟨oc_l_wide, od_l_wide, .func (PySem.W.fnOf "_law_wide" "_law_wide" (defArgs s_l_wide) (defBody s_l_wide) (defScope s_l_wide) .none kV_l_wide dc_l_wide pm_l_wide an_l_wide cd_l_wide ct_l_wide), sl_l_wide⟩) (C_l_wide : PySem.W.codeIn K cd_l_wide "_law_wide" = true) (K_l_wide : PySem.W.keepIn K (.ref f_l_wide) = true)
    {f_l_way : Addr} {od_l_way an_l_way : Option Addr} {sl_l_way : Array (Option Value)} {oc_l_way kV_l_way dc_l_way pm_l_way cd_l_way ct_l_way : Value}
    (A_l_way : PySem.W.nsIn K mainGlobals "_law_way" = some (some (.ref f_l_way))) (L_l_way : K.lookup f_l_way = some ⟨oc_l_way, od_l_way, .func (PySem.W.fnOf "_law_way" "_law_way" (defArgs s_l_way) (defBody s_l_way) (defScope s_l_way) .none kV_l_way dc_l_way pm_l_way an_l_way cd_l_way ct_l_way), sl_l_way⟩) (C_l_way : PySem.W.codeIn K cd_l_way "_law_way" = true) (K_l_way : PySem.W.keepIn K (.ref f_l_way) = true)
    {f_l_ring : Addr} {od_l_ring an_l_ring : Option Addr} {sl_l_ring : Array (Option Value)} {oc_l_ring kV_l_ring dc_l_ring pm_l_ring cd_l_ring ct_l_ring : Value}
    (A_l_ring : PySem.W.nsIn K mainGlobals "_law_ring" = some (some (.ref f_l_ring))) (L_l_ring : K.lookup f_l_ring = some ⟨oc_l_ring, od_l_ring, .func (PySem.W.fnOf "_law_ring" "_law_ring" (defArgs s_l_ring) (defBody s_l_ring) (defScope s_l_ring) .none kV_l_ring dc_l_ring pm_l_ring an_l_ring cd_l_ring ct_l_ring), sl_l_ring⟩) (C_l_ring : PySem.W.codeIn K cd_l_ring "_law_ring" = true) (K_l_ring : PySem.W.keepIn K (.ref f_l_ring) = true)
    {f_law : Addr} {od_law an_law : Option Addr} {sl_law : Array (Option Value)} {oc_law kV_law dc_law pm_law cd_law ct_law : Value}
    (A_law : PySem.W.nsIn K mainGlobals "law" = some (some (.ref f_law))) (L_law : K.lookup f_law = some ⟨oc_law, od_law, .func (PySem.W.fnOf "law" "law" (defArgs s_law) (defBody s_law) (defScope s_law) .none kV_law dc_law pm_law an_law cd_law ct_law), sl_law⟩) (C_law : PySem.W.codeIn K cd_law "law" = true) (K_law : PySem.W.keepIn K (.ref f_law) = true)
    (Z_abs : PySem.W.nsIn K mainGlobals "abs" = some none)
    (Z_any : PySem.W.nsIn K mainGlobals "any" = some none)
    (Z_bool : PySem.W.nsIn K mainGlobals "bool" = some none)
    (Z_enumerate : PySem.W.nsIn K mainGlobals "enumerate" = some none)
    (Z_int : PySem.W.nsIn K mainGlobals "int" = some none)
    (Z_isinstance : PySem.W.nsIn K mainGlobals "isinstance" = some none)
    (Z_len : PySem.W.nsIn K mainGlobals "len" = some none)
    (Z_list : PySem.W.nsIn K mainGlobals "list" = some none)
    (Z_max : PySem.W.nsIn K mainGlobals "max" = some none)
    (Z_min : PySem.W.nsIn K mainGlobals "min" = some none)
    (Z_range : PySem.W.nsIn K mainGlobals "range" = some none)
    (Z_str : PySem.W.nsIn K mainGlobals "str" = some none)
    (Z_sum : PySem.W.nsIn K mainGlobals "sum" = some none)
    (Z_tuple : PySem.W.nsIn K mainGlobals "tuple" = some none)
    (Z_zip : PySem.W.nsIn K mainGlobals "zip" = some none) :
    ∃ fd : FuncData, (∀ (s : Shared) (v : Value), BindsTo s fd ⟨[v], []⟩ [("_law_script", v)]) ∧ ∀ base : Heap, K.In base → base.Ns mainGlobals mg → FnOk l.prog w K mg base CX0 4 fa fd ["_law_script"] (spLaw K) := by
  have e := hfa.symm.trans (PySem.W.mg_of X G A_law)
  cases e
  let T : Txt w K mg := {
    a_close := f_close, d_close := _, F_close := fun_mk (st := s_close) L_close C_close K_close, b_close := (fun_mk (st := s_close) L_close C_close K_close).binds (ps := p_close) (fun _ _ _ _ _ _ us hl => match us, hl with | [_], _ => rfl), m_close := PySem.W.mg_of X G A_close,
    a_has_contradiction := f_has_contradiction, d_has_contradiction := _, F_has_contradiction := fun_mk (st := s_has_contradiction) L_has_contradiction C_has_contradiction K_has_contradiction, b_has_contradiction := (fun_mk (st := s_has_contradiction) L_has_contradiction C_has_contradiction K_has_contradiction).binds (ps := p_has_contradiction) (fun _ _ _ _ _ _ us hl => match us, hl with | [_], _ => rfl), m_has_contradiction := PySem.W.mg_of X G A_has_contradiction,
    a_shortened := f_shortened, d_shortened := _, F_shortened := fun_mk (st := s_shortened) L_shortened C_shortened K_shortened, b_shortened := (fun_mk (st := s_shortened) L_shortened C_shortened K_shortened).binds (ps := p_shortened) (fun _ _ _ _ _ _ us hl => match us, hl with | [_, _], _ => rfl), m_shortened := PySem.W.mg_of X G A_shortened,
    a_frozen := f_frozen, d_frozen := _, F_frozen := fun_mk (st := s_frozen) L_frozen C_frozen K_frozen, b_frozen := (fun_mk (st := s_frozen) L_frozen C_frozen K_frozen).binds (ps := p_frozen) (fun _ _ _ _ _ _ us hl => match us, hl with | [_], _ => rfl), m_frozen := PySem.W.mg_of X G A_frozen,
    a_l_cell := f_l_cell, d_l_cell := _, F_l_cell := fun_mk (st := s_l_cell) L_l_cell C_l_cell K_l_cell, b_l_cell := (fun_mk (st := s_l_cell) L_l_cell C_l_cell K_l_cell).binds (ps := p_l_cell) (fun _ _ _ _ _ _ us hl => match us, hl with | [_, _], _ => rfl), m_l_cell := PySem.W.mg_of X G A_l_cell,
    a_l_source := f_l_source, d_l_source := _, F_l_source := fun_mk (st := s_l_source) L_l_source C_l_source K_l_source, b_l_source := (fun_mk (st := s_l_source) L_l_source C_l_source K_l_source).binds (ps := p_l_source) (fun _ _ _ _ _ _ us hl => match us, hl with | [_], _ => rfl), m_l_source := PySem.W.mg_of X G A_l_source,
    a_l_pick := f_l_pick, d_l_pick := _, F_l_pick := fun_mk (st := s_l_pick) L_l_pick C_l_pick K_l_pick, b_l_pick := (fun_mk (st := s_l_pick) L_l_pick C_l_pick K_l_pick).binds (ps := p_l_pick) (fun _ _ _ _ _ _ us hl => match us, hl with | [_, _], _ => rfl), m_l_pick := PySem.W.mg_of X G A_l_pick,
    a_l_hull := f_l_hull, d_l_hull := _, F_l_hull := fun_mk (st := s_l_hull) L_l_hull C_l_hull K_l_hull, b_l_hull := (fun_mk (st := s_l_hull) L_l_hull C_l_hull K_l_hull).binds (ps := p_l_hull) (fun _ _ _ _ _ _ us hl => match us, hl with | [_, _], _ => rfl), m_l_hull := PySem.W.mg_of X G A_l_hull,
    a_l_same := f_l_same, d_l_same := _, F_l_same := fun_mk (st := s_l_same) L_l_same C_l_same K_l_same, b_l_same := (fun_mk (st := s_l_same) L_l_same C_l_same K_l_same).binds (ps := p_l_same) (fun _ _ _ _ _ _ us hl => match us, hl with | [_, _], _ => rfl), m_l_same := PySem.W.mg_of X G A_l_same,
    a_l_points := f_l_points, d_l_points := _, F_l_points := fun_mk (st := s_l_points) L_l_points C_l_points K_l_points, b_l_points := (fun_mk (st := s_l_points) L_l_points C_l_points K_l_points).binds (ps := p_l_points) (fun _ _ _ _ _ _ us hl => match us, hl with | [_], _ => rfl), m_l_points := PySem.W.mg_of X G A_l_points,
    a_l_fits := f_l_fits, d_l_fits := _, F_l_fits := fun_mk (st := s_l_fits) L_l_fits C_l_fits K_l_fits, b_l_fits := (fun_mk (st := s_l_fits) L_l_fits C_l_fits K_l_fits).binds (ps := p_l_fits) (fun _ _ _ _ _ _ us hl => match us, hl with | [_, _, _, _], _ => rfl), m_l_fits := PySem.W.mg_of X G A_l_fits,
    a_l_number := f_l_number, d_l_number := _, F_l_number := fun_mk (st := s_l_number) L_l_number C_l_number K_l_number, b_l_number := (fun_mk (st := s_l_number) L_l_number C_l_number K_l_number).binds (ps := p_l_number) (fun _ _ _ _ _ _ us hl => match us, hl with | [_], _ => rfl), m_l_number := PySem.W.mg_of X G A_l_number,
    a_l_bounded := f_l_bounded, d_l_bounded := _, F_l_bounded := fun_mk (st := s_l_bounded) L_l_bounded C_l_bounded K_l_bounded, b_l_bounded := (fun_mk (st := s_l_bounded) L_l_bounded C_l_bounded K_l_bounded).binds (ps := p_l_bounded) (fun _ _ _ _ _ _ us hl => match us, hl with | [_, _, _, _], _ => rfl), m_l_bounded := PySem.W.mg_of X G A_l_bounded,
    a_l_diagonal := f_l_diagonal, d_l_diagonal := _, F_l_diagonal := fun_mk (st := s_l_diagonal) L_l_diagonal C_l_diagonal K_l_diagonal, b_l_diagonal := (fun_mk (st := s_l_diagonal) L_l_diagonal C_l_diagonal K_l_diagonal).binds (ps := p_l_diagonal) (fun _ _ _ _ _ _ us hl => match us, hl with | [_, _], _ => rfl), m_l_diagonal := PySem.W.mg_of X G A_l_diagonal,
    a_l_small := f_l_small, d_l_small := _, F_l_small := fun_mk (st := s_l_small) L_l_small C_l_small K_l_small, b_l_small := (fun_mk (st := s_l_small) L_l_small C_l_small K_l_small).binds (ps := p_l_small) (fun _ _ _ _ _ _ us hl => match us, hl with | [_], _ => rfl), m_l_small := PySem.W.mg_of X G A_l_small,
    a_l_closed := f_l_closed, d_l_closed := _, F_l_closed := fun_mk (st := s_l_closed) L_l_closed C_l_closed K_l_closed, b_l_closed := (fun_mk (st := s_l_closed) L_l_closed C_l_closed K_l_closed).binds (ps := p_l_closed) (fun _ _ _ _ _ _ us hl => match us, hl with | [_], _ => rfl), m_l_closed := PySem.W.mg_of X G A_l_closed,
    a_l_wide := f_l_wide, d_l_wide := _, F_l_wide := fun_mk (st := s_l_wide) L_l_wide C_l_wide K_l_wide, b_l_wide := (fun_mk (st := s_l_wide) L_l_wide C_l_wide K_l_wide).binds (ps := p_l_wide) (fun _ _ _ _ _ _ us hl => match us, hl with | [_], _ => rfl), m_l_wide := PySem.W.mg_of X G A_l_wide,
    a_l_way := f_l_way, d_l_way := _, F_l_way := fun_mk (st := s_l_way) L_l_way C_l_way K_l_way, b_l_way := (fun_mk (st := s_l_way) L_l_way C_l_way K_l_way).binds (ps := p_l_way) (fun _ _ _ _ _ _ us hl => match us, hl with | [_, _, _], _ => rfl), m_l_way := PySem.W.mg_of X G A_l_way,
    a_l_ring := f_l_ring, d_l_ring := _, F_l_ring := fun_mk (st := s_l_ring) L_l_ring C_l_ring K_l_ring, b_l_ring := (fun_mk (st := s_l_ring) L_l_ring C_l_ring K_l_ring).binds (ps := p_l_ring) (fun _ _ _ _ _ _ us hl => match us, hl with | [_], _ => rfl), m_l_ring := PySem.W.mg_of X G A_l_ring,
    a_law := fa, d_law := _, F_law := fun_mk (st := s_law) L_law C_law K_law, b_law := (fun_mk (st := s_law) L_law C_law K_law).binds (ps := p_law) (fun _ _ _ _ _ _ us hl => match us, hl with | [_], _ => rfl), m_law := PySem.W.mg_of X G A_law,
    z_abs := PySem.W.mg_none_of X G Z_abs,
    z_any := PySem.W.mg_none_of X G Z_any,
    z_bool := PySem.W.mg_none_of X G Z_bool,
    z_enumerate := PySem.W.mg_none_of X G Z_enumerate,
    z_int := PySem.W.mg_none_of X G Z_int,
    z_isinstance := PySem.W.mg_none_of X G Z_isinstance,
    z_len := PySem.W.mg_none_of X G Z_len,
    z_list := PySem.W.mg_none_of X G Z_list,
    z_max := PySem.W.mg_none_of X G Z_max,
    z_min := PySem.W.mg_none_of X G Z_min,
    z_range := PySem.W.mg_none_of X G Z_range,
    z_str := PySem.W.mg_none_of X G Z_str,
    z_sum := PySem.W.mg_none_of X G Z_sum,
    z_tuple := PySem.W.mg_none_of X G Z_tuple,
    z_zip := PySem.W.mg_none_of X G Z_zip }
  refine ⟨PySem.W.fnOf "law" "law" (defArgs s_law) (defBody s_law) (defScope s_law) .none kV_law dc_law pm_law an_law cd_law ct_law, fun s v => .of_eq rfl, fun base _ _ => ok_law T⟩
theorem walk {l : PySem.W.OpenLaw} {q : Program} {loose : List Str} {XP : (Str → Option Value) → Heap → Prop} {YP : World → Heap → Prop} {d : DefRec} {K : Params → PySem.W.Frag} (hn : l.most = some 63) (hdf : d.params.defaults = [])
    (hY : ∀ (w : World) (h : Heap), YP w h → (K w.params).In h)
    (F : ∀ (w : World) (mg : Str → Option Value) (fa : Addr) (h : Heap), (K w.params).In h → h.Ns mainGlobals mg → mg d.name = some (.ref fa) →
      ∃ fd : FuncData, (∀ (s : Shared) (u : Value), BindsTo s fd ⟨[u], []⟩ [("_law_script", u)]) ∧ ∀ base : Heap, (K w.params).In base → base.Ns mainGlobals mg → FnOk l.prog w (K w.params) mg base CX0 4 fa fd ["_law_script"] (spLaw (K w.params))) :
    PySem.W.WalkO q loose XP YP l.row.toRowW d [] (fun f vs => PySem.call f vs) :=
  L2.walk_of (n := 63) (k := 4) (x := "_law_script") (CX := fun _ => CX0) (sp := fun w => spLaw (K w.params)) hn (by decide) hdf ⟨rfl, by decide, by decide⟩ hY F (fun _ _ a ns hl _ hS => ⟨a, ns, rfl, hS, hl, fun _ => rfl⟩) fun _ _ _ _ _ z => z
end Mine
open PySem PySem.W PyProof.Rows
set_option maxRecDepth 100000 in
set_option maxHeartbeats 0 in
theorem PySem.Challenge.cw_neverhappens_k17_close_holds : PySem.Challenge.rw_neverhappens_k17_close.Holds := by
  w_on; o_law; k_head; (case hw => w_witness2)
  k_fill
  refine Mine.walk (l := PySem.Challenge.rw_neverhappens_k17_close) rfl rfl (fun w h Y => PySem.W.kIn_of Y) ?F
  case F =>
    intro w mg fa h KX G hmg
    refine' Mine.all_mk KX G hmg ?A_close ?L_close ?C_close ?K_close ?A_has_contradiction ?L_has_contradiction ?C_has_contradiction ?K_has_contradiction ?A_shortened ?L_shortened ?C_shortened ?K_shortened ?A_frozen ?L_frozen ?C_frozen ?K_frozen ?A_l_cell ?L_l_cell ?C_l_cell ?K_l_cell ?A_l_source ?L_l_source ?C_l_source ?K_l_source ?A_l_pick ?L_l_pick ?C_l_pick ?K_l_pick ?A_l_hull ?L_l_hull ?C_l_hull ?K_l_hull ?A_l_same ?L_l_same ?C_l_same ?K_l_same ?A_l_points ?L_l_points ?C_l_points ?K_l_points ?A_l_fits ?L_l_fits ?C_l_fits ?K_l_fits ?A_l_number ?L_l_number ?C_l_number ?K_l_number ?A_l_bounded ?L_l_bounded ?C_l_bounded ?K_l_bounded ?A_l_diagonal ?L_l_diagonal ?C_l_diagonal ?K_l_diagonal ?A_l_small ?L_l_small ?C_l_small ?K_l_small ?A_l_closed ?L_l_closed ?C_l_closed ?K_l_closed ?A_l_wide ?L_l_wide ?C_l_wide ?K_l_wide ?A_l_way ?L_l_way ?C_l_way ?K_l_way ?A_l_ring ?L_l_ring ?C_l_ring ?K_l_ring ?A_law ?L_law ?C_law ?K_law ?Z_abs ?Z_any ?Z_bool ?Z_enumerate ?Z_int ?Z_isinstance ?Z_len ?Z_list ?Z_max ?Z_min ?Z_range ?Z_str ?Z_sum ?Z_tuple ?Z_zip
    (case A_close => k_is)
    (case L_close => k_is)
    (case C_close => k_is)
    (case K_close => k_is)
    (case A_has_contradiction => k_is)
    (case L_has_contradiction => k_is)
    (case C_has_contradiction => k_is)
    (case K_has_contradiction => k_is)
    (case A_shortened => k_is)
    (case L_shortened => k_is)
    (case C_shortened => k_is)
    (case K_shortened => k_is)
    (case A_frozen => k_is)
    (case L_frozen => k_is)
    (case C_frozen => k_is)
    (case K_frozen => k_is)
    (case A_l_cell => k_is)
    (case L_l_cell => k_is)
    (case C_l_cell => k_is)
    (case K_l_cell => k_is)
    (case A_l_source => k_is)
    (case L_l_source => k_is)
    (case C_l_source => k_is)
    (case K_l_source => k_is)
    (case A_l_pick => k_is)
    (case L_l_pick => k_is)
    (case C_l_pick => k_is)
    (case K_l_pick => k_is)
    (case A_l_hull => k_is)
    (case L_l_hull => k_is)
    (case C_l_hull => k_is)
    (case K_l_hull => k_is)
    (case A_l_same => k_is)
    (case L_l_same => k_is)
    (case C_l_same => k_is)
    (case K_l_same => k_is)
    (case A_l_points => k_is)
    (case L_l_points => k_is)
    (case C_l_points => k_is)
    (case K_l_points => k_is)
    (case A_l_fits => k_is)
    (case L_l_fits => k_is)
    (case C_l_fits => k_is)
    (case K_l_fits => k_is)
    (case A_l_number => k_is)
    (case L_l_number => k_is)
    (case C_l_number => k_is)
    (case K_l_number => k_is)
    (case A_l_bounded => k_is)
    (case L_l_bounded => k_is)
    (case C_l_bounded => k_is)
    (case K_l_bounded => k_is)
    (case A_l_diagonal => k_is)
    (case L_l_diagonal => k_is)
    (case C_l_diagonal => k_is)
    (case K_l_diagonal => k_is)
    (case A_l_small => k_is)
    (case L_l_small => k_is)
    (case C_l_small => k_is)
    (case K_l_small => k_is)
    (case A_l_closed => k_is)
    (case L_l_closed => k_is)
    (case C_l_closed => k_is)
    (case K_l_closed => k_is)
    (case A_l_wide => k_is)
    (case L_l_wide => k_is)
    (case C_l_wide => k_is)
    (case K_l_wide => k_is)
    (case A_l_way => k_is)
    (case L_l_way => k_is)
    (case C_l_way => k_is)
    (case K_l_way => k_is)
    (case A_l_ring => k_is)
    (case L_l_ring => k_is)
    (case C_l_ring => k_is)
    (case K_l_ring => k_is)
    (case A_law => k_is)
    (case L_law => k_is)
    (case C_law => k_is)
    (case K_law => k_is)
    (case Z_abs => k_is)
    (case Z_any => k_is)
    (case Z_bool => k_is)
    (case Z_enumerate => k_is)
    (case Z_int => k_is)
    (case Z_isinstance => k_is)
    (case Z_len => k_is)
    (case Z_list => k_is)
    (case Z_max => k_is)
    (case Z_min => k_is)
    (case Z_range => k_is)
    (case Z_str => k_is)
    (case Z_sum => k_is)
    (case Z_tuple => k_is)
    (case Z_zip => k_is)
#print axioms PySem.Challenge.cw_neverhappens_k17_close_holds
