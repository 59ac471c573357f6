import PyProof.Rows.All
import Wide.All
import OpenK.AllK
import Wide.FinOn
import HandS.ForMost
import HandS.IsInst
import HandS.FStr
import HandS.Codes
import HandS.Star
import HandS.Zip
import HandS.More
import HandS.Defaults
import HandS.Rev
import HandS.Walk
import HandS.TupAny
import HandS.TupMul
import HandS.Wide
import HandS.Style
import HandS.Iter
import HandS.Conv
import KE.KTurns
import KE.GoesMore
import HandS.Set
import HandS.SetFor
import HandS.Strs
import HandS.NoneIn
import HandS.Finally
import HandS.TupMul
import HandS.DictComp
import PySem.Challenge.RW_neverhappens_k26_whole_assume
set_option Elab.async false
set_option linter.all false
set_option maxRecDepth 100000
set_option maxHeartbeats 4000000
namespace ZG
open PySem PySem.Spec PyProof.Rows L2
/-! ### zip of two rows, each a list or a tuple; the target any -/
def ItAt (t : Bool) (h : Heap) (i l : Addr) (k : Nat) : Prop := match t with
  | true => h.IsTupleIter i l k
  | false => h.IsListIter i l k
def SeqIs (t : Bool) (h : Heap) (l : Addr) (xs : Array Value) : Prop := match t with
  | true => h.IsTuple l xs
  | false => h.IsList l xs
def Sq (t : Bool) (K : PySem.W.Frag) (H : Hp) (a : Addr) (xs : List V) : Prop := match t with
  | true => SqT K H a xs
  | false => SqL K H a xs
theorem ItAt.on {t : Bool} {h h' : Heap} {i l : Addr} {k : Nat} (x : ItAt t h i l k) (e : ∀ o, h.get? i = some o → h'.get? i = some o) : ItAt t h' i l k := by
  cases t
  · exact Heap.IsListIter.at x e
  · exact Heap.IsTupleIter.at x e
theorem ItAt.get {t : Bool} {h : Heap} {i l : Addr} {k : Nat} (x : ItAt t h i l k) : ∃ o fs, h.get? i = some o ∧ o.data = .fields fs := by
  cases t <;> (obtain ⟨o, e, _, d⟩ := x; exact ⟨o, _, e, d⟩)
theorem SeqIs.on {t : Bool} {h h' : Heap} {b l : Addr} {xs : Array Value} (x : SeqIs t h l xs) (hs : Heap.ExtBut b h h') (ne : l ≠ b) : SeqIs t h' l xs := by
  cases t
  · exact Heap.IsList.extBut x hs ne
  · exact Heap.IsTuple.extBut x hs ne
theorem SeqIs.push {t : Bool} {h : Heap} {l : Addr} {xs : Array Value} (x : SeqIs t h l xs) (o : Obj) : SeqIs t (h.push o) l xs := by
  cases t
  · exact Heap.IsList.push x o
  · exact Heap.IsTuple.push x o
theorem SeqIs.lt {t : Bool} {h : Heap} {l : Addr} {xs : Array Value} (x : SeqIs t h l xs) : l < h.objs.size := by
  cases t <;> (obtain ⟨o, e, _⟩ := x; exact Heap.lt_size e)
abbrev itObj (t : Bool) (l : Addr) : Obj := { cls := .type (if t then "tuple_iterator" else "list_iterator"), data := .fields #[.ref l, .int 0 0] }
theorem itAt_new (t : Bool) {h : Heap} {i l : Addr} (e : h.get? i = some (itObj t l)) : ItAt t h i l 0 := by
  cases t <;> exact ⟨_, e, rfl, rfl⟩
section
variable {prog : Program} {w : World} {A : Around} {E : Value → Shared → Prop} {s : Shared}
theorem nextIn_item {t : Bool} {i l : Addr} {k : Nat} {xs : Array Value} {x : Value} {Q : Value → Shared → Prop} (h1 : ItAt t s.heap i l k) (h2 : SeqIs t s.heap l xs) (hx : xs[k]? = some x)
    (q : ∀ h', ItAt t h' i l (k + 1) → Heap.SameBut i s.heap h' → Q x { s with heap := h' }) : wpAny (model prog w) A (Builtin.SmallTypes.nextOf (.ref i)) Q E s := by
  cases t
  · exact wpAny_nextOf_list_item h1 h2 hx q
  · exact RZ.nextOf_tuple_item h1 h2 hx q
theorem nextIn_end {t : Bool} {i l : Addr} {k : Nat} {xs : Array Value} {Q : Value → Shared → Prop} (hh : A.handled = none) (h1 : ItAt t s.heap i l k) (h2 : SeqIs t s.heap l xs) (hx : xs[k]? = none)
    (q : ∀ h' e, Heap.ExtBut i s.heap h' → (∃ o, h'.get? e = some o ∧ o.cls = .type "StopIteration") → E (.ref e) { s with heap := h' }) : wpAny (model prog w) A (Builtin.SmallTypes.nextOf (.ref i)) Q E s := by
  cases t
  · exact wpAny_nextOf_list_end hh h1 h2 hx q
  · exact RZ.nextOf_tuple_end hh h1 h2 hx q
/-- the zip at z: f0 tells which tuple it gave out -/
abbrev ZipSt (h : Heap) (z TI TO : Addr) (f0 : Value) (f : Bool) : Prop :=
  h.get? z = some { cls := .type "zip", dict := none, data := .fields #[f0, .bool f, .bool false, .ref TI, .ref TO], slots := #[] }
def Gave (f0 : Value) : Prop := f0 = .none ∨ ∃ T : Addr, f0 = rawInt T
theorem gave_free {z TI TO : Addr} {f0 : Value} {f : Bool} {Q : Bool → Shared → Prop} (hz : ZipSt s.heap z TI TO f0 f) (g : Gave f0) (q1 : Q true s)
    (q2 : ∀ h', ZipSt h' z TI TO f0 true → Heap.SameBut z s.heap h' → Q false { s with heap := h' }) : wpAny (model prog w) A (Builtin.SmallTypes.ownedTupleIsFree (.ref z)) Q E s := by
  unfold Builtin.SmallTypes.ownedTupleIsFree
  rcases g with rfl | ⟨T, rfl⟩
  · exact wpAny_bind (wpAny_field hz rfl (x := .none) rfl (wpAny_pure q1))
  refine wpAny_bind (wpAny_field hz rfl (x := rawInt T) rfl ?_)
  show wpAny _ _ (loadIfAlive ((T : Int).toNat) >>= _) _ _ _
  rw [Int.toNat_natCast]
  have k : ∀ {Q' : Option Obj → Shared → Prop}, Q' (s.heap.get? T) s → wpAny (model prog w) A (loadIfAlive T) Q' E s := fun h => fun _ _ _ => h
  refine wpAny_bind (k ?_)
  cases s.heap.get? T with
  | none =>
    simp only [Option.isNone_none, if_true]
    exact wpAny_pure q1
  | some oT =>
    simp only [Option.isNone_some, Bool.false_eq_true, if_false]
    refine wpAny_bind (wpAny_field hz rfl (x := .bool f) rfl ?_)
    cases f with
    | true =>
      rw [if_neg (show ¬ ((Value.bool true != Value.bool true) = true) from Bool.false_ne_true)]
      exact wpAny_pure (q2 s.heap hz (Heap.SameBut.refl _ _))
    | false =>
      rw [if_pos (show (Value.bool false != Value.bool true) = true from rfl)]
      exact wpAny_bind (wpAny_setField_rec hz (by simp) fun h₁ z1 s1 => wpAny_pure (q2 h₁ z1 s1))
/-- a zip that has an item left -/
theorem zipG_item {t1 t2 : Bool} {z TI TO i1 i2 l1 l2 : Addr} {f0 : Value} {f : Bool} {k1 k2 : Nat} {xs ys : Array Value} {x y a b : Value} {Q : Option Value → Shared → Prop} (D : ZipApart z TI TO i1 i2 l1 l2)
    (hz : ZipSt s.heap z TI TO f0 f) (g : Gave f0) (hTI : IsPair s.heap TI (.ref i1) (.ref i2)) (hTO : IsPair s.heap TO a b)
    (h1 : ItAt t1 s.heap i1 l1 k1) (h2 : ItAt t2 s.heap i2 l2 k2) (hl1 : SeqIs t1 s.heap l1 xs) (hl2 : SeqIs t2 s.heap l2 ys) (hx : xs[k1]? = some x) (hy : ys[k2]? = some y)
    (hQ : ∀ h' f0' f', ZipSt h' z TI TO f0' f' → Gave f0' → (∃ a b, IsPair h' TO a b) → ItAt t1 h' i1 l1 (k1 + 1) → ItAt t2 h' i2 l2 (k2 + 1) → IsPair h' s.heap.objs.size x y → h'.objs.size = s.heap.objs.size + 1 →
      (∀ c o, c ≠ z → c ≠ TO → c ≠ i1 → c ≠ i2 → s.heap.get? c = some o → h'.get? c = some o) → Q (some (.ref s.heap.objs.size)) { s with heap := h' }) :
    wpAny (model prog w) A (pyNext (.ref z)) Q E s := by
  have hT : s.TypeIs (.ref z) "zip" := ⟨_, hz, rfl⟩
  unfold pyNext
  refine wpAny_bind (wpAny_attempt (wpAny_callSpecial?_slot (name := Str.ofString "__next__") hT F.slot_zip_next (wpAny_call_entry F.slot_zip_next hT F.entry_zip_next ?_ (F.args_zip_next_1 _))))
  show wpAny _ _ (field (.ref z) 2 >>= _) _ _ _
  refine wpAny_bind (wpAny_field hz rfl (x := .bool false) rfl ?_)
  show wpAny _ _ (field (.ref z) 3 >>= _) _ _ _
  refine wpAny_bind (wpAny_field hz rfl (x := .ref TI) rfl ?_)
  refine wpAny_bind (wpAny_seqItems hTI rfl ?_)
  refine wpAny_bind (gave_free (z := z) hz g ?free fun u1 z1 s1 => ?held)
  case free =>
    simp only [if_true]
    refine wpAny_bind (wpAny_rule ?_)
    refine wpAny_bind (wpAny_field hz rfl (x := .ref TO) rfl ?_)
    refine wpAny_bind (wpAny_setField_rec hz (by simp) fun u1 z1 s1 => ?_)
    replace z1 : ZipSt u1 z TI TO .ellipsis f := z1
    refine wpAny_bind ?_
    simp only [List.zipIdx_cons, List.zipIdx_nil, List.forIn_cons, List.forIn_nil]
    refine wpAny_bind (wpAny_bind (wpAny_onRaise ?_))
    show wpAny _ _ (Builtin.SmallTypes.nextOf (.ref i1) >>= _) _ _ _
    refine wpAny_bind (nextIn_item (h1.on fun o e => s1.extBut _ _ D.i1z e) (hl1.on s1.extBut D.l1z) hx fun u2 a2 s2 => wpAny_pure ?_)
    have p2 : IsPair u2 TO a b := s2.extBut _ _ D.TOi1 (s1.extBut _ _ D.TOz hTO)
    refine wpAny_bind (wpAny_seqItems p2 rfl ?_)
    refine wpAny_bind (wpAny_updateSeq_pair p2 fun u3 p3 s3 => ?_)
    replace p3 : IsPair u3 TO x b := p3
    refine wpAny_bind (wpAny_letGo (wpAny_pure ?_))
    refine wpAny_bind (wpAny_bind (wpAny_onRaise ?_))
    show wpAny _ _ (Builtin.SmallTypes.nextOf (.ref i2) >>= _) _ _ _
    refine wpAny_bind (nextIn_item (h2.on fun o e => s3.extBut _ _ D.TOi2.symm (s2.extBut _ _ D.i12.symm (s1.extBut _ _ D.i2z e)))
      (((hl2.on s1.extBut D.l2z).on s2.extBut D.l2i1).on s3.extBut D.l2TO) hy fun u4 a4 s4 => wpAny_pure ?_)
    have p4 : IsPair u4 TO x b := s4.extBut _ _ D.TOi2 p3
    refine wpAny_bind (wpAny_seqItems p4 rfl ?_)
    refine wpAny_bind (wpAny_updateSeq_pair p4 fun u5 p5 s5 => ?_)
    replace p5 : IsPair u5 TO x y := p5
    refine wpAny_bind (wpAny_letGo (wpAny_pure (wpAny_pure ?_)))
    refine wpAny_bind (wpAny_seqItems p5 rfl ?_)
    refine wpAny_bind (wpAny_newTuple ?_)
    have sz : u5.objs.size = s.heap.objs.size := by rw [s5.1, s4.1, s3.1, s2.1, s1.1]
    have z5 : ZipSt u5 z TI TO .ellipsis f := s5.extBut _ _ D.TOz.symm (s4.extBut _ _ D.i2z.symm (s3.extBut _ _ D.TOz.symm (s2.extBut _ _ D.i1z.symm z1)))
    have k5 : ∀ c o, c ≠ z → c ≠ TO → c ≠ i1 → c ≠ i2 → s.heap.get? c = some o → u5.get? c = some o := fun c o c1 c2 c3 c4 e =>
      s5.extBut _ _ c2 (s4.extBut _ _ c4 (s3.extBut _ _ c2 (s2.extBut _ _ c3 (s1.extBut _ _ c1 e))))
    have b1 : ItAt t1 u5 i1 l1 (k1 + 1) := a2.on fun o e => s5.extBut _ _ D.TOi1.symm (s4.extBut _ _ D.i12 (s3.extBut _ _ D.TOi1.symm e))
    have b2 : ItAt t2 u5 i2 l2 (k2 + 1) := a4.on fun o e => s5.extBut _ _ D.TOi2.symm e
    have zl : z < u5.objs.size := Heap.lt_size z5
    show wpAny _ _ (Builtin.SmallTypes.ownedTupleHandOut (.ref z) (.ref u5.objs.size) >>= _) _ _ _
    refine wpAny_bind ?_
    unfold Builtin.SmallTypes.ownedTupleHandOut
    have z6 : ZipSt (u5.push { cls := .type "tuple", data := .seq #[x, y] }) z TI TO .ellipsis f := Heap.get?_push_of_some _ z5
    refine wpAny_bind (wpAny_setField_rec z6 (by simp) fun u7 z7 s7 => ?_)
    replace z7 : ZipSt u7 z TI TO (rawInt u5.objs.size) f := z7
    refine wpAny_setField_rec z7 (by simp) fun u8 z8 s8 => ?_
    replace z8 : ZipSt u8 z TI TO (rawInt u5.objs.size) false := z8
    have up : ∀ c o, c ≠ z → u5.get? c = some o → u8.get? c = some o := fun c o c1 e => s8.extBut _ _ c1 (s7.extBut _ _ c1 (Heap.get?_push_of_some _ e))
    have t8 : IsPair u8 u5.objs.size x y := s8.extBut _ _ (Nat.ne_of_gt zl) (s7.extBut _ _ (Nat.ne_of_gt zl) (Heap.get?_push_size _ rfl))
    have n8 : u8.objs.size = u5.objs.size + 1 := by rw [s8.1, s7.1, Heap.size_push]
    rw [sz] at z8 t8 n8
    refine wpAny_pure ⟨_, rfl, wpAny_pure ?_⟩
    show Q (some (.ref u5.objs.size)) _
    rw [sz]
    exact hQ u8 _ _ z8 (.inr ⟨_, rfl⟩) ⟨_, _, up _ _ D.TOz p5⟩ (b1.on fun o e => up _ o D.i1z e) (b2.on fun o e => up _ o D.i2z e) t8 n8 fun c o c1 c2 c3 c4 e => up c o c1 (k5 c o c1 c2 c3 c4 e)
  case held =>
    simp only [Bool.false_eq_true, if_false]
    refine wpAny_bind ?_
    rw [← Array.forIn_toList]
    simp only [List.forIn_cons, List.forIn_nil]
    refine wpAny_bind (wpAny_bind (wpAny_holding ?_))
    show wpAny _ _ (Builtin.SmallTypes.nextOf (.ref i1) >>= _) _ _ _
    refine wpAny_bind (nextIn_item (s := { s with heap := u1 }) (h1.on fun o e => s1.extBut _ _ D.i1z e) (hl1.on s1.extBut D.l1z) hx fun u2 a2 s2 => wpAny_pure ?_)
    refine wpAny_pure ?_
    refine wpAny_bind (wpAny_bind (wpAny_holding ?_))
    show wpAny _ _ (Builtin.SmallTypes.nextOf (.ref i2) >>= _) _ _ _
    refine wpAny_bind (nextIn_item (s := { s with heap := u2 }) (h2.on fun o e => s2.extBut _ _ D.i12.symm (s1.extBut _ _ D.i2z e)) ((hl2.on s1.extBut D.l2z).on s2.extBut D.l2i1) hy fun u3 a3 s3 => wpAny_pure ?_)
    refine wpAny_pure (wpAny_pure ?_)
    show wpAny _ _ (newTuple [x, y] >>= _) _ _ _
    refine wpAny_bind (wpAny_newTuple ?_)
    have sz : u3.objs.size = s.heap.objs.size := by rw [s3.1, s2.1, s1.1]
    have z3 : ZipSt u3 z TI TO f0 true := s3.extBut _ _ D.i2z.symm (s2.extBut _ _ D.i1z.symm z1)
    have k3 : ∀ c o, c ≠ z → c ≠ TO → c ≠ i1 → c ≠ i2 → s.heap.get? c = some o → u3.get? c = some o := fun c o c1 _ c2 c3 e => s3.extBut _ _ c3 (s2.extBut _ _ c2 (s1.extBut _ _ c1 e))
    have b1 : ItAt t1 u3 i1 l1 (k1 + 1) := a2.on fun o e => s3.extBut _ _ D.i12 e
    refine wpAny_pure ⟨_, rfl, wpAny_pure ?_⟩
    show Q (some (.ref u3.objs.size)) _
    have hp : IsPair (u3.push { cls := .type "tuple", data := .seq #[x, y] }) u3.objs.size x y := Heap.get?_push_size _ rfl
    have n4 : (u3.push { cls := .type "tuple", data := .seq #[x, y] }).objs.size = u3.objs.size + 1 := Heap.size_push ..
    have pTO : IsPair u3 TO a b := s3.extBut _ _ D.TOi2 (s2.extBut _ _ D.TOi1 (s1.extBut _ _ D.TOz hTO))
    rw [sz] at hp n4 ⊢
    exact hQ _ _ _ (Heap.get?_push_of_some _ z3) g ⟨a, b, Heap.get?_push_of_some _ pTO⟩ (b1.on fun o e => Heap.get?_push_of_some _ e) (a3.on fun o e => Heap.get?_push_of_some _ e) hp n4 fun c o c1 c2 c3 c4 e => Heap.get?_push_of_some _ (k3 c o c1 c2 c3 c4 e)
/-- a zip that is through -/
theorem zipG_end {t1 t2 : Bool} {z TI TO i1 i2 l1 l2 : Addr} {f0 : Value} {f : Bool} {k1 k2 : Nat} {xs ys : Array Value} {a b : Value} {Q : Option Value → Shared → Prop} (hh : A.handled = none) (D : ZipApart z TI TO i1 i2 l1 l2)
    (hz : ZipSt s.heap z TI TO f0 f) (g : Gave f0) (hTI : IsPair s.heap TI (.ref i1) (.ref i2)) (hTO : IsPair s.heap TO a b)
    (h1 : ItAt t1 s.heap i1 l1 k1) (h2 : ItAt t2 s.heap i2 l2 k2) (hl1 : SeqIs t1 s.heap l1 xs) (hl2 : SeqIs t2 s.heap l2 ys) (hend : xs[k1]? = none ∨ ys[k2]? = none)
    (hQ : ∀ h', (∀ c o, c ≠ z → c ≠ TO → c ≠ i1 → c ≠ i2 → s.heap.get? c = some o → h'.get? c = some o) → Q none { s with heap := h' }) :
    wpAny (model prog w) A (pyNext (.ref z)) Q E s := by
  have hT : s.TypeIs (.ref z) "zip" := ⟨_, hz, rfl⟩
  have fin : ∀ (h' : Heap) (e : Addr), (∀ c o, c ≠ z → c ≠ TO → c ≠ i1 → c ≠ i2 → s.heap.get? c = some o → h'.get? c = some o) → (∃ o, h'.get? e = some o ∧ o.cls = .type "StopIteration") →
      wpAny (model prog w) A (isInstance (.ref e) (.type "StopIteration")) (fun v s' => v = true ∧ s' = { s with heap := h' }) E { s with heap := h' } := fun h' e _ he => by
    obtain ⟨o, ho, hc⟩ := he
    exact wpAny_isInstance (T := "StopIteration") (b := true) ⟨o, ho, hc⟩ isSubtype_stop ⟨rfl, rfl⟩
  unfold pyNext
  refine wpAny_bind (wpAny_attempt (wpAny_callSpecial?_slot (name := Str.ofString "__next__") hT F.slot_zip_next (wpAny_call_entry F.slot_zip_next hT F.entry_zip_next ?_ (F.args_zip_next_1 _))))
  show wpAny _ _ (field (.ref z) 2 >>= _) _ _ _
  refine wpAny_bind (wpAny_field hz rfl (x := .bool false) rfl ?_)
  show wpAny _ _ (field (.ref z) 3 >>= _) _ _ _
  refine wpAny_bind (wpAny_field hz rfl (x := .ref TI) rfl ?_)
  refine wpAny_bind (wpAny_seqItems hTI rfl ?_)
  refine wpAny_bind (gave_free (z := z) hz g ?free fun u1 z1 s1 => ?held)
  case free =>
    simp only [if_true]
    refine wpAny_bind (wpAny_rule ?_)
    refine wpAny_bind (wpAny_field hz rfl (x := .ref TO) rfl ?_)
    refine wpAny_bind (wpAny_setField_rec hz (by simp) fun u1 z1 s1 => ?_)
    replace z1 : ZipSt u1 z TI TO .ellipsis f := z1
    refine wpAny_bind ?_
    simp only [List.zipIdx_cons, List.zipIdx_nil, List.forIn_cons, List.forIn_nil]
    refine wpAny_bind (wpAny_bind (wpAny_onRaise ?_))
    show wpAny _ _ (Builtin.SmallTypes.nextOf (.ref i1) >>= _) _ _ _
    cases hx : xs[k1]? with
    | none =>
      refine wpAny_bind (nextIn_end hh (h1.on fun o e => s1.extBut _ _ D.i1z e) (hl1.on s1.extBut D.l1z) hx fun u2 e s2 he => ?_)
      obtain ⟨oe, hoe, hce⟩ := he
      have z2 : ZipSt u2 z TI TO .ellipsis f := s2 _ _ D.i1z.symm z1
      have hez : e ≠ z := fun x => by subst x; rw [z2] at hoe; cases hoe; simp at hce
      refine wpAny_setField_rec z2 (by simp) fun u3 _ s3 => ?_
      refine wpAny_bind (wpAny_isInstance (T := "StopIteration") (b := true) ⟨oe, s3.extBut _ _ hez hoe, hce⟩ isSubtype_stop ?_)
      exact wpAny_pure (hQ u3 fun c o c1 _ c3 _ x => s3.extBut _ _ c1 (s2 _ _ c3 (s1.extBut _ _ c1 x)))
    | some x =>
      have hy : ys[k2]? = none := by rcases hend with h | h; rw [hx] at h; cases h; exact h
      refine wpAny_bind (nextIn_item (h1.on fun o e => s1.extBut _ _ D.i1z e) (hl1.on s1.extBut D.l1z) hx fun u2 a2 s2 => wpAny_pure ?_)
      have p2 : IsPair u2 TO a b := s2.extBut _ _ D.TOi1 (s1.extBut _ _ D.TOz hTO)
      refine wpAny_bind (wpAny_seqItems p2 rfl ?_)
      refine wpAny_bind (wpAny_updateSeq_pair p2 fun u3 p3 s3 => ?_)
      refine wpAny_bind (wpAny_letGo (wpAny_pure ?_))
      refine wpAny_bind (wpAny_bind (wpAny_onRaise ?_))
      show wpAny _ _ (Builtin.SmallTypes.nextOf (.ref i2) >>= _) _ _ _
      refine wpAny_bind (nextIn_end hh (h2.on fun o e => s3.extBut _ _ D.TOi2.symm (s2.extBut _ _ D.i12.symm (s1.extBut _ _ D.i2z e)))
        (((hl2.on s1.extBut D.l2z).on s2.extBut D.l2i1).on s3.extBut D.l2TO) hy fun u4 e s4 he => ?_)
      obtain ⟨oe, hoe, hce⟩ := he
      have z4 : ZipSt u4 z TI TO .ellipsis f := s4 _ _ D.i2z.symm (s3.extBut _ _ D.TOz.symm (s2.extBut _ _ D.i1z.symm z1))
      have hez : e ≠ z := fun x => by subst x; rw [z4] at hoe; cases hoe; simp at hce
      refine wpAny_setField_rec z4 (by simp) fun u5 _ s5 => ?_
      refine wpAny_bind (wpAny_isInstance (T := "StopIteration") (b := true) ⟨oe, s5.extBut _ _ hez hoe, hce⟩ isSubtype_stop ?_)
      exact wpAny_pure (hQ u5 fun c o c1 c2 c3 c4 x => s5.extBut _ _ c1 (s4 _ _ c4 (s3.extBut _ _ c2 (s2.extBut _ _ c3 (s1.extBut _ _ c1 x)))))
  case held =>
    simp only [Bool.false_eq_true, if_false]
    refine wpAny_bind ?_
    rw [← Array.forIn_toList]
    simp only [List.forIn_cons, List.forIn_nil]
    refine wpAny_bind (wpAny_bind (wpAny_holding ?_))
    show wpAny _ _ (Builtin.SmallTypes.nextOf (.ref i1) >>= _) _ _ _
    cases hx : xs[k1]? with
    | none =>
      refine wpAny_bind (nextIn_end (s := { s with heap := u1 }) hh (h1.on fun o e => s1.extBut _ _ D.i1z e) (hl1.on s1.extBut D.l1z) hx fun u2 e s2 he => ?_)
      obtain ⟨oe, hoe, hce⟩ := he
      refine wpAny_bind (wpAny_isInstance (T := "StopIteration") (b := true) ⟨oe, hoe, hce⟩ isSubtype_stop ?_)
      exact wpAny_pure (hQ u2 fun c o c1 _ c3 _ x => s2 _ _ c3 (s1.extBut _ _ c1 x))
    | some x =>
      have hy : ys[k2]? = none := by rcases hend with h | h; rw [hx] at h; cases h; exact h
      refine wpAny_bind (nextIn_item (s := { s with heap := u1 }) (h1.on fun o e => s1.extBut _ _ D.i1z e) (hl1.on s1.extBut D.l1z) hx fun u2 a2 s2 => wpAny_pure ?_)
      refine wpAny_pure ?_
      refine wpAny_bind (wpAny_bind (wpAny_holding ?_))
      show wpAny _ _ (Builtin.SmallTypes.nextOf (.ref i2) >>= _) _ _ _
      refine wpAny_bind (nextIn_end (s := { s with heap := u2 }) hh (h2.on fun o e => s2.extBut _ _ D.i12.symm (s1.extBut _ _ D.i2z e)) ((hl2.on s1.extBut D.l2z).on s2.extBut D.l2i1) hy fun u3 e s3 he => ?_)
      obtain ⟨oe, hoe, hce⟩ := he
      refine wpAny_bind (wpAny_isInstance (T := "StopIteration") (b := true) ⟨oe, hoe, hce⟩ isSubtype_stop ?_)
      exact wpAny_pure (hQ u3 fun c o c1 _ c3 c4 x => s3 _ _ c4 (s2.extBut _ _ c3 (s1.extBut _ _ c1 x)))
/-- what is done with the tuple that it gave out ahead of a target -/
theorem goG {tg : Expr} {z TI TO T : Addr} {f0 : Value} {f : Bool} {Q : Unit → Shared → Prop} (hz : ZipSt s.heap z TI TO f0 f) (g : Gave f0)
    (hQ : ∀ h' f0', ZipSt h' z TI TO f0' f → Gave f0' → Heap.SameBut z s.heap h' → Q () { s with heap := h' }) : wpAny (model prog w) A (letOwnedTupleGo tg (.ref z) (.ref T)) Q E s := by
  have q0 : Q () s := hQ s.heap f0 hz g (Heap.SameBut.refl _ _)
  unfold letOwnedTupleGo
  cases tg <;> first
    | exact wpAny_pure q0
    | (refine wpAny_bind (wpAny_load hz ?_)
       show wpAny _ _ (if (["enumerate", "zip", "dict_itemiterator", "dict_reverseitemiterator", "odict_iterator", "itertools.zip_longest", "itertools.pairwise"].contains "zip" && (#[f0, .bool f, .bool false, .ref TI, .ref TO] : Array Value)[0]? == some (rawInt T)) = true then _ else _) Q E s
       split
       · refine wpAny_bind (wpAny_rule ?_)
         show wpAny _ _ (setField (.ref z) 0 .none) Q E s
         exact wpAny_setField_rec hz (by simp) fun h' z' s' => hQ h' .none z' (.inl rfl) s'
       · exact wpAny_pure q0)
abbrev zG1 (t : Bool) (h : Heap) (l1 : Addr) : Heap := h.push (itObj t l1)
abbrev zG2 (t1 t2 : Bool) (h : Heap) (l1 l2 : Addr) : Heap := (zG1 t1 h l1).push (itObj t2 l2)
abbrev zG3 (t1 t2 : Bool) (h : Heap) (l1 l2 : Addr) : Heap := (zG2 t1 t2 h l1 l2).push { cls := .type "tuple", data := .seq #[.ref h.objs.size, .ref (zG1 t1 h l1).objs.size] }
abbrev zG4 (t1 t2 : Bool) (h : Heap) (l1 l2 : Addr) : Heap := (zG3 t1 t2 h l1 l2).push { cls := .type "tuple", data := .seq #[.none, .none] }
abbrev zG5 (t1 t2 : Bool) (h : Heap) (l1 l2 : Addr) : Heap := (zG4 t1 t2 h l1 l2).push { cls := .type "zip", data := .fields #[.none, .bool false, .bool false, .ref (zG2 t1 t2 h l1 l2).objs.size, .ref (zG3 t1 t2 h l1 l2).objs.size] }
theorem iterG {t : Bool} {l : Addr} {xs : Array Value} {Q : Value → Shared → Prop} (hl : SeqIs t s.heap l xs) (q : Q (.ref s.heap.objs.size) { s with heap := s.heap.push (itObj t l) }) : wpAny (model prog w) A (pyIter (.ref l)) Q E s := by
  cases t
  · exact wpAny_pyIter_list hl q
  · exact wpAny_pyIter_tuple hl q
end
theorem meets_zipG (t1 t2 : Bool) (l1 l2 : Addr) (xs ys : Array Value) :
    Meets (Builtin.«zip.__new__» ⟨[.type "zip", .ref l1, .ref l2], []⟩) (fun _ R s => SeqIs t1 s.heap l1 xs ∧ SeqIs t2 s.heap l2 ys ∧
      R (.ok (.ret (.ref (zG4 t1 t2 s.heap l1 l2).objs.size))) { s with heap := zG5 t1 t2 s.heap l1 l2 }) :=
  .of_wp fun prog w A R s h => by
    obtain ⟨hp, g, d, tk, os⟩ := s
    obtain ⟨hl1, hl2, h⟩ := h
    have hsub := sub_zip
    have q1 : SeqIs t1 (Shared.heap ⟨hp, g, d, tk, os⟩) l1 xs := hl1
    have q2 : SeqIs t2 (Shared.heap ⟨hp.push (itObj t1 l1), g, d, tk, os⟩) l2 ys := SeqIs.push hl2 _
    wp_walk using iterG q1, iterG q2
    exact ⟨_, rfl, h⟩
theorem call_zipG {prog : Program} {w : World} {A : Around} {E : Value → Shared → Prop} {s : Shared} {t1 t2 : Bool} {l1 l2 : Addr} {xs ys : Array Value} {Q : Value → Shared → Prop} (hl1 : SeqIs t1 s.heap l1 xs) (hl2 : SeqIs t2 s.heap l2 ys)
    (h : ∀ h', ZipSt h' (s.heap.objs.size + 4) (s.heap.objs.size + 2) (s.heap.objs.size + 3) .none false → IsPair h' (s.heap.objs.size + 2) (.ref s.heap.objs.size) (.ref (s.heap.objs.size + 1)) →
      IsPair h' (s.heap.objs.size + 3) .none .none → ItAt t1 h' s.heap.objs.size l1 0 → ItAt t2 h' (s.heap.objs.size + 1) l2 0 →
      (∀ c o, s.heap.get? c = some o → h'.get? c = some o) → Q (.ref (s.heap.objs.size + 4)) { s with heap := h' }) :
    wpAny (model prog w) A (call (.type "zip") [.ref l1, .ref l2]) Q E s := by
  refine callType_new F.called_zip (by decide) (F.typeCall_zip_2 _ _) (F.newCall_zip_2 _ _) (fun obj => F.args_object_init_3 obj _ _) F.entry_zip_new (meets_zipG t1 t2 l1 l2 xs ys) ⟨hl1, hl2, ?_⟩
  have z1 : (zG1 t1 s.heap l1).objs.size = s.heap.objs.size + 1 := Heap.size_push ..
  have z2 : (zG2 t1 t2 s.heap l1 l2).objs.size = s.heap.objs.size + 2 := by rw [Heap.size_push, z1]
  have z3 : (zG3 t1 t2 s.heap l1 l2).objs.size = s.heap.objs.size + 3 := by rw [Heap.size_push, z2]
  have z4 : (zG4 t1 t2 s.heap l1 l2).objs.size = s.heap.objs.size + 4 := by rw [Heap.size_push, z3]
  have g5 : (zG5 t1 t2 s.heap l1 l2).get? (zG4 t1 t2 s.heap l1 l2).objs.size = some _ := Heap.get?_push_size _ rfl
  have g4 : (zG5 t1 t2 s.heap l1 l2).get? (zG3 t1 t2 s.heap l1 l2).objs.size = some _ := Heap.get?_push_of_some _ (Heap.get?_push_size _ rfl)
  have g3 : (zG5 t1 t2 s.heap l1 l2).get? (zG2 t1 t2 s.heap l1 l2).objs.size = some _ := Heap.get?_push_of_some _ (Heap.get?_push_of_some _ (Heap.get?_push_size _ rfl))
  have g2 : (zG5 t1 t2 s.heap l1 l2).get? (zG1 t1 s.heap l1).objs.size = some (itObj t2 l2) := Heap.get?_push_of_some _ (Heap.get?_push_of_some _ (Heap.get?_push_of_some _ (Heap.get?_push_size _ (by cases t2 <;> rfl))))
  have g1 : (zG5 t1 t2 s.heap l1 l2).get? s.heap.objs.size = some (itObj t1 l1) := Heap.get?_push_of_some _ (Heap.get?_push_of_some _ (Heap.get?_push_of_some _ (Heap.get?_push_of_some _ (Heap.get?_push_size _ (by cases t1 <;> rfl)))))
  show _ ∧ _
  rw [z2, z3, z4] at g5
  rw [z1, z2] at g3
  rw [z3] at g4
  rw [z1] at g2
  rw [z4]
  exact ⟨⟨_, g5, rfl⟩, h _ g5 g3 g4 (itAt_new t1 g1) (itAt_new t2 g2) fun c o x =>
    Heap.get?_push_of_some _ (Heap.get?_push_of_some _ (Heap.get?_push_of_some _ (Heap.get?_push_of_some _ (Heap.get?_push_of_some _ x))))⟩
theorem Sq.at {X : Cx} {pins : List (Addr × Obj)} {σ : L2.St} {H : Hp} {s : Shared} {t : Bool} {a : Addr} {xs : List V} (I : Inv X pins σ H s) (h : Sq t X.K H a xs) : ∃ its : List Value, Vals xs its ∧ SeqIs t s.heap a its.toArray := by
  cases t
  · obtain ⟨its, r, p, _⟩ := I.list h
    exact ⟨its, r, p.isList⟩
  · obtain ⟨its, r, p, _⟩ := I.tuple h
    exact ⟨its, r, p⟩
theorem Sq.inj {X : Cx} {pins : List (Addr × Obj)} {σ : L2.St} {H : Hp} {s : Shared} {t : Bool} {a : Addr} {xs ys : List V} (I : Inv X pins σ H s) (h : Sq t X.K H a xs) (h' : Sq t X.K H a ys) : xs = ys := by
  cases t
  · exact I.list_inj h h'
  · exact I.tuple_inj h h'
/-- the rows at a and b as they stand at each turn, the items in new pairs -/
def ItzG (K : PySem.W.Frag) (t1 t2 : Bool) (a b : Addr) : It :=
  ⟨fun i H => ∃ (xs ys : List V) (x y : V), Sq t1 K H a xs ∧ Sq t2 K H b ys ∧ xs[i]? = some x ∧ ys[i]? = some y,
    fun i H v H' => ∃ T x y, v = .ref T ∧ H T = none ∧ H' = upd H T (.tup [x, y]) ∧ (∀ xs, Sq t1 K H a xs → xs[i]? = some x) ∧ ∀ ys, Sq t2 K H b ys → ys[i]? = some y,
    fun i H => ∃ xs ys : List V, Sq t1 K H a xs ∧ Sq t2 K H b ys ∧ (xs.length ≤ i ∨ ys.length ≤ i)⟩
theorem turn_zipG {P : Program} {w : World} {K : PySem.W.Frag} {tg : Expr} {t1 t2 : Bool} {a b z TI TO i1 i2 : Addr} (D : ZipApart z TI TO i1 i2 a b) :
    Turn P w K tg (ItzG K t1 t2 a b) [z, TI, TO, i1, i2] z (fun i h => (∃ f0 f, ZipSt h z TI TO f0 f ∧ Gave f0) ∧ IsPair h TI (.ref i1) (.ref i2) ∧ (∃ x y, IsPair h TO x y) ∧ ItAt t1 h i1 a i ∧ ItAt t2 h i2 b i) where
  mem := by simp
  obj := fun i h st c hc => by
    obtain ⟨⟨f0, f, hz, _⟩, hTI, ⟨x, y, hTO⟩, h1, h2⟩ := st
    obtain ⟨o1, fs1, e1, d1⟩ := h1.get
    obtain ⟨o2, fs2, e2, d2⟩ := h2.get
    have e' : c = z ∨ c = TI ∨ c = TO ∨ c = i1 ∨ c = i2 := by simpa using hc
    rcases e' with q | q | q | q | q
    · rw [q]; exact ⟨_, hz, fun v q => nomatch q⟩
    · rw [q]; exact ⟨_, hTI, fun v q => nomatch q⟩
    · rw [q]; exact ⟨_, hTO, fun v q => nomatch q⟩
    · rw [q]; exact ⟨o1, e1, fun v q => by rw [d1] at q; cases q⟩
    · rw [q]; exact ⟨o2, e2, fun v q => by rw [d2] at q; cases q⟩
  keep := fun i h h' st k => by
    obtain ⟨⟨f0, f, hz, g⟩, hTI, ⟨x, y, hTO⟩, h1, h2⟩ := st
    exact ⟨⟨f0, f, k z (by simp) _ hz, g⟩, k TI (by simp) _ hTI, ⟨x, y, k TO (by simp) _ hTO⟩, h1.on fun o q => k i1 (by simp) o q, h2.on fun o q => k i2 (by simp) o q⟩
  item := by
    intro X hP hw hK hc i pins s σ H E I hf st hg
    subst hP hw hK
    obtain ⟨⟨f0, f, hz, g⟩, hTI, ⟨x0, y0, hTO⟩, h1, h2⟩ := st
    obtain ⟨xs, ys, x, y, hqx, hqy, hx, hy⟩ := hg
    obtain ⟨its, rv, p⟩ := hqx.at I
    obtain ⟨its2, rv2, p2⟩ := hqy.at I
    obtain ⟨u, hu, ru⟩ := rv.get hx
    obtain ⟨u2, hu2, ru2⟩ := rv2.get hy
    have hzl : z < s.heap.objs.size := Heap.lt_size hz
    refine zipG_item D hz g hTI hTO h1 h2 p p2 (x := u) (y := u2) (by simpa using hu) (by simpa using hu2) fun h' f0' f' z' g' TO' h1' h2' hT hsz hk => ?_
    refine ⟨_, rfl, goG (s := { s with heap := h' }) z' g' fun h'' f0'' z'' g'' sb => ?_⟩
    have hT2 : h''.get? s.heap.objs.size = some { cls := .type "tuple", data := .seq #[u, u2] } := (sb.2 _ (Nat.ne_of_gt hzl)).trans hT
    have new : ObjOk X.prog X.w (upd H s.heap.objs.size (.tup [x, y])) h'' s.heap.objs.size (.tup [x, y]) :=
      ⟨by show 2 ≤ sizeLine; decide, [u, u2], .cons ru (.cons ru2 .nil), ⟨_, hT2, rfl, _, rfl⟩⟩
    have I1 : Inv X pins σ (upd H s.heap.objs.size (.tup [x, y])) { s with heap := h'' } :=
      I.turnedNew (t' := s.toks) (ch := [z, TI, TO, i1, i2]) (fun c o hb q => (sb.2 c (fun q' => hb (by simp [q']))).trans (hk c o (fun q' => hb (by simp [q'])) (fun q' => hb (by simp [q'])) (fun q' => hb (by simp [q'])) (fun q' => hb (by simp [q'])) q)) hf (Nat.le_refl _) new
    have TI' : IsPair h' TI (.ref i1) (.ref i2) := hk _ _ D.TIz D.TITO D.TIi1 D.TIi2 hTI
    obtain ⟨x1, y1, TO'⟩ := TO'
    refine ⟨.ref s.heap.objs.size, _, I1, rfl, ⟨_, x, y, rfl, I.hok.fresh (Nat.le_refl _), rfl, fun l hl => by rw [hl.inj I hqx]; exact hx, fun l hl => by rw [hl.inj I hqy]; exact hy⟩, ⟨⟨_, _, z'', g''⟩, ?_, ⟨x1, y1, ?_⟩, ?_, ?_⟩, fun c hcm => ?_⟩
    · exact (sb.2 _ D.TIz).trans TI'
    · exact (sb.2 _ D.TOz).trans TO'
    · exact h1'.on fun o q => (sb.2 _ D.i1z).trans q
    · exact h2'.on fun o q => (sb.2 _ D.i2z).trans q
    · have hlt : c < s.heap.objs.size := by
        obtain ⟨o1, _, e1, _⟩ := h1.get
        obtain ⟨o2, _, e2, _⟩ := h2.get
        have e' : c = z ∨ c = TI ∨ c = TO ∨ c = i1 ∨ c = i2 := by simpa using hcm
        rcases e' with q | q | q | q | q
        · rw [q]; exact hzl
        · rw [q]; exact Heap.lt_size hTI
        · rw [q]; exact Heap.lt_size hTO
        · rw [q]; exact Heap.lt_size e1
        · rw [q]; exact Heap.lt_size e2
      rw [upd_ne (Nat.ne_of_lt hlt)]
      exact (hf c hcm).1
  done := by
    intro X hP hw hK hc i pins s σ H E I hf st hg
    subst hP hw hK
    obtain ⟨⟨f0, f, hz, g⟩, hTI, ⟨x0, y0, hTO⟩, h1, h2⟩ := st
    obtain ⟨xs, ys, hqx, hqy, hend⟩ := hg
    obtain ⟨its, rv, p⟩ := hqx.at I
    obtain ⟨its2, rv2, p2⟩ := hqy.at I
    have l1 := rv.length
    have l2 := rv2.length
    have he : its.toArray[i]? = none ∨ its2.toArray[i]? = none := by
      rcases hend with q | q
      · exact .inl (by simp; omega)
      · exact .inr (by simp; omega)
    exact zipG_end (I.ok.hd hc) D hz g hTI hTO h1 h2 p p2 he fun h' hk => ⟨rfl, I.turnedL (t' := s.toks) (ch := [z, TI, TO, i1, i2]) (fun c o hb q =>
      hk c o (fun q' => hb (by simp [q'])) (fun q' => hb (by simp [q'])) (fun q' => hb (by simp [q'])) (fun q' => hb (by simp [q'])) q) hf⟩
  self := fun A i s Q E st h => by
    obtain ⟨⟨f0, f, hz, g⟩, _⟩ := st
    have hT : s.TypeIs (.ref z) "zip" := ⟨_, hz, rfl⟩
    refine wpAny_pyIter_slot hT F.slot_zip_iter (wpAny_call_entry F.slot_zip_iter hT F.entry_zip_iter ?_ (F.args_zip_iter_1 _))
    show wpAny _ _ (ret (.ref z)) _ _ s
    exact wpAny_pure ⟨_, rfl, "zip", _, hT, F.slot_zip_next.lookup, h⟩
def iZipG (K : PySem.W.Frag) (ta : TA) : TI := fun σ H R => ta σ H fun vs H1 => ∃ (t1 t2 : Bool) (a b : Addr) (xs ys : List V), vs = [.ref a, .ref b] ∧ Sq t1 K H1 a xs ∧ Sq t2 K H1 b ys ∧ R (ItzG K t1 t2 a b) H1
theorem pi_zipG {X : Cx} {tg e e2 : Expr} {ta : TA} {p pos : Pos} (hg : Gl X "zip") (hm : X.mg "zip" = none) (ha : PA X [e, e2] ta)
    (hs : starEach [e, e2] X.env = (false, eval e X.env) :: starEach [e2] X.env := by rfl) (hpl : (backTo pos (starEach [e2] X.env)).any (·.1) = false := by rfl) :
    PI X tg (.Call (.Name "zip" p) [e, e2] [] pos) (iZipG X.K ta) := by
  refine ⟨fun pins s σ H R I h => ?_⟩
  refine Call_ (ld_blt I hg hm PyProof.Rows.boot_zip (PyProof.Rows.callWith_type1 (thn (ha.run pos pins s σ H _ I h) fun us s1 ⟨vs, H1, I1, r1, q1⟩ => ?_) hs hpl))
  obtain ⟨t1, t2, a, b, xs, ys, ex, hqx, hqy, q⟩ := q1
  subst ex
  cases r1 with
  | cons r rr =>
    cases rr with
    | cons r' rr =>
      cases rr
      cases r
      cases r'
      obtain ⟨its, rv, p1⟩ := hqx.at I1
      obtain ⟨its2, rv2, p2⟩ := hqy.at I1
      refine call_zipG p1 p2 fun h' hz hTI hTO h1 h2 hk => ?_
      have hT : Shared.TypeIs { s1 with heap := h' } (.ref (s1.heap.objs.size + 4)) "zip" := ⟨_, hz, rfl⟩
      refine wpAny_pyIter_slot hT F.slot_zip_iter (wpAny_call_entry F.slot_zip_iter hT F.entry_zip_iter ?_ (F.args_zip_iter_1 _))
      show wpAny _ _ (ret (.ref _)) _ _ _
      refine wpAny_pure ⟨_, rfl, "zip", _, hT, F.slot_zip_next.lookup, ?_⟩
      have I2 : Inv X pins σ H1 { s1 with heap := h' } := I1.kept (t' := s1.toks) hk
      refine ⟨s1.heap.objs.size + 4, [s1.heap.objs.size + 4, s1.heap.objs.size + 2, s1.heap.objs.size + 3, s1.heap.objs.size, s1.heap.objs.size + 1], _, _, H1, rfl, I2, turn_zipG (PySem.W.ktu_apart s1.heap.objs.size a b p1.lt p2.lt), ⟨⟨_, _, hz, .inl rfl⟩, hTI, ⟨_, _, hTO⟩, h1, h2⟩, fun c hcm => ?_, q⟩
      have e' : c = s1.heap.objs.size + 4 ∨ c = s1.heap.objs.size + 2 ∨ c = s1.heap.objs.size + 3 ∨ c = s1.heap.objs.size ∨ c = s1.heap.objs.size + 1 := by simpa using hcm
      have hle : s1.heap.objs.size ≤ c := by
        rcases e' with z | z | z | z | z <;> (rw [z]; omega)
      exact I1.fpOk hle (I1.hok.fresh hle)
theorem walk_zipG {K : PySem.W.Frag} {t1 t2 : Bool} {a b : Addr} {xs ys : List V} {n : Nat} (hn : n = min xs.length ys.length) : Walk (ItzG K t1 t2 a b) n (fun H => Sq t1 K H a xs ∧ Sq t2 K H b ys) (YPair (fun i => xs[i]?) (fun i => ys[i]?)) := by
  subst hn
  refine ⟨fun i _ hi q => ?_, fun _ q => ⟨xs, ys, q.1, q.2, by omega⟩, fun i H v H' _ q y => ?_⟩
  · have h1 : i < xs.length := by omega
    have h2 : i < ys.length := by omega
    exact ⟨xs, ys, xs[i], ys[i], q.1, q.2, by simp [h1], by simp [h2]⟩
  · obtain ⟨T, x, z, h1, h2, h3, h4, h5⟩ := y
    exact ⟨T, x, z, h1, h2, h3, h4 xs q.1, h5 ys q.2⟩
end ZG
namespace EnT
open PySem PySem.Spec PyProof.Rows L2
/-! ### enumerate over a tuple -/
theorem meets_enumT (l : Addr) (items : Array Value) :
    Meets (Builtin.«enumerate.__new__» ⟨[.type "enumerate", .ref l], []⟩) (fun _ R s => s.heap.IsTuple l items ∧
      R (.ok (.ret (.ref (s.heap.push { cls := .type "tuple_iterator", data := .fields #[.ref l, .int 0 0] }).objs.size)))
        { s with heap := (s.heap.push { cls := .type "tuple_iterator", data := .fields #[.ref l, .int 0 0] }).push { cls := .type "enumerate", data := .fields #[.none, .bool false, .ref s.heap.objs.size, rawInt 0, .none, .none] } }) :=
  .of_wp fun prog w A R s h => by
    obtain ⟨hp, g, d, tk, os⟩ := s; obtain ⟨hl, h⟩ := h
    have hsub := sub_enumerate
    have q1 : ∀ {A' : Around} {E : Value → Shared → Prop} {Q : Value → Shared → Prop}, Q (.ref hp.objs.size) ⟨hp.push { cls := .type "tuple_iterator", data := .fields #[.ref l, .int 0 0] }, g, d, tk, os⟩ → wpAny (model prog w) A' (pyIter (.ref l)) Q E ⟨hp, g, d, tk, os⟩ :=
      fun q => wpAny_pyIter_tuple (s := ⟨hp, g, d, tk, os⟩) hl q
    wp_walk using q1
    refine wpAny_stack_any fun st => wpAny_pure ?_
    split
    · rename_i c _ _ _ _ _
      cases (c == Value.type "enumerate")
      · wp_walk using q1
        exact ⟨_, rfl, h⟩
      · wp_walk using q1
        exact ⟨_, rfl, h⟩
    · wp_walk using q1
      exact ⟨_, rfl, h⟩
theorem call_enumT {prog : Program} {w : World} {A : Around} {E : Value → Shared → Prop} {s : Shared} {l : Addr} {items : Array Value} {Q : Value → Shared → Prop} (hL : s.heap.IsTuple l items)
    (h : ∀ h', IsEnum h' (s.heap.objs.size + 1) s.heap.objs.size 0 .none → h'.IsTupleIter s.heap.objs.size l 0 → h'.objs.size = s.heap.objs.size + 2 →
      (∀ b o, s.heap.get? b = some o → h'.get? b = some o) → Q (.ref (s.heap.objs.size + 1)) { s with heap := h' }) :
    wpAny (model prog w) A (call (.type "enumerate") [.ref l]) Q E s := by
  refine callType_new F.called_enumerate (by decide) (F.typeCall_enumerate_1 _) (F.newCall_enumerate_1 _) (fun obj => F.args_object_init_2 obj _) F.entry_enumerate_new
    (meets_enumT l items) ⟨hL, ?_⟩
  have hz : (s.heap.push { cls := .type "tuple_iterator", data := .fields #[.ref l, .int 0 0] }).objs.size = s.heap.objs.size + 1 := Heap.size_push ..
  show _ ∧ _
  rw [hz]
  have he : IsEnum ((s.heap.push { cls := .type "tuple_iterator", data := .fields #[.ref l, .int 0 0] }).push
      { cls := .type "enumerate", data := .fields #[.none, .bool false, .ref s.heap.objs.size, rawInt 0, .none, .none] }) (s.heap.objs.size + 1) s.heap.objs.size 0 .none := by
    have := Heap.get?_push_size (s.heap.push { cls := .type "tuple_iterator", data := .fields #[.ref l, .int 0 0] })
      (o := { cls := .type "enumerate", data := .fields #[.none, .bool false, .ref s.heap.objs.size, rawInt 0, .none, .none] }) rfl
    rw [hz] at this; exact this
  refine ⟨⟨_, he, rfl⟩, h _ he ⟨_, Heap.get?_push_of_some _ (Heap.get?_push_size _ rfl), rfl, rfl⟩ (by rw [Heap.size_push, hz]) fun b o x => Heap.get?_push_of_some _ (Heap.get?_push_of_some _ x)⟩
/-- the tuple at a as it stands at each turn, each item in a new pair -/
def IteT (K : PySem.W.Frag) (a : Addr) : It :=
  ⟨fun i H => ∃ (xs : List V) (x : V), SqT K H a xs ∧ xs[i]? = some x, fun i H v H' => ∃ T x, v = .ref T ∧ H T = none ∧ H' = upd H T (.tup [.int (i : Nat), x]) ∧ ∀ xs, SqT K H a xs → xs[i]? = some x, fun i H => ∃ xs : List V, SqT K H a xs ∧ xs.length ≤ i⟩
theorem enumT_end {prog : Program} {w : World} {A : Around} {E : Value → Shared → Prop} {s : Shared} {e it t : Addr} {i : Nat} {items : Array Value} {old : Value} {Q : Option Value → Shared → Prop} (hh : A.handled = none)
    (he : IsEnum s.heap e it i old) (hit : s.heap.IsTupleIter it t i) (ht : s.heap.IsTuple t items) (hx : items[i]? = none)
    (hQ : ∀ h', Heap.ExtBut it s.heap h' → Q none { s with heap := h' }) : wpAny (model prog w) A (pyNext (.ref e)) Q E s := by
  have hT : s.TypeIs (.ref e) "enumerate" := ⟨_, he, rfl⟩
  unfold pyNext
  refine wpAny_bind (wpAny_attempt (wpAny_callSpecial?_slot (name := Str.ofString "__next__") hT F.slot_enumerate_next
    (wpAny_call_entry F.slot_enumerate_next hT F.entry_enumerate_next ?_ (F.args_enumerate_next_1 _))))
  show wpAny _ _ (field (.ref e) 2 >>= _) _ _ _
  refine wpAny_bind (wpAny_field he rfl (x := .ref it) rfl ?_)
  refine wpAny_bind (wpAny_nextOf_tuple_end (A := A.in1) hh hit ht hx fun h' x he' hx' => ?_)
  obtain ⟨o, ho, hc⟩ := hx'
  refine wpAny_bind (wpAny_isInstance (T := "StopIteration") (b := true) ⟨o, ho, hc⟩ isSubtype_stop ?_)
  exact wpAny_pure (hQ _ he')
theorem turn_enumT {P : Program} {w : World} {K : PySem.W.Frag} {elts : List Expr} {kk : Nat} {tpos : Pos} (a e it : Addr) :
    Turn P w K (.Tuple elts kk tpos) (IteT K a) [e, it] e (fun i h => (∃ old, IsEnum h e it ((i : Nat) : Int) old) ∧ h.IsTupleIter it a i ∧ e ≠ it) where
  mem := by simp
  obj := fun i h st b hb => by
    obtain ⟨⟨old, he⟩, ⟨o, ho, hc, hd⟩, _⟩ := st
    have e' : b = e ∨ b = it := by simpa using hb
    rcases e' with z | z
    · rw [z]; exact ⟨_, he, fun v q => nomatch q⟩
    · rw [z]; exact ⟨o, ho, fun v q => by rw [hd] at q; cases q⟩
  keep := fun i h h' st k => let ⟨⟨old, he⟩, hi, hne⟩ := st; ⟨⟨old, k e (by simp) _ he⟩, hi.at fun o q => k it (by simp) o q, hne⟩
  item := by
    intro X hP hw hK hc i pins s σ H E I hf st hg
    subst hP hw hK
    obtain ⟨⟨old, he⟩, hit, hne⟩ := st
    obtain ⟨xs, x, hq, hx⟩ := hg
    obtain ⟨its, rv, p, hz⟩ := I.tuple hq
    obtain ⟨u, hu, ru⟩ := rv.get hx
    have hel : e < s.heap.objs.size := Heap.lt_size he
    have hil : it < s.heap.objs.size := by obtain ⟨_, q, _⟩ := hit; exact Heap.lt_size q
    have hT0 : s.heap.IsTuple a its.toArray := p
    have nae : e ≠ a := fun z => by
      obtain ⟨o, ho, hcl, _⟩ := hT0
      rw [← z, he] at ho
      obtain rfl := Option.some.inj ho
      exact absurd (show Value.type "enumerate" = Value.type "tuple" from hcl) (by decide)
    have nai : a ≠ it := fun z => by
      obtain ⟨o, ho, hcl, _⟩ := hT0
      obtain ⟨o2, ho2, hcl2, _⟩ := hit
      rw [z, ho2] at ho
      obtain rfl := Option.some.inj ho
      rw [hcl2] at hcl
      exact absurd (show Value.type "tuple_iterator" = Value.type "tuple" from hcl) (by decide)
    refine wpAny_pyNext_enum_itemD (i := i) (Draws.tuple (A := X.A.in1) (I.ok.hd hc) it a nai its.toArray) he ⟨hit, hT0⟩ (by
      have := (List.getElem?_eq_some_iff.mp hu).1
      simpa using this) hne (by simp [hne, nae]) fun y h' tk hy ho hst' hT hsz hk => ?_
    have ey : y = u := by
      have hy' : its[i]? = some y := by simpa using hy
      rw [hu] at hy'
      exact (Option.some.inj hy').symm
    subst ey
    refine ⟨_, rfl, wpAny_letOwnedTupleGo_enum (s := { s with heap := h', toks := tk + 1 }) ho fun h'' he' sb => ?_⟩
    have hT2 : h''.get? s.heap.objs.size = some { cls := .type "tuple", data := .seq #[.int i tk, y] } := (sb.2 _ (Nat.ne_of_gt hel)).trans hT
    have new : ObjOk X.prog X.w (upd H s.heap.objs.size (.tup [.int (i : Nat), x])) h'' s.heap.objs.size (.tup [.int (i : Nat), x]) :=
      ⟨by show 2 ≤ sizeLine; decide, [.int i tk, y], .cons ⟨_, rfl⟩ (.cons ru .nil), ⟨_, hT2, rfl, _, rfl⟩⟩
    have I1 : Inv X pins σ (upd H s.heap.objs.size (.tup [.int (i : Nat), x])) { s with heap := h'', toks := tk + 1 } :=
      I.turnedNew (ch := [e, it]) (fun b ob hb q => (sb.2 b (fun z => hb (by simp [z]))).trans (hk b ob (fun z => hb (by simp [z])) (fun z => hb (by simp [z])) q)) hf (Nat.le_refl _) new
    refine ⟨.ref s.heap.objs.size, _, I1, rfl, ⟨_, x, rfl, I.hok.fresh (Nat.le_refl _), rfl, fun ys hy => by rw [I.tuple_inj hy hq]; exact hx⟩, ⟨⟨y, ?_⟩, hst'.1.at fun o q => (sb.2 it (Ne.symm hne)).trans q, hne⟩, fun b hb => ?_⟩
    · have e1 : ((i + 1 : Nat) : Int) = (i : Int) + 1 := by omega
      rw [e1]; exact he'
    · have hb' : b < s.heap.objs.size := by
        have e' : b = e ∨ b = it := by simpa using hb
        rcases e' with z | z
        · rw [z]; exact hel
        · rw [z]; exact hil
      rw [upd_ne (Nat.ne_of_lt hb')]
      exact (hf b hb).1
  done := by
    intro X hP hw hK hc i pins s σ H E I hf st hg
    subst hP hw hK
    obtain ⟨⟨old, he⟩, hit, hne⟩ := st
    obtain ⟨xs, hq, hx⟩ := hg
    obtain ⟨its, rv, p, hz⟩ := I.tuple hq
    obtain ⟨f0, f1, f2, f3, f4, f5⟩ := hf it (by simp)
    have hl := rv.length
    exact enumT_end (I.ok.hd hc) he hit p (by simp; omega) fun h' eb => ⟨rfl, I.turned (t' := s.toks) (fun b o hb q => eb b o hb q) f0 f1 f3 f4 f5⟩
  self := fun A i s Q E st h => let ⟨⟨_, he⟩, _⟩ := st; wpAny_pyIter_enum he h
def iEnumT (K : PySem.W.Frag) (ta : TA) : TI := fun σ H R => ta σ H fun vs H1 => ∃ a xs, vs = [.ref a] ∧ SqT K H1 a xs ∧ R (IteT K a) H1
theorem pi_enumT {X : Cx} {e : Expr} {ta : TA} {p pos tpos : Pos} {elts : List Expr} {kk : Nat} (hg : Gl X "enumerate") (hm : X.mg "enumerate" = none) (ha : PA X [e] ta) (hs : starEach [e] X.env = [(false, eval e X.env)] := by rfl) :
    PI X (.Tuple elts kk tpos) (.Call (.Name "enumerate" p) [e] [] pos) (iEnumT X.K ta) := by
  refine ⟨fun pins s σ H R I h => ?_⟩
  refine Call_ (ld_blt I hg hm boot_enumerate (PyProof.Rows.callWith_type1 (thn (ha.run pos pins s σ H _ I h) fun us s1 ⟨vs, H1, I1, r1, q1⟩ => ?_) hs rfl))
  obtain ⟨a, xs, ex, hq, q⟩ := q1
  subst ex
  cases r1 with
  | cons r rr =>
    cases rr
    cases r
    obtain ⟨its, rv, p', hz⟩ := I1.tuple hq
    refine call_enumT (show s1.heap.IsTuple a its.toArray from p') fun h' he hit hsz hk => wpAny_pyIter_enum he ?_
    have I2 : Inv X pins σ H1 { s1 with heap := h' } := I1.kept (t' := s1.toks) hk
    refine ⟨s1.heap.objs.size + 1, [s1.heap.objs.size + 1, s1.heap.objs.size], _, _, H1, rfl, I2, turn_enumT a (s1.heap.objs.size + 1) s1.heap.objs.size, ⟨⟨.none, he⟩, hit, Nat.succ_ne_self _⟩, fun b hb => ?_, q⟩
    have e' : b = s1.heap.objs.size + 1 ∨ b = s1.heap.objs.size := by simpa using hb
    have hle : s1.heap.objs.size ≤ b := by
      rcases e' with z | z
      · rw [z]; exact Nat.le_add_right _ _
      · rw [z]; exact Nat.le_refl _
    exact I1.fpOk hle (I1.hok.fresh hle)
/-- a loop over enumerate of a tuple -/
theorem for_enumT {K : PySem.W.Frag} {a : Addr} {xs : List V} {g : TG} {tb : TS} {D : Ends} {σ : L2.St} {H : Hp} (Pv : Nat → L2.St → Hp → Prop) (h0 : Pv 0 σ H) (hq : ∀ i σ H, Pv i σ H → SqT K H a xs)
    (hs : ∀ (i : Nat) (x : V) (T : Addr) (σ : L2.St) (H : Hp), xs[i]? = some x → Pv i σ H → H T = none → g (.ref T) σ (upd H T (.tup [.int (i : Nat), x])) fun σ2 H2 => tb { D with nx := Pv (i + 1), ct := Pv (i + 1), bk := D.nx } σ2 H2) (hd : ∀ σ H, Pv xs.length σ H → D.nx σ H) :
    ∃ W : Nat → Nat → L2.St → Hp → Prop, (∃ m, W 0 m σ H) ∧ ∀ i m σ H, W i m σ H →
      ((IteT K a).stop i H ∧ D.nx σ H) ∨ ((IteT K a).go i H ∧ ∃ N : L2.St → Hp → Prop, (∀ σ' H', N σ' H' → ∃ m', m' < m ∧ W (i + 1) m' σ' H') ∧ ∀ v H', (IteT K a).yld i H v H' → g v σ H' fun σ2 H2 => tb { D with nx := N, ct := N, bk := D.nx } σ2 H2) := by
  refine ⟨fun i m σ H => m = xs.length - i ∧ i ≤ xs.length ∧ Pv i σ H, ⟨xs.length, rfl, Nat.zero_le _, h0⟩, ?_⟩
  rintro i m σ H ⟨rfl, hi, p⟩
  have q := hq i σ H p
  rcases Nat.lt_or_ge i xs.length with hlt | hge
  · have ex := List.getElem?_eq_getElem hlt
    refine .inr ⟨⟨xs, _, q, ex⟩, Pv (i + 1), fun σ' H' p' => ⟨xs.length - (i + 1), by omega, rfl, hlt, p'⟩, ?_⟩
    rintro v H' ⟨T, x, rfl, hT, rfl, f1⟩
    exact hs i x T σ H (f1 xs q) p hT
  · have e : i = xs.length := by omega
    subst e
    exact .inl ⟨⟨xs, q, hge⟩, hd σ H p⟩
/-! ### enumerate over a list or a tuple -/
def ItEG (K : PySem.W.Frag) (t : Bool) (a : Addr) : It := match t with
  | true => IteT K a
  | false => Ite K a
def iEnumG (K : PySem.W.Frag) (ta : TA) : TI := fun σ H R => ta σ H fun vs H1 => ∃ (t : Bool) (a : Addr) (xs : List V), vs = [.ref a] ∧ ZG.Sq t K H1 a xs ∧ R (ItEG K t a) H1
theorem pi_enumG {X : Cx} {e : Expr} {ta : TA} {p pos tpos : Pos} {elts : List Expr} {kk : Nat} (hg : Gl X "enumerate") (hm : X.mg "enumerate" = none) (ha : PA X [e] ta) (hs : starEach [e] X.env = [(false, eval e X.env)] := by rfl) :
    PI X (.Tuple elts kk tpos) (.Call (.Name "enumerate" p) [e] [] pos) (iEnumG X.K ta) := by
  refine ⟨fun pins s σ H R I h => ?_⟩
  refine Call_ (ld_blt I hg hm boot_enumerate (PyProof.Rows.callWith_type1 (thn (ha.run pos pins s σ H _ I h) fun us s1 ⟨vs, H1, I1, r1, q1⟩ => ?_) hs rfl))
  obtain ⟨t, a, xs, ex, hq, q⟩ := q1
  subst ex
  have hle : ∀ b, b ∈ [s1.heap.objs.size + 1, s1.heap.objs.size] → s1.heap.objs.size ≤ b := fun b hb => by
    have e' : b = s1.heap.objs.size + 1 ∨ b = s1.heap.objs.size := by simpa using hb
    rcases e' with z | z
    · rw [z]; exact Nat.le_add_right _ _
    · rw [z]; exact Nat.le_refl _
  cases r1 with
  | cons r rr =>
    cases rr
    cases r
    cases t with
    | true =>
      obtain ⟨its, rv, p', hz⟩ := I1.tuple hq
      refine call_enumT (show s1.heap.IsTuple a its.toArray from p') fun h' he hit hsz hk => wpAny_pyIter_enum he ?_
      have I2 : Inv X pins σ H1 { s1 with heap := h' } := I1.kept (t' := s1.toks) hk
      exact ⟨s1.heap.objs.size + 1, [s1.heap.objs.size + 1, s1.heap.objs.size], _, _, H1, rfl, I2, turn_enumT a (s1.heap.objs.size + 1) s1.heap.objs.size, ⟨⟨.none, he⟩, hit, Nat.succ_ne_self _⟩, fun b hb => I1.fpOk (hle b hb) (I1.hok.fresh (hle b hb)), q⟩
    | false =>
      obtain ⟨its, rv, p', hz⟩ := I1.list hq
      refine call_enumerate_list p'.isList fun h' he hit hsz hk => wpAny_pyIter_enum he ?_
      have I2 : Inv X pins σ H1 { s1 with heap := h' } := I1.kept (t' := s1.toks) hk
      exact ⟨s1.heap.objs.size + 1, [s1.heap.objs.size + 1, s1.heap.objs.size], _, _, H1, rfl, I2, turn_enum a (s1.heap.objs.size + 1) s1.heap.objs.size, ⟨⟨.none, he⟩, hit, Nat.succ_ne_self _⟩, fun b hb => I1.fpOk (hle b hb) (I1.hok.fresh (hle b hb)), q⟩
theorem walk_enumG {K : PySem.W.Frag} {t : Bool} {a : Addr} {xs : List V} : Walk (ItEG K t a) xs.length (fun H => ZG.Sq t K H a xs) (YPair (fun i => some (.int (i : Nat))) (fun i => xs[i]?)) := by
  cases t with
  | false => exact walk_enum
  | true =>
    refine ⟨fun i H hi q => ⟨xs, xs[i], q, List.getElem?_eq_getElem hi⟩, fun H q => ⟨xs, q, Nat.le_refl _⟩, fun i H v H' _ q y => ?_⟩
    obtain ⟨T, x, h1, h2, h3, h4⟩ := y
    exact ⟨T, .int (i : Nat), x, h1, h2, h3, rfl, h4 xs q⟩
end EnT
namespace RpT
open PySem PySem.Spec PyProof.Rows L2
/-! ### tuple * int, for any int from 0 on (the library has it from 2 on) -/
theorem tuple_mul1 (l : Addr) (items : Array Value) (n : Nat) (dd : Option Addr) (sl : Array (Option Value)) (u : Tok) :
    Meets (Builtin.«tuple.__mul__» ⟨[.ref l, .int 1 u], []⟩) (fun _ R s => s.heap.get? l = some { cls := .type "tuple", dict := dd, data := .seq items n, slots := sl } ∧
      R (.ok (.ret (Value.ref l))) s) :=
  .of_wp fun prog w A R s h => by
    obtain ⟨hp, g, d, tk, os⟩ := s
    obtain ⟨hl, h⟩ := h
    have f1 := AutoSeq1.idx_int
    have c0 : (decide ((1 : Int) < -(2 ^ 63)) || decide ((1 : Int) ≥ 2 ^ 63)) = false := by decide
    have c1 : (items.isEmpty || (1 : Int) == 1) = true := by rw [show ((1 : Int) == 1) = true from rfl, Bool.or_true]
    wp_walk using wpAny_loadPart' hl
    repeat (first
      | (refine wpAny_ite_false (decide_eq_false (by rw [c0]; exact Bool.false_ne_true)) ?_; wp_walk using wpAny_loadPart' hl)
      | (refine wpAny_ite_true (decide_eq_true c1) ?_; wp_walk using wpAny_loadPart' hl))
    exact ⟨_, rfl, h⟩
theorem tuple_mul0 (l : Addr) (items : Array Value) (n : Nat) (dd : Option Addr) (sl : Array (Option Value)) (u : Tok) (hne : items.isEmpty = false) :
    Meets (Builtin.«tuple.__mul__» ⟨[.ref l, .int 0 u], []⟩) (fun _ R s => s.heap.get? l = some { cls := .type "tuple", dict := dd, data := .seq items n, slots := sl } ∧
      R (.ok (.ret (Value.ref s.heap.objs.size))) { s with heap := s.heap.push { cls := Value.type "tuple", data := Data.seq #[] }, toks := s.toks }) :=
  .of_wp fun prog w A R s h => by
    obtain ⟨hp, g, d, tk, os⟩ := s
    obtain ⟨hl, h⟩ := h
    have f1 := AutoSeq1.idx_int
    have c0 : (decide ((0 : Int) < -(2 ^ 63)) || decide ((0 : Int) ≥ 2 ^ 63)) = false := by decide
    have c1 : (items.isEmpty || (0 : Int) == 1) = false := by rw [hne]; rfl
    have c2 : (decide ((0 : Int) ≤ 0) || items.isEmpty) = true := by rw [decide_eq_true (Int.le_refl 0)]; rfl
    wp_walk using wpAny_loadPart' hl
    repeat (first
      | (refine wpAny_ite_false (decide_eq_false (by rw [c0]; exact Bool.false_ne_true)) ?_; wp_walk using wpAny_loadPart' hl)
      | (refine wpAny_ite_false (decide_eq_false (by rw [c1]; exact Bool.false_ne_true)) ?_; wp_walk using wpAny_loadPart' hl)
      | (refine wpAny_ite_true (decide_eq_true c2) ?_; wp_walk using wpAny_loadPart' hl))
    exact ⟨_, rfl, h⟩
def rRepTA (K : PySem.W.Frag) : R2 := fun x y H Q => ∃ l k xs, x = .ref l ∧ y = .int k ∧ SqT K H l xs ∧ xs ≠ [] ∧ 0 ≤ k ∧ k ≤ 1000 ∧ xs.length ≤ 1000 ∧ (k = 1 → Q (.ref l) H) ∧ (k ≠ 1 → ∀ p, H p = none → Q (.ref p) (upd H p (.tup (List.replicate k.toNat xs).flatten)))
theorem op_repTA {X : Cx} : OpR X (binaryOp .Mult) (rRepTA X.K) := by
  intro pins s σ H x y v u Q I rx ry h
  obtain ⟨l, k, xs, rfl, rfl, hT, hne, h0, h1, hz, q1, q⟩ := h
  by_cases k2 : 2 ≤ k
  · exact op_repT pins s σ H _ _ v u Q I rx ry ⟨l, k, xs, rfl, rfl, hT, hne, k2, h1, hz, q (by omega)⟩
  cases rx
  obtain ⟨t, rfl⟩ := ry
  obtain ⟨its, r, ⟨⟨cls, dd, data, sl⟩, ho, hc, n, hd⟩, hs⟩ := I.tuple hT
  simp only at hc hd
  subst hc hd
  have hle : its.length = xs.length := r.length.symm
  have hi : its.toArray.isEmpty = false := by
    cases its with
    | nil => exact absurd (List.eq_nil_of_length_eq_zero hle.symm) hne
    | cons a b => rfl
  by_cases k1 : k = 1
  · subst k1
    exact wpAny_binaryOp_repeat_ref (T := "tuple") (U := "int") (by decide) ⟨_, ho, rfl⟩ (fun s' => typeIs_int s' 1 t) noFill_tuple_mul F.fills_int_mul F.slot_int_rmul repeat_tuple F.slot_int_index.lookup
      (call_meets F.slot_int_rmul (typeIs_int s 1 t) F.entry_int_rmul (F.args_int_rmul_2 _ _) (int_rmul_tuple 1 t l its.toArray n dd sl)
        ⟨ho, rfl, ⟨_, ho, rfl⟩, call_meets F.slot_tuple_mul ⟨_, ho, rfl⟩ F.entry_tuple_mul (F.args_tuple_mul_2 _ _) (tuple_mul1 l its.toArray n dd sl t) ⟨ho, ⟨.ref l, H, I, rfl, q1 rfl⟩⟩⟩)
  · have k0 : k = 0 := by omega
    subst k0
    refine wpAny_binaryOp_repeat_ref (T := "tuple") (U := "int") (by decide) ⟨_, ho, rfl⟩ (fun s' => typeIs_int s' 0 t) noFill_tuple_mul F.fills_int_mul F.slot_int_rmul repeat_tuple F.slot_int_index.lookup
      (call_meets F.slot_int_rmul (typeIs_int s 0 t) F.entry_int_rmul (F.args_int_rmul_2 _ _) (int_rmul_tuple 0 t l its.toArray n dd sl)
        ⟨ho, rfl, ⟨_, ho, rfl⟩, call_meets F.slot_tuple_mul ⟨_, ho, rfl⟩ F.entry_tuple_mul (F.args_tuple_mul_2 _ _) (tuple_mul0 l its.toArray n dd sl t hi) ⟨ho, ?_⟩⟩)
    refine ⟨.ref s.heap.objs.size, _, I.laid (t' := s.toks) (o := .tup []) (fun b ob q => Heap.get?_push_of_some _ q) (Nat.le_refl _) ?_, rfl, q (by decide) _ (I.hok.fresh (Nat.le_refl _))⟩
    exact ⟨by rw [sizeLine_eq]; decide, _, .nil, IsTup.new _ _⟩
/-! ### a method of a tuple that was made on the way (and stays as it is) -/
section
variable {X : Cx}
def TupFz (H : Hp) (p : Addr) : Prop := ∃ o ys, H p = some (.frz o (.tup ys)) ∧ o.dict = none
def tBMT (r : V → List V → Hp → VK → Prop) (to : TE) (t : TA) : TE := fun σ H Q => to σ H fun x H1 => (∃ p, x = .ref p ∧ TupFz H1 p) ∧ t σ H1 fun xs H2 => r x xs H2 Q
variable {o e : Expr} {es : List Expr} {to : TE} {t : TA} {name : Str} {apos cpos : Pos} {id : String} {r : V → List V → Hp → VK → Prop}
theorem pe_bmT (pa : PlainAttrs "tuple") (slot : Slot "tuple" name id) (hty : typeOf (.builtin id) = pure (.type "method_descriptor")) (hm : MtR X id r) (ho : PE X o to) (ha : PA X (e :: es) t)
    (hbase : attributeBase o name X.env (eval o X.env) = eval o X.env := by rfl)
    (hfew : ((backTo cpos (starEach (e :: es) X.env)).all (fun x => !x.1) && (backToKw cpos (keywordEach [] X.env)).all (fun x => x.1.isSome)
      && decide ((e :: es).length + ([] : List Keyword).length + (if ([] : List Keyword).isEmpty then 0 else 1) < 30)) = true := by rfl)
    (hline : (apos.endLine == cpos.line) = true := by rfl) (hs : starEach (e :: es) X.env = (false, eval e X.env) :: starEach es X.env := by rfl) (hplain : (backTo cpos (starEach es X.env)).any (·.1) = false := by rfl) :
    PE X (.Call (.Attribute o name apos) (e :: es) [] cpos) (tBMT r to t) := by
  refine ⟨fun pins s σ H Q I h => ?_⟩
  refine wpAny_Call_method_late hbase hfew hline rfl (thn (ho.run pins s σ H _ I h) fun v s1 ⟨x, H1, I1, r1, ⟨p, ex, o, ys, hp, hd⟩, q1⟩ => ?_)
  subst ex
  cases r1
  obtain ⟨e1, _, its, _, ob, e2, hc, _⟩ := (show ObjOk X.prog X.w H1 s1.heap p (.frz o (.tup ys)) from I1.hok _ _ hp)
  rw [e1] at e2
  cases e2
  refine ⟨"tuple", id, pa, slot, hty, ⟨o, e1, hc⟩, fun a e => ?_, ?_⟩
  · cases e
    exact ⟨o, e1, hd⟩
  have hA := ha.run cpos pins s1 σ H1 _ I1 q1
  rw [hs] at hA ⊢
  refine Calls.callWith_builtin (by show (false || (backTo cpos (starEach es X.env)).any (·.1)) = false; rw [hplain] <;> rfl) (Calls.evalArgs_plain ?_)
  exact thn hA fun us s2 ⟨vs, H2, I2, r2, q2⟩ => hm pins s2 σ H2 (.ref p) vs _ us Q I2 rfl r2 q2
end
end RpT
namespace TZ
open PySem PySem.Spec PyProof.Rows L2
/-! ### tuple(list): a tuple whose object is told -/
variable {X : Cx}
theorem call_tuple_fz : CallR X (.type "tuple") (fun xs H Q => ∃ p ys, xs = [.ref p] ∧ SqL X.K H p ys ∧ ∀ l o, H l = none → o.cls = .type "tuple" → o.dict = none → Q (.ref l) (upd H l (.frz o (.tup ys)))) := by
  intro pins s σ H xs us Q I r h
  obtain ⟨p, ys, rfl, hq, q⟩ := h
  obtain ⟨u, rfl, rx⟩ := vals1 r
  cases rx
  obtain ⟨its, r', pl, hz⟩ := I.list hq
  have hlen := r'.length
  refine call_tuple_list pl.isList (fun h' kp => ?_) (by simp only [List.size_toArray] <;> omega)
  have I1 : Inv X pins σ H { s with heap := h' } := I.kept (t' := s.toks) kp
  have I2 : Inv X pins σ (upd H h'.objs.size (.frz { cls := .type "tuple", data := .seq its.toArray } (.tup ys))) { s with heap := h'.push { cls := .type "tuple", data := .seq its.toArray } } :=
    I1.laid (t' := s.toks) (fun b o e => Heap.get?_push_of_some _ e) (Nat.le_refl _) (show ObjOk X.prog X.w _ _ _ (.frz _ (.tup ys)) from ⟨Heap.get?_push_size _ rfl, hz, its, r', IsTup.new _ _⟩)
  exact ⟨.ref h'.objs.size, _, I2, rfl, q _ _ (I1.hok.fresh (Nat.le_refl _)) rfl rfl⟩
end TZ
namespace MxT
open PySem PySem.Spec PyProof.Rows L2
/-! ### max and min of a tuple of whole numbers -/
section
variable {prog : Program} {w : World} {A : Around} {E : Value → Shared → Prop} {s : Shared} {l : Addr} {its : List Value} {ns : List Int} {Q : Value → Shared → Prop}
theorem old_keptT {h' : Heap} (hk : ∀ b o, b ∉ [s.heap.objs.size] → (s.heap.push { cls := .type "tuple_iterator", data := .fields #[.ref l, .int 0 0] }).get? b = some o → h'.get? b = some o) :
    ∀ b o, s.heap.get? b = some o → h'.get? b = some o := fun b o e =>
  hk b o (fun z => absurd (Heap.lt_size e) ((List.mem_singleton.mp z) ▸ Nat.lt_irrefl _)) (Heap.get?_push_of_some _ e)
theorem maxT_raw (hh : A.handled = none) (hl : s.heap.IsTuple l its.toArray) (hi : IntsAre its ns) (hne : 0 < ns.length)
    (h : ∀ h' tk M t', (∀ b o, s.heap.get? b = some o → h'.get? b = some o) → M ∈ ns → (∀ a, a ∈ ns → a ≤ M) → Q (.int M t') { s with heap := h', toks := tk }) : wpAny (model prog w) A (call (.builtin "max") [.ref l]) Q E s := by
  obtain ⟨xs, e⟩ := hi.allInts.items
  have hn : numsOf (intItems xs).toList = ns := by rw [← e]; exact hi.numsOf
  rw [nums_intItems] at hn
  subst hn
  rw [e] at hl
  have hsz : 0 < xs.size := by simpa using hne
  have hlt : l < s.heap.objs.size := by
    obtain ⟨_, e, _⟩ := hl
    exact Heap.lt_size e
  refine PySem.call_max_walk (wpAny_pyIter_tuple hl ?_)
  refine ⟨_, _, _, _, _, _, _, rfl, Walks.tuple (A := A.in1) hh _ l (Nat.ne_of_lt hlt) (intItems xs), ⟨⟨_, Heap.get?_push_size _ rfl, rfl, rfl⟩, hl.push _⟩, fun b hb => ?_, by simpa [intItems] using hsz, CmpOf.ints_gt (numAt xs) (fun _ _ => intItems_at), fun v h' tk hv hk => ?_⟩
  · show b < (s.heap.push _).objs.size
    rw [Heap.size_push]
    have hb' : b = s.heap.objs.size ∨ b = l := by simpa using hb
    rcases hb' with z | z
    · rw [z]; exact Nat.lt_succ_self _
    · rw [z]; exact Nat.lt_succ_of_lt hlt
  · have hv' : (intItems xs)[argBest (fun i j => decide (numAt xs i > numAt xs j)) (xs.size - 1)]? = some v := by simpa [intItems] using hv
    obtain ⟨t, rfl⟩ := intItems_at hv'
    obtain ⟨h1, h2⟩ := argBest_gt (numAt xs) (xs.size - 1)
    refine h h' tk _ t (old_keptT hk) ?_ fun a ha => ?_
    · rw [numAt_eq]; exact PySem.getD_mem (by rw [List.length_map, Array.length_toList]; omega)
    · obtain ⟨j, hj, rfl⟩ := mem_getD ha
      have hj2 : j < xs.size := by simpa using hj
      rw [← numAt_eq]; exact h2 j (by omega)
theorem minT_raw (hh : A.handled = none) (hl : s.heap.IsTuple l its.toArray) (hi : IntsAre its ns) (hne : 0 < ns.length)
    (h : ∀ h' tk M t', (∀ b o, s.heap.get? b = some o → h'.get? b = some o) → M ∈ ns → (∀ a, a ∈ ns → M ≤ a) → Q (.int M t') { s with heap := h', toks := tk }) : wpAny (model prog w) A (call (.builtin "min") [.ref l]) Q E s := by
  obtain ⟨xs, e⟩ := hi.allInts.items
  have hn : numsOf (intItems xs).toList = ns := by rw [← e]; exact hi.numsOf
  rw [nums_intItems] at hn
  subst hn
  rw [e] at hl
  have hsz : 0 < xs.size := by simpa using hne
  have hlt : l < s.heap.objs.size := by
    obtain ⟨_, e, _⟩ := hl
    exact Heap.lt_size e
  refine PySem.call_min_walk (wpAny_pyIter_tuple hl ?_)
  refine ⟨_, _, _, _, _, _, _, rfl, Walks.tuple (A := A.in1) hh _ l (Nat.ne_of_lt hlt) (intItems xs), ⟨⟨_, Heap.get?_push_size _ rfl, rfl, rfl⟩, hl.push _⟩, fun b hb => ?_, by simpa [intItems] using hsz, CmpOf.ints_lt (numAt xs) (fun _ _ => intItems_at), fun v h' tk hv hk => ?_⟩
  · show b < (s.heap.push _).objs.size
    rw [Heap.size_push]
    have hb' : b = s.heap.objs.size ∨ b = l := by simpa using hb
    rcases hb' with z | z
    · rw [z]; exact Nat.lt_succ_self _
    · rw [z]; exact Nat.lt_succ_of_lt hlt
  · have hv' : (intItems xs)[argBest (fun i j => decide (numAt xs i < numAt xs j)) (xs.size - 1)]? = some v := by simpa [intItems] using hv
    obtain ⟨t, rfl⟩ := intItems_at hv'
    obtain ⟨h1, h2⟩ := argBest_lt (numAt xs) (xs.size - 1)
    refine h h' tk _ t (old_keptT hk) ?_ fun a ha => ?_
    · rw [numAt_eq]; exact PySem.getD_mem (by rw [List.length_map, Array.length_toList]; omega)
    · obtain ⟨j, hj, rfl⟩ := mem_getD ha
      have hj2 : j < xs.size := by simpa using hj
      rw [← numAt_eq]; exact h2 j (by omega)
end
section
variable {X : Cx}
def rMaxT (K : PySem.W.Frag) : List V → Hp → VK → Prop := fun vs H Q => ∃ (a : Addr) (ns : List Int), vs = [V.ref a] ∧ SqT K H a (ns.map V.int) ∧ 0 < ns.length ∧ ∀ m, m ∈ ns → (∀ y, y ∈ ns → y ≤ m) → Q (.int m) H
def rMinT (K : PySem.W.Frag) : List V → Hp → VK → Prop := fun vs H Q => ∃ (a : Addr) (ns : List Int), vs = [V.ref a] ∧ SqT K H a (ns.map V.int) ∧ 0 < ns.length ∧ ∀ m, m ∈ ns → (∀ y, y ∈ ns → m ≤ y) → Q (.int m) H
theorem call_maxT (hc : X.calm = true) : CallR X (.builtin "max") (rMaxT X.K) := by
  intro pins s σ H vs us Q I r h
  obtain ⟨a, ns, rfl, hs, hne, q⟩ := h
  obtain ⟨its, rv, hl, _⟩ := I.tuple hs
  rw [Vals.ref1 r]
  exact maxT_raw (I.ok.hd hc) hl rv.ints hne fun h' tk m t' hk h1 h2 => ⟨.int _, H, I.kept hk, ⟨_, rfl⟩, q m h1 h2⟩
theorem call_minT (hc : X.calm = true) : CallR X (.builtin "min") (rMinT X.K) := by
  intro pins s σ H vs us Q I r h
  obtain ⟨a, ns, rfl, hs, hne, q⟩ := h
  obtain ⟨its, rv, hl, _⟩ := I.tuple hs
  rw [Vals.ref1 r]
  exact minT_raw (I.ok.hd hc) hl rv.ints hne fun h' tk m t' hk h1 h2 => ⟨.int _, H, I.kept hk, ⟨_, rfl⟩, q m h1 h2⟩
end
end MxT
namespace Mine
open PySem L2
def top (i : Nat) : Stmt := PySem.Challenge.pw_neverhappens_k26_whole_assume.main.body.getD i (.Pass ⟨0, 0, 0, 0⟩)
abbrev s_frozen : Stmt := top 1
abbrev s_bound : Stmt := top 2
abbrev s_join_boxes : Stmt := top 3
abbrev s_range_of : Stmt := top 4
abbrev s_constant_form : Stmt := top 6
abbrev s_column_form : Stmt := top 7
abbrev s_sum_of_forms : Stmt := top 8
abbrev s_form_times : Stmt := top 9
abbrev s_difference_of_forms : Stmt := top 10
abbrev s_used_columns : Stmt := top 11
abbrev s_difference_columns : Stmt := top 12
abbrev s_range_of_form : Stmt := top 13
abbrev s_occurs : Stmt := top 14
abbrev s_form_of : Stmt := top 15
abbrev s_product_form : Stmt := top 16
abbrev s_evaluate : Stmt := top 18
abbrev s_apply : Stmt := top 19
abbrev s_at_most : Stmt := top 21
abbrev s_at_least : Stmt := top 22
abbrev s_equal_to : Stmt := top 23
abbrev s_assume : Stmt := top 24
abbrev s_assume_pair : Stmt := top 25
abbrev s_compare : Stmt := top 26
abbrev s_l_cell : Stmt := top 28
abbrev s_l_source : Stmt := top 29
abbrev s_l_pick : Stmt := top 30
abbrev s_l_one : Stmt := top 31
abbrev s_l_names : Stmt := top 32
abbrev s_l_far : Stmt := top 33
abbrev s_l_words : Stmt := top 34
abbrev s_l_order : Stmt := top 35
abbrev s_l_number : Stmt := top 36
abbrev s_l_value : Stmt := top 37
abbrev s_l_values_at : Stmt := top 38
abbrev s_l_belongs : Stmt := top 39
abbrev s_l_grid : Stmt := top 40
abbrev s_l_box : Stmt := top 41
abbrev s_l_points : Stmt := top 42
abbrev s_l_part : Stmt := top 43
abbrev s_l_spread : Stmt := top 44
abbrev s_l_has : Stmt := top 45
abbrev s_l_corners : Stmt := top 46
abbrev s_l_form : Stmt := top 47
abbrev s_l_add : Stmt := top 48
abbrev s_l_known : Stmt := top 49
abbrev s_l_reference : Stmt := top 50
abbrev s_l_num : Stmt := top 51
abbrev s_l_side : Stmt := top 52
abbrev s_l_compare : Stmt := top 53
abbrev s_l_chain : Stmt := top 54
abbrev s_l_truth : Stmt := top 55
abbrev s_l_lets : Stmt := top 56
abbrev s_l_cut : Stmt := top 57
abbrev s_l_joined : Stmt := top 58
abbrev s_l_compared : Stmt := top 59
abbrev s_l_due : Stmt := top 60
abbrev s_l_inside : Stmt := top 61
abbrev s_l_same : Stmt := top 62
abbrev s_l_kept : Stmt := top 63
abbrev s_l_asked : Stmt := top 64
abbrev s_law : Stmt := top 65
abbrev p_frozen : List Str := ["rows"]
abbrev p_bound : List Str := ["box", "i", "j", "most"]
abbrev p_join_boxes : List Str := ["a", "b"]
abbrev p_range_of : List Str := ["box", "i"]
abbrev p_constant_form : List Str := ["number", "box"]
abbrev p_column_form : List Str := ["column", "box"]
abbrev p_sum_of_forms : List Str := ["left", "right"]
abbrev p_form_times : List Str := ["form", "number"]
abbrev p_difference_of_forms : List Str := ["left", "right"]
abbrev p_used_columns : List Str := ["form"]
abbrev p_difference_columns : List Str := ["form"]
abbrev p_range_of_form : List Str := ["form", "box"]
abbrev p_occurs : List Str := ["names", "expression"]
abbrev p_form_of : List Str := ["expression", "known", "names", "box"]
abbrev p_product_form : List Str := ["left", "right", "box"]
abbrev p_evaluate : List Str := ["expression", "values"]
abbrev p_apply : List Str := ["word", "left", "right"]
abbrev p_at_most : List Str := ["box", "form", "most"]
abbrev p_at_least : List Str := ["box", "form", "least"]
abbrev p_equal_to : List Str := ["box", "form", "value"]
abbrev p_assume : List Str := ["expression", "want", "known", "names", "box"]
abbrev p_assume_pair : List Str := ["expression", "want", "known", "names", "box"]
abbrev p_compare : List Str := ["word", "want", "box", "form"]
abbrev p_l_cell : List Str := ["_law_script", "_law_at"]
abbrev p_l_source : List Str := ["_law_cell_here"]
abbrev p_l_pick : List Str := ["_law_source_here", "_law_size"]
abbrev p_l_one : List Str := ["_law_source_here", "_law_row"]
abbrev p_l_names : List Str := ["_law_source_here"]
abbrev p_l_far : List Str := ["_law_source_here"]
abbrev p_l_words : List Str := ["_law_source_here"]
abbrev p_l_order : List Str := ["_law_source_here", "_law_words_here"]
abbrev p_l_number : List Str := ["_law_source_here", "_law_pool", "_law_depth"]
abbrev p_l_value : List Str := ["_law_expression", "_law_env"]
abbrev p_l_values_at : List Str := ["_law_known_here", "_law_names_here", "_law_point"]
abbrev p_l_belongs : List Str := ["_law_matrix", "_law_point"]
abbrev p_l_grid : List Str := ["_law_ranges"]
abbrev p_l_box : List Str := ["_law_points_here"]
abbrev p_l_points : List Str := ["_law_source_here", "_law_least", "_law_wide"]
abbrev p_l_part : List Str := ["_law_source_here", "_law_points_here"]
abbrev p_l_spread : List Str := ["_law_form_here", "_law_points_here"]
abbrev p_l_has : List Str := ["_law_expression", "_law_names_here"]
abbrev p_l_corners : List Str := ["_law_expression", "_law_known_here", "_law_names_here", "_law_points_here"]
abbrev p_l_form : List Str := ["_law_expression", "_law_known_here", "_law_names_here", "_law_points_here"]
abbrev p_l_add : List Str := ["_law_table", "_law_expression", "_law_factor", "_law_known_here", "_law_names_here", "_law_points_here"]
abbrev p_l_known : List Str := ["_law_source_here", "_law_words_here"]
abbrev p_l_reference : List Str := ["_law_source_here", "_law_references"]
abbrev p_l_num : List Str := ["_law_value_here"]
abbrev p_l_side : List Str := ["_law_source_here", "_law_pool", "_law_names_here", "_law_deep"]
abbrev p_l_compare : List Str := ["_law_source_here", "_law_facts", "_law_names_here", "_law_points_here", "_law_deep"]
abbrev p_l_chain : List Str := ["_law_source_here", "_law_names_here", "_law_points_here"]
abbrev p_l_truth : List Str := ["_law_source_here", "_law_facts", "_law_names_here", "_law_points_here", "_law_depth", "_law_deep"]
abbrev p_l_lets : List Str := ["_law_form_here", "_law_point", "_law_least", "_law_greatest"]
abbrev p_l_cut : List Str := ["_law_points_here", "_law_form_here", "_law_least", "_law_greatest"]
abbrev p_l_joined : List Str := ["_law_a", "_law_b"]
abbrev p_l_compared : List Str := ["_law_expression", "_law_want", "_law_known_here", "_law_names_here", "_law_points_here"]
abbrev p_l_due : List Str := ["_law_expression", "_law_want", "_law_known_here", "_law_names_here", "_law_points_here"]
abbrev p_l_inside : List Str := ["_law_a", "_law_b"]
abbrev p_l_same : List Str := ["_law_actual", "_law_due_here"]
abbrev p_l_kept : List Str := ["_law_handed", "_law_known_here"]
abbrev p_l_asked : List Str := ["_law_expression", "_law_want", "_law_known_here", "_law_names_here", "_law_points_here"]
abbrev p_law : List Str := ["_law_script"]
/-- what the program's top leaves: where each def stands -/
structure Txt (w : World) (K : PySem.W.Frag) (mg : Str → Option Value) where
  a_frozen : Addr
  d_frozen : FuncData
  F_frozen : Fun K "frozen" "frozen" s_frozen a_frozen d_frozen
  b_frozen : Binds K d_frozen p_frozen []
  m_frozen : mg "frozen" = some (.ref a_frozen)
  a_bound : Addr
  d_bound : FuncData
  F_bound : Fun K "bound" "bound" s_bound a_bound d_bound
  b_bound : Binds K d_bound p_bound []
  m_bound : mg "bound" = some (.ref a_bound)
  a_join_boxes : Addr
  d_join_boxes : FuncData
  F_join_boxes : Fun K "join_boxes" "join_boxes" s_join_boxes a_join_boxes d_join_boxes
  b_join_boxes : Binds K d_join_boxes p_join_boxes []
  m_join_boxes : mg "join_boxes" = some (.ref a_join_boxes)
  a_range_of : Addr
  d_range_of : FuncData
  F_range_of : Fun K "range_of" "range_of" s_range_of a_range_of d_range_of
  b_range_of : Binds K d_range_of p_range_of []
  m_range_of : mg "range_of" = some (.ref a_range_of)
  a_constant_form : Addr
  d_constant_form : FuncData
  F_constant_form : Fun K "constant_form" "constant_form" s_constant_form a_constant_form d_constant_form
  b_constant_form : Binds K d_constant_form p_constant_form []
  m_constant_form : mg "constant_form" = some (.ref a_constant_form)
  a_column_form : Addr
  d_column_form : FuncData
  F_column_form : Fun K "column_form" "column_form" s_column_form a_column_form d_column_form
  b_column_form : Binds K d_column_form p_column_form []
  m_column_form : mg "column_form" = some (.ref a_column_form)
  a_sum_of_forms : Addr
  d_sum_of_forms : FuncData
  F_sum_of_forms : Fun K "sum_of_forms" "sum_of_forms" s_sum_of_forms a_sum_of_forms d_sum_of_forms
  b_sum_of_forms : Binds K d_sum_of_forms p_sum_of_forms []
  m_sum_of_forms : mg "sum_of_forms" = some (.ref a_sum_of_forms)
  a_form_times : Addr
  d_form_times : FuncData
  F_form_times : Fun K "form_times" "form_times" s_form_times a_form_times d_form_times
  b_form_times : Binds K d_form_times p_form_times []
  m_form_times : mg "form_times" = some (.ref a_form_times)
  a_difference_of_forms : Addr
  d_difference_of_forms : FuncData
  F_difference_of_forms : Fun K "difference_of_forms" "difference_of_forms" s_difference_of_forms a_difference_of_forms d_difference_of_forms
  b_difference_of_forms : Binds K d_difference_of_forms p_difference_of_forms []
  m_difference_of_forms : mg "difference_of_forms" = some (.ref a_difference_of_forms)
  a_used_columns : Addr
  d_used_columns : FuncData
  F_used_columns : Fun K "used_columns" "used_columns" s_used_columns a_used_columns d_used_columns
  b_used_columns : Binds K d_used_columns p_used_columns []
  m_used_columns : mg "used_columns" = some (.ref a_used_columns)
  a_difference_columns : Addr
  d_difference_columns : FuncData
  F_difference_columns : Fun K "difference_columns" "difference_columns" s_difference_columns a_difference_columns d_difference_columns
  b_difference_columns : Binds K d_difference_columns p_difference_columns []
  m_difference_columns : mg "difference_columns" = some (.ref a_difference_columns)
  a_range_of_form : Addr
  d_range_of_form : FuncData
  F_range_of_form : Fun K "range_of_form" "range_of_form" s_range_of_form a_range_of_form d_range_of_form
  b_range_of_form : Binds K d_range_of_form p_range_of_form []
  m_range_of_form : mg "range_of_form" = some (.ref a_range_of_form)
  a_occurs : Addr
  d_occurs : FuncData
  F_occurs : Fun K "occurs" "occurs" s_occurs a_occurs d_occurs
  b_occurs : Binds K d_occurs p_occurs []
  m_occurs : mg "occurs" = some (.ref a_occurs)
  a_form_of : Addr
  d_form_of : FuncData
  F_form_of : Fun K "form_of" "form_of" s_form_of a_form_of d_form_of
  b_form_of : Binds K d_form_of p_form_of []
  m_form_of : mg "form_of" = some (.ref a_form_of)
  a_product_form : Addr
  d_product_form : FuncData
  F_product_form : Fun K "product_form" "product_form" s_product_form a_product_form d_product_form
  b_product_form : Binds K d_product_form p_product_form []
  m_product_form : mg "product_form" = some (.ref a_product_form)
  a_evaluate : Addr
  d_evaluate : FuncData
  F_evaluate : Fun K "evaluate" "evaluate" s_evaluate a_evaluate d_evaluate
  b_evaluate : Binds K d_evaluate p_evaluate []
  m_evaluate : mg "evaluate" = some (.ref a_evaluate)
  a_apply : Addr
  d_apply : FuncData
  F_apply : Fun K "apply" "apply" s_apply a_apply d_apply
  b_apply : Binds K d_apply p_apply []
  m_apply : mg "apply" = some (.ref a_apply)
  a_at_most : Addr
  d_at_most : FuncData
  F_at_most : Fun K "at_most" "at_most" s_at_most a_at_most d_at_most
  b_at_most : Binds K d_at_most p_at_most []
  m_at_most : mg "at_most" = some (.ref a_at_most)
  a_at_least : Addr
  d_at_least : FuncData
  F_at_least : Fun K "at_least" "at_least" s_at_least a_at_least d_at_least
  b_at_least : Binds K d_at_least p_at_least []
  m_at_least : mg "at_least" = some (.ref a_at_least)
  a_equal_to : Addr
  d_equal_to : FuncData
  F_equal_to : Fun K "equal_to" "equal_to" s_equal_to a_equal_to d_equal_to
  b_equal_to : Binds K d_equal_to p_equal_to []
  m_equal_to : mg "equal_to" = some (.ref a_equal_to)
  a_assume : Addr
  d_assume : FuncData
  F_assume : Fun K "assume" "assume" s_assume a_assume d_assume
  b_assume : Binds K d_assume p_assume []
  m_assume : mg "assume" = some (.ref a_assume)
  a_assume_pair : Addr
  d_assume_pair : FuncData
  F_assume_pair : Fun K "assume_pair" "assume_pair" s_assume_pair a_assume_pair d_assume_pair
  b_assume_pair : Binds K d_assume_pair p_assume_pair []
  m_assume_pair : mg "assume_pair" = some (.ref a_assume_pair)
  a_compare : Addr
  d_compare : FuncData
  F_compare : Fun K "compare" "compare" s_compare a_compare d_compare
  b_compare : Binds K d_compare p_compare []
  m_compare : mg "compare" = some (.ref a_compare)
  a_l_cell : Addr
  d_l_cell : FuncData
  F_l_cell : Fun K "_law_cell" "_law_cell" s_l_cell a_l_cell d_l_cell
  b_l_cell : Binds K d_l_cell p_l_cell []
  m_l_cell : mg "_law_cell" = some (.ref a_l_cell)
  a_l_source : Addr
  d_l_source : FuncData
  F_l_source : Fun K "_law_source" "_law_source" s_l_source a_l_source d_l_source
  b_l_source : Binds K d_l_source p_l_source []
  m_l_source : mg "_law_source" = some (.ref a_l_source)
  a_l_pick : Addr
  d_l_pick : FuncData
  F_l_pick : Fun K "_law_pick" "_law_pick" s_l_pick a_l_pick d_l_pick
  b_l_pick : Binds K d_l_pick p_l_pick []
  m_l_pick : mg "_law_pick" = some (.ref a_l_pick)
  a_l_one : Addr
  d_l_one : FuncData
  F_l_one : Fun K "_law_one" "_law_one" s_l_one a_l_one d_l_one
  b_l_one : Binds K d_l_one p_l_one []
  m_l_one : mg "_law_one" = some (.ref a_l_one)
  a_l_names : Addr
  d_l_names : FuncData
  F_l_names : Fun K "_law_names" "_law_names" s_l_names a_l_names d_l_names
  b_l_names : Binds K d_l_names p_l_names []
  m_l_names : mg "_law_names" = some (.ref a_l_names)
  a_l_far : Addr
  d_l_far : FuncData
  F_l_far : Fun K "_law_far" "_law_far" s_l_far a_l_far d_l_far
  b_l_far : Binds K d_l_far p_l_far []
  m_l_far : mg "_law_far" = some (.ref a_l_far)
  a_l_words : Addr
  d_l_words : FuncData
  F_l_words : Fun K "_law_words" "_law_words" s_l_words a_l_words d_l_words
  b_l_words : Binds K d_l_words p_l_words []
  m_l_words : mg "_law_words" = some (.ref a_l_words)
  a_l_order : Addr
  d_l_order : FuncData
  F_l_order : Fun K "_law_order" "_law_order" s_l_order a_l_order d_l_order
  b_l_order : Binds K d_l_order p_l_order []
  m_l_order : mg "_law_order" = some (.ref a_l_order)
  a_l_number : Addr
  d_l_number : FuncData
  F_l_number : Fun K "_law_number" "_law_number" s_l_number a_l_number d_l_number
  b_l_number : Binds K d_l_number p_l_number []
  m_l_number : mg "_law_number" = some (.ref a_l_number)
  a_l_value : Addr
  d_l_value : FuncData
  F_l_value : Fun K "_law_value" "_law_value" s_l_value a_l_value d_l_value
  b_l_value : Binds K d_l_value p_l_value []
  m_l_value : mg "_law_value" = some (.ref a_l_value)
  a_l_values_at : Addr
  d_l_values_at : FuncData
  F_l_values_at : Fun K "_law_values_at" "_law_values_at" s_l_values_at a_l_values_at d_l_values_at
  b_l_values_at : Binds K d_l_values_at p_l_values_at []
  m_l_values_at : mg "_law_values_at" = some (.ref a_l_values_at)
  a_l_belongs : Addr
  d_l_belongs : FuncData
  F_l_belongs : Fun K "_law_belongs" "_law_belongs" s_l_belongs a_l_belongs d_l_belongs
  b_l_belongs : Binds K d_l_belongs p_l_belongs []
  m_l_belongs : mg "_law_belongs" = some (.ref a_l_belongs)
  a_l_grid : Addr
  d_l_grid : FuncData
  F_l_grid : Fun K "_law_grid" "_law_grid" s_l_grid a_l_grid d_l_grid
  b_l_grid : Binds K d_l_grid p_l_grid []
  m_l_grid : mg "_law_grid" = some (.ref a_l_grid)
  a_l_box : Addr
  d_l_box : FuncData
  F_l_box : Fun K "_law_box" "_law_box" s_l_box a_l_box d_l_box
  b_l_box : Binds K d_l_box p_l_box []
  m_l_box : mg "_law_box" = some (.ref a_l_box)
  a_l_points : Addr
  d_l_points : FuncData
  F_l_points : Fun K "_law_points" "_law_points" s_l_points a_l_points d_l_points
  b_l_points : Binds K d_l_points p_l_points []
  m_l_points : mg "_law_points" = some (.ref a_l_points)
  a_l_part : Addr
  d_l_part : FuncData
  F_l_part : Fun K "_law_part" "_law_part" s_l_part a_l_part d_l_part
  b_l_part : Binds K d_l_part p_l_part []
  m_l_part : mg "_law_part" = some (.ref a_l_part)
  a_l_spread : Addr
  d_l_spread : FuncData
  F_l_spread : Fun K "_law_spread" "_law_spread" s_l_spread a_l_spread d_l_spread
  b_l_spread : Binds K d_l_spread p_l_spread []
  m_l_spread : mg "_law_spread" = some (.ref a_l_spread)
  a_l_has : Addr
  d_l_has : FuncData
  F_l_has : Fun K "_law_has" "_law_has" s_l_has a_l_has d_l_has
  b_l_has : Binds K d_l_has p_l_has []
  m_l_has : mg "_law_has" = some (.ref a_l_has)
  a_l_corners : Addr
  d_l_corners : FuncData
  F_l_corners : Fun K "_law_corners" "_law_corners" s_l_corners a_l_corners d_l_corners
  b_l_corners : Binds K d_l_corners p_l_corners []
  m_l_corners : mg "_law_corners" = some (.ref a_l_corners)
  a_l_form : Addr
  d_l_form : FuncData
  F_l_form : Fun K "_law_form" "_law_form" s_l_form a_l_form d_l_form
  b_l_form : Binds K d_l_form p_l_form []
  m_l_form : mg "_law_form" = some (.ref a_l_form)
  a_l_add : Addr
  d_l_add : FuncData
  F_l_add : Fun K "_law_add" "_law_add" s_l_add a_l_add d_l_add
  b_l_add : Binds K d_l_add p_l_add []
  m_l_add : mg "_law_add" = some (.ref a_l_add)
  a_l_known : Addr
  d_l_known : FuncData
  F_l_known : Fun K "_law_known" "_law_known" s_l_known a_l_known d_l_known
  b_l_known : Binds K d_l_known p_l_known []
  m_l_known : mg "_law_known" = some (.ref a_l_known)
  a_l_reference : Addr
  d_l_reference : FuncData
  F_l_reference : Fun K "_law_reference" "_law_reference" s_l_reference a_l_reference d_l_reference
  b_l_reference : Binds K d_l_reference p_l_reference []
  m_l_reference : mg "_law_reference" = some (.ref a_l_reference)
  a_l_num : Addr
  d_l_num : FuncData
  F_l_num : Fun K "_law_num" "_law_num" s_l_num a_l_num d_l_num
  b_l_num : Binds K d_l_num p_l_num []
  m_l_num : mg "_law_num" = some (.ref a_l_num)
  a_l_side : Addr
  d_l_side : FuncData
  F_l_side : Fun K "_law_side" "_law_side" s_l_side a_l_side d_l_side
  b_l_side : Binds K d_l_side p_l_side []
  m_l_side : mg "_law_side" = some (.ref a_l_side)
  a_l_compare : Addr
  d_l_compare : FuncData
  F_l_compare : Fun K "_law_compare" "_law_compare" s_l_compare a_l_compare d_l_compare
  b_l_compare : Binds K d_l_compare p_l_compare []
  m_l_compare : mg "_law_compare" = some (.ref a_l_compare)
  a_l_chain : Addr
  d_l_chain : FuncData
  F_l_chain : Fun K "_law_chain" "_law_chain" s_l_chain a_l_chain d_l_chain
  b_l_chain : Binds K d_l_chain p_l_chain []
  m_l_chain : mg "_law_chain" = some (.ref a_l_chain)
  a_l_truth : Addr
  d_l_truth : FuncData
  F_l_truth : Fun K "_law_truth" "_law_truth" s_l_truth a_l_truth d_l_truth
  b_l_truth : Binds K d_l_truth p_l_truth []
  m_l_truth : mg "_law_truth" = some (.ref a_l_truth)
  a_l_lets : Addr
  d_l_lets : FuncData
  F_l_lets : Fun K "_law_lets" "_law_lets" s_l_lets a_l_lets d_l_lets
  b_l_lets : Binds K d_l_lets p_l_lets []
  m_l_lets : mg "_law_lets" = some (.ref a_l_lets)
  a_l_cut : Addr
  d_l_cut : FuncData
  F_l_cut : Fun K "_law_cut" "_law_cut" s_l_cut a_l_cut d_l_cut
  b_l_cut : Binds K d_l_cut p_l_cut []
  m_l_cut : mg "_law_cut" = some (.ref a_l_cut)
  a_l_joined : Addr
  d_l_joined : FuncData
  F_l_joined : Fun K "_law_joined" "_law_joined" s_l_joined a_l_joined d_l_joined
  b_l_joined : Binds K d_l_joined p_l_joined []
  m_l_joined : mg "_law_joined" = some (.ref a_l_joined)
  a_l_compared : Addr
  d_l_compared : FuncData
  F_l_compared : Fun K "_law_compared" "_law_compared" s_l_compared a_l_compared d_l_compared
  b_l_compared : Binds K d_l_compared p_l_compared []
  m_l_compared : mg "_law_compared" = some (.ref a_l_compared)
  a_l_due : Addr
  d_l_due : FuncData
  F_l_due : Fun K "_law_due" "_law_due" s_l_due a_l_due d_l_due
  b_l_due : Binds K d_l_due p_l_due []
  m_l_due : mg "_law_due" = some (.ref a_l_due)
  a_l_inside : Addr
  d_l_inside : FuncData
  F_l_inside : Fun K "_law_inside" "_law_inside" s_l_inside a_l_inside d_l_inside
  b_l_inside : Binds K d_l_inside p_l_inside []
  m_l_inside : mg "_law_inside" = some (.ref a_l_inside)
  a_l_same : Addr
  d_l_same : FuncData
  F_l_same : Fun K "_law_same" "_law_same" s_l_same a_l_same d_l_same
  b_l_same : Binds K d_l_same p_l_same []
  m_l_same : mg "_law_same" = some (.ref a_l_same)
  a_l_kept : Addr
  d_l_kept : FuncData
  F_l_kept : Fun K "_law_kept" "_law_kept" s_l_kept a_l_kept d_l_kept
  b_l_kept : Binds K d_l_kept p_l_kept []
  m_l_kept : mg "_law_kept" = some (.ref a_l_kept)
  a_l_asked : Addr
  d_l_asked : FuncData
  F_l_asked : Fun K "_law_asked" "_law_asked" s_l_asked a_l_asked d_l_asked
  b_l_asked : Binds K d_l_asked p_l_asked []
  m_l_asked : mg "_law_asked" = some (.ref a_l_asked)
  a_law : Addr
  d_law : FuncData
  F_law : Fun K "law" "law" s_law a_law d_law
  b_law : Binds K d_law p_law []
  m_law : mg "law" = some (.ref a_law)
  z_abs : mg "abs" = none
  z_any : mg "any" = none
  z_bool : mg "bool" = none
  z_dict : mg "dict" = none
  z_enumerate : mg "enumerate" = none
  z_int : mg "int" = none
  z_isinstance : mg "isinstance" = none
  z_len : mg "len" = none
  z_list : mg "list" = none
  z_max : mg "max" = none
  z_min : mg "min" = none
  z_range : mg "range" = none
  z_sorted : mg "sorted" = none
  z_str : mg "str" = none
  z_sum : mg "sum" = none
  z_tuple : mg "tuple" = none
  z_zip : mg "zip" = none
abbrev n_frozen : List Str := ["rows", "row"]
theorem sc_frozen : FnScope n_frozen p_frozen (defScope s_frozen) := ⟨rfl, rfl, rfl, by decide +kernel, rfl, by decide +kernel, by decide +kernel⟩
abbrev n_bound : List Str := ["box", "i", "j", "most", "behind", "second", "row", "old"]
theorem sc_bound : FnScope n_bound p_bound (defScope s_bound) := ⟨rfl, rfl, rfl, by decide +kernel, rfl, by decide +kernel, by decide +kernel⟩
abbrev n_join_boxes : List Str := ["a", "b", "row", "other", "pair"]
theorem sc_join_boxes : FnScope n_join_boxes p_join_boxes (defScope s_join_boxes) := ⟨rfl, rfl, rfl, by decide +kernel, rfl, by decide +kernel, by decide +kernel⟩
abbrev n_range_of : List Str := ["box", "i"]
theorem sc_range_of : FnScope n_range_of p_range_of (defScope s_range_of) := ⟨rfl, rfl, rfl, by decide +kernel, rfl, by decide +kernel, by decide +kernel⟩
abbrev n_constant_form : List Str := ["number", "box"]
theorem sc_constant_form : FnScope n_constant_form p_constant_form (defScope s_constant_form) := ⟨rfl, rfl, rfl, by decide +kernel, rfl, by decide +kernel, by decide +kernel⟩
abbrev n_column_form : List Str := ["column", "box", "coefficients", "at"]
theorem sc_column_form : FnScope n_column_form p_column_form (defScope s_column_form) := ⟨rfl, rfl, rfl, by decide +kernel, rfl, by decide +kernel, by decide +kernel⟩
abbrev n_sum_of_forms : List Str := ["left", "right", "coefficients", "a", "b"]
theorem sc_sum_of_forms : FnScope n_sum_of_forms p_sum_of_forms (defScope s_sum_of_forms) := ⟨rfl, rfl, rfl, by decide +kernel, rfl, by decide +kernel, by decide +kernel⟩
abbrev n_form_times : List Str := ["form", "number", "coefficients", "each", "ends"]
theorem sc_form_times : FnScope n_form_times p_form_times (defScope s_form_times) := ⟨rfl, rfl, rfl, by decide +kernel, rfl, by decide +kernel, by decide +kernel⟩
abbrev n_difference_of_forms : List Str := ["left", "right"]
theorem sc_difference_of_forms : FnScope n_difference_of_forms p_difference_of_forms (defScope s_difference_of_forms) := ⟨rfl, rfl, rfl, by decide +kernel, rfl, by decide +kernel, by decide +kernel⟩
abbrev n_used_columns : List Str := ["form", "at", "each"]
theorem sc_used_columns : FnScope n_used_columns p_used_columns (defScope s_used_columns) := ⟨rfl, rfl, rfl, by decide +kernel, rfl, by decide +kernel, by decide +kernel⟩
abbrev n_difference_columns : List Str := ["form", "used", "column", "first", "second"]
theorem sc_difference_columns : FnScope n_difference_columns p_difference_columns (defScope s_difference_columns) := ⟨rfl, rfl, rfl, by decide +kernel, rfl, by decide +kernel, by decide +kernel⟩
abbrev n_range_of_form : List Str := ["form", "box", "coefficients", "low", "high", "pair", "i", "j", "column", "ends", "end"]
theorem sc_range_of_form : FnScope n_range_of_form p_range_of_form (defScope s_range_of_form) := ⟨rfl, rfl, rfl, by decide +kernel, rfl, by decide +kernel, by decide +kernel⟩
abbrev n_occurs : List Str := ["names", "expression", "operand"]
theorem sc_occurs : FnScope n_occurs p_occurs (defScope s_occurs) := ⟨rfl, rfl, rfl, by decide +kernel, rfl, by decide +kernel, by decide +kernel⟩
abbrev n_form_of : List Str := ["expression", "known", "names", "box", "word", "name", "left", "right"]
theorem sc_form_of : FnScope n_form_of p_form_of (defScope s_form_of) := ⟨rfl, rfl, rfl, by decide +kernel, rfl, by decide +kernel, by decide +kernel⟩
abbrev n_product_form : List Str := ["left", "right", "box", "first", "second", "products", "a", "b"]
theorem sc_product_form : FnScope n_product_form p_product_form (defScope s_product_form) := ⟨rfl, rfl, rfl, by decide +kernel, rfl, by decide +kernel, by decide +kernel⟩
abbrev n_evaluate : List Str := ["expression", "values", "word", "left"]
theorem sc_evaluate : FnScope n_evaluate p_evaluate (defScope s_evaluate) := ⟨rfl, rfl, rfl, by decide +kernel, rfl, by decide +kernel, by decide +kernel⟩
abbrev n_apply : List Str := ["word", "left", "right"]
theorem sc_apply : FnScope n_apply p_apply (defScope s_apply) := ⟨rfl, rfl, rfl, by decide +kernel, rfl, by decide +kernel, by decide +kernel⟩
abbrev n_at_most : List Str := ["box", "form", "most", "coefficients", "low", "_", "used", "column", "factor", "limit", "pair"]
theorem sc_at_most : FnScope n_at_most p_at_most (defScope s_at_most) := ⟨rfl, rfl, rfl, by decide +kernel, rfl, by decide +kernel, by decide +kernel⟩
abbrev n_at_least : List Str := ["box", "form", "least"]
theorem sc_at_least : FnScope n_at_least p_at_least (defScope s_at_least) := ⟨rfl, rfl, rfl, by decide +kernel, rfl, by decide +kernel, by decide +kernel⟩
abbrev n_equal_to : List Str := ["box", "form", "value"]
theorem sc_equal_to : FnScope n_equal_to p_equal_to (defScope s_equal_to) := ⟨rfl, rfl, rfl, by decide +kernel, rfl, by decide +kernel, by decide +kernel⟩
abbrev n_assume : List Str := ["expression", "want", "known", "names", "box", "word", "left", "right"]
theorem sc_assume : FnScope n_assume p_assume (defScope s_assume) := ⟨rfl, rfl, rfl, by decide +kernel, rfl, by decide +kernel, by decide +kernel⟩
abbrev n_assume_pair : List Str := ["expression", "want", "known", "names", "box", "word", "left", "right", "first"]
theorem sc_assume_pair : FnScope n_assume_pair p_assume_pair (defScope s_assume_pair) := ⟨rfl, rfl, rfl, by decide +kernel, rfl, by decide +kernel, by decide +kernel⟩
abbrev n_compare : List Str := ["word", "want", "box", "form"]
theorem sc_compare : FnScope n_compare p_compare (defScope s_compare) := ⟨rfl, rfl, rfl, by decide +kernel, rfl, by decide +kernel, by decide +kernel⟩
abbrev n_l_cell : List Str := ["_law_script", "_law_at"]
theorem sc_l_cell : FnScope n_l_cell p_l_cell (defScope s_l_cell) := ⟨rfl, rfl, rfl, by decide +kernel, rfl, by decide +kernel, by decide +kernel⟩
abbrev n_l_source : List Str := ["_law_cell_here"]
theorem sc_l_source : FnScope n_l_source p_l_source (defScope s_l_source) := ⟨rfl, rfl, rfl, by decide +kernel, rfl, by decide +kernel, by decide +kernel⟩
abbrev n_l_pick : List Str := ["_law_source_here", "_law_size", "_law_k", "_law_digit", "_law_mixed"]
theorem sc_l_pick : FnScope n_l_pick p_l_pick (defScope s_l_pick) := ⟨rfl, rfl, rfl, by decide +kernel, rfl, by decide +kernel, by decide +kernel⟩
abbrev n_l_one : List Str := ["_law_source_here", "_law_row"]
theorem sc_l_one : FnScope n_l_one p_l_one (defScope s_l_one) := ⟨rfl, rfl, rfl, by decide +kernel, rfl, by decide +kernel, by decide +kernel⟩
abbrev n_l_names : List Str := ["_law_source_here", "_law_style", "_law_names_here", "_law_k", "_law_word"]
theorem sc_l_names : FnScope n_l_names p_l_names (defScope s_l_names) := ⟨rfl, rfl, rfl, by decide +kernel, rfl, by decide +kernel, by decide +kernel⟩
abbrev n_l_far : List Str := ["_law_source_here"]
theorem sc_l_far : FnScope n_l_far p_l_far (defScope s_l_far) := ⟨rfl, rfl, rfl, by decide +kernel, rfl, by decide +kernel, by decide +kernel⟩
abbrev n_l_words : List Str := ["_law_source_here", "_law_words_here", "_law_shift"]
theorem sc_l_words : FnScope n_l_words p_l_words (defScope s_l_words) := ⟨rfl, rfl, rfl, by decide +kernel, rfl, by decide +kernel, by decide +kernel⟩
abbrev n_l_order : List Str := ["_law_source_here", "_law_words_here", "_law_ordered", "_law_word"]
theorem sc_l_order : FnScope n_l_order p_l_order (defScope s_l_order) := ⟨rfl, rfl, rfl, by decide +kernel, rfl, by decide +kernel, by decide +kernel⟩
abbrev n_l_number : List Str := ["_law_source_here", "_law_pool", "_law_depth", "_law_choice", "_law_left", "_law_right"]
theorem sc_l_number : FnScope n_l_number p_l_number (defScope s_l_number) := ⟨rfl, rfl, rfl, by decide +kernel, rfl, by decide +kernel, by decide +kernel⟩
abbrev n_l_value : List Str := ["_law_expression", "_law_env", "_law_sign", "_law_left", "_law_right"]
theorem sc_l_value : FnScope n_l_value p_l_value (defScope s_l_value) := ⟨rfl, rfl, rfl, by decide +kernel, rfl, by decide +kernel, by decide +kernel⟩
abbrev n_l_values_at : List Str := ["_law_known_here", "_law_names_here", "_law_point", "_law_values", "_law_k"]
theorem sc_l_values_at : FnScope n_l_values_at p_l_values_at (defScope s_l_values_at) := ⟨rfl, rfl, rfl, by decide +kernel, rfl, by decide +kernel, by decide +kernel⟩
abbrev n_l_belongs : List Str := ["_law_matrix", "_law_point", "_law_full", "_law_i", "_law_j"]
theorem sc_l_belongs : FnScope n_l_belongs p_l_belongs (defScope s_l_belongs) := ⟨rfl, rfl, rfl, by decide +kernel, rfl, by decide +kernel, by decide +kernel⟩
abbrev n_l_grid : List Str := ["_law_ranges", "_law_points_here", "_law_pair", "_law_longer", "_law_point", "_law_value_here"]
theorem sc_l_grid : FnScope n_l_grid p_l_grid (defScope s_l_grid) := ⟨rfl, rfl, rfl, by decide +kernel, rfl, by decide +kernel, by decide +kernel⟩
abbrev n_l_box : List Str := ["_law_points_here", "_law_full", "_law_point", "_law_rows", "_law_i", "_law_j"]
theorem sc_l_box : FnScope n_l_box p_l_box (defScope s_l_box) := ⟨rfl, rfl, rfl, by decide +kernel, rfl, by decide +kernel, by decide +kernel⟩
abbrev n_l_points : List Str := ["_law_source_here", "_law_least", "_law_wide", "_law_more", "_law_count", "_law_some", "_law_turn", "_law_k", "_law_matrix", "_law_shown", "_law_moved", "_law_points_here", "_law_point", "_law_full"]
theorem sc_l_points : FnScope n_l_points p_l_points (defScope s_l_points) := ⟨rfl, rfl, rfl, by decide +kernel, rfl, by decide +kernel, by decide +kernel⟩
abbrev n_l_part : List Str := ["_law_source_here", "_law_points_here", "_law_box_here", "_law_point"]
theorem sc_l_part : FnScope n_l_part p_l_part (defScope s_l_part) := ⟨rfl, rfl, rfl, by decide +kernel, rfl, by decide +kernel, by decide +kernel⟩
abbrev n_l_spread : List Str := ["_law_form_here", "_law_points_here", "_law_used", "_law_k", "_law_ends", "_law_plus", "_law_minus", "_law_told", "_law_point", "_law_least", "_law_greatest"]
theorem sc_l_spread : FnScope n_l_spread p_l_spread (defScope s_l_spread) := ⟨rfl, rfl, rfl, by decide +kernel, rfl, by decide +kernel, by decide +kernel⟩
abbrev n_l_has : List Str := ["_law_expression", "_law_names_here", "_law_part_here"]
theorem sc_l_has : FnScope n_l_has p_l_has (defScope s_l_has) := ⟨rfl, rfl, rfl, by decide +kernel, rfl, by decide +kernel, by decide +kernel⟩
abbrev n_l_corners : List Str := ["_law_expression", "_law_known_here", "_law_names_here", "_law_points_here", "_law_left", "_law_right"]
theorem sc_l_corners : FnScope n_l_corners p_l_corners (defScope s_l_corners) := ⟨rfl, rfl, rfl, by decide +kernel, rfl, by decide +kernel, by decide +kernel⟩
abbrev n_l_form : List Str := ["_law_expression", "_law_known_here", "_law_names_here", "_law_points_here", "_law_table"]
theorem sc_l_form : FnScope n_l_form p_l_form (defScope s_l_form) := ⟨rfl, rfl, rfl, by decide +kernel, rfl, by decide +kernel, by decide +kernel⟩
abbrev n_l_add : List Str := ["_law_table", "_law_expression", "_law_factor", "_law_known_here", "_law_names_here", "_law_points_here", "_law_sign", "_law_row", "_law_at", "_law_value_here", "_law_ends", "_law_told", "_law_end"]
theorem sc_l_add : FnScope n_l_add p_l_add (defScope s_l_add) := ⟨rfl, rfl, rfl, by decide +kernel, rfl, by decide +kernel, by decide +kernel⟩
abbrev n_l_known : List Str := ["_law_source_here", "_law_words_here", "_law_known_here", "_law_numbers", "_law_flags", "_law_references", "_law_word"]
theorem sc_l_known : FnScope n_l_known p_l_known (defScope s_l_known) := ⟨rfl, rfl, rfl, by decide +kernel, rfl, by decide +kernel, by decide +kernel⟩
abbrev n_l_reference : List Str := ["_law_source_here", "_law_references"]
theorem sc_l_reference : FnScope n_l_reference p_l_reference (defScope s_l_reference) := ⟨rfl, rfl, rfl, by decide +kernel, rfl, by decide +kernel, by decide +kernel⟩
abbrev n_l_num : List Str := ["_law_value_here"]
theorem sc_l_num : FnScope n_l_num p_l_num (defScope s_l_num) := ⟨rfl, rfl, rfl, by decide +kernel, rfl, by decide +kernel, by decide +kernel⟩
abbrev n_l_side : List Str := ["_law_source_here", "_law_pool", "_law_names_here", "_law_deep", "_law_choice"]
theorem sc_l_side : FnScope n_l_side p_l_side (defScope s_l_side) := ⟨rfl, rfl, rfl, by decide +kernel, rfl, by decide +kernel, by decide +kernel⟩
abbrev n_l_compare : List Str := ["_law_source_here", "_law_facts", "_law_names_here", "_law_points_here", "_law_deep", "_law_sign", "_law_left", "_law_value_here", "_law_ends", "_law_right"]
theorem sc_l_compare : FnScope n_l_compare p_l_compare (defScope s_l_compare) := ⟨rfl, rfl, rfl, by decide +kernel, rfl, by decide +kernel, by decide +kernel⟩
abbrev n_l_chain : List Str := ["_law_source_here", "_law_names_here", "_law_points_here", "_law_name", "_law_product", "_law_value_here", "_law_ends", "_law_left", "_law_right", "_law_turn"]
theorem sc_l_chain : FnScope n_l_chain p_l_chain (defScope s_l_chain) := ⟨rfl, rfl, rfl, by decide +kernel, rfl, by decide +kernel, by decide +kernel⟩
abbrev n_l_truth : List Str := ["_law_source_here", "_law_facts", "_law_names_here", "_law_points_here", "_law_depth", "_law_deep", "_law_choice", "_law_left"]
theorem sc_l_truth : FnScope n_l_truth p_l_truth (defScope s_l_truth) := ⟨rfl, rfl, rfl, by decide +kernel, rfl, by decide +kernel, by decide +kernel⟩
abbrev n_l_lets : List Str := ["_law_form_here", "_law_point", "_law_least", "_law_greatest", "_law_worth", "_law_k"]
theorem sc_l_lets : FnScope n_l_lets p_l_lets (defScope s_l_lets) := ⟨rfl, rfl, rfl, by decide +kernel, rfl, by decide +kernel, by decide +kernel⟩
abbrev n_l_cut : List Str := ["_law_points_here", "_law_form_here", "_law_least", "_law_greatest", "_law_used", "_law_number_here", "_law_ends", "_law_point"]
theorem sc_l_cut : FnScope n_l_cut p_l_cut (defScope s_l_cut) := ⟨rfl, rfl, rfl, by decide +kernel, rfl, by decide +kernel, by decide +kernel⟩
abbrev n_l_joined : List Str := ["_law_a", "_law_b", "_law_rows", "_law_i", "_law_j"]
theorem sc_l_joined : FnScope n_l_joined p_l_joined (defScope s_l_joined) := ⟨rfl, rfl, rfl, by decide +kernel, rfl, by decide +kernel, by decide +kernel⟩
abbrev n_l_compared : List Str := ["_law_expression", "_law_want", "_law_known_here", "_law_names_here", "_law_points_here", "_law_table", "_law_form_here", "_law_sign", "_law_edge"]
theorem sc_l_compared : FnScope n_l_compared p_l_compared (defScope s_l_compared) := ⟨rfl, rfl, rfl, by decide +kernel, rfl, by decide +kernel, by decide +kernel⟩
abbrev n_l_due : List Str := ["_law_expression", "_law_want", "_law_known_here", "_law_names_here", "_law_points_here", "_law_sign", "_law_left", "_law_rest", "_law_point"]
theorem sc_l_due : FnScope n_l_due p_l_due (defScope s_l_due) := ⟨rfl, rfl, rfl, by decide +kernel, rfl, by decide +kernel, by decide +kernel⟩
abbrev n_l_inside : List Str := ["_law_a", "_law_b", "_law_i", "_law_j"]
theorem sc_l_inside : FnScope n_l_inside p_l_inside (defScope s_l_inside) := ⟨rfl, rfl, rfl, by decide +kernel, rfl, by decide +kernel, by decide +kernel⟩
abbrev n_l_same : List Str := ["_law_actual", "_law_due_here", "_law_k"]
theorem sc_l_same : FnScope n_l_same p_l_same (defScope s_l_same) := ⟨rfl, rfl, rfl, by decide +kernel, rfl, by decide +kernel, by decide +kernel⟩
abbrev n_l_kept : List Str := ["_law_handed", "_law_known_here", "_law_name"]
theorem sc_l_kept : FnScope n_l_kept p_l_kept (defScope s_l_kept) := ⟨rfl, rfl, rfl, by decide +kernel, rfl, by decide +kernel, by decide +kernel⟩
abbrev n_l_asked : List Str := ["_law_expression", "_law_want", "_law_known_here", "_law_names_here", "_law_points_here", "_law_handed", "_law_actual", "_law_point"]
theorem sc_l_asked : FnScope n_l_asked p_l_asked (defScope s_l_asked) := ⟨rfl, rfl, rfl, by decide +kernel, rfl, by decide +kernel, by decide +kernel⟩
abbrev n_law : List Str := ["_law_script", "_law_source_here", "_law_points_here", "_law_part_here", "_law_words_here", "_law_names_here", "_law_facts", "_law_known_here", "_law_depth", "_law_expression", "_law_lone", "_law_value_here", "_law_want", "_law_whole", "_law_inner", "_law_due_here"]
theorem sc_law : FnScope n_law p_law (defScope s_law) := ⟨rfl, rfl, rfl, by decide +kernel, rfl, by decide +kernel, by decide +kernel⟩
/-! ### a list against the empty one -/
def rEqL0 (K : PySem.W.Frag) (neg : Bool) : R2 := fun x y H Q => ∃ (a b : Addr) (xs : List V), x = .ref a ∧ y = .ref b ∧ SqL K H a xs ∧ SqL K H b [] ∧ Q (.bl (if neg then !xs.isEmpty else xs.isEmpty)) H
theorem op_neL0 {X : Cx} (hu : X.A.units < cLine) : OpR X (compareOp .NotEq) (rEqL0 X.K true) := by
  intro pins s σ H x y v u Q I rx ry h
  obtain ⟨a, b, xs, rfl, rfl, ha, hb, q⟩ := h
  obtain rfl : v = Value.ref a := rx
  obtain rfl : u = Value.ref b := ry
  obtain ⟨its, r1, t1, _⟩ := I.list ha
  obtain ⟨its2, r2, t2, _⟩ := I.list hb
  cases r2
  cases r1 with
  | nil => exact SeqAt.RcNeAt.lists (e := fun _ => true) t1.isList t2.isList rfl hu (fun j h1 h2 => absurd h2 (by simp)) _ _ _ _ ⟨.bl _, H, I, rfl, q⟩
  | cons _ _ => exact SeqAt.RcNeAt.lists_lengths t1.isList t2.isList (by simp) hu _ _ _ _ ⟨.bl _, H, I, rfl, q⟩
theorem op_eqL0 {X : Cx} (hu : X.A.units < cLine) : OpR X (compareOp .Eq) (rEqL0 X.K false) := by
  intro pins s σ H x y v u Q I rx ry h
  obtain ⟨a, b, xs, rfl, rfl, ha, hb, q⟩ := h
  obtain rfl : v = Value.ref a := rx
  obtain rfl : u = Value.ref b := ry
  obtain ⟨its, r1, t1, _⟩ := I.list ha
  obtain ⟨its2, r2, t2, _⟩ := I.list hb
  cases r2
  cases r1 with
  | nil => exact SeqAt.eq_listAt (e := fun _ => true) t1.isList t2.isList rfl hu (fun j h1 h2 => absurd h2 (by simp)) ⟨.bl _, H, I, rfl, q⟩
  | cons _ _ => exact SeqAt.eq_list_lengthsAt t1.isList t2.isList (by simp) hu ⟨.bl _, H, I, rfl, q⟩
/-! ### built-in names -/
theorem bt_int : bootBuiltins "int" = some (.type "int") := by decide +kernel
theorem bt_str : bootBuiltins "str" = some (.type "str") := by decide +kernel
theorem bt_bool : bootBuiltins "bool" = some (.type "bool") := by decide +kernel
theorem bt_tuple : bootBuiltins "tuple" = some (.type "tuple") := by decide +kernel
theorem bt_list : bootBuiltins "list" = some (.type "list") := by decide +kernel
theorem bt_dict : bootBuiltins "dict" = some (.type "dict") := by decide +kernel
theorem bb_max : bootBuiltins "max" = some (.builtin "max") := by decide +kernel
theorem bb_min : bootBuiltins "min" = some (.builtin "min") := by decide +kernel
theorem bb_isinstance : bootBuiltins "isinstance" = some (.builtin "isinstance") := by decide +kernel
/-! ### a source of draws: a list of three ints, which draws alone change -/
def Src (H : Hp) (a : Addr) : Prop := ∃ c m k : Int, H a = some (.lst [.int c, .int m, .int k])
/-- a source stands at a, and nothing else that was tracked has changed -/
structure Stp (a : Addr) (H H' : Hp) : Prop where
  s : Src H' a
  k : ∀ b o, b ≠ a → H b = some o → H' b = some o
theorem Stp.refl {a : Addr} {H : Hp} (h : Src H a) : Stp a H H := ⟨h, fun _ _ _ e => e⟩
theorem Stp.trans {a : Addr} {H H1 H2 : Hp} (x : Stp a H H1) (y : Stp a H1 H2) : Stp a H H2 := ⟨y.s, fun b o hb e => y.k b o hb (x.k b o hb e)⟩
theorem Src.ne {a p : Addr} {H : Hp} (h : Src H a) (n : H p = none) : a ≠ p := by
  obtain ⟨c, m, k, h⟩ := h
  exact ne_of_none h n
theorem Stp.free {a p : Addr} {H H' : Hp} (x : Stp a H H') (n : H' p = none) : H p = none := by
  cases q : H p with
  | none => rfl
  | some o =>
    have ne : p ≠ a := fun z => x.s.ne n z.symm
    rw [x.k p o ne q] at n
    cases n
/-- a new object beside the source -/
theorem Stp.new {a p : Addr} {H H' : Hp} {o : HO} (x : Stp a H H') (n : H' p = none) : Stp a H (upd H' p o) := by
  have ne := x.s.ne n
  obtain ⟨c, m, k, h⟩ := x.s
  refine ⟨⟨c, m, k, by rw [upd_ne ne]; exact h⟩, fun b u hb e => ?_⟩
  have e' := x.k b u hb e
  rw [upd_ne (ne_of_none e' n)]
  exact e'
theorem Stp.same {a : Addr} {H H' H2 : Hp} (x : Stp a H H') (s : Same H' H2) : Stp a H H2 := by
  obtain ⟨c, m, k, h⟩ := x.s
  exact ⟨⟨c, m, k, s _ _ h⟩, fun b o hb e => s b o (x.k b o hb e)⟩
theorem Stp.of_same {a : Addr} {H H' : Hp} (h : Src H a) (s : Same H H') : Stp a H H' := (Stp.refl h).same s
theorem Same.new {H : Hp} {p : Addr} (h : H p = none) (o : HO) : Same H (upd H p o) := fun b u q => by rw [upd_ne (ne_of_none q h)]; exact q
/-- a source that is new ahead of its draws: all that was tracked stands -/
theorem Stp.fresh {a : Addr} {H H1 H2 : Hp} (s : Same H H1) (n : H a = none) (x : Stp a H1 H2) : Same H H2 := fun b o e => x.k b o (ne_of_none e n) (s b o e)
theorem Stp.rd {K : PySem.W.Frag} {a p : Addr} {H H' : Hp} {xs : List V} (x : Stp a H H') (h : SqT K H p xs) (hs : Src H a) : SqT K H' p xs := by
  obtain ⟨c, m, k, hs⟩ := hs
  rcases h with (h | ⟨o, h⟩) | h
  · exact .inl (.inl (x.k _ _ (ne_of h hs (by intro z; cases z)) h))
  · exact .inl (.inr ⟨o, x.k _ _ (ne_of h hs (by intro z; cases z)) h⟩)
  · exact .inr h
theorem Stp.rdL {K : PySem.W.Frag} {a p : Addr} {H H' : Hp} {xs : List V} (x : Stp a H H') (h : SqL K H p xs) (ne : p ≠ a) : SqL K H' p xs := by
  rcases h with (h | ⟨o, h⟩) | h
  · exact .inl (.inl (x.k _ _ ne h))
  · exact .inl (.inr ⟨o, x.k _ _ ne h⟩)
  · exact .inr h
theorem Same.tup {K : PySem.W.Frag} {p : Addr} {H H' : Hp} {xs : List V} (x : Same H H') (h : SqT K H p xs) : SqT K H' p xs := by
  rcases h with (h | ⟨o, h⟩) | h
  · exact .inl (.inl (x _ _ h))
  · exact .inl (.inr ⟨o, x _ _ h⟩)
  · exact .inr h
/-! ### numbers -/
theorem ifT {c : Bool} {A B : Prop} (h : c = true) (a : A) : if c = true then A else B := by rw [if_pos h]; exact a
theorem ifF {c : Bool} {A B : Prop} (h : c = false) (b : B) : if c = true then A else B := by rw [h]; exact iteF b
theorem fmod_bd {x m : Int} (h : 0 < m) : 0 ≤ x.fmod m ∧ x.fmod m < m := ⟨Int.fmod_nonneg_of_pos x h, Int.fmod_lt_of_pos x h⟩
theorem fm64 {x m : Int} (h : 0 < m) (h2 : m ≤ 2 ^ 64) : -(2 ^ 64) < x.fmod m ∧ x.fmod m < 2 ^ 64 :=
  ⟨Int.lt_of_lt_of_le (by decide) (fmod_bd h).1, Int.lt_of_lt_of_le (fmod_bd h).2 h2⟩
theorem atI_int {α : Type} {xs : List α} {r : Int} (h0 : 0 ≤ r) (h : r.toNat < xs.length) : atI xs r = some xs[r.toNat] := by
  have e := atI_nat (xs := xs) (j := r.toNat) (List.getElem?_eq_getElem h)
  rwa [Int.toNat_of_nonneg h0] at e
/-! ### the promises of the draws -/
def spCell (K : PySem.W.Frag) : Sp := fun vs H Q _ => ∃ (l : Addr) (ns : List Int) (j : Int), vs = [.ref l, .int j] ∧ SqL K H l (ns.map V.int) ∧ 0 ≤ j ∧ ∀ i : Int, Q (.int i) H
def spSource : Sp := fun vs H Q _ => ∃ c : Int, vs = [.int c] ∧ ∀ p H', H p = none → Same H H' → Src H' p → Q (.ref p) H'
def spPick : Sp := fun vs H Q _ => ∃ (a : Addr) (n : Int), vs = [.ref a, .int n] ∧ Src H a ∧ n < 1073741824 ∧ ∀ (r : Int) (H' : Hp), Stp a H H' → 0 ≤ r → (r < n ∨ r = 0) → Q (.int r) H'
def spOne (K : PySem.W.Frag) : Sp := fun vs H Q _ => ∃ (a : Addr) (row : V), vs = [.ref a, row] ∧ Src H a ∧
  ((∃ (p : Addr) (xs : List V), row = .ref p ∧ p ≠ a ∧ SqL K H p xs ∧ 0 < xs.length ∧ xs.length < 1000 ∧ ∀ v H', v ∈ xs → Stp a H H' → Q v H') ∨
   (∃ z : Str, row = .str z ∧ 0 < z.length ∧ z.length < 1000 ∧ ∀ (c : Nat) H', c ∈ z.cps.toList → Stp a H H' → Q (.str ⟨#[c]⟩) H'))
section
variable {P : Program} {w : World} {K : PySem.W.Frag} {mg : Str → Option Value} {base : Heap}
theorem ok_l_cell (T : Txt w K mg) : FnOk P w K mg base CX0 1 T.a_l_cell T.d_l_cell p_l_cell (spCell K) := by
  refine T.F_l_cell.ok sc_l_cell (fun vs H Q E h => ?_) (fun cdv A outer s H vs Q E hr h => ?_)
  · obtain ⟨l, ns, j, rfl, _⟩ := h
    rfl
  obtain ⟨l, ns, j, rfl, hS, h0, q⟩ := h
  refine ⟨_, (pss_cons (ps_if (pt_cmpR op_lt (pv 1) (pe_callB call_len_seq rfl T.z_len PySem.boot_len (pa_cons (pv 0) pa_nil)) (nomark _)) (pss_one (ps_ret (pe_ix ix_list (pv 0) (pv 1) (fun _ _ => rfl)))) pss_nil)
      (pss_one (ps_ret pe_int))), ?_⟩
  have hl : (ns.map V.int).length = ns.length := List.length_map _
  refine ⟨_, rfl, _, rfl, l, _, rfl, .inl hS, _, _, rfl, rfl, _, rfl, ?_⟩
  refine ite2 (fun c => ?_) (fun c => ?_)
  · have c' : j < (((ns.map V.int).length : Nat) : Int) := of_decide_eq_true c
    rw [hl] at c'
    have hk : j.toNat < ns.length := by omega
    have e := atI_int (xs := ns.map V.int) h0 (by omega)
    rw [List.getElem_map] at e
    exact ⟨_, rfl, _, rfl, l, _, _, _, rfl, rfl, hS, e, q _⟩
  · exact q 0
theorem ok_l_source (T : Txt w K mg) : FnOk P w K mg base CX0 1 T.a_l_source T.d_l_source p_l_source spSource := by
  refine T.F_l_source.ok sc_l_source (fun vs H Q E h => ?_) (fun cdv A outer s H vs Q E hr h => ?_)
  · obtain ⟨c, rfl, _⟩ := h
    rfl
  obtain ⟨c, rfl, q⟩ := h
  refine ⟨_, (pss_one (ps_ret (pe_lst (pa_cons (pv 0) (pa_cons (pv 0) (pa_cons pe_int pa_nil)))))), ?_⟩
  refine ⟨_, rfl, _, rfl, (by show 3 ≤ sizeLine; decide), fun p hp => ?_⟩
  exact q p _ hp (Same.new hp _) ⟨c, c, 0, upd_same⟩
theorem ok_l_pick (T : Txt w K mg) : FnOk P w K mg base CX0 1 T.a_l_pick T.d_l_pick p_l_pick spPick := by
  refine T.F_l_pick.ok sc_l_pick (fun vs H Q E h => ?_) (fun cdv A outer s H vs Q E hr h => ?_)
  · obtain ⟨a, n, rfl, _⟩ := h
    rfl
  obtain ⟨a, n, rfl, ⟨c, m, k, hS⟩, hn, q⟩ := h
  refine ⟨_, (pss_cons (ps_set (i := 2) sc_l_pick.nd rfl (Or.inl rfl) (pe_ix ix_list (pv 0) pe_int (fun _ _ => rfl)))
      (pss_cons (ps_asg (pe_op op_add (pv 2) pe_int) (pg_sub (pv 0) pe_int set_list))
      (pss_cons (ps_if (pt_cmpR op_lt (pv 1) pe_int (nomark _)) (pss_one (ps_ret pe_int)) pss_nil)
      (pss_cons (ps_if (PW.pt (pw_and (pt_cmpR op_ge (pe_ix ix_list (pv 0) pe_int (fun _ _ => rfl)) (pe_op op_pow pe_int pe_int) (nomark _)) (pw_and1 (pt_cmpR op_gt (pe_ix ix_list (pv 0) pe_int (fun _ _ => rfl)) pe_int (nomark _))))) (pss_cons (ps_set (i := 3) sc_l_pick.nd rfl (Or.inl rfl) (pe_op op_modN (pe_callTy call_int1 rfl T.z_int bt_int (pa_cons (pe_ix ix_list (pv 0) pe_int (fun _ _ => rfl)) pa_nil)) (pv 1)))
      (pss_cons (ps_asg (pe_op op_fdivN (pe_ix ix_list (pv 0) pe_int (fun _ _ => rfl)) (pv 1)) (pg_sub (pv 0) pe_int set_list))
      (pss_one (ps_ret (pv 3))))) pss_nil)
      (pss_cons (ps_set (i := 4) sc_l_pick.nd rfl (Or.inl rfl) (pe_op op_modN (pe_callTy call_int1 rfl T.z_int bt_int (pa_cons (pe_op op_add (pe_op op_add (pe_ix ix_list (pv 0) pe_int (fun _ _ => rfl)) (pe_op op_mul pe_int (pv 2))) pe_int) pa_nil)) pe_int))
      (pss_cons (ps_set (i := 4) sc_l_pick.nd rfl (Or.inl rfl) (pe_op op_modN (pe_callTy call_int1 rfl T.z_int bt_int (pa_cons (pe_op op_mul (pv 4) (pe_op op_add (pv 4) pe_int)) pa_nil)) pe_int))
      (pss_cons (ps_set (i := 4) sc_l_pick.nd rfl (Or.inl rfl) (pe_op op_modN (pe_callTy call_int1 rfl T.z_int bt_int (pa_cons (pe_op op_add (pe_op op_mul (pv 4) (pe_op op_add (pv 4) pe_int)) (pe_op op_mul pe_int (pv 2))) pa_nil)) pe_int))
      (pss_one (ps_ret (pe_op op_modN (pe_callTy call_int1 rfl T.z_int bt_int (pa_cons (pe_op op_fdivN (pv 4) pe_int) pa_nil)) (pv 1))))))))))), ?_⟩
  refine ⟨_, rfl, a, _, 2, _, rfl, rfl, SqL.of hS, rfl, ?_⟩
  refine ⟨_, rfl, k, 1, rfl, rfl, _, rfl, a, _, 2, 2, rfl, rfl, hS, rfl, ?_⟩
  have h1 : (upd H a (.lst [.int c, .int m, .int (k + 1)])) a = some (.lst [.int c, .int m, .int (k + 1)]) := upd_same
  have st : Stp a H (upd H a (.lst [.int c, .int m, .int (k + 1)])) := ⟨⟨c, m, k + 1, upd_same⟩, fun b o hb e => by rw [upd_ne hb]; exact e⟩
  refine ⟨_, rfl, n, 2, rfl, rfl, _, rfl, ?_⟩
  refine ite2 (fun _ => ?_) (fun c2 => ?_)
  · exact q 0 _ st (Int.le_refl 0) (.inr rfl)
  have hn2 : ¬ n < 2 := of_decide_eq_false (Bool.eq_false_iff.mpr c2)
  refine ⟨_, rfl, a, _, 0, _, rfl, rfl, SqL.of h1, rfl, 10, 18, rfl, rfl, ⟨by decide, by decide, by decide⟩, _, _, rfl, rfl, _, rfl, ?_⟩
  refine ite2 (fun _ => ⟨_, rfl, a, _, 1, _, rfl, rfl, SqL.of h1, rfl, _, _, rfl, rfl, _, rfl, ite2 (fun _ => ?first) (fun _ => ?second)⟩) (fun _ => iteF ?third)
  case first =>
    refine ⟨_, rfl, a, _, 1, _, rfl, rfl, SqL.of h1, rfl, .inl ⟨_, rfl, ?_⟩⟩
    refine ⟨_, rfl, _, _, rfl, rfl, by omega, ?_⟩
    refine ⟨_, rfl, a, _, 1, _, rfl, rfl, SqL.of h1, rfl, _, rfl, m, n, rfl, rfl, ⟨by omega, by omega⟩, _, rfl, a, _, 1, 1, rfl, rfl, h1, rfl, ?_⟩
    refine ⟨_, rfl, ?_⟩
    have b := fmod_bd (x := m) (m := n) (by omega)
    refine q _ _ ⟨⟨c, m.fdiv n, k + 1, upd_same⟩, fun b o hb e => ?_⟩ b.1 (.inl b.2)
    rw [upd_ne hb]
    exact st.k b o hb e
  all_goals
    refine ⟨_, rfl, a, _, 0, _, rfl, rfl, SqL.of h1, rfl, _, rfl, 7919, k, rfl, rfl, .inl ⟨by decide, by decide⟩, _, _, rfl, rfl, _, _, rfl, rfl, .inl ⟨_, rfl, ?_⟩⟩
    refine ⟨_, _, rfl, rfl, (by intro z; cases z), ?_⟩
    refine ⟨_, rfl, _, rfl, _, _, rfl, rfl, _, _, rfl, rfl, .inl (fm64 (by decide) (by decide)), .inl ⟨_, rfl, ?_⟩⟩
    refine ⟨_, _, rfl, rfl, (by intro z; cases z), ?_⟩
    refine ⟨_, rfl, _, rfl, _, _, rfl, rfl, _, _, rfl, rfl, .inl (fm64 (by decide) (by decide)), _, rfl, 31, k, rfl, rfl, .inl ⟨by decide, by decide⟩, _, _, rfl, rfl, .inl ⟨_, rfl, ?_⟩⟩
    refine ⟨_, _, rfl, rfl, (by intro z; cases z), ?_⟩
    refine ⟨_, rfl, _, _, rfl, rfl, ⟨by decide, by decide⟩, .inl ⟨_, rfl, ?_⟩⟩
    refine ⟨_, rfl, _, _, rfl, rfl, (by omega), ?_⟩
    exact q _ _ st (fmod_bd (by omega)).1 (.inl (fmod_bd (by omega)).2)
theorem ok_l_one (T : Txt w K mg) : FnOk P w K mg base CX0 2 T.a_l_one T.d_l_one p_l_one (spOne K) := by
  have g_l_pick := ok_l_pick (P := P) (w := w) (base := base) T
  refine T.F_l_one.ok sc_l_one (fun vs H Q E h => ?_) (fun cdv A outer s H vs Q E hr h => ?_)
  · obtain ⟨a, row, rfl, _⟩ := h
    rfl
  obtain ⟨a, row, rfl, hS, h⟩ := h
  refine ⟨_, (pss_one (ps_ret (pe_ix ix_seq (pv 1) (pe_call g_l_pick (hr.mono (by first | decide | omega)) rfl T.m_l_pick T.F_l_pick.kp T.b_l_pick .nil pass0 (pa_cons (pv 0) (pa_cons (pe_callB call_len rfl T.z_len PySem.boot_len (pa_cons (pv 1) pa_nil)) pa_nil))) (fun _ _ => rfl)))), ?_⟩
  rcases h with ⟨p, xs, rfl, ne, hx, h0, h9, q⟩ | ⟨z, rfl, h0, h9, q⟩
  · refine ⟨_, rfl, _, rfl, _, rfl, .ref p, xs.length, rfl, .inl ⟨_, hx, rfl⟩, ?_⟩
    refine ⟨a, _, rfl, hS, by omega, fun r H' st r0 r1 => ?_⟩
    have hr' : r.toNat < xs.length := by omega
    have e := atI_int (xs := xs) r0 hr'
    exact .inl ⟨p, xs, r, _, rfl, rfl, st.rdL hx ne, e, q _ _ (List.getElem_mem hr') st⟩
  · refine ⟨_, rfl, _, rfl, _, rfl, .str z, z.length, rfl, ⟨Nat.le_of_lt (small1000 (by omega)), rfl⟩, ?_⟩
    refine ⟨a, _, rfl, hS, by omega, fun r H' st r0 r1 => ?_⟩
    have ez : z.length = z.cps.toList.length := by simp [Str.length]
    have hr' : r.toNat < z.cps.toList.length := by omega
    have e := atI_int (xs := z.cps.toList) r0 hr'
    exact .inr (.inr ⟨z, r, _, rfl, rfl, Nat.le_of_lt (small1000 (by omega)), e, q _ _ (List.getElem_mem hr') st⟩)
end
/-! ### data: equal data are the same to _law_same -/
def Dok : Nat → PyData → Prop
  | 0, _ => False
  | _ + 1, .none => True
  | _ + 1, .bool _ => True
  | _ + 1, .int _ => True
  | _ + 1, .str _ => True
  | n + 1, .tuple ds => ds.length ≤ 100000 ∧ ∀ d ∈ ds, Dok n d
  | n + 1, .list ds => ds.length ≤ 100000 ∧ ∀ d ∈ ds, Dok n d
  | _ + 1, .dict _ => False
theorem dpAll_len {K : PySem.W.Frag} {H : Hp} : ∀ {vs : List V} {ds : List PyData}, DpAll K H vs ds → vs.length = ds.length
  | _, _, .nil => rfl
  | _, _, .cons _ r => congrArg (· + 1) (dpAll_len r)
theorem dpAll_get {K : PySem.W.Frag} {H : Hp} : ∀ {vs : List V} {ds : List PyData} {i : Nat} {d : PyData}, DpAll K H vs ds → ds[i]? = some d → ∃ v, vs[i]? = some v ∧ Dp K H v d
  | _, _, _, _, .nil, e => by simp at e
  | _, _, 0, d, .cons h _, e => by
    simp at e
    subst e
    exact ⟨_, rfl, h⟩
  | _, _, i + 1, d, .cons _ r, e => by
    obtain ⟨v, h1, h2⟩ := dpAll_get (i := i) r (by simpa using e)
    exact ⟨v, by simpa using h1, h2⟩
theorem tyL {K : PySem.W.Frag} {H : Hp} {a : Addr} {xs : List V} (h : SqL K H a xs) : TyX K H (.ref a) (.type "list") := by
  rcases h with (h | ⟨o, h⟩) | ⟨o, its, n, h, c, _⟩
  · exact .base (.lst h)
  · exact .base (.frz h)
  · exact .kList h c
theorem tyT {K : PySem.W.Frag} {H : Hp} {a : Addr} {xs : List V} (h : SqT K H a xs) : TyX K H (.ref a) (.type "tuple") := by
  rcases h with (h | ⟨o, h⟩) | ⟨o, its, n, h, c, _⟩
  · exact .base (.tup h)
  · exact .fTuple h
  · exact .kTuple h c
theorem isi {K : PySem.W.Frag} {H : Hp} {Q : VK} {x : V} {t c : String} (b : Bool) (ty : TyX K H x (.type t)) (kb : kitB t c = some b) (q : Q (.bl b) H) : rIsi K [x, .ty c] H Q := ⟨x, .ty c, _, _, b, rfl, .ty c, ty, kit_ty kb, q⟩
theorem kb_nt : kitB "NoneType" "tuple" = some false := by decide +kernel
theorem kb_nl : kitB "NoneType" "list" = some false := by decide +kernel
theorem kb_bt : kitB "bool" "tuple" = some false := by decide +kernel
theorem kb_bl : kitB "bool" "list" = some false := by decide +kernel
theorem kb_bb : kitB "bool" "bool" = some true := by decide +kernel
theorem kb_it : kitB "int" "tuple" = some false := by decide +kernel
theorem kb_il : kitB "int" "list" = some false := by decide +kernel
theorem kb_ib : kitB "int" "bool" = some false := by decide +kernel
theorem kb_ii : kitB "int" "int" = some true := by decide +kernel
theorem kb_st : kitB "str" "tuple" = some false := by decide +kernel
theorem kb_sl : kitB "str" "list" = some false := by decide +kernel
theorem kb_sb : kitB "str" "bool" = some false := by decide +kernel
theorem kb_si : kitB "str" "int" = some false := by decide +kernel
theorem kb_ss : kitB "str" "str" = some true := by decide +kernel
theorem kb_tt : kitB "tuple" "tuple" = some true := by decide +kernel
theorem kb_tl : kitB "tuple" "list" = some false := by decide +kernel
theorem kb_lt : kitB "list" "tuple" = some false := by decide +kernel
theorem kb_ll : kitB "list" "list" = some true := by decide +kernel
def spSame (K : PySem.W.Frag) (n : Nat) : Sp := fun vs H Q _ => ∃ (x y : V) (d : PyData), vs = [x, y] ∧ Dp K H x d ∧ Dp K H y d ∧ Dok n d ∧ Q (.bl true) H
section
variable {P : Program} {w : World} {K : PySem.W.Frag} {mg : Str → Option Value} {base : Heap}
theorem ok_l_same0 (T : Txt w K mg) : FnOk P w K mg base CX0 0 T.a_l_same T.d_l_same p_l_same (spSame K 0) := by
  have no : ∀ vs H Q E, ¬ spSame K 0 vs H Q E := fun vs H Q E h => by
    obtain ⟨x, y, d, _, _, _, h, _⟩ := h
    exact h
  exact ⟨fun vs H Q E h => absurd h (no vs H Q E), fun A outer s H args us vs Q E _ _ _ _ h => absurd h (no vs H Q E)⟩
/-- the part for two lists or two tuples -/
theorem same_seq {n : Nat} {H : Hp} {p r : Addr} {xs ys : List V} {ds : List PyData} (h1 : SqL K H p xs ∨ SqT K H p xs) (h2 : SqL K H r ys ∨ SqT K H r ys) (d1 : DpAll K H xs ds) (d2 : DpAll K H ys ds)
    (hd : ∀ d ∈ ds, Dok n d) {i : Nat} (hi : i < ds.length) {R : V → Hp → Prop} (q : R (.bl true) H) :
    tCall (spSame K n) [] E0 (tCons (tOp (rIx K) (tVar 0) (tVar 2)) (tCons (tOp (rIx K) (tVar 1) (tVar 2)) tNil)) [some (.ref p), some (.ref r), some (.int (0 + (i : Int)))] H R := by
  obtain ⟨x, e1, q1⟩ := dpAll_get (i := i) d1 (List.getElem?_eq_getElem hi)
  obtain ⟨y, e2, q2⟩ := dpAll_get (i := i) d2 (List.getElem?_eq_getElem hi)
  have a1 : atI xs (0 + (i : Int)) = some x := by rw [Int.zero_add]; exact atI_nat e1
  have a2 : atI ys (0 + (i : Int)) = some y := by rw [Int.zero_add]; exact atI_nat e2
  have k2 : tOp (rIx K) (tVar 1) (tVar 2) [some (.ref p), some (.ref r), some (.int (0 + (i : Int)))] H (fun v H' => tNil [some (.ref p), some (.ref r), some (.int (0 + (i : Int)))] H' fun vs H'' => spSame K n ((x :: v :: vs) ++ []) H'' R E0) := by
    refine ⟨_, rfl, _, rfl, ?_⟩
    have z : spSame K n [x, y] H R E0 := ⟨x, y, _, rfl, q1, q2, hd _ (List.getElem_mem hi), q⟩
    rcases h2 with h2 | h2
    · exact .inl ⟨r, _, _, _, rfl, rfl, h2, a2, z⟩
    · exact .inr (.inl ⟨r, _, _, _, rfl, rfl, h2, a2, z⟩)
  refine ⟨_, rfl, _, rfl, ?_⟩
  rcases h1 with h1 | h1
  · exact .inl ⟨p, _, _, _, rfl, rfl, h1, a1, k2⟩
  · exact .inr (.inl ⟨p, _, _, _, rfl, rfl, h1, a1, k2⟩)
theorem ok_l_same (T : Txt w K mg) : ∀ n : Nat, FnOk P w K mg base CX0 n T.a_l_same T.d_l_same p_l_same (spSame K n)
  | 0 => ok_l_same0 T
  | n + 1 => by
    have g_l_same := ok_l_same T n
    refine T.F_l_same.ok sc_l_same (fun vs H Q E h => ?_) (fun cdv A outer s H vs Q E hr h => ?_)
    · obtain ⟨x, y, d, rfl, _⟩ := h
      rfl
    obtain ⟨x, y, d, rfl, hx, hy, hd, q⟩ := h
    refine ⟨_, (pss_cons (ps_if (PW.pt (pw_or (pt_val (pe_callB call_isi rfl T.z_isinstance bb_isinstance (pa_cons (pv 1) (pa_cons (pe_bltn (v := .ty "tuple") rfl T.z_tuple bt_tuple rfl) pa_nil)))) (pw_or1 (pt_val (pe_callB call_isi rfl T.z_isinstance bb_isinstance (pa_cons (pv 1) (pa_cons (pe_bltn (v := .ty "list") rfl T.z_list bt_list rfl) pa_nil))))))) (pss_cons (ps_if (PW.pt (pw_or (pt_cmpR op_ne (pe_callB call_isi rfl T.z_isinstance bb_isinstance (pa_cons (pv 1) (pa_cons (pe_bltn (v := .ty "tuple") rfl T.z_tuple bt_tuple rfl) pa_nil))) (pe_callB call_isi rfl T.z_isinstance bb_isinstance (pa_cons (pv 0) (pa_cons (pe_bltn (v := .ty "tuple") rfl T.z_tuple bt_tuple rfl) pa_nil))) (nomark _)) (pw_or1 (pt_cmpR op_ne (pe_callB call_isi rfl T.z_isinstance bb_isinstance (pa_cons (pv 1) (pa_cons (pe_bltn (v := .ty "list") rfl T.z_list bt_list rfl) pa_nil))) (pe_callB call_isi rfl T.z_isinstance bb_isinstance (pa_cons (pv 0) (pa_cons (pe_bltn (v := .ty "list") rfl T.z_list bt_list rfl) pa_nil))) (nomark _))))) (pss_one (ps_ret pe_bl)) pss_nil)
      (pss_cons (ps_if (pt_cmpR op_ne (pe_callB call_len_seq rfl T.z_len PySem.boot_len (pa_cons (pv 0) pa_nil)) (pe_callB call_len_seq rfl T.z_len PySem.boot_len (pa_cons (pv 1) pa_nil)) (nomark _)) (pss_one (ps_ret pe_bl)) pss_nil)
      (pss_cons (ps_for PassesOwn.never rfl (pi_range1 rfl T.z_range (pa_cons (pe_callB call_len_seq rfl T.z_len PySem.boot_len (pa_cons (pv 1) pa_nil)) pa_nil)) (pg_name (i := 2) sc_l_same.nd rfl (Or.inl rfl))
        (pss_one (ps_if (pt_not (pt_val (pe_call g_l_same (hr.mono (by first | decide | omega)) rfl T.m_l_same T.F_l_same.kp T.b_l_same .nil pass0 (pa_cons (pe_ix ix_seq (pv 0) (pv 2) (fun _ _ => rfl)) (pa_cons (pe_ix ix_seq (pv 1) (pv 2) (fun _ _ => rfl)) pa_nil))))) (pss_one (ps_ret pe_bl)) pss_nil)))
      (pss_one (ps_ret pe_bl))))) pss_nil)
      (pss_cons (ps_if (pt_cmpR op_isN (pv 1) pe_non (nomark _)) (pss_one (ps_ret (pe_cmpR op_isN (pv 0) pe_non (nomark _)))) pss_nil)
      (pss_cons (ps_if (pt_val (pe_callB call_isi rfl T.z_isinstance bb_isinstance (pa_cons (pv 1) (pa_cons (pe_bltn (v := .ty "bool") rfl T.z_bool bt_bool rfl) pa_nil)))) (pss_one (ps_ret (pe_and (pe_callB call_isi rfl T.z_isinstance bb_isinstance (pa_cons (pv 0) (pa_cons (pe_bltn (v := .ty "bool") rfl T.z_bool bt_bool rfl) pa_nil))) (pe_one (pe_cmpR op_eq (pv 0) (pv 1) (nomark _)))))) pss_nil)
      (pss_cons (ps_if (pt_val (pe_callB call_isi rfl T.z_isinstance bb_isinstance (pa_cons (pv 1) (pa_cons (pe_bltn (v := .ty "int") rfl T.z_int bt_int rfl) pa_nil)))) (pss_one (ps_ret (pe_and (pe_callB call_isi rfl T.z_isinstance bb_isinstance (pa_cons (pv 0) (pa_cons (pe_bltn (v := .ty "int") rfl T.z_int bt_int rfl) pa_nil))) (pe_and (pe_not (pe_callB call_isi rfl T.z_isinstance bb_isinstance (pa_cons (pv 0) (pa_cons (pe_bltn (v := .ty "bool") rfl T.z_bool bt_bool rfl) pa_nil)))) (pe_one (pe_cmpR op_eq (pv 0) (pv 1) (nomark _))))))) pss_nil)
      (pss_one (ps_ret (pe_and (pe_callB call_isi rfl T.z_isinstance bb_isinstance (pa_cons (pv 0) (pa_cons (pe_bltn (v := .ty "str") rfl T.z_str bt_str rfl) pa_nil))) (pe_one (pe_cmpR op_eq (pv 0) (pv 1) (nomark _)))))))))), ?_⟩
    cases hx with
    | non =>
      cases hy
      refine ⟨_, rfl, _, _, _, _, false, rfl, .ty _, (.base .non), kit_ty kb_nt, ⟨_, rfl, iteF ⟨_, rfl, _, _, _, _, false, rfl, .ty _, (.base .non), kit_ty kb_nl, ⟨_, rfl, iteF ?_⟩⟩⟩⟩
      refine ⟨_, rfl, rfl, _, rfl, iteT ?_⟩
      exact ⟨_, rfl, rfl, q⟩
    | bl b =>
      cases hy
      refine ⟨_, rfl, _, _, _, _, false, rfl, .ty _, (.base (.bl _)), kit_ty kb_bt, ⟨_, rfl, iteF ⟨_, rfl, _, _, _, _, false, rfl, .ty _, (.base (.bl _)), kit_ty kb_bl, ⟨_, rfl, iteF ?_⟩⟩⟩⟩
      refine ⟨_, rfl, rfl, _, rfl, iteF ?_⟩
      refine ⟨_, rfl, _, _, _, _, true, rfl, .ty _, (.base (.bl _)), kit_ty kb_bb, ⟨_, rfl, iteT ?_⟩⟩
      refine ⟨_, rfl, _, _, _, _, true, rfl, .ty _, (.base (.bl _)), kit_ty kb_bb, ⟨_, rfl, iteT ?_⟩⟩
      refine ⟨_, rfl, _, rfl, rfl, ?_⟩
      rw [decide_eq_true rfl]
      exact q
    | int b =>
      cases hy
      refine ⟨_, rfl, _, _, _, _, false, rfl, .ty _, (.base (.int _)), kit_ty kb_it, ⟨_, rfl, iteF ⟨_, rfl, _, _, _, _, false, rfl, .ty _, (.base (.int _)), kit_ty kb_il, ⟨_, rfl, iteF ?_⟩⟩⟩⟩
      refine ⟨_, rfl, rfl, _, rfl, iteF ?_⟩
      refine ⟨_, rfl, _, _, _, _, false, rfl, .ty _, (.base (.int _)), kit_ty kb_ib, ⟨_, rfl, iteF ?_⟩⟩
      refine ⟨_, rfl, _, _, _, _, true, rfl, .ty _, (.base (.int _)), kit_ty kb_ii, ⟨_, rfl, iteT ?_⟩⟩
      refine ⟨_, rfl, _, _, _, _, true, rfl, .ty _, (.base (.int _)), kit_ty kb_ii, ⟨_, rfl, iteT ?_⟩⟩
      refine ⟨_, rfl, _, _, _, _, false, rfl, .ty _, (.base (.int _)), kit_ty kb_ib, ⟨_, rfl, _, rfl, iteT ?_⟩⟩
      refine ⟨_, rfl, _, rfl, rfl, ?_⟩
      rw [decide_eq_true rfl]
      exact q
    | str b =>
      cases hy
      refine ⟨_, rfl, _, _, _, _, false, rfl, .ty _, (.base (.str _)), kit_ty kb_st, ⟨_, rfl, iteF ⟨_, rfl, _, _, _, _, false, rfl, .ty _, (.base (.str _)), kit_ty kb_sl, ⟨_, rfl, iteF ?_⟩⟩⟩⟩
      refine ⟨_, rfl, rfl, _, rfl, iteF ?_⟩
      refine ⟨_, rfl, _, _, _, _, false, rfl, .ty _, (.base (.str _)), kit_ty kb_sb, ⟨_, rfl, iteF ?_⟩⟩
      refine ⟨_, rfl, _, _, _, _, false, rfl, .ty _, (.base (.str _)), kit_ty kb_si, ⟨_, rfl, iteF ?_⟩⟩
      refine ⟨_, rfl, _, _, _, _, true, rfl, .ty _, (.base (.str _)), kit_ty kb_ss, ⟨_, rfl, iteT ?_⟩⟩
      refine ⟨_, rfl, _, rfl, rfl, ?_⟩
      rw [decide_eq_true rfl]
      exact q
    | @lst p xs ds h1 d1 =>
      cases hy with
      | @lst r ys _ h2 d2 =>
      have l1 := dpAll_len d1
      have l2 := dpAll_len d2
      obtain ⟨hlen, hd⟩ := hd
      refine ⟨_, rfl, _, _, _, _, false, rfl, .ty _, (tyL h2), kit_ty kb_lt, ⟨_, rfl, iteF ⟨_, rfl, _, _, _, _, true, rfl, .ty _, (tyL h2), kit_ty kb_ll, ⟨_, rfl, iteT ?_⟩⟩⟩⟩
      refine ⟨_, rfl, _, _, _, _, false, rfl, .ty _, (tyL h2), kit_ty kb_lt, ⟨_, rfl, _, _, _, _, false, rfl, .ty _, (tyL h1), kit_ty kb_lt, ⟨rfl, _, rfl, iteF ?_⟩⟩⟩
      refine ⟨_, rfl, _, _, _, _, true, rfl, .ty _, (tyL h2), kit_ty kb_ll, ⟨_, rfl, _, _, _, _, true, rfl, .ty _, (tyL h1), kit_ty kb_ll, ⟨rfl, _, rfl, iteF ?_⟩⟩⟩
      refine ⟨_, rfl, p, _, rfl, .inl h1, _, rfl, r, _, rfl, .inl h2, rfl, _, rfl, ?_⟩
      refine iteNS (congrArg V.int (by omega)) ?_
      refine ⟨_, rfl, r, _, rfl, .inl h2, _, rfl, by omega, by omega, for_range (lo := 0) (fun i σ H' => H' = H ∧ ∃ v : Option V, σ = [some (.ref p), some (.ref r), v]) ⟨rfl, none, rfl⟩ ?_ ?_⟩
      · rintro i σ H' hi ⟨rfl, v, rfl⟩
        refine same_seq (.inl h1) (.inl h2) d1 d2 hd (by omega) ⟨_, rfl, iteF ?_⟩
        exact ⟨rfl, _, rfl⟩
      · rintro σ H' ⟨rfl, v, rfl⟩
        exact q
    | @tup p xs ds h1 d1 =>
      cases hy with
      | @tup r ys _ h2 d2 =>
      have l1 := dpAll_len d1
      have l2 := dpAll_len d2
      obtain ⟨hlen, hd⟩ := hd
      refine ⟨_, rfl, _, _, _, _, true, rfl, .ty _, (tyT h2), kit_ty kb_tt, ⟨_, rfl, iteT ?_⟩⟩
      refine ⟨_, rfl, _, _, _, _, true, rfl, .ty _, (tyT h2), kit_ty kb_tt, ⟨_, rfl, _, _, _, _, true, rfl, .ty _, (tyT h1), kit_ty kb_tt, ⟨rfl, _, rfl, iteF ?_⟩⟩⟩
      refine ⟨_, rfl, _, _, _, _, false, rfl, .ty _, (tyT h2), kit_ty kb_tl, ⟨_, rfl, _, _, _, _, false, rfl, .ty _, (tyT h1), kit_ty kb_tl, ⟨rfl, _, rfl, iteF ?_⟩⟩⟩
      refine ⟨_, rfl, p, _, rfl, .inr h1, _, rfl, r, _, rfl, .inr h2, rfl, _, rfl, ?_⟩
      refine iteNS (congrArg V.int (by omega)) ?_
      refine ⟨_, rfl, r, _, rfl, .inr h2, _, rfl, by omega, by omega, for_range (lo := 0) (fun i σ H' => H' = H ∧ ∃ v : Option V, σ = [some (.ref p), some (.ref r), v]) ⟨rfl, none, rfl⟩ ?_ ?_⟩
      · rintro i σ H' hi ⟨rfl, v, rfl⟩
        refine same_seq (.inr h1) (.inr h2) d1 d2 hd (by omega) ⟨_, rfl, iteF ?_⟩
        exact ⟨rfl, _, rfl⟩
      · rintro σ H' ⟨rfl, v, rfl⟩
        exact q
end
/-! ### rows and matrices of whole numbers -/
open ZG (Sq ItzG walk_zipG)
theorem Sq.same {K : PySem.W.Frag} {t : Bool} {p : Addr} {H H' : Hp} {xs : List V} (s : Same H H') (h : Sq t K H p xs) : Sq t K H' p xs := by
  cases t
  · exact s.seq h
  · exact Same.tup s h
theorem Sq.upd_same {K : PySem.W.Frag} {p : Addr} {H : Hp} {xs : List V} : Sq false K (upd H p (.lst xs)) p xs := SqL.of L2.upd_same
theorem Sq.upd_sameT {K : PySem.W.Frag} {p : Addr} {H : Hp} {xs : List V} : Sq true K (upd H p (.tup xs)) p xs := SqT.of L2.upd_same
/-- what stood stands but at D -/
def But (D : Addr) (H H' : Hp) : Prop := ∀ b o, b ≠ D → H b = some o → H' b = some o
theorem But.of_same {D : Addr} {H H' : Hp} (s : Same H H') : But D H H' := fun b o _ e => s b o e
theorem But.upd {D : Addr} {H : Hp} (o : HO) : But D H (upd H D o) := fun b u ne e => by rw [upd_ne ne]; exact e
theorem But.trans {D : Addr} {H H1 H2 : Hp} (a : But D H H1) (b : But D H1 H2) : But D H H2 := fun c o ne e => b c o ne (a c o ne e)
theorem Sq.but {K : PySem.W.Frag} {t : Bool} {p D : Addr} {H H' : Hp} {xs : List V} (s : But D H H') (ne : p ≠ D) (h : Sq t K H p xs) : Sq t K H' p xs := by
  cases t
  · rcases h with (h | ⟨o, h⟩) | h
    · exact .inl (.inl (s _ _ ne h))
    · exact .inl (.inr ⟨o, s _ _ ne h⟩)
    · exact .inr h
  · rcases h with (h | ⟨o, h⟩) | h
    · exact .inl (.inl (s _ _ ne h))
    · exact .inl (.inr ⟨o, s _ _ ne h⟩)
    · exact .inr h
/-- a matrix at p: rows of kind t2 in a row of kind t1 -/
def Mx (t1 t2 : Bool) (K : PySem.W.Frag) (H : Hp) (p : Addr) (M : List (List Int)) : Prop :=
  ∃ as : List Addr, Sq t1 K H p (as.map V.ref) ∧ as.length = M.length ∧ ∀ (i : Nat) (a : Addr) (r : List Int), as[i]? = some a → M[i]? = some r → Sq t2 K H a (r.map V.int)
theorem Mx.same {t1 t2 : Bool} {K : PySem.W.Frag} {H H' : Hp} {p : Addr} {M : List (List Int)} (s : Same H H') (h : Mx t1 t2 K H p M) : Mx t1 t2 K H' p M := by
  obtain ⟨as, h1, h2, h3⟩ := h
  exact ⟨as, Sq.same s h1, h2, fun i a r e1 e2 => Sq.same s (h3 i a r e1 e2)⟩
/-- its i-th row -/
theorem Mx.row {t1 t2 : Bool} {K : PySem.W.Frag} {H : Hp} {p : Addr} {M : List (List Int)} (h : Mx t1 t2 K H p M) : ∃ vs : List V, Sq t1 K H p vs ∧ vs.length = M.length ∧ ∀ (i : Nat) (v : V), vs[i]? = some v → ∃ (a : Addr) (r : List Int), v = .ref a ∧ M[i]? = some r ∧ Sq t2 K H a (r.map V.int) := by
  obtain ⟨as, h1, h2, h3⟩ := h
  refine ⟨as.map V.ref, h1, by rw [List.length_map]; exact h2, fun i v e => ?_⟩
  rw [List.getElem?_map] at e
  cases ea : as[i]? with
  | none => rw [ea] at e; cases e
  | some a =>
    rw [ea] at e
    cases e
    have hi : i < M.length := by
      have := (List.getElem?_eq_some_iff.mp ea).1
      omega
    exact ⟨a, M[i], rfl, List.getElem?_eq_getElem hi, h3 i a _ ea (List.getElem?_eq_getElem hi)⟩
theorem refs_of {K : PySem.W.Frag} {t2 : Bool} {H : Hp} : ∀ {ys : List V} {M : List (List Int)}, ys.length = M.length → (∀ (j : Nat) (y : V), ys[j]? = some y → ∃ (a : Addr) (r : List Int), y = .ref a ∧ M[j]? = some r ∧ Sq t2 K H a (r.map V.int)) →
    ∃ as : List Addr, ys = as.map V.ref ∧ as.length = M.length ∧ ∀ (i : Nat) (a : Addr) (r : List Int), as[i]? = some a → M[i]? = some r → Sq t2 K H a (r.map V.int)
  | [], [], _, _ => ⟨[], rfl, rfl, fun i a r e => by simp at e⟩
  | [], _ :: _, h, _ => by simp at h
  | _ :: _, [], h, _ => by simp at h
  | y :: ys, r :: M, h, k => by
    obtain ⟨as, e1, e2, e3⟩ := refs_of (ys := ys) (M := M) (by simpa using h) (fun j z e => by
      obtain ⟨a, r', h1, h2, h3⟩ := k (j + 1) z (by simpa using e)
      exact ⟨a, r', h1, by simpa using h2, h3⟩)
    obtain ⟨a, r', h1, h2, h3⟩ := k 0 y rfl
    have er : r = r' := by simpa using h2
    subst er
    subst h1 e1
    refine ⟨a :: as, rfl, by simp [e2], fun i b q e4 e5 => ?_⟩
    cases i with
    | zero =>
      cases e4
      cases e5
      exact h3
    | succ i => exact e3 i b q (by simpa using e4) (by simpa using e5)
theorem Mx.of {t1 t2 : Bool} {K : PySem.W.Frag} {H : Hp} {p : Addr} {ys : List V} {M : List (List Int)} (h : Sq t1 K H p ys) (l : ys.length = M.length) (k : ∀ (j : Nat) (y : V), ys[j]? = some y → ∃ (a : Addr) (r : List Int), y = .ref a ∧ M[j]? = some r ∧ Sq t2 K H a (r.map V.int)) : Mx t1 t2 K H p M := by
  obtain ⟨as, rfl, e2, e3⟩ := refs_of l k
  exact ⟨as, h, e2, e3⟩
theorem ys_ints {ns : List Int} : ∀ {ys : List V}, ys.length = ns.length → (∀ (j : Nat) (y : V), ys[j]? = some y → ∃ c, ns[j]? = some c ∧ y = .int c) → ys = ns.map V.int := by
  induction ns with
  | nil =>
    intro ys l _
    cases ys with
    | nil => rfl
    | cons _ _ => simp at l
  | cons n ns ih =>
    intro ys l k
    cases ys with
    | nil => simp at l
    | cons y ys =>
      obtain ⟨c, h1, h2⟩ := k 0 y rfl
      have e : n = c := by simpa using h1
      subst e h2
      rw [ih (ys := ys) (by simpa using l) (fun j z e => by
        obtain ⟨c, h1, h2⟩ := k (j + 1) z (by simpa using e)
        exact ⟨c, by simpa using h1, h2⟩)]
      rfl
/-- tuple(..) of a list or a tuple -/
def rTupOf (K : PySem.W.Frag) : List V → Hp → VK → Prop := fun xs H Q => ∃ p ys, xs = [.ref p] ∧ ((SqL K H p ys ∧ ∀ l, H l = none → Q (.ref l) (upd H l (.tup ys))) ∨ (SqT K H p ys ∧ Q (.ref p) H))
def rLenOf (K : PySem.W.Frag) : List V → Hp → VK → Prop := fun xs H Q => ∃ p ys, xs = [.ref p] ∧ (SqL K H p ys ∨ SqT K H p ys) ∧ Q (.int ys.length) H
/-- as data -/
def rowD (r : List Int) : PyData := .tuple (r.map PyData.int)
def matD (M : List (List Int)) : PyData := .tuple (M.map rowD)
theorem dp_ints {K : PySem.W.Frag} {H : Hp} : ∀ r : List Int, DpAll K H (r.map V.int) (r.map PyData.int)
  | [] => .nil
  | _ :: r => .cons (.int _) (dp_ints r)
theorem dp_rows {K : PySem.W.Frag} {H : Hp} : ∀ {as : List Addr} {M : List (List Int)}, as.length = M.length → (∀ (i : Nat) (a : Addr) (r : List Int), as[i]? = some a → M[i]? = some r → Sq true K H a (r.map V.int)) → DpAll K H (as.map V.ref) (M.map rowD)
  | [], [], _, _ => .nil
  | [], _ :: _, h, _ => by simp at h
  | _ :: _, [], h, _ => by simp at h
  | a :: as, r :: M, h, k => .cons (.tup (k 0 a r rfl rfl) (dp_ints r)) (dp_rows (by simpa using h) fun i b q e1 e2 => k (i + 1) b q (by simpa using e1) (by simpa using e2))
theorem Mx.dp {K : PySem.W.Frag} {H : Hp} {p : Addr} {M : List (List Int)} (h : Mx true true K H p M) : Dp K H (.ref p) (matD M) := by
  obtain ⟨as, h1, h2, h3⟩ := h
  exact .tup h1 (dp_rows h2 h3)
/-- all its rows have n numbers, n of them -/
def Sz (n : Nat) (M : List (List Int)) : Prop := M.length = n ∧ ∀ r ∈ M, r.length = n
theorem Sz.dok {n : Nat} {M : List (List Int)} (h : Sz n M) (hn : n ≤ 1000) : Dok 3 (matD M) := by
  refine ⟨by rw [List.length_map, h.1]; omega, fun d hd => ?_⟩
  obtain ⟨r, hr, rfl⟩ := List.mem_map.mp hd
  refine ⟨by rw [List.length_map, h.2 r hr]; omega, fun d hd => ?_⟩
  obtain ⟨c, _, rfl⟩ := List.mem_map.mp hd
  trivial
/-- a box: None, or a matrix -/
def BoxAt (K : PySem.W.Frag) (H : Hp) (v : V) : Option (List (List Int)) → Prop
  | none => v = .non
  | some M => ∃ p, v = .ref p ∧ Mx true true K H p M
def boxD : Option (List (List Int)) → PyData
  | none => .none
  | some M => matD M
theorem BoxAt.same {K : PySem.W.Frag} {H H' : Hp} {v : V} {B : Option (List (List Int))} (s : Same H H') (h : BoxAt K H v B) : BoxAt K H' v B := by
  cases B with
  | none => exact h
  | some M =>
    obtain ⟨p, e, h⟩ := h
    exact ⟨p, e, h.same s⟩
theorem BoxAt.dp {K : PySem.W.Frag} {H : Hp} {v : V} {B : Option (List (List Int))} (h : BoxAt K H v B) : Dp K H v (boxD B) := by
  cases B with
  | none =>
    obtain rfl : v = .non := h
    exact .non
  | some M =>
    obtain ⟨p, rfl, h⟩ := h
    exact h.dp
def BSz (n : Nat) (B : Option (List (List Int))) : Prop := ∀ M, B = some M → Sz n M
theorem BSz.dok {n : Nat} {B : Option (List (List Int))} (h : BSz n B) (hn : n ≤ 1000) : Dok 3 (boxD B) := by
  cases B with
  | none => trivial
  | some M => exact (h M rfl).dok hn
/-! ### comprehensions that leave what stood -/
def LcP (S : Hp → Prop) (R : Nat → V → Hp → Prop) (D : Addr) (i : Nat) (H : Hp) : Prop := S H ∧ ∃ acc : List V, H D = some (.lst acc) ∧ acc.length = i ∧ ∀ (j : Nat) (y : V), acc[j]? = some y → R j y H
theorem lcp_step {S : Hp → Prop} {R : Nat → V → Hp → Prop} {D : Addr} {i : Nat} {H H4 : Hp} {y : V} (P : LcP S R D i H) (e : ∀ o, H D = some o → H4 D = some o) (hi : i < sizeLine) (s : ∀ o, S (upd H4 D o)) (m : ∀ (j : Nat) (z : V) (o : HO), R j z H → R j z (upd H4 D o)) (r : ∀ o, R i y (upd H4 D o)) :
    ∃ acc, H4 D = some (.lst acc) ∧ acc.length < sizeLine ∧ LcP S R D (i + 1) (upd H4 D (.lst (acc ++ [y]))) := by
  obtain ⟨_, acc, h1, h2, h3⟩ := P
  refine ⟨acc, e _ h1, by omega, s _, _, upd_same, by simp [h2], fun j z ez => ?_⟩
  by_cases hj : j < i
  · rw [List.getElem?_append_left (by omega)] at ez
    exact m j z _ (h3 j z ez)
  · rw [List.getElem?_append_right (by omega)] at ez
    have ej : j = i := by
      have := (List.getElem?_eq_some_iff.mp ez).1
      simp at this
      omega
    subst ej
    rw [h2, Nat.sub_self] at ez
    have ez' : y = z := by simpa using ez
    rw [← ez']
    exact r _
/-- what the step of a comprehension that only makes new objects is to reach -/
theorem lcp_same {R : Nat → V → Hp → Prop} {D : Addr} {i : Nat} {H1 H H4 : Hp} {y : V} (P : LcP (Same H1) R D i H) (hD : H1 D = none) (s : Same H H4) (hi : i < sizeLine) (mono : ∀ (j : Nat) (z : V) (G G' : Hp), R j z G → But D G G' → R j z G') (r : R i y H4) :
    ∃ acc, H4 D = some (.lst acc) ∧ acc.length < sizeLine ∧ LcP (Same H1) R D (i + 1) (upd H4 D (.lst (acc ++ [y]))) :=
  lcp_step P (fun o e => s _ _ e) hi (fun o b u e => by rw [upd_ne (ne_of_none e hD)]; exact s _ _ (P.1 _ _ e)) (fun j z o q => mono j z _ _ q ((But.of_same s).trans (But.upd o))) fun o => mono i y _ _ r (But.upd o)
theorem lcp_start {R : Nat → V → Hp → Prop} {D : Addr} {H1 : Hp} (hD : H1 D = none) : LcP (Same H1) R D 0 (upd H1 D (.lst [])) :=
  ⟨fun b u e => by rw [upd_ne (ne_of_none e hD)]; exact e, [], upd_same, rfl, fun j y e => by simp at e⟩
/-- its numbers -/
def RInt (ns : List Int) : Nat → V → Hp → Prop := fun j y _ => ∃ c, ns[j]? = some c ∧ y = .int c
theorem RInt.mono {ns : List Int} {D : Addr} : ∀ (j : Nat) (z : V) (G G' : Hp), RInt ns j z G → But D G G' → RInt ns j z G' := fun _ _ _ _ h _ => h
/-- its rows -/
def RRow (K : PySem.W.Frag) (t : Bool) (M : List (List Int)) (D : Addr) : Nat → V → Hp → Prop := fun j y H => ∃ (a : Addr) (r : List Int), y = .ref a ∧ M[j]? = some r ∧ a ≠ D ∧ Sq t K H a (r.map V.int)
theorem RRow.mono {K : PySem.W.Frag} {t : Bool} {M : List (List Int)} {D : Addr} : ∀ (j : Nat) (z : V) (G G' : Hp), RRow K t M D j z G → But D G G' → RRow K t M D j z G' := by
  rintro j z G G' ⟨a, r, h1, h2, h3, h4⟩ b
  exact ⟨a, r, h1, h2, h3, Sq.but b h3 h4⟩
theorem lcp_ints {K : PySem.W.Frag} {S : Hp → Prop} {ns : List Int} {D : Addr} {n : Nat} {H : Hp} (P : LcP S (RInt ns) D n H) (hn : n = ns.length) : H D = some (.lst (ns.map V.int)) := by
  obtain ⟨_, acc, h1, h2, h3⟩ := P
  rw [h1, ys_ints (ns := ns) (by omega) h3]
theorem lcp_rows {K : PySem.W.Frag} {S : Hp → Prop} {t : Bool} {M : List (List Int)} {D : Addr} {n : Nat} {H : Hp} (P : LcP S (RRow K t M D) D n H) (hn : n = M.length) : Mx false t K H D M := by
  obtain ⟨_, acc, h1, h2, h3⟩ := P
  exact Mx.of (t1 := false) (SqL.of h1) (by omega) fun j y e => by
    obtain ⟨a, r, q1, q2, _, q3⟩ := h3 j y e
    exact ⟨a, r, q1, q2, q3⟩
theorem LcP.ne {S : Hp → Prop} {R : Nat → V → Hp → Prop} {D l : Addr} {i : Nat} {H : Hp} (P : LcP S R D i H) (hl : H l = none) : l ≠ D := by
  obtain ⟨_, acc, h, _⟩ := P
  exact fun z => absurd (z ▸ hl) (by rw [h]; intro z; cases z)
theorem lt_line {n : Nat} (h : n ≤ 10000000) : n < sizeLine := by rw [sizeLine_eq]; omega
/-- a comprehension without a test -/
theorem tyes {σ : L2.St} {H : Hp} {A B : Hp → Prop} (h : A H) : tYes σ H (fun b H3 => if b = true then A H3 else B H3) := by
  show if true = true then A H else B H
  rw [if_pos rfl]
  exact h
theorem get_int {r : List Int} {j : Nat} {v : V} (e : (r.map V.int)[j]? = some v) : ∃ k, r[j]? = some k ∧ v = .int k := by
  rw [List.getElem?_map] at e
  cases h : r[j]? with
  | none => rw [h] at e; cases e
  | some k => rw [h] at e; cases e; exact ⟨k, rfl, rfl⟩
theorem Sz.get {n i : Nat} {M : List (List Int)} {r : List Int} (h : Sz n M) (e : M[i]? = some r) : r.length = n := h.2 r (List.mem_of_getElem? e)
theorem zw_get {α β γ : Type} {f : α → β → γ} {xs : List α} {ys : List β} {i : Nat} {x : α} {y : β} (e1 : xs[i]? = some x) (e2 : ys[i]? = some y) : (List.zipWith f xs ys)[i]? = some (f x y) := by
  rw [List.getElem?_zipWith, e1, e2]
theorem lcp_put {R : Nat → V → Hp → Prop} {D : Addr} {i : Nat} {H1 H H4 : Hp} {y : V} {acc : List V} (P : LcP (Same H1) R D i H) (e : H D = some (.lst acc)) (hD : H1 D = none) (s : Same H H4) (hi : i < sizeLine) (mono : ∀ (j : Nat) (z : V) (G G' : Hp), R j z G → But D G G' → R j z G') (r : R i y H4) :
    LcP (Same H1) R D (i + 1) (upd H4 D (.lst (acc ++ [y]))) := by
  obtain ⟨acc', h1, _, h3⟩ := lcp_same P hD s hi mono r
  have := s _ _ e
  rw [this] at h1
  cases h1
  exact h3
/-- (0,) and the numbers of a row -/
theorem cat0 {K : PySem.W.Frag} {H : Hp} {t a : Addr} {r : List Int} {Q : VK} (h1 : SqT K H t [.int 0]) (h2 : SqT K H a (r.map V.int)) (hz : r.length ≤ 1000) (q : ∀ z H', Same H H' → SqT K H' z ((0 :: r).map V.int) → Q (.ref z) H') : rCatT K (.ref t) (.ref a) H Q := by
  refine ⟨t, a, _, _, rfl, rfl, h1, h2, by simp, ?_, fun e => ?_, fun ne p hp => ?_⟩
  · rw [List.length_map, sizeLine_eq]
    simp
    omega
  · have e' : r = [] := List.map_eq_nil_iff.mp e
    subst e'
    exact q t H (Same.refl H) h1
  · exact q p _ (Same.new hp _) (SqT.of upd_same)
theorem atI_row {r : List Int} {i : Nat} (h : i < r.length) : atI (r.map V.int) (0 + (i : Int)) = some (.int (r.getD i 0)) := by
  rw [Int.zero_add]
  refine atI_nat ?_
  rw [List.getElem?_map, List.getElem?_eq_getElem h]
  simp [List.getD, h]
theorem LcP.acc {S : Hp → Prop} {R : Nat → V → Hp → Prop} {D : Addr} {i : Nat} {H : Hp} (P : LcP S R D i H) : ∃ acc : List V, H D = some (.lst acc) ∧ acc.length = i := by
  obtain ⟨_, acc, h1, h2, _⟩ := P
  exact ⟨acc, h1, h2⟩
theorem map_get {α β : Type} {f : α → β} {xs : List α} {i : Nat} {x : α} (e : xs[i]? = some x) : (xs.map f)[i]? = some (f x) := by rw [List.getElem?_map, e]; rfl
open ZG (Sq ItzG walk_zipG)
def natsV (cs : List Nat) : List V := cs.map fun c : Nat => V.int (c : Int)
/-! ### entries of a matrix -/
def getM (M : List (List Int)) (i j : Nat) : Int := (M.getD i []).getD j 0
theorem getM_of {M : List (List Int)} {i j : Nat} {r : List Int} {k : Int} (h1 : M[i]? = some r) (h2 : r[j]? = some k) : getM M i j = k := by
  simp [getM, List.getD_eq_getElem?_getD, h1, h2]
theorem Sz.at {n i : Nat} {M : List (List Int)} (h : Sz n M) (hi : i < n) : ∃ r, M[i]? = some r ∧ r.length = n := by
  have hi' : i < M.length := by rw [h.1]; exact hi
  exact ⟨M[i], List.getElem?_eq_getElem hi', h.2 _ (List.getElem_mem hi')⟩
theorem Sz.at2 {n i j : Nat} {M : List (List Int)} (h : Sz n M) (hi : i < n) (hj : j < n) : ∃ r, M[i]? = some r ∧ r.length = n ∧ r[j]? = some (getM M i j) := by
  obtain ⟨r, e, l⟩ := h.at hi
  have hj' : j < r.length := by omega
  refine ⟨r, e, l, ?_⟩
  rw [getM_of e (List.getElem?_eq_getElem hj')]
  exact List.getElem?_eq_getElem hj'
theorem split_lt {n : Nat} {c : Nat → Prop} : (∀ i < n + 1, c i) ↔ (∀ i < n, c i) ∧ c n := by
  constructor
  · exact fun h => ⟨fun i hi => h i (by omega), h n (by omega)⟩
  · rintro ⟨h1, h2⟩ i hi
    by_cases e : i = n
    · rw [e]; exact h2
    · exact h1 i (by omega)
theorem ixN_int {n : Nat} {c : Int} (h0 : 0 ≤ c) (h : c < (n : Int)) : ixN n c = some c.toNat := by
  unfold ixN
  rw [if_pos h0, if_pos h]
/-! ### closed matrices, and the best one below a matrix -/
def mkR (n : Nat) (f : Nat → Int) : List Int := (List.range n).map f
def mkM (n : Nat) (f : Nat → Nat → Int) : List (List Int) := (List.range n).map fun i => mkR n (f i)
theorem range_at {n i : Nat} (h : i < n) : (List.range n)[i]? = some i := by simp [h]
theorem mkR_at {n i : Nat} {f : Nat → Int} (h : i < n) : (mkR n f)[i]? = some (f i) := map_get (range_at h)
theorem mkM_at {n i : Nat} {f : Nat → Nat → Int} (h : i < n) : (mkM n f)[i]? = some (mkR n (f i)) := map_get (range_at h)
theorem mkR_len {n : Nat} {f : Nat → Int} : (mkR n f).length = n := by simp [mkR]
theorem mkM_sz {n : Nat} {f : Nat → Nat → Int} : Sz n (mkM n f) := by
  refine ⟨by simp [mkM], fun r hr => ?_⟩
  obtain ⟨i, _, rfl⟩ := List.mem_map.mp hr
  exact mkR_len
theorem mkM_get {n i j : Nat} {f : Nat → Nat → Int} (hi : i < n) (hj : j < n) : getM (mkM n f) i j = f i j := getM_of (mkM_at hi) (mkR_at hj)
theorem sz_ext {n : Nat} {M N : List (List Int)} (h1 : Sz n M) (h2 : Sz n N) (e : ∀ i < n, ∀ j < n, getM M i j = getM N i j) : M = N := by
  refine List.ext_getElem? fun i => ?_
  by_cases hi : i < n
  · obtain ⟨r, e1, l1⟩ := h1.at hi
    obtain ⟨r', e2, l2⟩ := h2.at hi
    rw [e1, e2]
    congr 1
    refine List.ext_getElem? fun j => ?_
    by_cases hj : j < n
    · have a1 : r[j]? = some (r[j]'(by omega)) := List.getElem?_eq_getElem _
      have a2 : r'[j]? = some (r'[j]'(by omega)) := List.getElem?_eq_getElem _
      rw [a1, a2, ← getM_of e1 a1, ← getM_of e2 a2, e i hi j hj]
    · rw [List.getElem?_eq_none (by omega), List.getElem?_eq_none (by omega)]
  · rw [List.getElem?_eq_none (by rw [h1.1]; omega), List.getElem?_eq_none (by rw [h2.1]; omega)]
theorem mkM_congr {n : Nat} {f g : Nat → Nat → Int} (h : ∀ i < n, ∀ j < n, f i j = g i j) : mkM n f = mkM n g := sz_ext mkM_sz mkM_sz fun i hi j hj => by rw [mkM_get hi hj, mkM_get hi hj, h i hi j hj]
theorem mkM_self {n : Nat} {M : List (List Int)} (h : Sz n M) : mkM n (getM M) = M := sz_ext mkM_sz h fun i hi j hj => mkM_get hi hj
structure Clo (n : Nat) (C : Nat → Nat → Int) : Prop where
  d : ∀ i < n, C i i = 0
  t : ∀ i < n, ∀ j < n, ∀ k < n, C i j ≤ C i k + C k j
def LeF (n : Nat) (C D : Nat → Nat → Int) : Prop := ∀ i < n, ∀ j < n, C i j ≤ D i j
theorem LeF.trans {n : Nat} {A B C : Nat → Nat → Int} (h : LeF n A B) (k : LeF n B C) : LeF n A C := fun i hi j hj => Int.le_trans (h i hi j hj) (k i hi j hj)
theorem LeF.refl {n : Nat} (A : Nat → Nat → Int) : LeF n A A := fun _ _ _ _ => Int.le_refl _
/-- the greatest closed matrix below D; none if there is no closed one below D -/
def Best (n : Nat) (D : Nat → Nat → Int) : Option (List (List Int)) → Prop
  | none => ∀ C, Clo n C → ¬ LeF n C D
  | some R => Sz n R ∧ Clo n (getM R) ∧ LeF n (getM R) D ∧ ∀ C, Clo n C → LeF n C D → LeF n C (getM R)
theorem Best.sz {n : Nat} {D : Nat → Nat → Int} {B : Option (List (List Int))} (h : Best n D B) : BSz n B := by
  intro M e
  subst e
  exact h.1
theorem Best.uniq {n : Nat} {D : Nat → Nat → Int} : ∀ {B B' : Option (List (List Int))}, Best n D B → Best n D B' → B = B'
  | none, none, _, _ => rfl
  | none, some R, h, k => absurd k.2.2.1 (h _ k.2.1)
  | some R, none, h, k => absurd h.2.2.1 (k _ h.2.1)
  | some R, some R', h, k => by
    have e : R = R' := sz_ext h.1 k.1 fun i hi j hj => by
      have h1 := k.2.2.2 _ h.2.1 h.2.2.1 i hi j hj
      have h2 := h.2.2.2 _ k.2.1 k.2.2.1 i hi j hj
      omega
    rw [e]
/-- only what is closed and below counts -/
theorem Best.congr {n : Nat} {D E : Nat → Nat → Int} (h : ∀ C, Clo n C → (LeF n C D ↔ LeF n C E)) : ∀ {B : Option (List (List Int))}, Best n D B → Best n E B
  | none, k => fun C hC hE => k C hC ((h C hC).mpr hE)
  | some R, k => ⟨k.1, k.2.1, (h _ k.2.1).mp k.2.2.1, fun C hC hE => k.2.2.2 C hC ((h C hC).mpr hE)⟩
theorem Best.self {n : Nat} {R : List (List Int)} (z : Sz n R) (c : Clo n (getM R)) : Best n (getM R) (some R) := ⟨z, c, LeF.refl _, fun _ _ h => h⟩
/-! ### shortening through each column in turn -/
def fw0 (n : Nat) (D : Nat → Nat → Int) : Nat → Nat → Int := fun i j => if i = j then min (D i j) 0 else D i j
def fwS (k : Nat) (D : Nat → Nat → Int) : Nat → Nat → Int := fun i j => min (D i j) (D i k + D k j)
/-- what holds ahead of the turn with column k -/
structure Fw (n : Nat) (D0 : Nat → Nat → Int) (k : Nat) (D : Nat → Nat → Int) : Prop where
  d : ∀ i < n, D i i ≤ 0
  le : LeF n D D0
  gr : ∀ C, Clo n C → LeF n C D0 → LeF n C D
  t : (∀ i < n, 0 ≤ D i i) → ∀ m < k, ∀ i < n, ∀ j < n, D i j ≤ D i m + D m j
theorem Fw.start {n : Nat} (D0 : Nat → Nat → Int) : Fw n D0 0 (fw0 n D0) where
  d := fun i hi => by
    unfold fw0
    rw [if_pos rfl]
    omega
  le := fun i hi j hj => by
    unfold fw0
    split <;> omega
  gr := fun C hC h i hi j hj => by
    unfold fw0
    have a := h i hi j hj
    split
    · rename_i e
      subst e
      have b := hC.d i hi
      omega
    · exact a
  t := fun _ m hm => by omega
theorem Fw.step {n k : Nat} {D0 D : Nat → Nat → Int} (h : Fw n D0 k D) (hk : k < n) (pos : ∀ i < n, 0 ≤ D i i) : Fw n D0 (k + 1) (fwS k D) where
  d := fun i hi => by
    have a := h.d i hi
    unfold fwS
    omega
  le := fun i hi j hj => by
    have a := h.le i hi j hj
    unfold fwS
    omega
  gr := fun C hC hl i hi j hj => by
    have a := h.gr C hC hl i hi j hj
    have b := h.gr C hC hl i hi k hk
    have c := h.gr C hC hl k hk j hj
    have e := hC.t i hi j hj k hk
    unfold fwS
    omega
  t := fun _ m hm i hi j hj => by
    have T := h.t pos
    have pk := pos k hk
    unfold fwS
    by_cases e : m = k
    · subst e
      omega
    · have hmk : m < k := by omega
      have mn : m < n := by omega
      have a1 := T m hmk i hi j hj
      have a2 := T m hmk k hk j hj
      have a3 := T m hmk i hi k hk
      have a4 := T m hmk k hk k hk
      omega
theorem Fw.done {n : Nat} {D0 D : Nat → Nat → Int} (h : Fw n D0 n D) (pos : ∀ i < n, 0 ≤ D i i) : Best n D0 (some (mkM n D)) := by
  have c : Clo n (getM (mkM n D)) := ⟨fun i hi => by
    rw [mkM_get hi hi]
    have := pos i hi
    have := h.d i hi
    omega, fun i hi j hj k hk => by
    rw [mkM_get hi hj, mkM_get hi hk, mkM_get hk hj]
    exact h.t pos k hk i hi j hj⟩
  refine ⟨mkM_sz, c, fun i hi j hj => ?_, fun C hC hl i hi j hj => ?_⟩
  · rw [mkM_get hi hj]
    exact h.le i hi j hj
  · rw [mkM_get hi hj]
    exact h.gr C hC hl i hi j hj
theorem Fw.bad {n k i : Nat} {D0 D : Nat → Nat → Int} (h : Fw n D0 k D) (hi : i < n) (neg : D i i < 0) : Best n D0 none := fun C hC hl => by
  have a := h.gr C hC hl i hi i hi
  have b := hC.d i hi
  omega
theorem Fw.congr {n k : Nat} {D0 D E : Nat → Nat → Int} (h : Fw n D0 k D) (hk : k ≤ n) (e : ∀ i < n, ∀ j < n, D i j = E i j) : Fw n D0 k E where
  d := fun i hi => by rw [← e i hi i hi]; exact h.d i hi
  le := fun i hi j hj => by rw [← e i hi j hj]; exact h.le i hi j hj
  gr := fun C hC hl i hi j hj => by rw [← e i hi j hj]; exact h.gr C hC hl i hi j hj
  t := fun pos m hm i hi j hj => by
    have mn : m < n := by omega
    rw [← e i hi j hj, ← e i hi m mn, ← e m mn j hj]
    exact h.t (fun i hi => by rw [e i hi i hi]; exact pos i hi) m hm i hi j hj
/-! ### close -/
theorem bb_any : bootBuiltins "any" = some (.builtin "any") := by decide +kernel
theorem bb_all : bootBuiltins "all" = some (.builtin "all") := by decide +kernel
def spFrozen (K : PySem.W.Frag) : Sp := fun vs H Q _ => ∃ (p : Addr) (M : List (List Int)), vs = [.ref p] ∧ Mx false false K H p M ∧ M.length ≤ 1000 ∧ ∀ q H', Same H H' → Mx true true K H' q M → Q (.ref q) H'
def spContra (K : PySem.W.Frag) : Sp := fun vs H Q _ => ∃ (p : Addr) (M : List (List Int)) (n : Nat), vs = [.ref p] ∧ Mx false false K H p M ∧ Sz n M ∧ n ≤ 900 ∧ ∀ b H', Same H H' → (b = true ↔ ∃ i < n, getM M i i < 0) → Q (.bl b) H'
def spShort (K : PySem.W.Frag) : Sp := fun vs H Q _ => ∃ (p : Addr) (M : List (List Int)) (n k : Nat), vs = [.ref p, .int k] ∧ Mx false false K H p M ∧ Sz n M ∧ n ≤ 900 ∧ k < n ∧ ∀ q H', Same H H' → Mx false false K H' q (mkM n (fwS k (getM M))) → Q (.ref q) H'
def spClose (K : PySem.W.Frag) : Sp := fun vs H Q _ => ∃ (t1 t2 : Bool) (p : Addr) (M : List (List Int)) (n : Nat), vs = [.ref p] ∧ Mx t1 t2 K H p M ∧ Sz n M ∧ n ≤ 900 ∧ ∀ v H' B, Same H H' → BoxAt K H' v B → Best n (getM M) B → Q v H'
theorem Mx.getT {t1 t2 : Bool} {K : PySem.W.Frag} {H : Hp} {p : Addr} {M : List (List Int)} {i : Nat} {r : List Int} (h : Mx t1 t2 K H p M) (e : M[i]? = some r) : ∃ (vs : List V) (a : Addr), Sq t1 K H p vs ∧ atI vs (i : Int) = some (.ref a) ∧ Sq t2 K H a (r.map V.int) := by
  obtain ⟨as, h1, h2, h3⟩ := h
  have hi : i < M.length := (List.getElem?_eq_some_iff.mp e).1
  have ea : as[i]? = some (as[i]'(by omega)) := List.getElem?_eq_getElem _
  exact ⟨_, _, h1, atI_nat (map_get ea), h3 i _ r ea e⟩
/-- a list of truth values at D, k of them; one holds if and only if A -/
def AnyP (H1 : Hp) (D : Addr) (k : Nat) (A : Prop) (H : Hp) : Prop := Same H1 H ∧ ∃ bs : List Bool, H D = some (.lst (bs.map V.bl)) ∧ bs.length = k ∧ (bs.any id = true ↔ A)
theorem AnyP.start {H1 : Hp} {D : Addr} {A : Prop} (hD : H1 D = none) (a : ¬ A) : AnyP H1 D 0 A (upd H1 D (.lst [])) :=
  ⟨Same.new hD _, [], upd_same, rfl, ⟨fun z => by simp at z, fun z => absurd z a⟩⟩
theorem AnyP.imp {H1 H : Hp} {D : Addr} {k k' : Nat} {A A' : Prop} (h : AnyP H1 D k A H) (ek : k = k') (e : A ↔ A') : AnyP H1 D k' A' H := by
  obtain ⟨s, bs, h1, h2, h3⟩ := h
  exact ⟨s, bs, h1, by omega, h3.trans e⟩
theorem AnyP.push {H1 H H4 : Hp} {D : Addr} {k : Nat} {A : Prop} {b : Bool} (h : AnyP H1 D k A H) (hD : H1 D = none) (s : Same H H4) (hk : k < sizeLine) :
    ∃ acc, H4 D = some (.lst acc) ∧ acc.length < sizeLine ∧ AnyP H1 D (k + 1) (A ∨ b = true) (upd H4 D (.lst (acc ++ [.bl b]))) := by
  obtain ⟨s1, bs, h1, h2, h3⟩ := h
  refine ⟨_, s _ _ h1, by rw [List.length_map]; omega, fun c u e => by rw [upd_ne (ne_of_none e hD)]; exact s _ _ (s1 _ _ e), bs ++ [b], by rw [List.map_append]; exact upd_same, by simp [h2], ?_⟩
  rw [List.any_append, Bool.or_eq_true, h3]
  simp
theorem ex_lt {n : Nat} {c : Nat → Prop} : (∃ i < n + 1, c i) ↔ (∃ i < n, c i) ∨ c n := by
  constructor
  · rintro ⟨i, hi, h⟩
    by_cases e : i = n
    · exact .inr (e ▸ h)
    · exact .inl ⟨i, by omega, h⟩
  · rintro (⟨i, hi, h⟩ | h)
    · exact ⟨i, by omega, h⟩
    · exact ⟨n, by omega, h⟩
section
variable {P : Program} {w : World} {K : PySem.W.Frag} {mg : Str → Option Value} {base : Heap}
theorem ok_frozen (T : Txt w K mg) : FnOk P w K mg base CX0 1 T.a_frozen T.d_frozen p_frozen (spFrozen K) := by
  refine T.F_frozen.ok sc_frozen (fun vs H Q E h => ?_) (fun cdv A outer s H vs Q E hr h => ?_)
  · obtain ⟨p, M, rfl, _⟩ := h
    rfl
  obtain ⟨p, M, rfl, hM, hn, q⟩ := h
  refine ⟨_, (pss_one (ps_ret (pe_callTy call_tuple_of rfl T.z_tuple bt_tuple (pa_cons (pe_lc (own := [("row", 1)]) (g := gName 1) (tt := tYes) rfl sc_frozen.nd (pi_list (pv 0)) (blkOk_by (own := [("row", 1)]) (N := n_frozen) (sc := defScope s_frozen) (by decide +kernel)) (fun _ _ _ _ _ => (pg_name (i := 1) sc_frozen.nd rfl (Or.inl rfl))) (fun _ _ _ _ _ => pts_nil) (fun _ _ _ _ _ => (pe_callTy (show CallR _ _ (rTupOf K) from call_tuple_of) rfl T.z_tuple bt_tuple (pa_cons (pv 1) pa_nil)))) pa_nil)))), ?_⟩
  obtain ⟨vs, hv, hl, hrow⟩ := hM.row
  refine ⟨_, rfl, p, rfl, ⟨vs, hv⟩, fun D hD => ?_⟩
  refine lc_it (walk_list (xs := vs)) (LcP (Same H) (RRow K true M D) D) (lcp_start hD) (fun i G _ P => P.1.seq hv) ?_ ?_
  · rintro i x G G' hi P ⟨rfl, ex⟩
    obtain ⟨a, r, rfl, er, ha⟩ := hrow i x ex
    refine ⟨rfl, tyes ?_⟩
    refine ⟨_, rfl, a, _, rfl, .inl ⟨P.1.seq ha, fun l hl => ?_⟩⟩
    exact lcp_same P hD (Same.new hl _) (lt_line (by omega)) RRow.mono ⟨l, r, rfl, er, P.ne hl, Sq.upd_sameT⟩
  · intro G P
    obtain ⟨as, h1, h2, h3⟩ := lcp_rows P hl
    refine ⟨D, _, rfl, .inl ⟨h1, fun l hl => ?_⟩⟩
    exact q l _ (P.1.trans (Same.new hl _)) ⟨as, Sq.upd_sameT, h2, fun i a r e1 e2 => Sq.same (Same.new hl _) (h3 i a r e1 e2)⟩
end
/-! ### drawn numbers and points -/
def spNumber : Sp := fun vs H Q _ => ∃ a : Addr, vs = [.ref a] ∧ Src H a ∧ ∀ (r : Int) H', Stp a H H' → Q (.int r) H'
def spSize : Sp := fun vs H Q _ => ∃ a : Addr, vs = [.ref a] ∧ Src H a ∧ ∀ (n : Nat) H', Stp a H H' → n ≤ 20 → Q (.int n) H'
theorem ixInt {ns : List Int} {r : Int} (h0 : 0 ≤ r) (h : r < (ns.length : Int)) : ∃ u : Int, atI (ns.map V.int) r = some (.int u) := by
  have e := atI_int (xs := ns.map V.int) h0 (by rw [List.length_map]; omega)
  rw [List.getElem_map] at e
  exact ⟨_, e⟩
theorem Src.new {a p : Addr} {H : Hp} {o : HO} (h : Src H a) (n : H p = none) : Src (upd H p o) a := (Stp.refl h).new n |>.s
/-- points: a list of tuples, the list a tracked one -/
def Pts (K : PySem.W.Frag) (H : Hp) (p : Addr) (Ps : List (List Int)) : Prop :=
  ∃ as : List Addr, H p = some (.lst (as.map V.ref)) ∧ as.length = Ps.length ∧ ∀ (i : Nat) (a : Addr) (r : List Int), as[i]? = some a → Ps[i]? = some r → SqT K H a (r.map V.int)
theorem Pts.mx {K : PySem.W.Frag} {H : Hp} {p : Addr} {Ps : List (List Int)} (h : Pts K H p Ps) : Mx false true K H p Ps := by
  obtain ⟨as, h1, h2, h3⟩ := h
  exact ⟨as, SqL.of h1, h2, h3⟩
theorem Pts.same {K : PySem.W.Frag} {H H' : Hp} {p : Addr} {Ps : List (List Int)} (s : Same H H') (h : Pts K H p Ps) : Pts K H' p Ps := by
  obtain ⟨as, h1, h2, h3⟩ := h
  exact ⟨as, s _ _ h1, h2, fun i a r e1 e2 => Same.tup s (h3 i a r e1 e2)⟩
theorem Stp.put {a D : Addr} {G F : Hp} {o : HO} (x : Stp a G F) (hs : Src G a) (hD : G D = none) : Stp a G (upd F D o) := by
  have ne := hs.ne hD
  obtain ⟨c, m, k, h⟩ := x.s
  exact ⟨⟨c, m, k, by rw [upd_ne ne]; exact h⟩, fun b u hb e => by rw [upd_ne (ne_of_none e hD)]; exact x.k b u hb e⟩
/-- the points so far, none of them at p -/
def PtsN (K : PySem.W.Frag) (H : Hp) (p : Addr) (Ps : List (List Int)) : Prop :=
  ∃ as : List Addr, H p = some (.lst (as.map V.ref)) ∧ as.length = Ps.length ∧ ∀ (i : Nat) (a : Addr) (r : List Int), as[i]? = some a → Ps[i]? = some r → a ≠ p ∧ SqT K H a (r.map V.int)
theorem PtsN.pts {K : PySem.W.Frag} {H : Hp} {p : Addr} {Ps : List (List Int)} (h : PtsN K H p Ps) : Pts K H p Ps := by
  obtain ⟨as, h1, h2, h3⟩ := h
  exact ⟨as, h1, h2, fun i a r e1 e2 => (h3 i a r e1 e2).2⟩
theorem ints_of {acc : List V} (h : ∀ (j : Nat) (y : V), acc[j]? = some y → ∃ k : Int, y = .int k) : ∃ ns : List Int, acc = ns.map V.int := by
  induction acc with
  | nil => exact ⟨[], rfl⟩
  | cons y acc ih =>
    obtain ⟨k, rfl⟩ := h 0 y rfl
    obtain ⟨ns, rfl⟩ := ih fun j y e => h (j + 1) y (by simpa using e)
    exact ⟨k :: ns, rfl⟩
/-- one point more -/
theorem PtsN.push {K : PySem.W.Frag} {G F : Hp} {p t : Addr} {Ps : List (List Int)} {as : List Addr} {ns : List Int} (e2 : as.length = Ps.length) (e3 : ∀ (i : Nat) (a : Addr) (r : List Int), as[i]? = some a → Ps[i]? = some r → a ≠ p ∧ SqT K G a (r.map V.int))
    (k : ∀ (x : Addr) (xs : List V), SqT K G x xs → SqT K F x xs) (ht : SqT K F t (ns.map V.int)) (ne : t ≠ p) : PtsN K (upd F p (.lst (as.map V.ref ++ [.ref t]))) p (Ps ++ [ns]) := by
  refine ⟨as ++ [t], by rw [List.map_append]; exact upd_same, by simp [e2], fun i a r h1 h2 => ?_⟩
  have put : ∀ {x : Addr} {xs : List V}, x ≠ p → SqT K F x xs → SqT K (upd F p (.lst (as.map V.ref ++ [.ref t]))) x xs := fun nx h => Sq.but (t := true) (But.upd _) nx h
  by_cases hi : i < as.length
  · rw [List.getElem?_append_left hi] at h1
    rw [List.getElem?_append_left (by omega)] at h2
    obtain ⟨q1, q2⟩ := e3 i a r h1 h2
    exact ⟨q1, put q1 (k _ _ q2)⟩
  · rw [List.getElem?_append_right (by omega)] at h1
    rw [List.getElem?_append_right (by omega)] at h2
    have ei : i = as.length := by
      have := (List.getElem?_eq_some_iff.mp h1).1
      simp at this
      omega
    subst ei
    rw [Nat.sub_self] at h1
    rw [e2, Nat.sub_self] at h2
    have h1' : t = a := by simpa using h1
    have h2' : ns = r := by simpa using h2
    subst h1' h2'
    exact ⟨ne, put ne ht⟩
/-- all have n numbers, and there are few -/
def Few (n : Nat) (Ps : List (List Int)) : Prop := Ps.length ≤ 20 ∧ ∀ r ∈ Ps, r.length = n
def spSeeds (K : PySem.W.Frag) : Sp := fun vs H Q _ => ∃ (a : Addr) (n : Nat), vs = [.ref a, .int n] ∧ Src H a ∧ n ≤ 20 ∧ ∀ p H' Ps, Stp a H H' → H p = none → Pts K H' p Ps → Few n Ps → Q (.ref p) H'
section
variable {P : Program} {w : World} {K : PySem.W.Frag} {mg : Str → Option Value} {base : Heap}
end
/-! ### the least box of some points -/
def lmax : List Int → Int
  | [] => 0
  | [x] => x
  | x :: y :: r => max x (lmax (y :: r))
theorem lmax_mem : ∀ {xs : List Int}, xs ≠ [] → lmax xs ∈ xs
  | [], h => absurd rfl h
  | [x], _ => by simp [lmax]
  | x :: y :: r, _ => by
    have ih := lmax_mem (xs := y :: r) (by simp)
    unfold lmax
    by_cases h : x ≤ lmax (y :: r)
    · rw [Int.max_eq_right h]
      exact List.mem_cons_of_mem _ ih
    · rw [Int.max_eq_left (by omega)]
      exact List.mem_cons_self
theorem lmax_le : ∀ {xs : List Int} {x : Int}, x ∈ xs → x ≤ lmax xs
  | [], _, h => by simp at h
  | [z], x, h => by
    have e : x = z := by simpa using h
    rw [e]
    exact Int.le_refl _
  | z :: y :: r, x, h => by
    unfold lmax
    rcases List.mem_cons.mp h with rfl | h
    · omega
    · have := lmax_le (xs := y :: r) h
      omega
theorem lmax_eq {xs : List Int} {m : Int} (h1 : m ∈ xs) (h2 : ∀ y ∈ xs, y ≤ m) : m = lmax xs := by
  have ne : xs ≠ [] := fun z => by rw [z] at h1; simp at h1
  have a := h2 _ (lmax_mem ne)
  have b := lmax_le h1
  omega
theorem lmax_append {xs ys : List Int} (h1 : xs ≠ []) (h2 : ys ≠ []) : lmax (xs ++ ys) = max (lmax xs) (lmax ys) := by
  symm
  refine lmax_eq ?_ fun y hy => ?_
  · by_cases h : lmax xs ≤ lmax ys
    · rw [Int.max_eq_right h]
      exact List.mem_append.mpr (.inr (lmax_mem h2))
    · rw [Int.max_eq_left (by omega)]
      exact List.mem_append.mpr (.inl (lmax_mem h1))
  · rcases List.mem_append.mp hy with h | h
    · have := lmax_le h
      omega
    · have := lmax_le h
      omega
/-- column i minus column j of a point -/
def dif (i j : Nat) (r : List Int) : Int := (0 :: r).getD i 0 - (0 :: r).getD j 0
def hullM (n : Nat) (Ps : List (List Int)) : List (List Int) := (List.range (n + 1)).map fun i => (List.range (n + 1)).map fun j => lmax (Ps.map (dif i j))
def hull (n : Nat) (Ps : List (List Int)) : Option (List (List Int)) := if Ps = [] then none else some (hullM n Ps)
theorem hullM_sz (n : Nat) (Ps : List (List Int)) : Sz (n + 1) (hullM n Ps) := by
  refine ⟨by simp [hullM], fun r hr => ?_⟩
  obtain ⟨i, _, rfl⟩ := List.mem_map.mp hr
  simp
theorem hull_sz (n : Nat) (Ps : List (List Int)) : BSz (n + 1) (hull n Ps) := by
  intro M e
  unfold hull at e
  split at e
  · cases e
  · cases e
    exact hullM_sz n Ps
theorem range_get {n i : Nat} (h : i < n) : (List.range n)[i]? = some i := by simp [h]
def spHull (K : PySem.W.Frag) : Sp := fun vs H Q _ => ∃ (p : Addr) (n : Nat) (Ps : List (List Int)), vs = [.ref p, .int n] ∧ n ≤ 900 ∧ Mx false true K H p Ps ∧ (∀ r ∈ Ps, r.length = n) ∧ Ps.length ≤ 1000000 ∧ ∀ v H', Same H H' → BoxAt K H' v (hull n Ps) → Q v H'
/-! ### the least box is closed -/
theorem getM_hull {n : Nat} {Ps : List (List Int)} {i j : Nat} (hi : i < n + 1) (hj : j < n + 1) : getM (hullM n Ps) i j = lmax (Ps.map (dif i j)) := getM_of (map_get (range_get hi)) (map_get (range_get hj))
theorem hull_tri {n : Nat} {Ps : List (List Int)} (hP : Ps ≠ []) {i j k : Nat} (hi : i < n + 1) (hj : j < n + 1) (hk : k < n + 1) : getM (hullM n Ps) i j ≤ getM (hullM n Ps) i k + getM (hullM n Ps) k j := by
  rw [getM_hull hi hj, getM_hull hi hk, getM_hull hk hj]
  obtain ⟨r, hr, e⟩ := List.mem_map.mp (lmax_mem (xs := Ps.map (dif i j)) fun z => hP (List.map_eq_nil_iff.mp z))
  have h1 : dif i k r ≤ lmax (Ps.map (dif i k)) := lmax_le (List.mem_map_of_mem hr)
  have h2 : dif k j r ≤ lmax (Ps.map (dif k j)) := lmax_le (List.mem_map_of_mem hr)
  rw [← e]
  unfold dif at *
  omega
theorem hull_diag {n : Nat} {Ps : List (List Int)} (hP : Ps ≠ []) {i : Nat} (hi : i < n + 1) : getM (hullM n Ps) i i = 0 := by
  rw [getM_hull hi hi]
  obtain ⟨r, hr, e⟩ := List.mem_map.mp (lmax_mem (xs := Ps.map (dif i i)) fun z => hP (List.map_eq_nil_iff.mp z))
  rw [← e]
  unfold dif
  omega
/-- the points at these addresses -/
def PA (K : PySem.W.Frag) (H : Hp) (as : List Addr) (Ps : List (List Int)) : Prop := as.length = Ps.length ∧ ∀ (i : Nat) (a : Addr) (r : List Int), as[i]? = some a → Ps[i]? = some r → SqT K H a (r.map V.int)
theorem Pts.pa {K : PySem.W.Frag} {H : Hp} {p : Addr} {Ps : List (List Int)} (h : Pts K H p Ps) : ∃ as, H p = some (.lst (as.map V.ref)) ∧ PA K H as Ps := by
  obtain ⟨as, h1, h2, h3⟩ := h
  exact ⟨as, h1, h2, h3⟩
theorem PA.pts {K : PySem.W.Frag} {H : Hp} {p : Addr} {as : List Addr} {Ps : List (List Int)} (h : PA K H as Ps) (e : H p = some (.lst (as.map V.ref))) : Pts K H p Ps := ⟨as, e, h.1, h.2⟩
theorem PA.same {K : PySem.W.Frag} {H H' : Hp} {as : List Addr} {Ps : List (List Int)} (s : Same H H') (h : PA K H as Ps) : PA K H' as Ps := ⟨h.1, fun i a r e1 e2 => Same.tup s (h.2 i a r e1 e2)⟩
theorem PA.stp {K : PySem.W.Frag} {a : Addr} {H H' : Hp} {as : List Addr} {Ps : List (List Int)} (s : Stp a H H') (hs : Src H a) (h : PA K H as Ps) : PA K H' as Ps := ⟨h.1, fun i b r e1 e2 => s.rd (h.2 i b r e1 e2) hs⟩
theorem PA.drop {K : PySem.W.Frag} {H : Hp} {as : List Addr} {Ps : List (List Int)} (k : Nat) (h : PA K H as Ps) : PA K H (as.drop k) (Ps.drop k) := by
  refine ⟨by rw [List.length_drop, List.length_drop, h.1], fun i a r e1 e2 => ?_⟩
  rw [List.getElem?_drop] at e1 e2
  exact h.2 _ a r e1 e2
theorem PA.take {K : PySem.W.Frag} {H : Hp} {as : List Addr} {Ps : List (List Int)} (k : Nat) (h : PA K H as Ps) : PA K H (as.take k) (Ps.take k) := by
  refine ⟨by rw [List.length_take, List.length_take, h.1], fun i a r e1 e2 => ?_⟩
  rw [List.getElem?_take] at e1 e2
  split at e1
  · rename_i hk
    rw [if_pos hk] at e2
    exact h.2 _ a r e1 e2
  · cases e1
theorem PA.append {K : PySem.W.Frag} {H : Hp} {as bs : List Addr} {Ps Qs : List (List Int)} (h : PA K H as Ps) (k : PA K H bs Qs) : PA K H (as ++ bs) (Ps ++ Qs) := by
  refine ⟨by rw [List.length_append, List.length_append, h.1, k.1], fun i a r e1 e2 => ?_⟩
  by_cases hi : i < as.length
  · rw [List.getElem?_append_left hi] at e1
    rw [List.getElem?_append_left (by rw [← h.1]; exact hi)] at e2
    exact h.2 i a r e1 e2
  · rw [List.getElem?_append_right (by omega)] at e1
    rw [List.getElem?_append_right (by rw [← h.1]; omega), ← h.1] at e2
    exact k.2 _ a r e1 e2
theorem PA.one {K : PySem.W.Frag} {H : Hp} {a : Addr} {r : List Int} (h : SqT K H a (r.map V.int)) : PA K H [a] [r] := by
  refine ⟨rfl, fun i b q e1 e2 => ?_⟩
  cases i with
  | zero =>
    cases e1
    cases e2
    exact h
  | succ i => simp at e1
theorem Pts.stp {K : PySem.W.Frag} {a p : Addr} {H H' : Hp} {Ps : List (List Int)} (s : Stp a H H') (hs : Src H a) (ne : p ≠ a) (h : Pts K H p Ps) : Pts K H' p Ps := by
  obtain ⟨as, h1, h2⟩ := h.pa
  exact (h2.stp s hs).pts (s.k _ _ ne h1)
/-! ### rows that are written: lists of numbers in a list -/
def RowsL (H : Hp) (as : List Addr) (Rs : List (List Int)) : Prop := as.length = Rs.length ∧ ∀ (i : Nat) (x : Addr) (r : List Int), as[i]? = some x → Rs[i]? = some r → H x = some (.lst (r.map V.int))
theorem RowsL.keep {H H' : Hp} {as : List Addr} {Rs : List (List Int)} (h : RowsL H as Rs) (k : ∀ x ∈ as, ∀ o, H x = some o → H' x = some o) : RowsL H' as Rs :=
  ⟨h.1, fun i x r e1 e2 => k x (List.mem_of_getElem? e1) _ (h.2 i x r e1 e2)⟩
theorem RowsL.at {H : Hp} {as : List Addr} {Rs : List (List Int)} {i : Nat} (h : RowsL H as Rs) (hi : i < Rs.length) : ∃ x r, as[i]? = some x ∧ Rs[i]? = some r ∧ H x = some (.lst (r.map V.int)) := by
  have ea : as[i]? = some (as[i]'(by rw [h.1]; exact hi)) := List.getElem?_eq_getElem _
  have er : Rs[i]? = some Rs[i] := List.getElem?_eq_getElem hi
  exact ⟨_, _, ea, er, h.2 i _ _ ea er⟩
theorem nodup_ix {α : Type} {as : List α} (nd : as.Nodup) {i j : Nat} {x : α} (h1 : as[i]? = some x) (h2 : as[j]? = some x) : i = j := by
  obtain ⟨l1, q1⟩ := List.getElem?_eq_some_iff.mp h1
  obtain ⟨l2, q2⟩ := List.getElem?_eq_some_iff.mp h2
  have p := List.pairwise_iff_getElem.mp nd
  rcases Nat.lt_trichotomy i j with h | h | h
  · exact absurd (q1.trans q2.symm) (p i j l1 l2 h)
  · exact h
  · exact absurd (q2.trans q1.symm) (p j i l2 l1 h)
theorem RowsL.put {H : Hp} {as : List Addr} {Rs : List (List Int)} {i : Nat} {x : Addr} {r' : List Int} (h : RowsL H as Rs) (nd : as.Nodup) (ea : as[i]? = some x) : RowsL (upd H x (.lst (r'.map V.int))) as (Rs.set i r') := by
  refine ⟨by rw [List.length_set]; exact h.1, fun j y q e1 e2 => ?_⟩
  rw [List.getElem?_set] at e2
  by_cases hj : i = j
  · subst hj
    rw [if_pos rfl] at e2
    rw [ea] at e1
    cases e1
    split at e2
    · cases e2
      exact upd_same
    · cases e2
  · rw [if_neg hj] at e2
    have ne : y ≠ x := fun z => by
      subst z
      exact hj (nodup_ix nd ea e1)
    rw [upd_ne ne]
    exact h.2 j y q e1 e2
/-- the diagonal's entry i becomes v -/
def setD (Rs : List (List Int)) (i : Nat) (v : Int) : List (List Int) := Rs.set i ((Rs.getD i []).set i v)
theorem setD_eq {Rs : List (List Int)} {i : Nat} {r : List Int} {v : Int} (e : Rs[i]? = some r) : setD Rs i v = Rs.set i (r.set i v) := by
  unfold setD
  rw [List.getD_eq_getElem?_getD, e]
  rfl
theorem setD_at {Rs : List (List Int)} {i : Nat} {r : List Int} {v : Int} (e : Rs[i]? = some r) : (setD Rs i v)[i]? = some (r.set i v) := by
  rw [setD_eq e, List.getElem?_set, if_pos rfl, if_pos (List.getElem?_eq_some_iff.mp e).1]
theorem setD_sz {n i : Nat} {Rs : List (List Int)} {v : Int} (h : Sz n Rs) (hi : i < n) : Sz n (setD Rs i v) := by
  obtain ⟨r, e, l⟩ := h.at hi
  rw [setD_eq e]
  refine ⟨by rw [List.length_set]; exact h.1, fun q hq => ?_⟩
  rcases List.mem_or_eq_of_mem_set hq with h1 | h1
  · exact h.2 q h1
  · rw [h1, List.length_set]
    exact l
theorem setD_get {n i a b : Nat} {Rs : List (List Int)} {v : Int} (h : Sz n Rs) (hi : i < n) (ha : a < n) (hb : b < n) : getM (setD Rs i v) a b = if a = i ∧ b = i then v else getM Rs a b := by
  obtain ⟨r, e, l⟩ := h.at hi
  by_cases e1 : a = i
  · subst e1
    by_cases e2 : b = a
    · subst e2
      rw [if_pos ⟨rfl, rfl⟩]
      exact getM_of (setD_at e) (by rw [List.getElem?_set, if_pos rfl, if_pos (by omega)])
    · rw [if_neg (fun z => e2 z.2)]
      have eb : r[b]? = some (r[b]'(by omega)) := List.getElem?_eq_getElem _
      rw [getM_of e eb]
      exact getM_of (setD_at e) (by rw [List.getElem?_set, if_neg (fun z => e2 z.symm)]; exact eb)
  · rw [if_neg (fun z => e1 z.1)]
    obtain ⟨q, eq', lq⟩ := h.at ha
    have eb : q[b]? = some (q[b]'(by omega)) := List.getElem?_eq_getElem _
    rw [getM_of eq' eb]
    exact getM_of (by rw [setD_eq e, List.getElem?_set, if_neg (fun z => e1 z.symm)]; exact eq') eb
theorem setD_setD {Rs : List (List Int)} {i : Nat} {r : List Int} {v w : Int} (e : Rs[i]? = some r) : (setD Rs i v).set i (r.set i w) = setD Rs i w := by
  rw [setD_eq e, setD_eq e, List.set_set]
/-- rows that were made since H0 -/
structure RowsN (a : Addr) (H0 G : Hp) (pr : Addr) (as : List Addr) (Rs : List (List Int)) : Prop where
  st : Stp a H0 G
  s0 : Src H0 a
  e : G pr = some (.lst (as.map V.ref))
  rw : RowsL G as Rs
  nd : as.Nodup
  nw : ∀ x ∈ as, H0 x = none
  np : pr ∉ as
  n0 : H0 pr = none
theorem RowsN.na {a : Addr} {H0 G : Hp} {pr : Addr} {as : List Addr} {Rs : List (List Int)} (h : RowsN a H0 G pr as Rs) : ∀ x ∈ as, x ≠ a := fun x hx => (h.s0.ne (h.nw x hx)).symm
theorem RowsN.npa {a : Addr} {H0 G : Hp} {pr : Addr} {as : List Addr} {Rs : List (List Int)} (h : RowsN a H0 G pr as Rs) : pr ≠ a := (h.s0.ne h.n0).symm
theorem RowsN.go {a : Addr} {H0 G G' : Hp} {pr : Addr} {as : List Addr} {Rs : List (List Int)} (h : RowsN a H0 G pr as Rs) (s : Stp a G G') : RowsN a H0 G' pr as Rs :=
  ⟨h.st.trans s, h.s0, s.k _ _ h.npa h.e, h.rw.keep fun x hx o e => s.k x o (h.na x hx) e, h.nd, h.nw, h.np, h.n0⟩
theorem RowsN.put {a : Addr} {H0 G : Hp} {pr : Addr} {as : List Addr} {Rs : List (List Int)} {i : Nat} {x : Addr} {r' : List Int} (h : RowsN a H0 G pr as Rs) (ea : as[i]? = some x) : RowsN a H0 (upd G x (.lst (r'.map V.int))) pr as (Rs.set i r') :=
  ⟨h.st.put h.s0 (h.nw x (List.mem_of_getElem? ea)), h.s0, by
    have ne : pr ≠ x := fun z => h.np (by rw [z]; exact List.mem_of_getElem? ea)
    rw [upd_ne ne]
    exact h.e, h.rw.put h.nd ea, h.nd, h.nw, h.np, h.n0⟩
theorem RowsN.start {a : Addr} {H0 G : Hp} {pr : Addr} (s : Stp a H0 G) (s0 : Src H0 a) (hp : G pr = none) : RowsN a H0 (upd G pr (.lst [])) pr [] [] :=
  ⟨s.new hp, s0, upd_same, ⟨rfl, fun i x r e => by simp at e⟩, List.nodup_nil, fun x hx => by simp at hx, by simp, s.free hp⟩
/-- one row more -/
theorem RowsN.push {a : Addr} {H0 G F : Hp} {pr D : Addr} {as : List Addr} {Rs : List (List Int)} {ns : List Int} (h : RowsN a H0 G pr as Rs) (s : Stp a G F) (hD : G D = none) (eD : F D = some (.lst (ns.map V.int))) :
    RowsN a H0 (upd F pr (.lst (as.map V.ref ++ [.ref D]))) pr (as ++ [D]) (Rs ++ [ns]) := by
  have h' := h.go s
  have dp : D ≠ pr := fun z => by
    have e := h.e
    rw [← z, hD] at e
    cases e
  have nin : D ∉ as := fun z => by
    obtain ⟨i, hi, e⟩ := List.getElem_of_mem z
    obtain ⟨x, r, e1, e2, e3⟩ := h.rw.at (i := i) (by rw [← h.rw.1]; exact hi)
    rw [List.getElem?_eq_getElem hi, e] at e1
    cases e1
    rw [hD] at e3
    cases e3
  refine ⟨h'.st.put h.s0 h.n0, h.s0, by rw [List.map_append]; exact upd_same, ⟨by simp [h.rw.1], fun i x r e1 e2 => ?_⟩, ?_, fun x hx => ?_, ?_, h.n0⟩
  · by_cases hi : i < as.length
    · rw [List.getElem?_append_left hi] at e1
      rw [List.getElem?_append_left (by rw [← h.rw.1]; exact hi)] at e2
      have ne : x ≠ pr := fun z => h.np (by rw [← z]; exact List.mem_of_getElem? e1)
      rw [upd_ne ne]
      exact h'.rw.2 i x r e1 e2
    · rw [List.getElem?_append_right (by omega)] at e1
      rw [List.getElem?_append_right (by rw [← h.rw.1]; omega), ← h.rw.1] at e2
      have ei : i - as.length = 0 := by
        have := (List.getElem?_eq_some_iff.mp e1).1
        simp at this
        omega
      rw [ei] at e1 e2
      have e1' : D = x := by simpa using e1
      have e2' : ns = r := by simpa using e2
      subst e1' e2'
      rw [upd_ne dp]
      exact eD
  · rw [List.nodup_append]
    refine ⟨h.nd, by simp, fun x hx y hy z => ?_⟩
    have : y = D := by simpa using hy
    subst this
    subst z
    exact nin hx
  · rcases List.mem_append.mp hx with q | q
    · exact h.nw x q
    · have : x = D := by simpa using q
      rw [this]
      exact h.st.free hD
  · intro z
    rcases List.mem_append.mp z with q | q
    · exact h.np q
    · have : pr = D := by simpa using q
      exact dp this.symm
def spDiag (K : PySem.W.Frag) : Sp := fun vs H Q _ => ∃ (a pr : Addr) (as : List Addr) (Rs : List (List Int)) (n : Nat) (H0 : Hp), vs = [.ref a, .ref pr] ∧ 1 ≤ n ∧ n ≤ 900 ∧ RowsN a H0 H pr as Rs ∧ Sz n Rs ∧
  ∀ t H' M, Stp a H0 H' → Mx true true K H' t M → Sz n M → (∀ i < n, ∀ j < n, i ≠ j → getM M i j = getM Rs i j) → (∀ i < n, -3 ≤ getM M i i ∧ getM M i i ≤ 3) → Q (.ref t) H'
theorem Mx.get3 {t1 t2 : Bool} {K : PySem.W.Frag} {H : Hp} {p : Addr} {M : List (List Int)} {n i j : Nat} (h : Mx t1 t2 K H p M) (z : Sz n M) (hi : i < n) (hj : j < n) : ∃ (vs : List V) (a : Addr) (r : List Int), Sq t1 K H p vs ∧ atI vs (i : Int) = some (.ref a) ∧ Sq t2 K H a (r.map V.int) ∧ atI (r.map V.int) (j : Int) = some (.int (getM M i j)) := by
  obtain ⟨r, er, lr⟩ := z.at hi
  obtain ⟨as, h1, h2, h3⟩ := h
  have ea : as[i]? = some (as[i]'(by rw [h2, z.1]; exact hi)) := List.getElem?_eq_getElem _
  refine ⟨_, _, r, h1, atI_nat (map_get ea), h3 i _ r ea er, ?_⟩
  have e : r[j]? = some (r[j]'(by omega)) := List.getElem?_eq_getElem _
  rw [getM_of er e]
  exact atI_nat (map_get e)
/-! ### one bound put into a closed matrix -/
theorem bb_sum : bootBuiltins "sum" = some (.builtin "sum") := by decide +kernel
theorem bb_abs : bootBuiltins "abs" = some (.builtin "abs") := by decide +kernel
def cutF (D : Nat → Nat → Int) (i j : Nat) (c : Int) : Nat → Nat → Int := fun a b => if a = i ∧ b = j then min (D a b) c else D a b
theorem cutF_le {n i j : Nat} {c : Int} {C D : Nat → Nat → Int} (hi : i < n) (hj : j < n) : LeF n C (cutF D i j c) ↔ LeF n C D ∧ C i j ≤ c := by
  constructor
  · intro h
    refine ⟨fun a ha b hb => ?_, ?_⟩
    · have := h a ha b hb
      unfold cutF at this
      split at this
      · omega
      · exact this
    · have := h i hi j hj
      unfold cutF at this
      rw [if_pos ⟨rfl, rfl⟩] at this
      omega
  · rintro ⟨h1, h2⟩ a ha b hb
    unfold cutF
    have := h1 a ha b hb
    split
    · rename_i e
      obtain ⟨rfl, rfl⟩ := e
      omega
    · exact this
def bndF (R : Nat → Nat → Int) (i j : Nat) (c : Int) : Nat → Nat → Int := fun k m => min (R k m) (R k i + c + R j m)
def bndB (n i j : Nat) (c : Int) : Option (List (List Int)) → Option (List (List Int))
  | none => none
  | some M => if c + getM M j i < 0 then none else some (mkM n (bndF (getM M) i j c))
theorem bndB_neg {n i j : Nat} {c : Int} {M : List (List Int)} (h : c + getM M j i < 0) : bndB n i j c (some M) = none := if_pos h
theorem bndB_pos {n i j : Nat} {c : Int} {M : List (List Int)} (h : ¬ c + getM M j i < 0) : bndB n i j c (some M) = some (mkM n (bndF (getM M) i j c)) := if_neg h
theorem bndB_sz {n i j : Nat} {c : Int} {B : Option (List (List Int))} : BSz n (bndB n i j c B) := by
  intro M e
  cases B with
  | none => cases e
  | some R =>
    by_cases h : c + getM R j i < 0
    · rw [bndB_neg h] at e
      cases e
    · rw [bndB_pos h] at e
      cases e
      exact mkM_sz
theorem bnd_best {n i j : Nat} {c : Int} {D : Nat → Nat → Int} {B : Option (List (List Int))} (h : Best n D B) (hi : i < n) (hj : j < n) : Best n (cutF D i j c) (bndB n i j c B) := by
  cases B with
  | none => exact fun C hC hl => h C hC ((cutF_le hi hj).mp hl).1
  | some R =>
    obtain ⟨z, cl, le, gr⟩ := h
    by_cases neg : c + getM R j i < 0
    · rw [bndB_neg neg]
      intro C hC hl
      obtain ⟨h1, h2⟩ := (cutF_le hi hj).mp hl
      have a := gr C hC h1 j hj i hi
      have b := hC.t i hi i hi j hj
      have d := hC.d i hi
      omega
    · rw [bndB_pos neg]
      refine ⟨mkM_sz, ⟨fun k hk => ?_, fun k hk m hm l hl => ?_⟩, fun a ha b hb => ?_, fun C hC hl k hk m hm => ?_⟩
      · rw [mkM_get hk hk]
        unfold bndF
        have a := cl.d k hk
        have b := cl.t j hj i hi k hk
        omega
      · rw [mkM_get hk hm, mkM_get hk hl, mkM_get hl hm]
        unfold bndF
        have a1 := cl.t k hk m hm l hl
        have a2 := cl.t k hk i hi l hl
        have a3 := cl.t j hj m hm l hl
        have a4 := cl.t j hj i hi l hl
        omega
      · rw [mkM_get ha hb]
        have x := le a ha b hb
        unfold cutF bndF
        split
        · rename_i e
          obtain ⟨rfl, rfl⟩ := e
          have d1 := cl.d a ha
          have d2 := cl.d b hb
          omega
        · omega
      · rw [mkM_get hk hm]
        obtain ⟨h1, h2⟩ := (cutF_le hi hj).mp hl
        have g := gr C hC h1
        have a := g k hk m hm
        have b := g k hk i hi
        have d := g j hj m hm
        have e := hC.t k hk m hm i hi
        have f := hC.t i hi m hm j hj
        unfold bndF
        omega
def spBounded (K : PySem.W.Frag) : Sp := fun vs H Q _ => ∃ (va : V) (B : Option (List (List Int))) (n i j : Nat) (c : Int), vs = [va, .int i, .int j, .int c] ∧ n ≤ 900 ∧ BoxAt K H va B ∧ BSz n B ∧ i < n ∧ j < n ∧ ∀ v H', Same H H' → BoxAt K H' v (bndB n i j c B) → Q v H'
/-! ### one bound; what two boxes have in common -/
def spBound (K : PySem.W.Frag) : Sp := fun vs H Q _ => ∃ (v : V) (B : Option (List (List Int))) (n i j : Nat) (c : Int), vs = [v, .int i, .int j, .int c] ∧ BoxAt K H v B ∧ BSz n B ∧ (∀ M, B = some M → Clo n (getM M)) ∧ i < n ∧ j < n ∧ n ≤ 900 ∧ ∀ v H', Same H H' → BoxAt K H' v (bndB n i j c B) → Q v H'
def minF (f g : Nat → Nat → Int) : Nat → Nat → Int := fun i j => min (f i j) (g i j)
def MeetB (n : Nat) : Option (List (List Int)) → Option (List (List Int)) → Option (List (List Int)) → Prop
  | some M, some N, R => Best n (minF (getM M) (getM N)) R
  | _, _, R => R = none
def spMeet (K : PySem.W.Frag) : Sp := fun vs H Q _ => ∃ (va vb : V) (A B : Option (List (List Int))) (n : Nat), vs = [va, vb] ∧ BoxAt K H va A ∧ BoxAt K H vb B ∧ BSz n A ∧ BSz n B ∧ n ≤ 900 ∧ ∀ v H' R, Same H H' → BoxAt K H' v R → MeetB n A B R → Q v H'
theorem bnd_id {n i j : Nat} {c : Int} {M : List (List Int)} (z : Sz n M) (h : Clo n (getM M)) (hi : i < n) (hj : j < n) (l : getM M i j ≤ c) : bndB n i j c (some M) = some M := by
  have neg : ¬ c + getM M j i < 0 := by
    have a := h.t i hi i hi j hj
    have b := h.d i hi
    omega
  rw [bndB_pos neg]
  refine congrArg some (sz_ext mkM_sz z fun k hk m hm => ?_)
  rw [mkM_get hk hm]
  unfold bndF
  have a := h.t k hk m hm i hi
  have b := h.t i hi m hm j hj
  omega
section
variable {P : Program} {w : World} {K : PySem.W.Frag} {mg : Str → Option Value} {base : Heap}
theorem ok_bound (T : Txt w K mg) : FnOk P w K mg base CX0 2 T.a_bound T.d_bound p_bound (spBound K) := by
  have g_frozen := ok_frozen (P := P) (w := w) (base := base) T
  refine T.F_bound.ok sc_bound (fun vs H Q E h => ?_) (fun cdv A outer s H vs Q E hr h => ?_)
  · obtain ⟨v, B, n, i, j, c, rfl, _⟩ := h
    rfl
  obtain ⟨v, B, n, i, j, c, rfl, hB, zB, cB, hi, hj, hn, q⟩ := h
  refine ⟨_, (pss_cons (ps_if (PW.pt (pw_or (pt_cmpR op_isN (pv 0) pe_non (nomark _)) (pw_or1 (pt_cmpR op_lt (pe_op op_add (pv 3) (pe_ix ix_tup (pe_ix ix_tup (pv 0) (pv 2) (fun _ _ => rfl)) (pv 1) (fun _ _ => rfl))) pe_int (nomark _))))) (pss_one (ps_ret pe_non)) pss_nil)
      (pss_cons (ps_if (pt_cmpR op_le (pe_ix ix_tup (pe_ix ix_tup (pv 0) (pv 1) (fun _ _ => rfl)) (pv 2) (fun _ _ => rfl)) (pv 3) (nomark _)) (pss_one (ps_ret (pv 0))) pss_nil)
      (pss_cons (ps_set (i := 4) sc_bound.nd rfl (Or.inr rfl) (pe_lc (own := [("second", 5)]) (g := gName 5) (tt := tYes) rfl sc_bound.nd (pi_tup (pe_ix ix_tup (pv 0) (pv 2) (fun _ _ => rfl))) (blkOk_by (own := [("second", 5)]) (N := n_bound) (sc := defScope s_bound) (by decide +kernel)) (fun _ _ _ _ _ => (pg_name (i := 5) sc_bound.nd rfl (Or.inl rfl))) (fun _ _ _ _ _ => pts_nil) (fun _ _ _ _ _ => (pe_op op_add (pv 3) (pv 5)))))
      (pss_one (ps_ret (pe_call g_frozen (hr.mono (by first | decide | omega)) rfl T.m_frozen T.F_frozen.kp T.b_frozen .nil pass0 (pa_cons (pe_lc (own := [("row", 6)]) (g := gName 6) (tt := tYes) rfl sc_bound.nd (pi_tup (pv 0)) (blkOk_by (own := [("row", 6)]) (N := n_bound) (sc := defScope s_bound) (by decide +kernel)) (fun _ _ _ _ _ => (pg_name (i := 6) sc_bound.nd rfl (Or.inr rfl))) (fun _ _ _ _ _ => pts_nil) (fun _ _ _ _ _ => (pe_lc (own := [("old", 7), ("second", 5)]) (g := gTup K 2 (gCons (gName 7) (gCons (gName 5) gNil))) (tt := tYes) rfl sc_bound.nd (show PI _ _ _ (ZG.iZipG K _) from (ZG.pi_zipG (by rfl) T.z_zip (pa_cons (pv 6) (pa_cons (pv 4) pa_nil)))) (blkOk_by (own := [("old", 7), ("second", 5)]) (N := n_bound) (sc := relS _ (defScope s_bound)) (by decide +kernel)) (fun _ _ _ _ _ => (pg_tup rfl (pgs_cons (pg_name (i := 7) sc_bound.nd rfl (Or.inl rfl)) (pgs_cons (pg_name (i := 5) sc_bound.nd rfl (Or.inl rfl)) pgs_nil)))) (fun _ _ _ _ _ => pts_nil) (fun _ _ _ _ _ => (pe_callB (call_min2 rfl) rfl T.z_min bb_min (pa_cons (pv 7) (pa_cons (pe_op op_add (pe_ix (show IxR _ (rIxT K) from ix_tup) (pv 6) (pv 1) (fun _ _ => rfl)) (pv 5)) pa_nil))))))) pa_nil))))))), ?_⟩
  cases B with
  | none =>
    obtain rfl : v = .non := hB
    exact ⟨_, rfl, rfl, _, rfl, ifT rfl (ifT rfl (q _ _ (Same.refl _) rfl))⟩
  | some M =>
  obtain ⟨pa, rfl, hM⟩ := hB
  have sM := zB M rfl
  have cM := cB M rfl
  refine ⟨_, rfl, rfl, _, rfl, ifF rfl ?_⟩
  obtain ⟨vs, hv, lv, hrow⟩ := hM.row
  have lv1 : vs.length = n := by rw [lv, sM.1]
  obtain ⟨vs1, a1, r1, g1, g2, g3, g4⟩ := hM.get3 sM hj hi
  refine ⟨_, rfl, _, rfl, _, rfl, pa, _, _, _, rfl, rfl, g1, g2, _, rfl, a1, _, _, _, rfl, rfl, g3, g4, _, _, rfl, rfl, _, _, rfl, rfl, _, rfl, ite2 (fun h => ?_) (fun h => ?_)⟩
  · have h' : c + getM M j i < 0 := of_decide_eq_true h
    exact q _ _ (Same.refl _) (by rw [bndB_neg h']; rfl)
  have h' : ¬ c + getM M j i < 0 := of_decide_eq_false (Bool.eq_false_iff.mpr h)
  obtain ⟨vs2, a2, r2, k1, k2, k3, k4⟩ := hM.get3 sM hi hj
  refine ⟨_, rfl, _, rfl, pa, _, _, _, rfl, rfl, k1, k2, _, rfl, a2, _, _, _, rfl, rfl, k3, k4, _, rfl, _, _, rfl, rfl, _, rfl, ite2 (fun h2 => ?_) (fun h2 => ?_)⟩
  · have h3 : getM M i j ≤ c := of_decide_eq_true h2
    refine ⟨_, rfl, q _ _ (Same.refl _) ?_⟩
    rw [bnd_id sM cM hi hj h3]
    exact ⟨pa, rfl, hM⟩
  rw [bndB_pos h'] at q
  obtain ⟨rj, ej, lj⟩ := sM.at hj
  obtain ⟨ws, aj, x1, x2, x3⟩ := hM.getT ej
  have erj : rj = mkR n (getM M j) := by
    have e2 := mkM_at (f := getM M) hj
    rw [mkM_self sM, ej] at e2
    exact Option.some.inj e2
  refine ⟨_, rfl, _, rfl, pa, _, _, _, rfl, rfl, x1, x2, aj, rfl, ⟨_, x3⟩, fun D hD => ?_⟩
  refine lc_it (walk_tup (xs := rj.map V.int)) (LcP (Same H) (RInt (mkR n fun m => c + getM M j m)) D) (lcp_start hD) (fun i G _ P => Same.tup P.1 x3) ?_ ?_
  · rintro k x G G' hk P ⟨rfl, ex⟩
    obtain ⟨u, fk, rfl⟩ := get_int ex
    rw [List.length_map, lj] at hk
    rw [erj, mkR_at hk] at fk
    cases fk
    refine ⟨rfl, tyes ?_⟩
    refine ⟨_, rfl, _, rfl, _, _, rfl, rfl, ?_⟩
    exact lcp_same P hD (Same.refl _) (lt_line (by omega)) RInt.mono ⟨_, mkR_at hk, rfl⟩
  intro G PA
  have hb := lcp_ints (K := K) PA (by rw [List.length_map, lj, mkR_len])
  have sG := PA.1
  have lb : ((mkR n fun m => c + getM M j m).map V.int).length = n := by rw [List.length_map, mkR_len]
  refine ⟨_, rfl, pa, rfl, ⟨_, Same.tup sG hv⟩, fun D2 hD2 => ?_⟩
  refine lc_it (walk_tup (xs := vs)) (LcP (Same G) (RRow K false (mkM n (bndF (getM M) i j c)) D2) D2) (lcp_start hD2) (fun _ F _ P => Same.tup (sG.trans P.1) hv) ?_ ?_
  · rintro k x F F' hk P ⟨rfl, ex⟩
    rw [lv1] at hk
    obtain ⟨a, r, rfl, er, ha⟩ := hrow k x ex
    have er2 : r = mkR n (getM M k) := by
      have e2 := mkM_at (f := getM M) hk
      rw [mkM_self sM, er] at e2
      exact Option.some.inj e2
    have lr := sM.get er
    refine ⟨rfl, tyes ?_⟩
    have haF := Same.tup (sG.trans P.1) ha
    refine ⟨_, rfl, _, rfl, true, false, a, D, _, _, rfl, haF, SqL.of (P.1 _ _ hb), fun D3 hD3 => ?_⟩
    refine lc_it (walk_zipG (n := n) (by rw [lb, List.length_map, lr]; omega)) (LcP (Same F') (RInt (mkR n (bndF (getM M) i j c k))) D3) (lcp_start hD3) (fun _ E _ P3 => ⟨Same.tup P3.1 haF, SqL.of (P3.1 _ _ (P.1 _ _ hb))⟩) ?_ ?_
    · rintro m y E1 E2 hm P3 ⟨t, c1, c2, rfl, ht, rfl, e1, e2⟩
      obtain ⟨u1, f1, rfl⟩ := get_int e1
      obtain ⟨u2, f2, rfl⟩ := get_int e2
      rw [er2, mkR_at hm] at f1
      cases f1
      rw [mkR_at hm] at f2
      cases f2
      have s3 := P3.1.trans (Same.new ht (.tup [.int (getM M k m), .int (c + getM M j m)]))
      have at_ : atI (r.map V.int) (i : Int) = some (.int (getM M k i)) := by
        rw [er2]
        exact atI_nat (map_get (mkR_at hi))
      refine ⟨t, _, rfl, SqT.of upd_same, rfl, _, _, rfl, _, _, rfl, rfl, ?_⟩
      refine ⟨rfl, tyes ?_⟩
      refine ⟨_, rfl, _, rfl, _, rfl, a, _, _, _, rfl, rfl, Same.tup s3 haF, at_, _, rfl, _, _, rfl, rfl, _, _, rfl, ?_⟩
      refine lcp_same P3 hD3 (Same.new ht _) (lt_line (by omega)) RInt.mono ⟨_, mkR_at hm, ?_⟩
      unfold bndF
      congr 1
      split <;> omega
    · intro E P3
      have e := lcp_ints (K := K) P3 mkR_len.symm
      exact lcp_same P hD2 P3.1 (lt_line (by omega)) RRow.mono ⟨D3, _, rfl, mkM_at hk, P.ne hD3, SqL.of e⟩
  · intro F P
    have m0 := lcp_rows P (by rw [lv1, mkM_sz.1])
    exact ⟨D2, _, rfl, m0, by rw [mkM_sz.1]; omega, fun p' H' s' hM' => q (.ref p') H' ((sG.trans P.1).trans s') ⟨p', rfl, hM'⟩⟩
end
/-! ### all points of a matrix, listed -/
def valsL (M : List (List Int)) (c : Nat) : List Int := (List.range (getM M c 0 + 1 - (0 - getM M 0 c)).toNat).map fun (k : Nat) => (0 - getM M 0 c) + (k : Int)
def fitP (M : List (List Int)) (c : Nat) (p : List Int) (v : Int) : Prop := ∀ k < p.length, v - p.getD k 0 ≤ getM M c (k + 1) ∧ p.getD k 0 - v ≤ getM M (k + 1) c
instance (M : List (List Int)) (c : Nat) (p : List Int) (v : Int) : Decidable (fitP M c p v) := inferInstanceAs (Decidable (∀ k < p.length, _))
def stepV (M : List (List Int)) (c : Nat) (p : List Int) (vs : List Int) : List (List Int) := (vs.filter fun v => decide (fitP M c p v)).map fun v => p ++ [v]
def stepL (M : List (List Int)) (c : Nat) (Ps : List (List Int)) : List (List Int) := Ps.flatMap fun p => stepV M c p (valsL M c)
def ptsL (M : List (List Int)) : Nat → List (List Int)
  | 0 => [[]]
  | c + 1 => stepL M (c + 1) (ptsL M c)
def InP (M : List (List Int)) (c : Nat) (p : List Int) : Prop := p.length = c ∧ ∀ i < c + 1, ∀ j < c + 1, i ≠ j → dif i j p ≤ getM M i j
theorem mem_vals {M : List (List Int)} {c : Nat} {v : Int} : v ∈ valsL M c ↔ 0 - getM M 0 c ≤ v ∧ v ≤ getM M c 0 := by
  unfold valsL
  rw [List.mem_map]
  constructor
  · rintro ⟨k, hk, rfl⟩
    rw [List.mem_range] at hk
    omega
  · rintro ⟨h1, h2⟩
    exact ⟨(v - (0 - getM M 0 c)).toNat, List.mem_range.mpr (by omega), by omega⟩
theorem snoc_get {p : List Int} {v : Int} {i : Nat} (h : i ≤ p.length) : (0 :: (p ++ [v])).getD i 0 = (0 :: p).getD i 0 := by
  rw [← List.cons_append, List.getD_eq_getElem?_getD, List.getElem?_append_left (by simp; omega), ← List.getD_eq_getElem?_getD]
theorem snoc_last {p : List Int} {v : Int} : (0 :: (p ++ [v])).getD (p.length + 1) 0 = v := by
  rw [← List.cons_append, List.getD_eq_getElem?_getD, List.getElem?_append_right (by simp)]
  simp
theorem cons_get {p : List Int} {k : Nat} : (0 :: p).getD (k + 1) 0 = p.getD k 0 := rfl
theorem mem_pts {M : List (List Int)} : ∀ {c : Nat} {p : List Int}, p ∈ ptsL M c ↔ InP M c p
  | 0, p => by
    unfold ptsL InP
    constructor
    · intro h
      have e : p = [] := by simpa using h
      subst e
      exact ⟨rfl, fun i hi j hj ne => by omega⟩
    · rintro ⟨h, _⟩
      rw [List.length_eq_zero_iff.mp h]
      exact List.mem_singleton.mpr rfl
  | c + 1, p => by
    show p ∈ stepL M (c + 1) (ptsL M c) ↔ _
    unfold stepL stepV
    rw [List.mem_flatMap]
    constructor
    · rintro ⟨q, hq, hp⟩
      obtain ⟨v, hv, rfl⟩ := List.mem_map.mp hp
      obtain ⟨hv1, hv2⟩ := List.mem_filter.mp hv
      have hf : fitP M (c + 1) q v := of_decide_eq_true hv2
      obtain ⟨lq, iq⟩ := mem_pts.mp hq
      have hr := mem_vals.mp hv1
      refine ⟨by simp [lq], fun i hi j hj ne => ?_⟩
      have last : (0 :: (q ++ [v])).getD (c + 1) 0 = v := by
        have := snoc_last (p := q) (v := v)
        rwa [lq] at this
      unfold dif
      by_cases h1 : i = c + 1
      · subst h1
        rw [last, snoc_get (by omega)]
        cases j with
        | zero =>
          show v - 0 ≤ _
          omega
        | succ j =>
          rw [cons_get]
          exact (hf j (by omega)).1
      · by_cases h2 : j = c + 1
        · subst h2
          rw [last, snoc_get (by omega)]
          cases i with
          | zero =>
            show 0 - v ≤ _
            omega
          | succ i =>
            rw [cons_get]
            exact (hf i (by omega)).2
        · rw [snoc_get (by omega), snoc_get (by omega)]
          exact iq i (by omega) j (by omega) ne
    · rintro ⟨lp, ip⟩
      have ne : p ≠ [] := fun z => by rw [z] at lp; simp at lp
      obtain ⟨q, v, rfl⟩ : ∃ q v, p = q ++ [v] := ⟨p.dropLast, p.getLast ne, (List.dropLast_concat_getLast ne).symm⟩
      have lq : q.length = c := by simpa using lp
      have last : (0 :: (q ++ [v])).getD (c + 1) 0 = v := by
        have := snoc_last (p := q) (v := v)
        rwa [lq] at this
      refine ⟨q, mem_pts.mpr ⟨lq, fun i hi j hj ne => ?_⟩, List.mem_map.mpr ⟨v, List.mem_filter.mpr ⟨mem_vals.mpr ?_, decide_eq_true fun k hk => ?_⟩, rfl⟩⟩
      · have := ip i (by omega) j (by omega) ne
        unfold dif at *
        rwa [snoc_get (by omega), snoc_get (by omega)] at this
      · have a := ip (c + 1) (by omega) 0 (by omega) (by omega)
        have b := ip 0 (by omega) (c + 1) (by omega) (by omega)
        unfold dif at a b
        rw [last, snoc_get (by omega)] at a b
        have e : (0 :: q).getD 0 0 = 0 := rfl
        rw [e] at a b
        omega
      · have a := ip (c + 1) (by omega) (k + 1) (by omega) (by omega)
        have b := ip (k + 1) (by omega) (c + 1) (by omega) (by omega)
        unfold dif at a b
        rw [last, snoc_get (by omega), cons_get] at a b
        exact ⟨a, b⟩
/-- the point of a closed matrix in which a column is as small as can be -/
def colP (n : Nat) (C : Nat → Nat → Int) (j : Nat) : List Int := mkR n fun k => C (k + 1) j - C 0 j
theorem colP_get {n : Nat} {C : Nat → Nat → Int} {i j : Nat} (hi : i < n + 1) : (0 :: colP n C j).getD i 0 = C i j - C 0 j := by
  cases i with
  | zero =>
    show (0 : Int) = _
    omega
  | succ i =>
    rw [cons_get, List.getD_eq_getElem?_getD]
    unfold colP
    rw [mkR_at (by omega)]
    rfl
theorem colP_in {n : Nat} {C : Nat → Nat → Int} {M : List (List Int)} {j : Nat} (c : Clo (n + 1) C) (l : LeF (n + 1) C (getM M)) (hj : j < n + 1) : colP n C j ∈ ptsL M n := by
  refine mem_pts.mpr ⟨mkR_len, fun i hi k hk _ => ?_⟩
  unfold dif
  rw [colP_get hi, colP_get hk]
  have a := c.t i hi j hj k hk
  have b := l i hi k hk
  omega
theorem best_pts {n : Nat} {M : List (List Int)} (hd : ∀ i < n + 1, 0 ≤ getM M i i) : Best (n + 1) (getM M) (hull n (ptsL M n)) := by
  unfold hull
  split
  · rename_i e
    intro C hC hl
    have := colP_in hC hl (j := 0) (by omega)
    rw [e] at this
    simp at this
  · rename_i ne
    refine ⟨hullM_sz n _, ⟨fun i hi => hull_diag ne hi, fun i hi j hj k hk => hull_tri ne hi hj hk⟩, fun i hi j hj => ?_, fun C hC hl i hi j hj => ?_⟩
    · by_cases e : i = j
      · subst e
        rw [hull_diag ne hi]
        exact hd i hi
      · rw [getM_hull hi hj]
        obtain ⟨r, hr, er⟩ := List.mem_map.mp (lmax_mem (xs := (ptsL M n).map (dif i j)) fun z => ne (List.map_eq_nil_iff.mp z))
        rw [← er]
        exact (mem_pts.mp hr).2 i hi j hj e
    · rw [getM_hull hi hj]
      have h1 : dif i j (colP n C j) ≤ _ := lmax_le (List.mem_map_of_mem (colP_in hC hl hj))
      unfold dif at h1
      rw [colP_get hi, colP_get hj] at h1
      have := hC.d j hj
      unfold dif
      omega
theorem best_neg {n i : Nat} {D : Nat → Nat → Int} (hi : i < n) (neg : D i i < 0) : Best n D none := fun C hC hl => by
  have a := hl i hi i hi
  have b := hC.d i hi
  omega
/-- the points that the law lists for a matrix, or None -/
noncomputable def ptsB (n : Nat) : Option (List (List Int)) → List (List Int)
  | none => []
  | some M => open Classical in if ∀ i < n + 1, 0 ≤ getM M i i then ptsL M n else []
theorem best_ptsB {n : Nat} {M : List (List Int)} : Best (n + 1) (getM M) (hull n (ptsB n (some M))) := by
  show Best (n + 1) (getM M) (hull n (open Classical in if ∀ i < n + 1, 0 ≤ getM M i i then ptsL M n else []))
  split
  · rename_i h
    exact best_pts h
  · rename_i h
    have e : hull n [] = none := rfl
    rw [e]
    obtain ⟨i, h1⟩ := Classical.not_forall.mp h
    obtain ⟨hi, h2⟩ := Classical.not_imp.mp h1
    exact best_neg hi (by omega)
/-! ### hulls of moved points -/
/-- column a of a point -/
def xc (r : List Int) (a : Nat) : Int := (0 :: r).getD a 0
theorem dif_xc {a b : Nat} {r : List Int} : dif a b r = xc r a - xc r b := rfl
theorem xc_succ {r : List Int} {a : Nat} : xc r (a + 1) = r.getD a 0 := rfl
theorem lmax_is {xs : List Int} {m : Int} (h1 : m ∈ xs) (h2 : ∀ y ∈ xs, y ≤ m) : lmax xs = m := (lmax_eq h1 h2).symm
theorem hull_of {n : Nat} {Ps : List (List Int)} {f : Nat → Nat → Int} (ne : Ps ≠ []) (h : ∀ a < n + 1, ∀ b < n + 1, f a b ∈ Ps.map (dif a b) ∧ ∀ r ∈ Ps, dif a b r ≤ f a b) : hull n Ps = some (mkM (n + 1) f) := by
  unfold hull
  rw [if_neg ne]
  congr 1
  refine sz_ext (hullM_sz n Ps) mkM_sz fun a ha b hb => ?_
  rw [getM_hull ha hb, mkM_get ha hb]
  obtain ⟨h1, h2⟩ := h a ha b hb
  exact lmax_is h1 fun y hy => by
    obtain ⟨r, hr, rfl⟩ := List.mem_map.mp hy
    exact h2 r hr
/-- an entry of a hull is reached, and bounds -/
theorem hull_at {n a b : Nat} {Ps : List (List Int)} (ne : Ps ≠ []) (ha : a < n + 1) (hb : b < n + 1) : ∃ r ∈ Ps, dif a b r = getM (hullM n Ps) a b := by
  rw [getM_hull ha hb]
  obtain ⟨r, hr, e⟩ := List.mem_map.mp (lmax_mem (xs := Ps.map (dif a b)) fun z => ne (List.map_eq_nil_iff.mp z))
  exact ⟨r, hr, e⟩
theorem hull_le {n a b : Nat} {Ps : List (List Int)} {r : List Int} (ha : a < n + 1) (hb : b < n + 1) (hr : r ∈ Ps) : dif a b r ≤ getM (hullM n Ps) a b := by
  rw [getM_hull ha hb]
  exact lmax_le (List.mem_map_of_mem hr)
theorem hull_some {n : Nat} {Ps : List (List Int)} (ne : Ps ≠ []) : hull n Ps = some (hullM n Ps) := by
  unfold hull
  rw [if_neg ne]
theorem hull_clo {n : Nat} {Ps : List (List Int)} (ne : Ps ≠ []) : Clo (n + 1) (getM (hullM n Ps)) := ⟨fun _ hi => hull_diag ne hi, fun _ hi _ hj _ hk => hull_tri ne hi hj hk⟩
theorem xc_set {r : List Int} {k a : Nat} {v : Int} (hk : k < r.length) : xc (r.set k v) a = if a = k + 1 then v else xc r a := by
  cases a with
  | zero => rw [if_neg (by omega)]; rfl
  | succ a =>
    rw [xc_succ, List.getD_eq_getElem?_getD, List.getElem?_set]
    by_cases e : k = a
    · subst e
      rw [if_pos rfl, if_pos hk, if_pos rfl]
      rfl
    · rw [if_neg e, if_neg (by omega), xc_succ, List.getD_eq_getElem?_getD]
/-! ### hulls of the same points; the points below a matrix (as in Law18b.inc) -/
theorem lmax_congr {xs ys : List Int} (h : ∀ x, x ∈ xs ↔ x ∈ ys) : lmax xs = lmax ys := by
  by_cases hx : xs = []
  · subst hx
    have : ys = [] := List.eq_nil_iff_forall_not_mem.mpr fun y hy => by simpa using (h y).mpr hy
    rw [this]
  · exact lmax_eq ((h _).mp (lmax_mem hx)) fun y hy => lmax_le ((h y).mpr hy)
theorem hull_congr {n : Nat} {Ps Qs : List (List Int)} (h : ∀ r, r ∈ Ps ↔ r ∈ Qs) : hull n Ps = hull n Qs := by
  have e : (Ps = []) ↔ (Qs = []) := by
    rw [List.eq_nil_iff_forall_not_mem, List.eq_nil_iff_forall_not_mem]
    exact ⟨fun k r hr => k r ((h r).mpr hr), fun k r hr => k r ((h r).mp hr)⟩
  unfold hull
  by_cases h1 : Ps = []
  · rw [if_pos h1, if_pos (e.mp h1)]
  · rw [if_neg h1, if_neg (fun z => h1 (e.mpr z))]
    congr 1
    unfold hullM
    refine List.map_congr_left fun i _ => List.map_congr_left fun j _ => lmax_congr fun x => ?_
    simp only [List.mem_map]
    exact ⟨fun ⟨r, hr, q⟩ => ⟨r, (h r).mp hr, q⟩, fun ⟨r, hr, q⟩ => ⟨r, (h r).mpr hr, q⟩⟩
/-- the greatest closed matrix below D is the hull of its points -/
theorem best_of_pts {n : Nat} {D : Nat → Nat → Int} {Ps : List (List Int)} (hP : ∀ r, r ∈ Ps ↔ r.length = n ∧ ∀ i < n + 1, ∀ j < n + 1, dif i j r ≤ D i j) (hd : ∀ i < n + 1, 0 ≤ D i i) : Best (n + 1) D (hull n Ps) := by
  have h := best_pts (n := n) (M := mkM (n + 1) D) fun i hi => by rw [mkM_get hi hi]; exact hd i hi
  have e : hull n Ps = hull n (ptsL (mkM (n + 1) D) n) := hull_congr fun r => by
    rw [hP r, mem_pts]
    constructor
    · rintro ⟨l, h⟩
      refine ⟨l, fun i hi j hj _ => ?_⟩
      rw [mkM_get hi hj]
      exact h i hi j hj
    · rintro ⟨l, h⟩
      refine ⟨l, fun i hi j hj => ?_⟩
      by_cases eq : i = j
      · subst eq
        have := hd i hi
        rw [dif_xc]
        omega
      · have := h i hi j hj eq
        rwa [mkM_get hi hj] at this
  rw [e]
  exact h.congr fun C _ => by
    constructor
    · intro z i hi j hj
      have := z i hi j hj
      rwa [mkM_get hi hj] at this
    · intro z i hi j hj
      rw [mkM_get hi hj]
      exact z i hi j hj
/-! ### law k22: the points of a box, all of them -/
def dfn (r : List Int) : Nat → Nat → Int := fun a b => dif a b r
structure Full (n : Nat) (Ps : List (List Int)) : Prop where
  len : ∀ r ∈ Ps, r.length = n
  al : Ps ≠ [] → ∀ p, p.length = n → LeF (n + 1) (dfn p) (getM (hullM n Ps)) → p ∈ Ps
theorem Full.mem {n : Nat} {Ps : List (List Int)} (h : Full n Ps) (ne : Ps ≠ []) {r : List Int} : r ∈ Ps ↔ r.length = n ∧ LeF (n + 1) (dfn r) (getM (hullM n Ps)) :=
  ⟨fun k => ⟨h.len r k, fun _ ha _ hb => hull_le ha hb k⟩, fun k => h.al ne r k.1 k.2⟩
theorem cut_full {n : Nat} {E : Nat → Nat → Int} {R : Option (List (List Int))} {Ps : List (List Int)} (hP : ∀ r, r ∈ Ps ↔ r.length = n ∧ LeF (n + 1) (dfn r) E) (hB : Best (n + 1) E R) : R = hull n Ps ∧ Full n Ps := by
  refine ⟨?_, fun r hr => ((hP r).mp hr).1, fun ne p lp hp => (hP p).mpr ⟨lp, fun a ha b hb => ?_⟩⟩
  · by_cases hd : ∀ i < n + 1, 0 ≤ E i i
    · exact hB.uniq (best_of_pts hP hd)
    · simp only [Classical.not_forall] at hd
      obtain ⟨i, hi, neg⟩ := hd
      have e : Ps = [] := List.eq_nil_iff_forall_not_mem.mpr fun r hr => by
        have := ((hP r).mp hr).2 i hi i hi
        unfold dfn dif at this
        omega
      rw [e]
      exact hB.uniq (best_neg hi (by omega))
  · obtain ⟨r, hr, e⟩ := hull_at ne ha hb
    have h1 := hp a ha b hb
    have h2 := ((hP r).mp hr).2 a ha b hb
    rw [← e] at h1
    exact Int.le_trans h1 h2
/-- a point that agrees with told columns -/
theorem extend {n m : Nat} {C : Nat → Nat → Int} {κ : Nat → Nat} {z : Nat → Int} (c : Clo n C) (hk : ∀ a < m + 1, κ a < n) (h : ∀ a < m + 1, ∀ b < m + 1, z a - z b ≤ C (κ a) (κ b)) :
    ∃ y : Nat → Int, (∀ a < m + 1, y (κ a) = z a) ∧ (∀ a < n, ∀ b < n, y a - y b ≤ C a b) ∧ ∀ a < n, ∃ b < m + 1, y a = C a (κ b) + z b := by
  have ex : ∀ x, ∃ v : Int, (∃ b < m + 1, v = C x (κ b) + z b) ∧ ∀ b < m + 1, v ≤ C x (κ b) + z b := fun x => by
    clear h hk
    induction m with
    | zero =>
      refine ⟨C x (κ 0) + z 0, ⟨0, by omega, rfl⟩, fun b hb => ?_⟩
      have e : b = 0 := by omega
      rw [e]
      exact Int.le_refl _
    | succ m ih =>
      obtain ⟨v, ⟨b, hb, e⟩, hv⟩ := ih
      by_cases g : v ≤ C x (κ (m + 1)) + z (m + 1)
      · refine ⟨v, ⟨b, by omega, e⟩, fun b' hb' => ?_⟩
        by_cases q : b' = m + 1
        · rw [q]; exact g
        · exact hv b' (by omega)
      · refine ⟨_, ⟨m + 1, by omega, rfl⟩, fun b' hb' => ?_⟩
        by_cases q : b' = m + 1
        · rw [q]; exact Int.le_refl _
        · have := hv b' (by omega)
          omega
  obtain ⟨y, hy⟩ := Classical.skolem.mp ex
  refine ⟨y, fun a ha => ?_, fun a ha b hb => ?_, fun a ha => (hy a).1⟩
  · obtain ⟨⟨b, hb, e⟩, up⟩ := hy (κ a)
    have h1 := up a ha
    rw [c.d _ (hk a ha)] at h1
    have h2 := h a ha b hb
    omega
  · obtain ⟨⟨d, hd, e⟩, _⟩ := hy b
    have h1 := (hy a).2 d hd
    have h2 := c.t a ha (κ d) (hk d hd) b hb
    omega
/-- the point of a function of columns -/
def ptOf (n : Nat) (y : Nat → Int) : List Int := mkR n fun k => y (k + 1)
theorem ptOf_xc {n a : Nat} {y : Nat → Int} (h0 : y 0 = 0) (ha : a < n + 1) : xc (ptOf n y) a = y a := by
  cases a with
  | zero => rw [h0]; rfl
  | succ k =>
    rw [xc_succ, List.getD_eq_getElem?_getD]
    unfold ptOf
    rw [mkR_at (by omega)]
    rfl
theorem ptOf_in {n : Nat} {Ps : List (List Int)} {y : Nat → Int} (f : Full n Ps) (ne : Ps ≠ []) (h0 : y 0 = 0) (h : ∀ a < n + 1, ∀ b < n + 1, y a - y b ≤ getM (hullM n Ps) a b) : ptOf n y ∈ Ps := f.al ne _ mkR_len fun a ha b hb => by
  show dif a b _ ≤ _
  rw [dif_xc, ptOf_xc h0 ha, ptOf_xc h0 hb]
  exact h a ha b hb
theorem xc_ext {n : Nat} {p q : List Int} (hp : p.length = n) (hq : q.length = n) (h : ∀ a < n + 1, xc p a = xc q a) : p = q := by
  refine List.ext_getElem (by rw [hp, hq]) fun k h1 h2 => ?_
  have := h (k + 1) (by omega)
  rw [xc_succ, xc_succ, List.getD_eq_getElem?_getD, List.getD_eq_getElem?_getD, List.getElem?_eq_getElem h1, List.getElem?_eq_getElem h2] at this
  exact this
theorem hull_between {n : Nat} {Ps Qs : List (List Int)} (sub : ∀ r ∈ Ps, r ∈ Qs) (ne : Ps ≠ []) (le : ∀ q ∈ Qs, LeF (n + 1) (dfn q) (getM (hullM n Ps))) : hull n Ps = hull n Qs := by
  have ne2 : Qs ≠ [] := fun e => by
    obtain ⟨r, hr⟩ := List.exists_mem_of_ne_nil _ ne
    have := sub r hr
    rw [e] at this
    simp at this
  have e := hull_of (n := n) (Ps := Qs) (f := getM (hullM n Ps)) ne2 fun a ha b hb => by
    obtain ⟨r, hr, e⟩ := hull_at ne ha hb
    exact ⟨List.mem_map.mpr ⟨r, sub r hr, e⟩, fun q hq => le q hq a ha b hb⟩
  rw [e, hull_some ne, mkM_self (hullM_sz n Ps)]
theorem full_nil {n : Nat} : Full n [] := ⟨fun r hr => by simp at hr, fun ne => absurd rfl ne⟩
theorem xc_zero {p : List Int} : xc p 0 = 0 := rfl
/-! ### law k22: what a bound, a meeting, a tie leave -/
theorem hull_nil {n : Nat} : hull n [] = none := if_pos rfl
/-- the points that are left: those below E -/
theorem cut_points {n : Nat} {Ps Qs : List (List Int)} {T : (Nat → Nat → Int) → Prop} {E : Nat → Nat → Int} {R : Option (List (List Int))} (f : Full n Ps) (ne : Ps ≠ []) (hE : ∀ C, LeF (n + 1) C E ↔ LeF (n + 1) C (getM (hullM n Ps)) ∧ T C) (hB : Best (n + 1) E R) (hQ : ∀ q, q ∈ Qs ↔ q ∈ Ps ∧ T (dfn q)) : R = hull n Qs ∧ Full n Qs :=
  cut_full (fun r => by
    rw [hQ, f.mem ne, hE]
    exact ⟨fun ⟨⟨a, b⟩, c⟩ => ⟨a, b, c⟩, fun ⟨a, b, c⟩ => ⟨⟨a, b⟩, c⟩⟩) hB
theorem none_points {n : Nat} {Ps Qs : List (List Int)} {T : List Int → Prop} (e : Ps = []) (hQ : ∀ q, q ∈ Qs ↔ q ∈ Ps ∧ T q) : none = hull n Qs ∧ Full n Qs := by
  have eq : Qs = [] := List.eq_nil_iff_forall_not_mem.mpr fun q hq => by
    have := ((hQ q).mp hq).1
    rw [e] at this
    simp at this
  rw [eq]
  exact ⟨hull_nil.symm, full_nil⟩
theorem bound_points {n i j : Nat} {c : Int} {Ps Qs : List (List Int)} (f : Full n Ps) (hi : i < n + 1) (hj : j < n + 1) (hQ : ∀ q, q ∈ Qs ↔ q ∈ Ps ∧ dif i j q ≤ c) : bndB (n + 1) i j c (hull n Ps) = hull n Qs ∧ Full n Qs := by
  by_cases ne : Ps = []
  · have := none_points (n := n) ne hQ
    rw [ne]
    exact this
  · have hs := hull_some (n := n) ne
    have b := bnd_best (c := c) (Best.self (hullM_sz n Ps) (hull_clo ne)) hi hj
    rw [hs]
    exact cut_points (T := fun C => C i j ≤ c) f ne (fun C => cutF_le hi hj) b hQ
/-! ### the join of two boxes (as in Zone.inc) -/
def joinM (M N : List (List Int)) : List (List Int) := List.zipWith (List.zipWith max) M N
def joinB : Option (List (List Int)) → Option (List (List Int)) → Option (List (List Int))
  | none, b => b
  | a, none => a
  | some M, some N => some (joinM M N)
def Alike (A B : Option (List (List Int))) : Prop := ∀ M N, A = some M → B = some N → ∃ n, n ≤ 1000 ∧ Sz n M ∧ Sz n N
def spJoin (K : PySem.W.Frag) : Sp := fun vs H Q _ => ∃ (va vb : V) (A B : Option (List (List Int))), vs = [va, vb] ∧ BoxAt K H va A ∧ BoxAt K H vb B ∧ Alike A B ∧ ∀ v H', Same H H' → BoxAt K H' v (joinB A B) → Q v H'
section
variable {P : Program} {w : World} {K : PySem.W.Frag} {mg : Str → Option Value} {base : Heap}
theorem ok_join_boxes (T : Txt w K mg) : FnOk P w K mg base CX0 2 T.a_join_boxes T.d_join_boxes p_join_boxes (spJoin K) := by
  have g_frozen := ok_frozen (P := P) (w := w) (base := base) T
  refine T.F_join_boxes.ok sc_join_boxes (fun vs H Q E h => ?_) (fun cdv A outer s H vs Q E hr h => ?_)
  · obtain ⟨va, vb, BA, BB, rfl, _⟩ := h
    rfl
  obtain ⟨va, vb, BA, BB, rfl, hA, hB, al, q⟩ := h
  refine ⟨_, (pss_cons (ps_if (PW.pt (pw_or (pt_cmpR op_isN (pv 0) pe_non (nomark _)) (pw_or1 (pt_cmpR op_isN (pv 1) pe_non (nomark _))))) (pss_one (ps_ret (pe_ifExp (pt_cmpR op_isN (pv 0) pe_non (nomark _)) (pv 1) (pv 0)))) pss_nil)
      (pss_one (ps_ret (pe_call g_frozen (hr.mono (by first | decide | omega)) rfl T.m_frozen T.F_frozen.kp T.b_frozen .nil pass0 (pa_cons (pe_lc (own := [("row", 2), ("other", 3)]) (g := gTup K 2 (gCons (gName 2) (gCons (gName 3) gNil))) (tt := tYes) rfl sc_join_boxes.nd (ZG.pi_zipG (by rfl) T.z_zip (pa_cons (pv 0) (pa_cons (pv 1) pa_nil))) (blkOk_by (own := [("row", 2), ("other", 3)]) (N := n_join_boxes) (sc := defScope s_join_boxes) (by decide +kernel)) (fun _ _ _ _ _ => (pg_tup rfl (pgs_cons (pg_name (i := 2) sc_join_boxes.nd rfl (Or.inl rfl)) (pgs_cons (pg_name (i := 3) sc_join_boxes.nd rfl (Or.inl rfl)) pgs_nil)))) (fun _ _ _ _ _ => pts_nil) (fun _ _ _ _ _ => (pe_lc (own := [("pair", 4)]) (g := gName 4) (tt := tYes) rfl sc_join_boxes.nd (show PI _ _ _ (ZG.iZipG K _) from (ZG.pi_zipG (by rfl) T.z_zip (pa_cons (pv 2) (pa_cons (pv 3) pa_nil)))) (blkOk_by (own := [("pair", 4)]) (N := n_join_boxes) (sc := relS _ (defScope s_join_boxes)) (by decide +kernel)) (fun _ _ _ _ _ => (pg_name (i := 4) sc_join_boxes.nd rfl (Or.inl rfl))) (fun _ _ _ _ _ => pts_nil) (fun _ _ _ _ _ => (pe_callB (show CallR _ _ (MxT.rMaxT K) from (MxT.call_maxT rfl)) rfl T.z_max bb_max (pa_cons (pv 4) pa_nil)))))) pa_nil))))), ?_⟩
  cases BA with
  | none =>
    obtain rfl : va = .non := hA
    refine ⟨_, rfl, rfl, _, rfl, ifT rfl (ifT rfl ?_)⟩
    refine ⟨_, rfl, rfl, _, rfl, ifT rfl ⟨_, rfl, ?_⟩⟩
    exact q _ _ (Same.refl _) hB
  | some M =>
    obtain ⟨pa, rfl, hMa⟩ := hA
    refine ⟨_, rfl, rfl, _, rfl, ifF rfl ?_⟩
    cases BB with
    | none =>
      obtain rfl : vb = .non := hB
      refine ⟨_, rfl, rfl, _, rfl, ifT rfl ?_⟩
      refine ⟨_, rfl, rfl, _, rfl, ifF rfl ⟨_, rfl, ?_⟩⟩
      exact q _ _ (Same.refl _) ⟨pa, rfl, hMa⟩
    | some N =>
      obtain ⟨pb, rfl, hNb⟩ := hB
      refine ⟨_, rfl, rfl, _, rfl, ifF rfl ?_⟩
      obtain ⟨n, hn, sM, sN⟩ := al M N rfl rfl
      obtain ⟨vsA, hvA, hlA, hrA⟩ := hMa.row
      obtain ⟨vsB, hvB, hlB, hrB⟩ := hNb.row
      have lM := sM.1
      have lN := sN.1
      have lJ : (joinM M N).length = n := by
        unfold joinM
        rw [List.length_zipWith]
        omega
      refine ⟨_, rfl, _, rfl, true, true, pa, pb, _, _, rfl, hvA, hvB, fun D hD => ?_⟩
      refine lc_it (walk_zipG (n := n) (by omega)) (LcP (Same H) (RRow K false (joinM M N) D) D) (lcp_start hD) (fun i G _ P => ⟨Sq.same P.1 hvA, Sq.same P.1 hvB⟩) ?_ ?_
      · rintro i x G G' hi P ⟨t, u, v, rfl, ht, rfl, eu, ev⟩
        obtain ⟨a, r, rfl, er, ha⟩ := hrA i u eu
        obtain ⟨b, r', rfl, er', hb⟩ := hrB i v ev
        have lr := sM.get er
        have lr' := sN.get er'
        have s1 : Same G (upd G t (.tup [.ref a, .ref b])) := Same.new ht _
        refine ⟨t, _, rfl, SqT.of upd_same, rfl, _, _, rfl, _, _, rfl, rfl, ?_⟩
        refine ⟨rfl, tyes ?_⟩
        have ha2 := Sq.same (P.1.trans s1) ha
        have hb2 := Sq.same (P.1.trans s1) hb
        refine ⟨_, rfl, _, rfl, true, true, a, b, _, _, rfl, ha2, hb2, fun D2 hD2 => ?_⟩
        have lz : (List.zipWith max r r').length = n := by
          rw [List.length_zipWith]
          omega
        refine lc_it (walk_zipG (n := n) (by rw [List.length_map, List.length_map]; omega)) (LcP (Same _) (RInt (List.zipWith max r r')) D2) (lcp_start hD2) (fun i F _ P2 => ⟨Sq.same P2.1 ha2, Sq.same P2.1 hb2⟩) ?_ ?_
        · rintro j y F F' hj P2 ⟨t2, c1, c2, rfl, ht2, rfl, e1, e2⟩
          obtain ⟨k1, f1, rfl⟩ := get_int e1
          obtain ⟨k2, f2, rfl⟩ := get_int e2
          refine ⟨rfl, tyes ?_⟩
          refine ⟨_, rfl, t2, [k1, k2], rfl, SqT.of upd_same, (by simp), fun m hm hx => ?_⟩
          have em : m = max k1 k2 := by
            have h1 := hx k1 (by simp)
            have h2 := hx k2 (by simp)
            have h3 : m = k1 ∨ m = k2 := by simpa using hm
            omega
          exact lcp_same P2 hD2 (Same.new ht2 _) (lt_line (by omega)) RInt.mono ⟨_, zw_get f1 f2, by rw [em]⟩
        · intro F P2
          have e := lcp_ints (K := K) P2 lz.symm
          exact lcp_same P hD (s1.trans P2.1) (lt_line (by omega)) RRow.mono ⟨D2, _, rfl, zw_get er er', P.ne (s1.free hD2), SqL.of e⟩
      · intro G P
        exact ⟨D, joinM M N, rfl, lcp_rows P lJ.symm, by omega, fun p' H' s' hM' => q _ _ (P.1.trans s') ⟨p', rfl, hM'⟩⟩
end
/-! ### == of lists of ints -/
theorem eqvI : ∀ xs ys : List Int, PyData.eqvAll (xs.map PyData.int) (ys.map PyData.int) = decide (xs = ys)
  | [], [] => by simp [PyData.eqvAll]
  | [], y :: ys => by simp [PyData.eqvAll]
  | x :: xs, [] => by simp [PyData.eqvAll]
  | x :: xs, y :: ys => by
    have ih := eqvI xs ys
    simp only [List.map_cons, PyData.eqvAll, PyData.eqv, ih, List.cons.injEq]
    rw [Bool.decide_and]
    congr 1
theorem eqvL (xs ys : List Int) : PyData.eqv (.list (xs.map PyData.int)) (.list (ys.map PyData.int)) = decide (xs = ys) := by
  rw [PyData.eqv]
  exact eqvI xs ys
theorem dpAllI {K : PySem.W.Frag} {H : Hp} : ∀ xs : List Int, DpAll K H (xs.map V.int) (xs.map PyData.int)
  | [] => .nil
  | _ :: xs => .cons (.int _) (dpAllI xs)
theorem dpI {K : PySem.W.Frag} {H : Hp} {a : Addr} {xs : List Int} (h : SqL K H a (xs.map V.int)) : Dp K H (.ref a) (.list (xs.map PyData.int)) := .lst h (dpAllI xs)
theorem shapedAllI : ∀ xs : List Int, PyData.canLayAll0 (xs.map PyData.int) = true ∧ PyData.depthAll (xs.map PyData.int) = 0
  | [] => ⟨rfl, rfl⟩
  | x :: xs => by
    obtain ⟨h1, h2⟩ := shapedAllI xs
    constructor
    · rw [List.map_cons, PyData.canLayAll0, PyData.canLay0, h1]
      rfl
    · rw [List.map_cons, PyData.depthAll, PyData.depth, h2]
      rfl
theorem shapedI (xs : List Int) : SeqAt.shaped (.list (xs.map PyData.int)) = true := by
  obtain ⟨h1, h2⟩ := shapedAllI xs
  unfold SeqAt.shaped
  rw [PyData.canLay0, h1, PyData.depth, h2]
  rfl
/-- told: two lists of ints, compared -/
theorem neI {K : PySem.W.Frag} {H : Hp} {a b : Addr} {xs ys : List Int} {Q : VK} (ha : SqL K H a (xs.map V.int)) (hb : SqL K H b (ys.map V.int)) (q : Q (.bl (!decide (xs = ys))) H) : rNeD K (.ref a) (.ref b) H Q := ⟨_, _, dpI ha, dpI hb, shapedI xs, shapedI ys, by rw [eqvL]; exact q⟩
theorem eqI {K : PySem.W.Frag} {H : Hp} {a b : Addr} {xs ys : List Int} {Q : VK} (ha : SqL K H a (xs.map V.int)) (hb : SqL K H b (ys.map V.int)) (q : Q (.bl (decide (xs = ys))) H) : rEqD K (.ref a) (.ref b) H Q := ⟨_, _, dpI ha, dpI hb, shapedI xs, shapedI ys, by rw [eqvL]; exact q⟩
/-- two ints in order -/
theorem sorted_pm {ns ms : List Int} (p : ms.Perm ns) (s : ms.Pairwise (· ≤ ·)) : ms = [-1, 1] ↔ ns.Perm [-1, 1] := by
  constructor
  · intro e
    rw [e] at p
    exact p.symm
  · intro q
    have r := p.trans q
    have l := r.length_eq
    match ms, l with
    | [x, y], _ =>
      have m1 : (-1 : Int) ∈ [x, y] := r.symm.subset (by simp)
      have m2 : (1 : Int) ∈ [x, y] := r.symm.subset (by simp)
      have le := (List.pairwise_cons.mp s).1 y (by simp)
      simp only [List.mem_cons, List.not_mem_nil, or_false] at m1 m2
      have e1 : x = -1 ∧ y = 1 := by omega
      rw [e1.1, e1.2]
/-! ### forms: coefficients, what they stand for -/
def usedZ (cs : List Int) : List Nat := (List.range cs.length).filter fun k => decide (cs.getD k 0 ≠ 0)
def usedN (cs : List Int) : List Nat := (usedZ cs).map (· + 1)
def numL (cs : List Int) : List Int := (usedZ cs).map fun k => cs.getD k 0
def FormAt (K : PySem.W.Frag) (H : Hp) (f : Addr) (cs : List Int) (lo hi : Int) : Prop := ∃ c : Addr, SqT K H f [.ref c, .int lo, .int hi] ∧ SqT K H c (cs.map V.int)
theorem FormAt.same {K : PySem.W.Frag} {H H' : Hp} {f : Addr} {cs : List Int} {lo hi : Int} (s : Same H H') (h : FormAt K H f cs lo hi) : FormAt K H' f cs lo hi := by
  obtain ⟨c, h1, h2⟩ := h
  exact ⟨c, Same.tup s h1, Same.tup s h2⟩
theorem mem_usedZ {cs : List Int} {k : Nat} : k ∈ usedZ cs ↔ k < cs.length ∧ cs.getD k 0 ≠ 0 := by
  unfold usedZ
  rw [List.mem_filter, List.mem_range, decide_eq_true_eq]
theorem mem_usedN {cs : List Int} {c : Nat} : c ∈ usedN cs ↔ 1 ≤ c ∧ c ≤ cs.length ∧ cs.getD (c - 1) 0 ≠ 0 := by
  unfold usedN
  rw [List.mem_map]
  constructor
  · rintro ⟨k, hk, rfl⟩
    have := mem_usedZ.mp hk
    exact ⟨by omega, by omega, this.2⟩
  · rintro ⟨h1, h2, h3⟩
    exact ⟨c - 1, mem_usedZ.mpr ⟨by omega, h3⟩, by omega⟩
theorem usedZ_len {cs : List Int} : (usedZ cs).length ≤ cs.length := by
  have := List.length_filter_le (fun k => decide (cs.getD k 0 ≠ 0)) (List.range cs.length)
  rw [List.length_range] at this
  exact this
theorem usedN_len {cs : List Int} : (usedN cs).length ≤ cs.length := by
  unfold usedN
  rw [List.length_map]
  exact usedZ_len
/-- the first i places, filtered -/
def usedTo (cs : List Int) (i : Nat) : List Nat := (List.range i).filter fun k => decide (cs.getD k 0 ≠ 0)
theorem usedTo_all {cs : List Int} : usedTo cs cs.length = usedZ cs := rfl
theorem usedTo_yes {cs : List Int} {i : Nat} (h : cs.getD i 0 ≠ 0) : usedTo cs (i + 1) = usedTo cs i ++ [i] := by
  unfold usedTo
  rw [List.range_succ, List.filter_append, List.filter_cons_of_pos (by simpa using h)]
  rfl
theorem usedTo_no {cs : List Int} {i : Nat} (h : cs.getD i 0 = 0) : usedTo cs (i + 1) = usedTo cs i := by
  unfold usedTo
  rw [List.range_succ, List.filter_append, List.filter_cons_of_neg (by simpa using h), List.filter_nil, List.append_nil]
theorem usedTo_len {cs : List Int} {i : Nat} : (usedTo cs i).length ≤ i := by
  have := List.length_filter_le (fun k => decide (cs.getD k 0 ≠ 0)) (List.range i)
  rw [List.length_range] at this
  exact this
/-- one 1, one -1 -/
def IsD (cs : List Int) : Prop := (numL cs).Perm [-1, 1]
/-- the sum of coefficients times values -/
def val (cs p : List Int) : Int := ((List.range cs.length).map fun k => cs.getD k 0 * p.getD k 0).sum
theorem sum_filter {t : Nat → Bool} {g : Nat → Int} : ∀ xs : List Nat, (∀ k ∈ xs, t k = false → g k = 0) → (xs.map g).sum = ((xs.filter t).map g).sum
  | [], _ => rfl
  | x :: xs, h => by
    have ih := sum_filter xs fun k hk => h k (List.mem_cons_of_mem _ hk)
    rw [List.map_cons, List.sum_cons, ih]
    cases e : t x with
    | true => rw [List.filter_cons_of_pos e, List.map_cons, List.sum_cons]
    | false => rw [List.filter_cons_of_neg (by rw [e]; decide), h x List.mem_cons_self e, Int.zero_add]
theorem val_used {cs p : List Int} : val cs p = ((usedZ cs).map fun k => cs.getD k 0 * p.getD k 0).sum := by
  unfold val usedZ
  refine sum_filter _ fun k _ hk => ?_
  have : cs.getD k 0 = 0 := by simpa using hk
  rw [this, Int.zero_mul]
theorem isD_used {cs : List Int} (h : IsD cs) : ∃ a b : Nat, usedZ cs = [a, b] ∧ a < cs.length ∧ b < cs.length ∧ a ≠ b ∧ ((cs.getD a 0 = 1 ∧ cs.getD b 0 = -1) ∨ (cs.getD a 0 = -1 ∧ cs.getD b 0 = 1)) := by
  have l := h.length_eq
  unfold numL at l
  rw [List.length_map] at l
  obtain ⟨a, b, e⟩ : ∃ a b, usedZ cs = [a, b] := by
    match hu : usedZ cs, l with
    | [a, b], _ => exact ⟨a, b, rfl⟩
  have ma := mem_usedZ.mp (show a ∈ usedZ cs by rw [e]; simp)
  have mb := mem_usedZ.mp (show b ∈ usedZ cs by rw [e]; simp)
  have nd : (usedZ cs).Nodup := List.Nodup.sublist List.filter_sublist List.nodup_range
  rw [e] at nd
  have nab : a ≠ b := fun z => by simp [z] at nd
  refine ⟨a, b, e, ma.1, mb.1, nab, ?_⟩
  have h2 : [cs.getD a 0, cs.getD b 0].Perm [-1, 1] := by
    have h1 : (numL cs).Perm [-1, 1] := h
    unfold numL at h1
    rw [e] at h1
    exact h1
  have m1 : (-1 : Int) ∈ [cs.getD a 0, cs.getD b 0] := h2.symm.subset (by simp)
  have m2 : (1 : Int) ∈ [cs.getD a 0, cs.getD b 0] := h2.symm.subset (by simp)
  simp only [List.mem_cons, List.not_mem_nil, or_false] at m1 m2
  omega
/-- which columns: i has the 1, j the -1 -/
def DiffAt (cs : List Int) (i j : Nat) : Prop := 1 ≤ i ∧ i ≤ cs.length ∧ 1 ≤ j ∧ j ≤ cs.length ∧ ∀ p : List Int, val cs p = p.getD (i - 1) 0 - p.getD (j - 1) 0
theorem diffAt_of {cs : List Int} {a b : Nat} (e : usedZ cs = [a, b]) (ha : a < cs.length) (hb : b < cs.length) (h1 : cs.getD a 0 = 1) (h2 : cs.getD b 0 = -1) : DiffAt cs (a + 1) (b + 1) ∧ (usedZ cs = [b, a] → DiffAt cs (a + 1) (b + 1)) := by
  have h : DiffAt cs (a + 1) (b + 1) := by
    refine ⟨by omega, by omega, by omega, by omega, fun p => ?_⟩
    rw [val_used, e]
    show cs.getD a 0 * p.getD a 0 + (cs.getD b 0 * p.getD b 0 + 0) = p.getD a 0 - p.getD b 0
    rw [h1, h2]
    omega
  exact ⟨h, fun _ => h⟩
theorem diffAt_of' {cs : List Int} {a b : Nat} (e : usedZ cs = [a, b]) (ha : a < cs.length) (hb : b < cs.length) (h1 : cs.getD a 0 = -1) (h2 : cs.getD b 0 = 1) : DiffAt cs (b + 1) (a + 1) := by
  refine ⟨by omega, by omega, by omega, by omega, fun p => ?_⟩
  rw [val_used, e]
  show cs.getD a 0 * p.getD a 0 + (cs.getD b 0 * p.getD b 0 + 0) = p.getD b 0 - p.getD a 0
  rw [h1, h2]
  omega
/-- coefficients that are small enough -/
def Cf (cs : List Int) : Prop := ∀ c ∈ cs, -1000000000 ≤ c ∧ c ≤ 1000000000
theorem Cf.get {cs : List Int} (h : Cf cs) {k : Nat} (hk : k < cs.length) : -1000000000 ≤ cs.getD k 0 ∧ cs.getD k 0 ≤ 1000000000 := by
  rw [List.getD_eq_getElem?_getD, List.getElem?_eq_getElem hk]
  exact h _ (List.getElem_mem hk)
/-- the least that a column adds -/
def tmin (M : List (List Int)) (c : Int) (k : Nat) : Int := min (c * -(getM M 0 (k + 1))) (c * getM M (k + 1) 0)
def tmax (M : List (List Int)) (c : Int) (k : Nat) : Int := max (c * -(getM M 0 (k + 1))) (c * getM M (k + 1) 0)
def spanLo (M : List (List Int)) (cs : List Int) (lo : Int) : Int := lo + ((usedZ cs).map fun k => tmin M (cs.getD k 0) k).sum
def spanHi (M : List (List Int)) (cs : List Int) (hi : Int) : Int := hi + ((usedZ cs).map fun k => tmax M (cs.getD k 0) k).sum
/-! ### least and greatest of forms over points (as in Asg25.inc) -/
def RngF (M : List (List Int)) (cs : List Int) (lo hi L G : Int) : Prop := (¬ IsD cs ∧ L = spanLo M cs lo ∧ G = spanHi M cs hi) ∨ ∃ i j, IsD cs ∧ DiffAt cs i j ∧ L = lo - getM M j i ∧ G = hi + getM M i j
def minV (cs : List Int) (Ps : List (List Int)) : Int := -(lmax (Ps.map fun p => -(val cs p)))
def maxV (cs : List Int) (Ps : List (List Int)) : Int := lmax (Ps.map fun p => val cs p)
open Classical in
noncomputable def lowF (cs : List Int) (flo : Int) (Ps : List (List Int)) : Int := if IsD cs then flo + minV cs Ps else spanLo (hullM cs.length Ps) cs flo
open Classical in
noncomputable def highF (cs : List Int) (fhi : Int) (Ps : List (List Int)) : Int := if IsD cs then fhi + maxV cs Ps else spanHi (hullM cs.length Ps) cs fhi
theorem minV_is {cs : List Int} {Ps : List (List Int)} {m : Int} (h1 : ∃ p ∈ Ps, m = val cs p) (h2 : ∀ p ∈ Ps, m ≤ val cs p) : minV cs Ps = m := by
  unfold minV
  obtain ⟨p, hp, e⟩ := h1
  have : lmax (Ps.map fun p => -(val cs p)) = -m := lmax_is (List.mem_map.mpr ⟨p, hp, by rw [e]⟩) fun y hy => by
    obtain ⟨q, hq, rfl⟩ := List.mem_map.mp hy
    have := h2 q hq
    omega
  omega
theorem maxV_is {cs : List Int} {Ps : List (List Int)} {m : Int} (h1 : ∃ p ∈ Ps, m = val cs p) (h2 : ∀ p ∈ Ps, val cs p ≤ m) : maxV cs Ps = m := by
  unfold maxV
  obtain ⟨p, hp, e⟩ := h1
  exact lmax_is (List.mem_map.mpr ⟨p, hp, by rw [e]⟩) fun y hy => by
    obtain ⟨q, hq, rfl⟩ := List.mem_map.mp hy
    exact h2 q hq
theorem diff_val {cs p : List Int} {i j : Nat} (d : DiffAt cs i j) : dif i j p = val cs p := by
  obtain ⟨h1, _, h3, _, hv⟩ := d
  have e : ∀ a, 1 ≤ a → (0 :: p).getD a 0 = p.getD (a - 1) 0 := fun a ha => by
    match a, ha with
    | a + 1, _ => rfl
  unfold dif
  rw [e i h1, e j h3, hv]
theorem rng_is {cs : List Int} {flo fhi L G : Int} {Ps : List (List Int)} (ne : Ps ≠ []) (h : RngF (hullM cs.length Ps) cs flo fhi L G) : L = lowF cs flo Ps ∧ G = highF cs fhi Ps := by
  unfold lowF highF
  rcases h with ⟨nd, h1, h2⟩ | ⟨i, j, d, dij, h1, h2⟩
  · rw [if_neg nd, if_neg nd]
    exact ⟨h1, h2⟩
  · rw [if_pos d, if_pos d]
    obtain ⟨i1, i2, j1, j2, _⟩ := id dij
    obtain ⟨r1, hr1, e1⟩ := hull_at (n := cs.length) ne (show j < cs.length + 1 by omega) (show i < cs.length + 1 by omega)
    obtain ⟨r2, hr2, e2⟩ := hull_at (n := cs.length) ne (show i < cs.length + 1 by omega) (show j < cs.length + 1 by omega)
    have neg : ∀ p : List Int, dif j i p = -(val cs p) := fun p => by
      rw [← diff_val dij]
      unfold dif
      omega
    rw [minV_is (m := val cs r1) ⟨r1, hr1, rfl⟩ fun p hp => ?_, maxV_is (m := val cs r2) ⟨r2, hr2, rfl⟩ fun p hp => ?_]
    · rw [h1, h2, ← e1, ← e2, neg, diff_val dij]
      exact ⟨by omega, rfl⟩
    · have := hull_le (n := cs.length) (show i < cs.length + 1 by omega) (show j < cs.length + 1 by omega) hp
      rw [← e2, diff_val dij, diff_val dij] at this
      exact this
    · have := hull_le (n := cs.length) (show j < cs.length + 1 by omega) (show i < cs.length + 1 by omega) hp
      rw [← e1, neg, neg] at this
      omega
/-! ### law k23: expressions of numbers, and what a form of one is -/
inductive Op where
  | add | sub | mul
deriving DecidableEq
def Op.s : Op → Str
  | .add => "+"
  | .sub => "-"
  | .mul => "*"
inductive Ef where
  | num (i : Int) | var (z : Str) | bin (o : Op) (a b : Ef)
def Op.ap : Op → Int → Int → Int
  | .add, x, y => x + y
  | .sub, x, y => x - y
  | .mul, x, y => x * y
def evE (ρ : Str → Int) : Ef → Int
  | .num i => i
  | .var z => ρ z
  | .bin o a b => o.ap (evE ρ a) (evE ρ b)
def occ (N : List Str) : Ef → Bool
  | .num _ => false
  | .var z => decide (z ∈ N)
  | .bin _ a b => occ N a || occ N b
structure Fm where
  c : Nat → Int
  lo : Int
  hi : Int
def Fm.con (v : Int) : Fm := ⟨fun _ => 0, v, v⟩
def Fm.col (i : Nat) : Fm := ⟨fun k => if k = i then 1 else 0, 0, 0⟩
def Fm.add (f g : Fm) : Fm := ⟨fun k => f.c k + g.c k, f.lo + g.lo, f.hi + g.hi⟩
def Fm.times (f : Fm) (v : Int) : Fm := ⟨fun k => v * f.c k, min (v * f.lo) (v * f.hi), max (v * f.lo) (v * f.hi)⟩
def min4 (a b c d : Int) : Int := min (min a b) (min c d)
def max4 (a b c d : Int) : Int := max (max a b) (max c d)
def Fm.prod (a1 b1 a2 b2 : Int) : Fm := ⟨fun _ => 0, min4 (a1 * a2) (a1 * b2) (b1 * a2) (b1 * b2), max4 (a1 * a2) (a1 * b2) (b1 * a2) (b1 * b2)⟩
noncomputable def Fm.low (n : Nat) (f : Fm) (Ps : List (List Int)) : Int := lowF (mkR n f.c) f.lo Ps
noncomputable def Fm.high (n : Nat) (f : Fm) (Ps : List (List Int)) : Int := highF (mkR n f.c) f.hi Ps
noncomputable def fm (N : List Str) (κ : Str → Int) (n : Nat) (Ps : List (List Int)) : Ef → Fm
  | .num i => .con i
  | .var z => if z ∈ N then .col (N.idxOf z) else .con (κ z)
  | .bin .add a b => (fm N κ n Ps a).add (fm N κ n Ps b)
  | .bin .sub a b => (fm N κ n Ps a).add ((fm N κ n Ps b).times (-1))
  | .bin .mul a b => if occ N a = false then (fm N κ n Ps b).times (fm N κ n Ps a).lo else if occ N b = false then (fm N κ n Ps a).times (fm N κ n Ps b).lo
      else .prod ((fm N κ n Ps a).low n Ps) ((fm N κ n Ps a).high n Ps) ((fm N κ n Ps b).low n Ps) ((fm N κ n Ps b).high n Ps)
theorem Fm.eq {f g : Fm} (h1 : ∀ k, f.c k = g.c k) (h2 : f.lo = g.lo) (h3 : f.hi = g.hi) : f = g := by
  cases f
  cases g
  cases h2
  cases h3
  congr 1
  exact funext h1
/-! ### factors -/
theorem min_mul {c x y z w : Int} (h1 : x ≤ y) (h2 : z ≤ w) : min (c * (x + z)) (c * (y + w)) = min (c * x) (c * y) + min (c * z) (c * w) ∧ max (c * (x + z)) (c * (y + w)) = max (c * x) (c * y) + max (c * z) (c * w) := by
  rw [Int.mul_add, Int.mul_add]
  by_cases c0 : 0 ≤ c
  · have a1 := Int.mul_le_mul_of_nonneg_left h1 c0
    have a2 := Int.mul_le_mul_of_nonneg_left h2 c0
    omega
  · have a1 := Int.mul_le_mul_of_nonpos_left (show c ≤ 0 by omega) h1
    have a2 := Int.mul_le_mul_of_nonpos_left (show c ≤ 0 by omega) h2
    omega
theorem times_add {A B : Fm} {c : Int} (h1 : A.lo ≤ A.hi) (h2 : B.lo ≤ B.hi) : (A.add B).times c = (A.times c).add (B.times c) :=
  Fm.eq (fun k => Int.mul_add _ _ _) (min_mul h1 h2).1 (min_mul h1 h2).2
theorem min_min_mul {c v x y : Int} : min (c * min (v * x) (v * y)) (c * max (v * x) (v * y)) = min (c * v * x) (c * v * y) ∧ max (c * min (v * x) (v * y)) (c * max (v * x) (v * y)) = max (c * v * x) (c * v * y) := by
  rw [Int.mul_assoc, Int.mul_assoc]
  generalize v * x = X
  generalize v * y = Y
  by_cases h : X ≤ Y
  · have e1 : min X Y = X := by omega
    have e2 : max X Y = Y := by omega
    rw [e1, e2]
    exact ⟨rfl, rfl⟩
  · have e1 : min X Y = Y := by omega
    have e2 : max X Y = X := by omega
    rw [e1, e2]
    omega
theorem times_times {B : Fm} {v c : Int} : (B.times v).times c = B.times (c * v) :=
  Fm.eq (fun k => (Int.mul_assoc _ _ _).symm) min_min_mul.1 min_min_mul.2
theorem add_assoc' {t A B : Fm} : (t.add A).add B = t.add (A.add B) := Fm.eq (fun k => Int.add_assoc _ _ _) (Int.add_assoc _ _ _) (Int.add_assoc _ _ _)
theorem con_times {v c : Int} : (Fm.con v).times c = Fm.con (c * v) := Fm.eq (fun k => Int.mul_zero _) (by show min (c * v) (c * v) = c * v; omega) (by show max (c * v) (c * v) = c * v; omega)
theorem times_one {A : Fm} (h : A.lo ≤ A.hi) : A.times 1 = A := Fm.eq (fun k => Int.one_mul _) (by show min (1 * A.lo) (1 * A.hi) = A.lo; omega) (by show max (1 * A.lo) (1 * A.hi) = A.hi; omega)
theorem le_times {A : Fm} {c : Int} : (A.times c).lo ≤ (A.times c).hi := by
  show min _ _ ≤ max _ _
  omega
theorem fm_le {N : List Str} {κ : Str → Int} {n : Nat} {Ps : List (List Int)} : ∀ e : Ef, (fm N κ n Ps e).lo ≤ (fm N κ n Ps e).hi
  | .num i => Int.le_refl _
  | .var z => by
    unfold fm
    split
    · exact Int.le_refl _
    · exact Int.le_refl _
  | .bin .add a b => by
    have h1 := fm_le (N := N) (κ := κ) (n := n) (Ps := Ps) a
    have h2 := fm_le (N := N) (κ := κ) (n := n) (Ps := Ps) b
    show _ + _ ≤ _ + _
    omega
  | .bin .sub a b => by
    have h1 := fm_le (N := N) (κ := κ) (n := n) (Ps := Ps) a
    have h2 := le_times (A := fm N κ n Ps b) (c := -1)
    show _ + _ ≤ _ + _
    omega
  | .bin .mul a b => by
    unfold fm
    split
    · exact le_times
    · split
      · exact le_times
      · show min4 _ _ _ _ ≤ max4 _ _ _ _
        unfold min4 max4
        omega
theorem fm_const {N : List Str} {κ : Str → Int} {n : Nat} {Ps : List (List Int)} : ∀ e : Ef, occ N e = false → fm N κ n Ps e = .con (evE κ e)
  | .num i, _ => rfl
  | .var z, h => by
    unfold fm
    rw [if_neg (of_decide_eq_false h)]
    rfl
  | .bin .add a b, h => by
    have h := Bool.or_eq_false_iff.mp h
    show (fm N κ n Ps a).add (fm N κ n Ps b) = _
    rw [fm_const a h.1, fm_const b h.2]
    exact Fm.eq (fun k => Int.add_zero _) rfl rfl
  | .bin .sub a b, h => by
    have h := Bool.or_eq_false_iff.mp h
    show (fm N κ n Ps a).add ((fm N κ n Ps b).times (-1)) = _
    rw [fm_const a h.1, fm_const b h.2, con_times]
    refine Fm.eq (fun k => Int.add_zero _) ?_ ?_
    · show evE κ a + -1 * evE κ b = evE κ a - evE κ b
      omega
    · show evE κ a + -1 * evE κ b = evE κ a - evE κ b
      omega
  | .bin .mul a b, h => by
    have h := Bool.or_eq_false_iff.mp h
    unfold fm
    rw [if_pos h.1, fm_const a h.1, fm_const b h.2, con_times]
    rfl
/-! ### the law's own way: a table, and a form with a factor added to it -/
noncomputable def tb (N : List Str) (κ : Str → Int) (n : Nat) (Ps : List (List Int)) (t : Fm) (e : Ef) (c : Int) : Fm := t.add ((fm N κ n Ps e).times c)
theorem tb_const {N : List Str} {κ : Str → Int} {n : Nat} {Ps : List (List Int)} {t : Fm} {e : Ef} {c : Int} (h : occ N e = false) : tb N κ n Ps t e c = ⟨t.c, t.lo + c * evE κ e, t.hi + c * evE κ e⟩ := by
  unfold tb
  rw [fm_const e h, con_times]
  exact Fm.eq (fun k => Int.add_zero _) rfl rfl
theorem tb_add {N : List Str} {κ : Str → Int} {n : Nat} {Ps : List (List Int)} {t : Fm} {a b : Ef} {c : Int} : tb N κ n Ps t (.bin .add a b) c = tb N κ n Ps (tb N κ n Ps t a c) b c := by
  unfold tb
  show t.add (((fm N κ n Ps a).add (fm N κ n Ps b)).times c) = _
  rw [times_add (fm_le a) (fm_le b), add_assoc']
theorem tb_sub {N : List Str} {κ : Str → Int} {n : Nat} {Ps : List (List Int)} {t : Fm} {a b : Ef} {c : Int} : tb N κ n Ps t (.bin .sub a b) c = tb N κ n Ps (tb N κ n Ps t a c) b (-c) := by
  unfold tb
  show t.add (((fm N κ n Ps a).add ((fm N κ n Ps b).times (-1))).times c) = _
  rw [times_add (fm_le a) le_times, times_times, add_assoc', show c * -1 = -c by omega]
theorem tb_mulL {N : List Str} {κ : Str → Int} {n : Nat} {Ps : List (List Int)} {t : Fm} {a b : Ef} {c : Int} (h : occ N a = false) : tb N κ n Ps t (.bin .mul a b) c = tb N κ n Ps t b (c * evE κ a) := by
  unfold tb
  have e : fm N κ n Ps (.bin .mul a b) = (fm N κ n Ps b).times (evE κ a) := by
    rw [fm, if_pos h, fm_const a h]
    rfl
  rw [e, times_times]
theorem tb_mulR {N : List Str} {κ : Str → Int} {n : Nat} {Ps : List (List Int)} {t : Fm} {a b : Ef} {c : Int} (h1 : occ N a = true) (h : occ N b = false) : tb N κ n Ps t (.bin .mul a b) c = tb N κ n Ps t a (c * evE κ b) := by
  unfold tb
  have e : fm N κ n Ps (.bin .mul a b) = (fm N κ n Ps a).times (evE κ b) := by
    rw [fm, if_neg (by rw [h1]; decide), if_pos h, fm_const b h]
    rfl
  rw [e, times_times]
theorem min4_mul {c a b d e : Int} : min (c * min4 a b d e) (c * max4 a b d e) = min4 (c * a) (c * b) (c * d) (c * e) ∧ max (c * min4 a b d e) (c * max4 a b d e) = max4 (c * a) (c * b) (c * d) (c * e) := by
  have two : ∀ x y : Int, x ≤ y → (0 ≤ c → c * x ≤ c * y) ∧ (c ≤ 0 → c * y ≤ c * x) := fun x y h => ⟨fun h0 => Int.mul_le_mul_of_nonneg_left h h0, fun h0 => Int.mul_le_mul_of_nonpos_left h0 h⟩
  have mm : ∀ x y : Int, (0 ≤ c → c * min x y = min (c * x) (c * y) ∧ c * max x y = max (c * x) (c * y)) ∧ (c ≤ 0 → c * min x y = max (c * x) (c * y) ∧ c * max x y = min (c * x) (c * y)) := fun x y => by
    by_cases h : x ≤ y
    · have := two x y h
      rw [Int.min_eq_left h, Int.max_eq_right h]
      exact ⟨fun h0 => by have := this.1 h0; omega, fun h0 => by have := this.2 h0; omega⟩
    · have := two y x (by omega)
      rw [Int.min_eq_right (by omega), Int.max_eq_left (by omega)]
      exact ⟨fun h0 => by have := this.1 h0; omega, fun h0 => by have := this.2 h0; omega⟩
  unfold min4 max4
  by_cases c0 : 0 ≤ c
  · rw [((mm _ _).1 c0).1, ((mm _ _).1 c0).2, ((mm a b).1 c0).1, ((mm a b).1 c0).2, ((mm d e).1 c0).1, ((mm d e).1 c0).2]
    omega
  · have c1 : c ≤ 0 := by omega
    rw [((mm _ _).2 c1).1, ((mm _ _).2 c1).2, ((mm a b).2 c1).1, ((mm a b).2 c1).2, ((mm d e).2 c1).1, ((mm d e).2 c1).2]
    omega
theorem tb_prod {N : List Str} {κ : Str → Int} {n : Nat} {Ps : List (List Int)} {t : Fm} {a b : Ef} {c : Int} (h1 : occ N a = true) (h2 : occ N b = true) {a1 b1 a2 b2 : Int} (e1 : a1 = (fm N κ n Ps a).low n Ps) (e2 : b1 = (fm N κ n Ps a).high n Ps) (e3 : a2 = (fm N κ n Ps b).low n Ps) (e4 : b2 = (fm N κ n Ps b).high n Ps) :
    tb N κ n Ps t (.bin .mul a b) c = ⟨t.c, t.lo + min4 (c * (a1 * a2)) (c * (a1 * b2)) (c * (b1 * a2)) (c * (b1 * b2)), t.hi + max4 (c * (a1 * a2)) (c * (a1 * b2)) (c * (b1 * a2)) (c * (b1 * b2))⟩ := by
  unfold tb
  have e : fm N κ n Ps (.bin .mul a b) = .prod a1 b1 a2 b2 := by
    rw [fm, if_neg (by rw [h1]; decide), if_neg (by rw [h2]; decide), e1, e2, e3, e4]
  rw [e]
  refine Fm.eq (fun k => ?_) ?_ ?_
  · show t.c k + c * 0 = t.c k
    omega
  · show t.lo + min (c * min4 _ _ _ _) (c * max4 _ _ _ _) = _
    rw [min4_mul.1]
  · show t.hi + max (c * min4 _ _ _ _) (c * max4 _ _ _ _) = _
    rw [min4_mul.2]
/-! ### forms: the program -/
theorem bb_sorted : bootBuiltins "sorted" = some (.builtin "sorted") := by decide +kernel
def spFormU (K : PySem.W.Frag) : Sp := fun vs H Q _ => ∃ (f : Addr) (cs : List Int) (lo hi : Int), vs = [.ref f] ∧ FormAt K H f cs lo hi ∧ cs.length ≤ 900 ∧ ∀ q H', Same H H' → H' q = some (.lst (natsV (usedN cs))) → Q (.ref q) H'
def spFormD (K : PySem.W.Frag) : Sp := fun vs H Q _ => ∃ (f : Addr) (cs : List Int) (lo hi : Int), vs = [.ref f] ∧ FormAt K H f cs lo hi ∧ cs.length ≤ 63 ∧
  (∀ H', Same H H' → ¬ IsD cs → Q .non H') ∧ ∀ q H' i j, Same H H' → IsD cs → DiffAt cs i j → H' q = some (.tup [.int (i : Nat), .int (j : Nat)]) → Q (.ref q) H'
def spFormT (K : PySem.W.Frag) : Sp := fun vs H Q _ => ∃ (f : Addr) (cs : List Int) (lo hi : Int), vs = [.ref f, .int (-1)] ∧ FormAt K H f cs lo hi ∧ cs.length ≤ 900 ∧ lo ≤ hi ∧ ∀ q H', Same H H' → FormAt K H' q (cs.map fun c => -c) (-hi) (-lo) → Q (.ref q) H'
theorem natsU_len {cs : List Int} : (natsV (usedN cs)).length = (usedZ cs).length := by simp [natsV, usedN]
theorem natsU_get {cs : List Int} {j k : Nat} (e : (usedZ cs)[j]? = some k) : (natsV (usedN cs))[j]? = some (.int ((k + 1 : Nat) : Int)) := by
  unfold natsV usedN
  rw [List.map_map]
  exact map_get e
theorem coef_at {cs : List Int} {k : Nat} (h : k < cs.length) : atI (cs.map V.int) (((k + 1 : Nat) : Int) - 1) = some (.int (cs.getD k 0)) := by
  rw [show ((k + 1 : Nat) : Int) - 1 = (k : Int) by omega]
  exact atI_nat (map_get (by rw [List.getD_eq_getElem?_getD, List.getElem?_eq_getElem h]; rfl))
section
variable {P : Program} {w : World} {K : PySem.W.Frag} {mg : Str → Option Value} {base : Heap}
theorem ok_used_columns (T : Txt w K mg) : FnOk P w K mg base CX0 1 T.a_used_columns T.d_used_columns p_used_columns (spFormU K) := by
  refine T.F_used_columns.ok sc_used_columns (fun vs H Q E h => ?_) (fun cdv A outer s H vs Q E hr h => ?_)
  · obtain ⟨f, cs, lo, hi, rfl, _⟩ := h
    rfl
  obtain ⟨f, cs, lo, hi, rfl, ⟨c, hf, hc⟩, lc, q⟩ := h
  refine ⟨_, (pss_one (ps_ret (pe_lc (own := [("at", 1), ("each", 2)]) (g := gTup K 2 (gCons (gName 1) (gCons (gName 2) gNil))) rfl sc_used_columns.nd (EnT.pi_enumG (by rfl) T.z_enumerate (pa_cons (pe_ix ix_tup (pv 0) pe_int (fun _ _ => rfl)) pa_nil)) (blkOk_by (own := [("at", 1), ("each", 2)]) (N := n_used_columns) (sc := defScope s_used_columns) (by decide +kernel)) (fun _ _ _ _ _ => (pg_tup rfl (pgs_cons (pg_name (i := 1) sc_used_columns.nd rfl (Or.inl rfl)) (pgs_cons (pg_name (i := 2) sc_used_columns.nd rfl (Or.inl rfl)) pgs_nil)))) (fun _ _ _ _ _ => (pts_one (pt_cmpR op_ne (pv 2) pe_int (nomark _)))) (fun _ _ _ _ _ => (pe_op op_add (pv 1) pe_int))))), ?_⟩
  refine ⟨_, rfl, f, _, _, _, rfl, rfl, hf, rfl, true, c, _, rfl, hc, fun D hD => ?_⟩
  refine lc_it EnT.walk_enumG (fun i G => Same H G ∧ G D = some (.lst (natsV ((usedTo cs i).map (· + 1))))) ⟨Same.new hD _, upd_same⟩ (fun i G _ P => Sq.same (t := true) P.1 hc) ?_ ?_
  · rintro i x G G' hi P ⟨t, u, v, rfl, ht, rfl, eu, ev⟩
    cases eu
    rw [List.length_map] at hi
    obtain ⟨k, ek, rfl⟩ := get_int ev
    have gk : cs.getD i 0 = k := by rw [List.getD_eq_getElem?_getD, ek]; rfl
    have s1 : Same G (upd G t (.tup [.int i, .int k])) := Same.new ht _
    have eD := s1 _ _ P.2
    have sA := P.1.trans s1
    refine ⟨t, _, rfl, SqT.of upd_same, rfl, _, _, rfl, _, _, rfl, rfl, ?_⟩
    refine ⟨rfl, ?_⟩
    refine ⟨_, rfl, rfl, _, rfl, ite2 (fun h => ?_) (fun h => ?_)⟩
    · have nz : cs.getD i 0 ≠ 0 := fun z => by
        rw [gk] at z
        rw [z] at h
        exact absurd h (by decide)
      refine ⟨_, rfl, _, _, rfl, rfl, _, eD, lt_line (by simp only [natsV, List.length_map]; have := usedTo_len (cs := cs) (i := i); omega), fun b o e => ?_, ?_⟩
      · rw [upd_ne (ne_of_none e hD)]
        exact sA _ _ e
      · rw [usedTo_yes nz, List.map_append]
        simp only [natsV, List.map_append]
        exact upd_same
    · have z : cs.getD i 0 = 0 := by
        rw [gk]
        by_cases z : k = 0
        · exact z
        · exact absurd (by rw [decide_eq_false (fun e => z (V.int.inj e))]; rfl) h
      rw [usedTo_no z]
      exact ⟨sA, eD⟩
  · rintro G ⟨sG, eG⟩
    rw [List.length_map, usedTo_all] at eG
    exact q D G sG eG
theorem ok_difference_columns (T : Txt w K mg) : FnOk P w K mg base CX0 2 T.a_difference_columns T.d_difference_columns p_difference_columns (spFormD K) := by
  have g_used_columns := ok_used_columns (P := P) (w := w) (K := K) (base := base) T
  refine T.F_difference_columns.ok sc_difference_columns (fun vs H Q E h => ?_) (fun cdv A outer s H vs Q E hr h => ?_)
  · obtain ⟨f, cs, lo, hi, rfl, _⟩ := h
    rfl
  obtain ⟨f, cs, lo, hi, rfl, hF, lc, qn, qy⟩ := h
  refine ⟨_, (pss_cons (ps_set (i := 1) sc_difference_columns.nd rfl (Or.inl rfl) (pe_call g_used_columns (hr.mono (by first | decide | omega)) rfl T.m_used_columns T.F_used_columns.kp T.b_used_columns .nil pass0 (pa_cons (pv 0) pa_nil)))
      (pss_cons (ps_if (pt_cmpR (op_neD hr.units) (pe_callB (cr_sorted) rfl T.z_sorted bb_sorted (pa_cons (pe_lc (own := [("column", 2)]) (g := gName 2) (tt := tYes) rfl sc_difference_columns.nd (pi_list (pv 1)) (blkOk_by (own := [("column", 2)]) (N := n_difference_columns) (sc := defScope s_difference_columns) (by decide +kernel)) (fun _ _ _ _ _ => (pg_name (i := 2) sc_difference_columns.nd rfl (Or.inl rfl))) (fun _ _ _ _ _ => pts_nil) (fun _ _ _ _ _ => (pe_ix (show IxR _ (rIxT K) from ix_tup) (pe_ix (show IxR _ (rIxT K) from ix_tup) (pv 0) pe_int (fun _ _ => rfl)) (pe_op op_sub (pv 2) pe_int) (fun _ _ => rfl)))) pa_nil)) (pe_lst (pa_cons (pe_un un_neg pe_int) (pa_cons pe_int pa_nil))) (nomark _)) (pss_one (ps_ret pe_non)) pss_nil)
      (pss_cons (ps_asg (pv 1) (pg_unl rfl (pgs_cons (pg_name (i := 3) sc_difference_columns.nd rfl (Or.inl rfl)) (pgs_cons (pg_name (i := 4) sc_difference_columns.nd rfl (Or.inl rfl)) pgs_nil))))
      (pss_one (ps_ret (pe_ifExp (pt_cmpR op_eq (pe_ix ix_tup (pe_ix ix_tup (pv 0) pe_int (fun _ _ => rfl)) (pe_op op_sub (pv 3) pe_int) (fun _ _ => rfl)) pe_int (nomark _)) (pe_tup (pa_cons (pv 3) (pa_cons (pv 4) pa_nil))) (pe_tup (pa_cons (pv 4) (pa_cons (pv 3) pa_nil))))))))), ?_⟩
  refine ⟨_, rfl, f, cs, lo, hi, rfl, hF, by omega, fun u G su hu => ?_⟩
  obtain ⟨c, hf, hc⟩ := id hF
  refine ⟨_, rfl, u, rfl, ⟨_, SqL.of hu⟩, fun D hD => ?_⟩
  refine lc_it (walk_list (xs := natsV (usedN cs))) (LcP (Same G) (RInt (numL cs)) D) (lcp_start hD) (fun i G2 _ P => SqL.of (P.1 _ _ hu)) ?_ ?_
  · rintro j x F F' hj P ⟨rfl, ex⟩
    rw [natsU_len] at hj
    have ek : (usedZ cs)[j]? = some (usedZ cs)[j] := List.getElem?_eq_getElem hj
    have mk := mem_usedZ.mp (List.getElem_mem hj)
    generalize (usedZ cs)[j] = k at ek mk
    rw [natsU_get ek] at ex
    obtain rfl := Option.some.inj ex
    refine ⟨rfl, tyes ?_⟩
    refine ⟨_, rfl, f, _, _, _, rfl, rfl, Same.tup (su.trans P.1) hf, rfl, _, rfl, _, _, rfl, rfl, c, _, _, _, rfl, rfl, Same.tup (su.trans P.1) hc, coef_at mk.1, ?_⟩
    exact lcp_same P hD (Same.refl _) (lt_line (by have := usedZ_len (cs := cs); omega)) RInt.mono ⟨_, map_get ek, rfl⟩
  · intro F P
    have ei := lcp_ints (K := K) P (by rw [natsU_len]; simp [numL])
    have lz := usedZ_len (cs := cs)
    refine ⟨D, numL cs, rfl, SqL.of ei, by unfold numL; rw [List.length_map]; omega, fun ns' p pm srt hp => ?_⟩
    refine ⟨_, rfl, (by show 2 ≤ sizeLine; decide), fun e he => ?_⟩
    have s1 := Same.new hp (.lst (ns'.map V.int))
    have s2 := Same.new he (.lst [.int (-1), .int 1])
    have sA := ((su.trans P.1).trans s1).trans s2
    refine neI (ys := [-1, 1]) (SqL.of (s2 _ _ upd_same)) (SqL.of upd_same) ⟨_, rfl, ite2 (fun h => ?_) (fun h => ?_)⟩
    · refine qn _ sA fun d => ?_
      rw [(sorted_pm pm srt).mpr d] at h
      exact absurd h (by decide)
    · have d : IsD cs := (sorted_pm pm srt).mp (by
        by_cases z : ns' = [-1, 1]
        · exact z
        · exact absurd (by rw [decide_eq_false z]; rfl) h)
      obtain ⟨a, b, eU, la, lb, nab, alt⟩ := isD_used d
      have eN : natsV (usedN cs) = [.int ((a + 1 : Nat) : Int), .int ((b + 1 : Nat) : Int)] := by
        unfold natsV usedN
        rw [eU]
        rfl
      rw [eN] at hu
      refine ⟨_, rfl, u, _, rfl, SqL.of (s2 _ _ (s1 _ _ (P.1 _ _ hu))), rfl, _, _, rfl, _, _, rfl, rfl, ?_⟩
      refine ⟨_, rfl, f, _, _, _, rfl, rfl, Same.tup sA hf, rfl, _, rfl, _, _, rfl, rfl, c, _, _, _, rfl, rfl, Same.tup sA hc, coef_at la, ?_⟩
      refine ⟨rfl, _, rfl, ite2 (fun h1 => ?_) (fun h1 => ?_)⟩
      · have e1 : cs.getD a 0 = 1 := V.int.inj (of_decide_eq_true h1)
        have e2 : cs.getD b 0 = -1 := by omega
        refine ⟨_, rfl, _, rfl, (by show 2 ≤ sizeLine; decide), fun q hq => ?_⟩
        exact qy q _ _ _ (sA.trans (Same.new hq _)) d (diffAt_of eU la lb e1 e2).1 upd_same
      · have e1 : cs.getD a 0 ≠ 1 := fun z => h1 (decide_eq_true (congrArg V.int z))
        refine ⟨_, rfl, _, rfl, (by show 2 ≤ sizeLine; decide), fun q hq => ?_⟩
        exact qy q _ _ _ (sA.trans (Same.new hq _)) d (diffAt_of' eU la lb (by omega) (by omega)) upd_same
end
/-! ### cuts: the points that are left -/
def Simple (cs : List Int) : Prop := (usedZ cs).length ≤ 1 ∨ IsD cs
def KeepLe (cs : List Int) (lo most : Int) (Ps : List (List Int)) : List (List Int) := Ps.filter fun p => decide (val cs p + lo ≤ most)
open Classical in
noncomputable def amL (n : Nat) (cs : List Int) (lo most : Int) (Ps : List (List Int)) : List (List Int) := if Simple cs then KeepLe cs lo most Ps else if spanLo (hullM n Ps) cs lo > most then [] else Ps
theorem mem_keep {cs : List Int} {lo most : Int} {Ps : List (List Int)} {q : List Int} : q ∈ KeepLe cs lo most Ps ↔ q ∈ Ps ∧ val cs q + lo ≤ most := by
  unfold KeepLe
  rw [List.mem_filter, decide_eq_true_eq]
theorem val_one {cs p : List Int} {k : Nat} (e : usedZ cs = [k]) : val cs p = cs.getD k 0 * p.getD k 0 := by
  rw [val_used, e]
  show cs.getD k 0 * p.getD k 0 + 0 = _
  omega
theorem val_none {cs p : List Int} (e : usedZ cs = []) : val cs p = 0 := by
  rw [val_used, e]
  rfl
theorem keep_pos {n k : Nat} {cs : List Int} {lo most : Int} {Ps : List (List Int)} (f : Full n Ps) (ln : cs.length = n) (e : usedZ cs = [k]) (hc : 0 < cs.getD k 0) :
    bndB (n + 1) (k + 1) 0 ((most - lo).fdiv (cs.getD k 0)) (hull n Ps) = hull n (KeepLe cs lo most Ps) ∧ Full n (KeepLe cs lo most Ps) := by
  have hk := (mem_usedZ.mp (show k ∈ usedZ cs by rw [e]; simp)).1
  refine bound_points f (by omega) (by omega) fun q => ?_
  rw [mem_keep, val_one e]
  refine and_congr Iff.rfl ?_
  rw [Int.fdiv_eq_ediv_of_nonneg _ (by omega), Int.le_ediv_iff_mul_le hc]
  have ed : dif (k + 1) 0 q = q.getD k 0 := by
    show q.getD k 0 - 0 = _
    omega
  rw [ed, Int.mul_comm]
  omega
theorem keep_neg {n k : Nat} {cs : List Int} {lo most : Int} {Ps : List (List Int)} (f : Full n Ps) (ln : cs.length = n) (e : usedZ cs = [k]) (hc : cs.getD k 0 < 0) :
    bndB (n + 1) 0 (k + 1) ((most - lo).fdiv (-(cs.getD k 0))) (hull n Ps) = hull n (KeepLe cs lo most Ps) ∧ Full n (KeepLe cs lo most Ps) := by
  have hk := (mem_usedZ.mp (show k ∈ usedZ cs by rw [e]; simp)).1
  refine bound_points f (by omega) (by omega) fun q => ?_
  rw [mem_keep, val_one e]
  refine and_congr Iff.rfl ?_
  rw [Int.fdiv_eq_ediv_of_nonneg _ (by omega), Int.le_ediv_iff_mul_le (by omega)]
  have ed : dif 0 (k + 1) q = -(q.getD k 0) := by
    show 0 - q.getD k 0 = _
    omega
  rw [ed, Int.neg_mul_neg, Int.mul_comm]
  omega
theorem keep_diff {n i j : Nat} {cs : List Int} {lo most : Int} {Ps : List (List Int)} (f : Full n Ps) (ln : cs.length = n) (d : DiffAt cs i j) :
    bndB (n + 1) i j (most - lo) (hull n Ps) = hull n (KeepLe cs lo most Ps) ∧ Full n (KeepLe cs lo most Ps) := by
  obtain ⟨h1, h2, h3, h4, hv⟩ := d
  refine bound_points f (by omega) (by omega) fun q => ?_
  rw [mem_keep, hv]
  refine and_congr Iff.rfl ?_
  have ed : dif i j q = q.getD (i - 1) 0 - q.getD (j - 1) 0 := by
    have e : ∀ a, 1 ≤ a → (0 :: q).getD a 0 = q.getD (a - 1) 0 := fun a ha => by
      match a, ha with
      | a + 1, _ => rfl
    unfold dif
    rw [e i h1, e j h3]
  rw [ed]
  omega
theorem keep_none {n : Nat} {cs : List Int} {lo most : Int} {Ps : List (List Int)} (f : Full n Ps) (e : usedZ cs = []) :
    KeepLe cs lo most Ps = (if lo > most then [] else Ps) ∧ Full n (KeepLe cs lo most Ps) := by
  have h : KeepLe cs lo most Ps = (if lo > most then [] else Ps) := by
    unfold KeepLe
    split
    · rename_i h
      refine List.filter_eq_nil_iff.mpr fun p _ => ?_
      rw [val_none e, decide_eq_true_eq]
      omega
    · rename_i h
      refine List.filter_eq_self.mpr fun p _ => ?_
      rw [val_none e, decide_eq_true_eq]
      omega
  refine ⟨h, ?_⟩
  rw [h]
  split
  · exact full_nil
  · exact f
theorem keep_full {n : Nat} {cs : List Int} {lo most : Int} {Ps : List (List Int)} (f : Full n Ps) (ln : cs.length = n) (h : Simple cs) : Full n (KeepLe cs lo most Ps) := by
  rcases h with h | h
  · match e : usedZ cs, h with
    | [], _ => exact (keep_none f e).2
    | [k], _ =>
      have nz := (mem_usedZ.mp (show k ∈ usedZ cs by rw [e]; simp)).2
      rcases Int.lt_or_gt_of_ne nz with g | g
      · exact (keep_neg f ln e g).2
      · exact (keep_pos f ln e g).2
  · obtain ⟨a, b, eU, la, lb, nab, alt⟩ := isD_used h
    rcases alt with ⟨e1, e2⟩ | ⟨e1, e2⟩
    · exact (keep_diff f ln (diffAt_of eU la lb e1 e2).1).2
    · exact (keep_diff f ln (diffAt_of' eU la lb e1 e2)).2
theorem am_full {n : Nat} {cs : List Int} {lo most : Int} {Ps : List (List Int)} (f : Full n Ps) (ln : cs.length = n) : Full n (amL n cs lo most Ps) := by
  unfold amL
  split
  · exact keep_full f ln (by assumption)
  · split
    · exact full_nil
    · exact f
/-! ### a form times -1 -/
theorem neg_getD {cs : List Int} {k : Nat} : (cs.map fun c => -c).getD k 0 = -(cs.getD k 0) := by
  rw [List.getD_eq_getElem?_getD, List.getD_eq_getElem?_getD, List.getElem?_map]
  cases cs[k]? <;> rfl
theorem neg_used {cs : List Int} : usedZ (cs.map fun c => -c) = usedZ cs := by
  unfold usedZ
  rw [List.length_map]
  refine List.filter_congr fun k _ => ?_
  rw [neg_getD, decide_eq_decide]
  omega
theorem neg_num {cs : List Int} : numL (cs.map fun c => -c) = (numL cs).map fun c => -c := by
  unfold numL
  rw [neg_used, List.map_map]
  exact List.map_congr_left fun k _ => neg_getD
theorem neg_isD {cs : List Int} (h : IsD cs) : IsD (cs.map fun c => -c) := by
  unfold IsD at *
  rw [neg_num]
  exact (h.map _).trans (List.Perm.swap _ _ _)
theorem neg_neg_cs {cs : List Int} : ((cs.map fun c => -c).map fun c => -c) = cs := by
  rw [List.map_map]
  have : ((fun c : Int => -c) ∘ fun c => -c) = id := funext fun c => Int.neg_neg c
  rw [this, List.map_id]
theorem neg_simple {cs : List Int} : Simple (cs.map fun c => -c) ↔ Simple cs := by
  unfold Simple
  rw [neg_used]
  refine or_congr Iff.rfl ⟨fun h => ?_, neg_isD⟩
  have := neg_isD h
  rwa [neg_neg_cs] at this
theorem sum_neg {f : Nat → Int} : ∀ xs : List Nat, (xs.map fun k => -(f k)).sum = -((xs.map f).sum)
  | [] => rfl
  | x :: xs => by
    rw [List.map_cons, List.map_cons, List.sum_cons, List.sum_cons, sum_neg xs]
    omega
theorem neg_val {cs p : List Int} : val (cs.map fun c => -c) p = -(val cs p) := by
  unfold val
  rw [List.length_map, ← sum_neg]
  congr 1
  refine List.map_congr_left fun k _ => ?_
  rw [neg_getD, Int.neg_mul]
theorem neg_span {M : List (List Int)} {cs : List Int} {hi : Int} : spanLo M (cs.map fun c => -c) (-hi) = -(spanHi M cs hi) := by
  unfold spanLo spanHi
  rw [neg_used]
  have e : ((usedZ cs).map fun k => tmin M ((cs.map fun c => -c).getD k 0) k).sum = -(((usedZ cs).map fun k => tmax M (cs.getD k 0) k).sum) := by
    rw [← sum_neg]
    congr 1
    refine List.map_congr_left fun k _ => ?_
    rw [neg_getD]
    unfold tmin tmax
    rw [Int.neg_mul, Int.neg_mul]
    omega
  rw [e]
  omega
theorem neg_cf {cs : List Int} (h : Cf cs) : Cf (cs.map fun c => -c) := fun c hc => by
  obtain ⟨d, hd, rfl⟩ := List.mem_map.mp hc
  have := h d hd
  omega
/-! ### has_point, range_of, least_point, greatest_point -/
theorem Mx.get {K : PySem.W.Frag} {H : Hp} {p : Addr} {M : List (List Int)} {i : Nat} {r : List Int} (h : Mx true true K H p M) (e : M[i]? = some r) : ∃ (vs : List V) (a : Addr), SqT K H p vs ∧ atI vs (i : Int) = some (.ref a) ∧ SqT K H a (r.map V.int) := by
  obtain ⟨as, h1, h2, h3⟩ := h
  have hi : i < M.length := (List.getElem?_eq_some_iff.mp e).1
  have ea : as[i]? = some (as[i]'(by omega)) := List.getElem?_eq_getElem _
  exact ⟨_, _, h1, atI_nat (map_get ea), h3 i _ r ea e⟩
def spRange (K : PySem.W.Frag) : Sp := fun vs H Q _ => ∃ (p : Addr) (M : List (List Int)) (n i : Nat), vs = [.ref p, .int i] ∧ n ≤ 900 ∧ Mx true true K H p M ∧ Sz (n + 1) M ∧ i ≤ n ∧ ∀ t H', Same H H' → SqT K H' t ([-(getM M 0 i), getM M i 0].map V.int) → Q (.ref t) H'
/-- a row, or None -/
def RowAt (K : PySem.W.Frag) (H : Hp) (v : V) : Option (List Int) → Prop
  | none => v = .non
  | some r => ∃ p, v = .ref p ∧ SqT K H p (r.map V.int)
def leastM (n : Nat) (M : List (List Int)) : List Int := (List.range n).map fun k => -(getM M 0 (k + 1))
def greatM (n : Nat) (M : List (List Int)) : List Int := (List.range n).map fun k => getM M (k + 1) 0
def spEnd (K : PySem.W.Frag) (f : Nat → List (List Int) → List Int) : Sp := fun vs H Q _ => ∃ (va : V) (A : Option (List (List Int))) (n : Nat), vs = [va] ∧ n ≤ 900 ∧ BoxAt K H va A ∧ BSz (n + 1) A ∧ ∀ v H', Same H H' → RowAt K H' v (A.map (f n)) → Q v H'
section
variable {P : Program} {w : World} {K : PySem.W.Frag} {mg : Str → Option Value} {base : Heap}
theorem ok_range_of (T : Txt w K mg) : FnOk P w K mg base CX0 1 T.a_range_of T.d_range_of p_range_of (spRange K) := by
  refine T.F_range_of.ok sc_range_of (fun vs H Q E h => ?_) (fun cdv A outer s H vs Q E hr h => ?_)
  · obtain ⟨p, M, n, i, rfl, _⟩ := h
    rfl
  obtain ⟨p, M, n, i, rfl, hn, hM, sM, hi, q⟩ := h
  refine ⟨_, (pss_one (ps_ret (pe_tup (pa_cons (pe_un un_neg (pe_ix ix_tup (pe_ix ix_tup (pv 0) pe_int (fun _ _ => rfl)) (pv 1) (fun _ _ => rfl))) (pa_cons (pe_ix ix_tup (pe_ix ix_tup (pv 0) (pv 1) (fun _ _ => rfl)) pe_int (fun _ _ => rfl)) pa_nil))))), ?_⟩
  obtain ⟨r0, e0, l0, g0⟩ := sM.at2 (i := 0) (j := i) (by omega) (by omega)
  obtain ⟨ri, ei, li, gi⟩ := sM.at2 (i := i) (j := 0) (by omega) (by omega)
  obtain ⟨vs, a, h1, h2, h3⟩ := hM.get e0
  obtain ⟨vs', a', k1, k2, k3⟩ := hM.get ei
  refine ⟨_, rfl, p, _, _, _, rfl, rfl, h1, h2, _, rfl, a, _, _, _, rfl, rfl, h3, atI_nat (map_get g0), _, rfl, ?_⟩
  refine ⟨_, rfl, _, rfl, p, _, _, _, rfl, rfl, k1, k2, a', _, _, _, rfl, rfl, k3, atI_nat (map_get gi), (by show 2 ≤ sizeLine; decide), fun t ht => ?_⟩
  exact q t _ (Same.new ht _) (SqT.of upd_same)
end
/-! ### forms of expressions: the program -/
def FmAt (K : PySem.W.Frag) (H : Hp) (f : Addr) (n : Nat) (F : Fm) : Prop := FormAt K H f (mkR n F.c) F.lo F.hi
theorem FmAt.same {K : PySem.W.Frag} {H H' : Hp} {f : Addr} {n : Nat} {F : Fm} (s : Same H H') (h : FmAt K H f n F) : FmAt K H' f n F := FormAt.same s h
def Bd (e : Nat) (x : Int) : Prop := x.natAbs < 2 ^ e
structure FmB (e n : Nat) (F : Fm) : Prop where
  c : ∀ k < n, Bd e (F.c k)
  l : Bd e F.lo
  h : Bd e F.hi
theorem mulW {a b : Nat} {x y : Int} (hx : Bd a x) (hy : Bd b y) (ha : a ≤ 200000) (hb : b ≤ 200000) : CMulW x y := by
  unfold CMulW
  have h : ∀ {e : Nat} {z : Int}, Bd e z → z.natAbs.log2 ≤ e := fun {e z} hz => by
    by_cases z0 : z.natAbs = 0
    · rw [z0]
      exact Nat.zero_le _
    · exact Nat.le_of_lt ((Nat.log2_lt z0).mpr (Nat.lt_of_lt_of_le hz (Nat.le_refl _)))
  have h1 := h hx
  have h2 := h hy
  omega
def spCon (K : PySem.W.Frag) : Sp := fun vs H Q _ => ∃ (v : Int) (p : Addr) (M : List (List Int)) (n : Nat), vs = [.int v, .ref p] ∧ n ≤ 60 ∧ Mx true true K H p M ∧ Sz (n + 1) M ∧ ∀ q H', Same H H' → FmAt K H' q n (.con v) → Q (.ref q) H'
def spCol (K : PySem.W.Frag) : Sp := fun vs H Q _ => ∃ (i : Nat) (p : Addr) (M : List (List Int)) (n : Nat), vs = [.int ((i + 1 : Nat) : Int), .ref p] ∧ n ≤ 60 ∧ Mx true true K H p M ∧ Sz (n + 1) M ∧ ∀ q H', Same H H' → FmAt K H' q n (.col i) → Q (.ref q) H'
def spSum (K : PySem.W.Frag) : Sp := fun vs H Q _ => ∃ (f g : Addr) (F G : Fm) (n : Nat), vs = [.ref f, .ref g] ∧ n ≤ 60 ∧ FmAt K H f n F ∧ FmAt K H g n G ∧ ∀ q H', Same H H' → FmAt K H' q n (F.add G) → Q (.ref q) H'
def spTms (K : PySem.W.Frag) : Sp := fun vs H Q _ => ∃ (f : Addr) (v : Int) (F : Fm) (n e1 e2 : Nat), vs = [.ref f, .int v] ∧ n ≤ 60 ∧ FmAt K H f n F ∧ FmB e1 n F ∧ Bd e2 v ∧ e1 ≤ 200000 ∧ e2 ≤ 200000 ∧ ∀ q H', Same H H' → FmAt K H' q n (F.times v) → Q (.ref q) H'
def spDif (K : PySem.W.Frag) : Sp := fun vs H Q _ => ∃ (f g : Addr) (F G : Fm) (n e : Nat), vs = [.ref f, .ref g] ∧ n ≤ 60 ∧ FmAt K H f n F ∧ FmAt K H g n G ∧ FmB e n G ∧ e ≤ 200000 ∧ ∀ q H', Same H H' → FmAt K H' q n (F.add (G.times (-1))) → Q (.ref q) H'
theorem rep0 {n : Nat} : (List.replicate n [V.int 0]).flatten = (mkR n fun _ => (0 : Int)).map V.int := by
  have e : mkR n (fun _ => (0 : Int)) = List.replicate n 0 := by
    unfold mkR
    refine List.ext_getElem (by rw [List.length_map, List.length_range, List.length_replicate]) fun k h1 h2 => ?_
    rw [List.getElem_map, List.getElem_replicate]
  rw [e]
  clear e
  induction n with
  | zero => rfl
  | succ n ih => rw [List.replicate_succ, List.replicate_succ, List.flatten_cons, ih, List.map_cons]; rfl
section
variable {P : Program} {w : World} {K : PySem.W.Frag} {mg : Str → Option Value} {base : Heap}
theorem ok_constant_form (T : Txt w K mg) : FnOk P w K mg base CX0 1 T.a_constant_form T.d_constant_form p_constant_form (spCon K) := by
  refine T.F_constant_form.ok sc_constant_form (fun vs H Q E h => ?_) (fun cdv A outer s H vs Q E hr h => ?_)
  · obtain ⟨v, p, M, n, rfl, _⟩ := h
    rfl
  obtain ⟨v, p, M, n, rfl, hn, hM, sM, q⟩ := h
  refine ⟨_, (pss_one (ps_ret (pe_tup (pa_cons (pe_op RpT.op_repTA (pe_tup (pa_cons pe_int pa_nil)) (pe_op op_sub (pe_callB call_len_seq rfl T.z_len PySem.boot_len (pa_cons (pv 1) pa_nil)) pe_int)) (pa_cons (pv 0) (pa_cons (pv 0) pa_nil)))))), ?_⟩
  obtain ⟨bs, hbs, lbs, _⟩ := id hM
  refine ⟨(by show 1 ≤ sizeLine; decide), fun z hz => ?_⟩
  have sz := Same.new hz (.tup [.int 0])
  refine ⟨_, rfl, p, _, rfl, .inr (Same.tup sz hbs), _, _, rfl, rfl, ?_⟩
  have ln : (((bs.map V.ref).length : Nat) : Int) - 1 = (n : Int) := by
    rw [List.length_map, lbs, sM.1]
    omega
  refine ⟨z, _, _, rfl, rfl, SqT.of upd_same, by simp, by rw [ln]; omega, by rw [ln]; omega, by show 1 ≤ 1000; decide, fun e1 => ?_, fun e1 p2 hp2 => ?_⟩
  · have n1 : n = 1 := by omega
    subst n1
    refine ⟨_, rfl, _, rfl, (by show 3 ≤ sizeLine; decide), fun q2 hq2 => ?_⟩
    have s2 := Same.new hq2 (.tup [.ref z, .int v, .int v])
    exact q q2 _ (sz.trans s2) ⟨z, SqT.of upd_same, SqT.of (s2 _ _ upd_same)⟩
  · rw [ln, Int.toNat_natCast, rep0] at *
    refine ⟨_, rfl, _, rfl, (by show 3 ≤ sizeLine; decide), fun q2 hq2 => ?_⟩
    have s2 := Same.new hq2 (.tup [.ref p2, .int v, .int v])
    exact q q2 _ ((sz.trans (Same.new hp2 _)).trans s2) ⟨p2, SqT.of upd_same, SqT.of (s2 _ _ upd_same)⟩
theorem ok_column_form (T : Txt w K mg) : FnOk P w K mg base CX0 1 T.a_column_form T.d_column_form p_column_form (spCol K) := by
  refine T.F_column_form.ok sc_column_form (fun vs H Q E h => ?_) (fun cdv A outer s H vs Q E hr h => ?_)
  · obtain ⟨i, p, M, n, rfl, _⟩ := h
    rfl
  obtain ⟨i, p, M, n, rfl, hn, hM, sM, q⟩ := h
  refine ⟨_, (pss_cons (ps_setLc (i := 2) (own := [("at", 3)]) (g := gName 3) (tt := tYes) rfl sc_column_form.nd rfl rfl (sw_true rfl rfl rfl (by decide +kernel)) (pi_range2 rfl T.z_range (pa_cons pe_int (pa_cons (pe_callB call_len_seq rfl T.z_len PySem.boot_len (pa_cons (pv 1) pa_nil)) pa_nil))) (blkOk_by (own := [("at", 3)]) (N := n_column_form) (sc := defScope s_column_form) (by decide +kernel)) (fun _ _ _ _ _ => (pg_name (i := 3) sc_column_form.nd rfl (Or.inl rfl))) (fun _ _ _ _ _ => pts_nil) (fun _ _ _ _ _ => (pe_ifExp (pt_cmpR op_eq (pv 3) (pv 0) (nomark _)) pe_int pe_int)))
      (pss_one (ps_ret (pe_tup (pa_cons (pe_callTy call_tuple_of rfl T.z_tuple bt_tuple (pa_cons (pv 2) pa_nil)) (pa_cons pe_int (pa_cons pe_int pa_nil))))))), ?_⟩
  obtain ⟨bs, hbs, lbs, _⟩ := id hM
  have ln : ((bs.map V.ref).length) = n + 1 := by rw [List.length_map, lbs, sM.1]
  refine ⟨_, rfl, p, _, rfl, .inr hbs, _, _, rfl, ⟨by omega, by omega, by rw [ln]; omega, by rw [ln]; omega⟩, fun D hD => ?_⟩
  refine lc_it walk_range (LcP (Same H) (RInt (mkR n fun k => if k = i then 1 else 0)) D) (lcp_start hD) (fun _ _ _ _ => trivial) ?_ ?_
  · rintro j x F1 F2 hj P ⟨rfl, rfl⟩
    rw [ln] at hj
    have hj2 : j < n := by omega
    refine ⟨rfl, tyes ?_⟩
    refine ⟨_, rfl, _, rfl, rfl, _, rfl, ite2 (fun h => ?_) (fun h => ?_)⟩
    · have e : j = i := by
        have := V.int.inj (of_decide_eq_true h)
        omega
      exact lcp_same P hD (Same.refl _) (lt_line (by omega)) RInt.mono ⟨_, mkR_at hj2, by rw [if_pos e]⟩
    · have e : j ≠ i := fun z => h (decide_eq_true (congrArg V.int (by omega)))
      exact lcp_same P hD (Same.refl _) (lt_line (by omega)) RInt.mono ⟨_, mkR_at hj2, by rw [if_neg e]⟩
  · intro G P
    refine ⟨_, rfl, D, _, rfl, .inl ⟨SqL.of (lcp_ints (K := K) P (by rw [ln, mkR_len]; omega)), fun l hl => ⟨(by show 3 ≤ sizeLine; decide), fun q2 hq2 => ?_⟩⟩⟩
    have s2 := Same.new hq2 (.tup [.ref l, .int 0, .int 0])
    exact q q2 _ ((P.1.trans (Same.new hl _)).trans s2) ⟨l, SqT.of upd_same, SqT.of (s2 _ _ upd_same)⟩
theorem ok_sum_of_forms (T : Txt w K mg) : FnOk P w K mg base CX0 1 T.a_sum_of_forms T.d_sum_of_forms p_sum_of_forms (spSum K) := by
  refine T.F_sum_of_forms.ok sc_sum_of_forms (fun vs H Q E h => ?_) (fun cdv A outer s H vs Q E hr h => ?_)
  · obtain ⟨f, g, F, G, n, rfl, _⟩ := h
    rfl
  obtain ⟨f, g, F, G, n, rfl, hn, ⟨c, hf, hc⟩, ⟨d, hg, hd⟩, q⟩ := h
  refine ⟨_, (pss_cons (ps_setLc (i := 2) (own := [("a", 3), ("b", 4)]) (g := gTup K 2 (gCons (gName 3) (gCons (gName 4) gNil))) (tt := tYes) rfl sc_sum_of_forms.nd rfl rfl (sw_true rfl rfl rfl (by decide +kernel)) (ZG.pi_zipG (by rfl) T.z_zip (pa_cons (pe_ix ix_tup (pv 0) pe_int (fun _ _ => rfl)) (pa_cons (pe_ix ix_tup (pv 1) pe_int (fun _ _ => rfl)) pa_nil))) (blkOk_by (own := [("a", 3), ("b", 4)]) (N := n_sum_of_forms) (sc := defScope s_sum_of_forms) (by decide +kernel)) (fun _ _ _ _ _ => (pg_tup rfl (pgs_cons (pg_name (i := 3) sc_sum_of_forms.nd rfl (Or.inl rfl)) (pgs_cons (pg_name (i := 4) sc_sum_of_forms.nd rfl (Or.inl rfl)) pgs_nil)))) (fun _ _ _ _ _ => pts_nil) (fun _ _ _ _ _ => (pe_op op_add (pv 3) (pv 4))))
      (pss_one (ps_ret (pe_tup (pa_cons (pe_callTy call_tuple_of rfl T.z_tuple bt_tuple (pa_cons (pv 2) pa_nil)) (pa_cons (pe_op op_add (pe_ix ix_tup (pv 0) pe_int (fun _ _ => rfl)) (pe_ix ix_tup (pv 1) pe_int (fun _ _ => rfl))) (pa_cons (pe_op op_add (pe_ix ix_tup (pv 0) pe_int (fun _ _ => rfl)) (pe_ix ix_tup (pv 1) pe_int (fun _ _ => rfl))) pa_nil))))))), ?_⟩
  refine ⟨_, rfl, f, _, _, _, rfl, rfl, hf, rfl, _, rfl, g, _, _, _, rfl, rfl, hg, rfl, true, true, c, d, _, _, rfl, hc, hd, fun D hD => ?_⟩
  refine lc_it (walk_zipG (n := n) (by rw [List.length_map, List.length_map, mkR_len, mkR_len]; omega)) (LcP (Same H) (RInt (mkR n fun k => F.c k + G.c k)) D) (lcp_start hD) (fun i G _ P => ⟨Sq.same P.1 hc, Sq.same P.1 hd⟩) ?_ ?_
  · rintro j x F1 F2 hj P ⟨t, u, v, rfl, ht, rfl, eu, ev⟩
    have eu : ((mkR n F.c).map V.int)[j]? = some u := eu
    have ev : ((mkR n G.c).map V.int)[j]? = some v := ev
    rw [map_get (mkR_at hj)] at eu ev
    obtain rfl := Option.some.inj eu
    obtain rfl := Option.some.inj ev
    refine ⟨t, _, rfl, SqT.of upd_same, rfl, _, _, rfl, _, _, rfl, rfl, ?_⟩
    refine ⟨rfl, tyes ?_⟩
    refine ⟨_, rfl, _, rfl, _, _, rfl, rfl, ?_⟩
    exact lcp_same P hD (Same.new ht _) (lt_line (by omega)) RInt.mono ⟨_, mkR_at hj, rfl⟩
  · intro G1 P
    refine ⟨_, rfl, D, _, rfl, .inl ⟨SqL.of (lcp_ints (K := K) P (by rw [mkR_len])), fun l hl => ?_⟩⟩
    have sl := P.1.trans (Same.new hl (.tup ((mkR n fun k => F.c k + G.c k).map V.int)))
    refine ⟨_, rfl, f, _, _, _, rfl, rfl, Same.tup sl hf, rfl, _, rfl, g, _, _, _, rfl, rfl, Same.tup sl hg, rfl, _, _, rfl, rfl, ?_⟩
    refine ⟨_, rfl, f, _, _, _, rfl, rfl, Same.tup sl hf, rfl, _, rfl, g, _, _, _, rfl, rfl, Same.tup sl hg, rfl, _, _, rfl, rfl, (by show 3 ≤ sizeLine; decide), fun q2 hq2 => ?_⟩
    have s2 := Same.new hq2 (.tup [.ref l, .int (F.lo + G.lo), .int (F.hi + G.hi)])
    exact q q2 _ (sl.trans s2) ⟨l, SqT.of upd_same, SqT.of (s2 _ _ upd_same)⟩
theorem ok_form_times (T : Txt w K mg) : FnOk P w K mg base CX0 1 T.a_form_times T.d_form_times p_form_times (spTms K) := by
  refine T.F_form_times.ok sc_form_times (fun vs H Q E h => ?_) (fun cdv A outer s H vs Q E hr h => ?_)
  · obtain ⟨f, v, F, n, e1, e2, rfl, _⟩ := h
    rfl
  obtain ⟨f, v, F, n, e1, e2, rfl, hn, ⟨c, hf, hc⟩, fb, bv, h1, h2, q⟩ := h
  refine ⟨_, (pss_cons (ps_set (i := 2) sc_form_times.nd rfl (Or.inl rfl) (pe_callTy call_tuple_of rfl T.z_tuple bt_tuple (pa_cons (pe_lc (own := [("each", 3)]) (g := gName 3) (tt := tYes) rfl sc_form_times.nd (pi_tup (pe_ix ix_tup (pv 0) pe_int (fun _ _ => rfl))) (blkOk_by (own := [("each", 3)]) (N := n_form_times) (sc := defScope s_form_times) (by decide +kernel)) (fun _ _ _ _ _ => (pg_name (i := 3) sc_form_times.nd rfl (Or.inl rfl))) (fun _ _ _ _ _ => pts_nil) (fun _ _ _ _ _ => (pe_op op_mulW (pv 1) (pv 3)))) pa_nil)))
      (pss_cons (ps_set (i := 4) sc_form_times.nd rfl (Or.inl rfl) (pe_tup (pa_cons (pe_op op_mulW (pv 1) (pe_ix ix_tup (pv 0) pe_int (fun _ _ => rfl))) (pa_cons (pe_op op_mulW (pv 1) (pe_ix ix_tup (pv 0) pe_int (fun _ _ => rfl))) pa_nil))))
      (pss_one (ps_ret (pe_tup (pa_cons (pv 2) (pa_cons (pe_callB (MxT.call_minT rfl) rfl T.z_min bb_min (pa_cons (pv 4) pa_nil)) (pa_cons (pe_callB (MxT.call_maxT rfl) rfl T.z_max bb_max (pa_cons (pv 4) pa_nil)) pa_nil)))))))), ?_⟩
  refine ⟨_, rfl, f, _, _, _, rfl, rfl, hf, rfl, c, rfl, ⟨_, hc⟩, fun D hD => ?_⟩
  refine lc_it (walk_tup (xs := (mkR n F.c).map V.int)) (LcP (Same H) (RInt (mkR n fun k => v * F.c k)) D) (lcp_start hD) (fun i G _ P => Same.tup P.1 hc) ?_ ?_
  · rintro j x F' F2 hj P ⟨rfl, ex⟩
    rw [List.length_map, mkR_len] at hj
    rw [map_get (mkR_at hj)] at ex
    obtain rfl := Option.some.inj ex
    refine ⟨rfl, tyes ?_⟩
    refine ⟨_, rfl, _, rfl, _, _, rfl, rfl, mulW bv (fb.c j hj) h2 h1, ?_⟩
    exact lcp_same P hD (Same.refl _) (lt_line (by omega)) RInt.mono ⟨_, mkR_at hj, rfl⟩
  · intro F2 P
    refine ⟨D, _, rfl, .inl ⟨SqL.of (lcp_ints (K := K) P (by rw [List.length_map, mkR_len, mkR_len])), fun l hl => ?_⟩⟩
    have sl := P.1.trans (Same.new hl (.tup ((mkR n fun k => v * F.c k).map V.int)))
    refine ⟨_, rfl, _, rfl, f, _, _, _, rfl, rfl, Same.tup sl hf, rfl, _, _, rfl, rfl, mulW bv fb.l h2 h1, ?_⟩
    refine ⟨_, rfl, _, rfl, f, _, _, _, rfl, rfl, Same.tup sl hf, rfl, _, _, rfl, rfl, mulW bv fb.h h2 h1, (by show 2 ≤ sizeLine; decide), fun e he => ?_⟩
    have se := sl.trans (Same.new he (.tup [.int (v * F.lo), .int (v * F.hi)]))
    refine ⟨_, rfl, _, rfl, e, [v * F.lo, v * F.hi], rfl, SqT.of upd_same, by show 0 < 2; decide, fun m hm hx => ?_⟩
    refine ⟨_, rfl, e, [v * F.lo, v * F.hi], rfl, SqT.of upd_same, by show 0 < 2; decide, fun m2 hm2 hx2 => ⟨(by show 3 ≤ sizeLine; decide), fun r hr => ?_⟩⟩
    have x1 := hx (v * F.lo) (by simp)
    have x2 := hx (v * F.hi) (by simp)
    have y1 := hx2 (v * F.lo) (by simp)
    have y2 := hx2 (v * F.hi) (by simp)
    simp only [List.mem_cons, List.not_mem_nil, or_false] at hm hm2
    obtain rfl : m = min (v * F.lo) (v * F.hi) := by omega
    obtain rfl : m2 = max (v * F.lo) (v * F.hi) := by omega
    have s3 := (Same.new he (.tup [.int (v * F.lo), .int (v * F.hi)])).trans (Same.new hr (.tup [.ref l, .int (min (v * F.lo) (v * F.hi)), .int (max (v * F.lo) (v * F.hi))]))
    exact q r _ (sl.trans s3) ⟨l, SqT.of upd_same, SqT.of (s3 _ _ upd_same)⟩
theorem ok_difference_of_forms (T : Txt w K mg) : FnOk P w K mg base CX0 2 T.a_difference_of_forms T.d_difference_of_forms p_difference_of_forms (spDif K) := by
  have g_sum_of_forms := ok_sum_of_forms (P := P) (w := w) (K := K) (base := base) T
  have g_form_times := ok_form_times (P := P) (w := w) (K := K) (base := base) T
  refine T.F_difference_of_forms.ok sc_difference_of_forms (fun vs H Q E h => ?_) (fun cdv A outer s H vs Q E hr h => ?_)
  · obtain ⟨f, g, F, G, n, e, rfl, _⟩ := h
    rfl
  obtain ⟨f, g, F, G, n, e, rfl, hn, hf, hg, fb, he, q⟩ := h
  refine ⟨_, (pss_one (ps_ret (pe_call g_sum_of_forms (hr.mono (by first | decide | omega)) rfl T.m_sum_of_forms T.F_sum_of_forms.kp T.b_sum_of_forms .nil pass0 (pa_cons (pv 0) (pa_cons (pe_call g_form_times (hr.mono (by first | decide | omega)) rfl T.m_form_times T.F_form_times.kp T.b_form_times .nil pass0 (pa_cons (pv 1) (pa_cons (pe_un un_neg pe_int) pa_nil))) pa_nil))))), ?_⟩
  refine ⟨_, rfl, _, rfl, _, rfl, g, -1, G, n, e, 1, rfl, hn, hg, fb, by show (1 : Nat) < 2; decide, he, by decide, fun q1 H1 s1 h1 => ?_⟩
  exact ⟨f, q1, F, G.times (-1), n, rfl, hn, hf.same s1, h1, fun q2 H2 s2 h2 => q q2 H2 (s1.trans s2) h2⟩
end
/-! ### the grid (as in Law18e.inc) -/
def valsR (lo hi : Int) : List Int := (List.range (hi + 1 - lo).toNat).map fun (k : Nat) => lo + (k : Int)
def gstep (r : List Int) (Qs : List (List Int)) : List (List Int) := Qs.flatMap fun p => (valsR (r.getD 0 0) (r.getD 1 0)).map fun v => p ++ [v]
def gridL (Rs : List (List Int)) : List (List Int) := Rs.foldl (fun Qs r => gstep r Qs) [[]]
theorem gridL_app {Rs : List (List Int)} {r : List Int} : gridL (Rs ++ [r]) = gstep r (gridL Rs) := by
  unfold gridL
  rw [List.foldl_append]
  rfl
theorem mem_valsR {lo hi v : Int} : v ∈ valsR lo hi ↔ lo ≤ v ∧ v ≤ hi := by
  unfold valsR
  rw [List.mem_map]
  constructor
  · rintro ⟨k, hk, rfl⟩
    rw [List.mem_range] at hk
    omega
  · rintro ⟨h1, h2⟩
    exact ⟨(v - lo).toNat, List.mem_range.mpr (by omega), by omega⟩
theorem valsR_len {lo hi : Int} : (valsR lo hi).length = (hi + 1 - lo).toNat := by simp [valsR]
theorem valsR_get {lo hi : Int} {k : Nat} (h : k < (hi + 1 - lo).toNat) : (valsR lo hi)[k]? = some (lo + (k : Int)) := map_get (range_at h)
def InR (Rs : List (List Int)) (p : List Int) : Prop := p.length = Rs.length ∧ ∀ k < Rs.length, (Rs.getD k []).getD 0 0 ≤ p.getD k 0 ∧ p.getD k 0 ≤ (Rs.getD k []).getD 1 0
theorem getD_app1 {α : Type} {xs ys : List α} {k : Nat} {d : α} (h : k < xs.length) : (xs ++ ys).getD k d = xs.getD k d := by
  rw [List.getD_eq_getElem?_getD, List.getElem?_append_left h, ← List.getD_eq_getElem?_getD]
theorem getD_app2 {α : Type} {xs : List α} {y d : α} : (xs ++ [y]).getD xs.length d = y := by
  rw [List.getD_eq_getElem?_getD, List.getElem?_append_right (Nat.le_refl _), Nat.sub_self]
  rfl
theorem take_snoc {α : Type} {xs : List α} {i : Nat} {x : α} (e : xs[i]? = some x) : xs.take (i + 1) = xs.take i ++ [x] := by rw [List.take_succ, e]; rfl
theorem mem_grid {Rs : List (List Int)} : ∀ {i : Nat}, i ≤ Rs.length → ∀ p, p ∈ gridL (Rs.take i) ↔ InR (Rs.take i) p
  | 0, _, p => by
    rw [List.take_zero]
    unfold InR
    show p ∈ [[]] ↔ _
    rw [List.mem_singleton]
    constructor
    · rintro rfl
      exact ⟨rfl, fun k h => by simp at h⟩
    · rintro ⟨h, _⟩
      exact List.length_eq_zero_iff.mp h
  | i + 1, hi, p => by
    have e : Rs[i]? = some (Rs[i]'(by omega)) := List.getElem?_eq_getElem _
    rw [take_snoc e, gridL_app]
    generalize Rs[i]'(by omega) = r
    have li : (Rs.take i).length = i := by rw [List.length_take]; omega
    unfold gstep
    rw [List.mem_flatMap]
    constructor
    · rintro ⟨q, hq, hp⟩
      obtain ⟨v, hv, rfl⟩ := List.mem_map.mp hp
      obtain ⟨lq, iq⟩ := (mem_grid (by omega) q).mp hq
      have hv' := mem_valsR.mp hv
      refine ⟨by simp [lq], fun k hk => ?_⟩
      rw [List.length_append, li] at hk
      by_cases h : k < i
      · rw [getD_app1 (by omega), getD_app1 (by omega)]
        exact iq k (by omega)
      · have ek : k = i := by simp at hk; omega
        subst ek
        have e1 : (List.take k Rs ++ [r]).getD k [] = r := by
          have := getD_app2 (xs := Rs.take k) (y := r) (d := [])
          rwa [li] at this
        have e2 : (q ++ [v]).getD k 0 = v := by
          have := getD_app2 (xs := q) (y := v) (d := (0 : Int))
          rwa [lq, li] at this
        rw [e1, e2]
        exact hv'
    · rintro ⟨lp, ip⟩
      rw [List.length_append, li] at lp ip
      have ne : p ≠ [] := fun z => by rw [z] at lp; simp at lp
      obtain ⟨q, v, rfl⟩ : ∃ q v, p = q ++ [v] := ⟨p.dropLast, p.getLast ne, (List.dropLast_concat_getLast ne).symm⟩
      have lq : q.length = i := by simpa using lp
      refine ⟨q, (mem_grid (by omega) q).mpr ⟨by rw [lq, li], fun k hk => ?_⟩, List.mem_map.mpr ⟨v, mem_valsR.mpr ?_, rfl⟩⟩
      · rw [li] at hk
        have := ip k (by simp; omega)
        rwa [getD_app1 (by omega), getD_app1 (by omega)] at this
      · have := ip i (by simp)
        have e1 : (List.take i Rs ++ [r]).getD i [] = r := by
          have := getD_app2 (xs := Rs.take i) (y := r) (d := [])
          rwa [li] at this
        have e2 : (q ++ [v]).getD i 0 = v := by
          have := getD_app2 (xs := q) (y := v) (d := (0 : Int))
          rwa [lq] at this
        rw [e1, e2] at this
        exact this
theorem gstep_len {r : List Int} {m : Nat} (h : (valsR (r.getD 0 0) (r.getD 1 0)).length ≤ m) : ∀ Qs : List (List Int), (gstep r Qs).length ≤ Qs.length * m := by
  intro Qs
  unfold gstep
  induction Qs with
  | nil => simp
  | cons q Qs ih =>
    rw [List.flatMap_cons, List.length_append, List.length_cons, Nat.add_mul, List.length_map]
    omega
/-! ### spans of fewer points -/
theorem tmin_le {n k : Nat} {c : Int} {Ps : List (List Int)} {r : List Int} (hr : r ∈ Ps) (hk : k < n) : tmin (hullM n Ps) c k ≤ c * r.getD k 0 ∧ ∃ s ∈ Ps, tmin (hullM n Ps) c k = c * s.getD k 0 := by
  have ne : Ps ≠ [] := List.ne_nil_of_mem hr
  obtain ⟨r1, hr1, e1⟩ := hull_at (n := n) (Ps := Ps) ne (show 0 < n + 1 by omega) (show k + 1 < n + 1 by omega)
  obtain ⟨r2, hr2, e2⟩ := hull_at (n := n) (Ps := Ps) ne (show k + 1 < n + 1 by omega) (show 0 < n + 1 by omega)
  have e1' : 0 - r1.getD k 0 = getM (hullM n Ps) 0 (k + 1) := e1
  have e2' : r2.getD k 0 - 0 = getM (hullM n Ps) (k + 1) 0 := e2
  have d1 : dif 0 (k + 1) r ≤ getM (hullM n Ps) 0 (k + 1) := hull_le (by omega) (by omega) hr
  have d2 : dif (k + 1) 0 r ≤ getM (hullM n Ps) (k + 1) 0 := hull_le (by omega) (by omega) hr
  have d1' : 0 - r.getD k 0 ≤ getM (hullM n Ps) 0 (k + 1) := d1
  have d2' : r.getD k 0 - 0 ≤ getM (hullM n Ps) (k + 1) 0 := d2
  unfold tmin
  rw [show -(getM (hullM n Ps) 0 (k + 1)) = r1.getD k 0 by omega, show getM (hullM n Ps) (k + 1) 0 = r2.getD k 0 by omega]
  refine ⟨?_, ?_⟩
  · by_cases c0 : 0 ≤ c
    · have := Int.mul_le_mul_of_nonneg_left (show r1.getD k 0 ≤ r.getD k 0 by omega) c0
      omega
    · have := Int.mul_le_mul_of_nonpos_left (show c ≤ 0 by omega) (show r.getD k 0 ≤ r2.getD k 0 by omega)
      omega
  · by_cases h : c * r1.getD k 0 ≤ c * r2.getD k 0
    · exact ⟨r1, hr1, by omega⟩
    · exact ⟨r2, hr2, by omega⟩
theorem sum_le {f g : Nat → Int} : ∀ xs : List Nat, (∀ k ∈ xs, f k ≤ g k) → (xs.map f).sum ≤ (xs.map g).sum
  | [], _ => Int.le_refl _
  | x :: xs, h => by
    have h1 := h x List.mem_cons_self
    have h2 := sum_le xs fun k hk => h k (List.mem_cons_of_mem _ hk)
    rw [List.map_cons, List.map_cons, List.sum_cons, List.sum_cons]
    omega
theorem span_val {cs : List Int} {lo : Int} {Ps : List (List Int)} {r : List Int} (hr : r ∈ Ps) : spanLo (hullM cs.length Ps) cs lo ≤ val cs r + lo := by
  unfold spanLo
  rw [val_used]
  have := sum_le (f := fun k => tmin (hullM cs.length Ps) (cs.getD k 0) k) (g := fun k => cs.getD k 0 * r.getD k 0) (usedZ cs) fun k hk => (tmin_le hr (mem_usedZ.mp hk).1).1
  omega
theorem span_mono {cs : List Int} {lo : Int} {Ps Qs : List (List Int)} {q : List Int} (hq : q ∈ Qs) (sub : ∀ r ∈ Qs, r ∈ Ps) : spanLo (hullM cs.length Ps) cs lo ≤ spanLo (hullM cs.length Qs) cs lo := by
  unfold spanLo
  have := sum_le (f := fun k => tmin (hullM cs.length Ps) (cs.getD k 0) k) (g := fun k => tmin (hullM cs.length Qs) (cs.getD k 0) k) (usedZ cs) fun k hk => by
    obtain ⟨s, hs, e⟩ := (tmin_le (c := cs.getD k 0) hq (mem_usedZ.mp hk).1).2
    show _ ≤ tmin (hullM cs.length Qs) (cs.getD k 0) k
    rw [e]
    exact (tmin_le (sub s hs) (mem_usedZ.mp hk).1).1
  omega
/-! ### ends of fewer points (as in Asg25b.inc) -/
theorem tmax_ge {n k : Nat} {c : Int} {Ps : List (List Int)} {r : List Int} (hr : r ∈ Ps) (hk : k < n) : c * r.getD k 0 ≤ tmax (hullM n Ps) c k ∧ ∃ s ∈ Ps, tmax (hullM n Ps) c k = c * s.getD k 0 := by
  have ne : Ps ≠ [] := List.ne_nil_of_mem hr
  obtain ⟨r1, hr1, e1⟩ := hull_at (n := n) (Ps := Ps) ne (show 0 < n + 1 by omega) (show k + 1 < n + 1 by omega)
  obtain ⟨r2, hr2, e2⟩ := hull_at (n := n) (Ps := Ps) ne (show k + 1 < n + 1 by omega) (show 0 < n + 1 by omega)
  have e1' : 0 - r1.getD k 0 = getM (hullM n Ps) 0 (k + 1) := e1
  have e2' : r2.getD k 0 - 0 = getM (hullM n Ps) (k + 1) 0 := e2
  have d1 : dif 0 (k + 1) r ≤ getM (hullM n Ps) 0 (k + 1) := hull_le (by omega) (by omega) hr
  have d2 : dif (k + 1) 0 r ≤ getM (hullM n Ps) (k + 1) 0 := hull_le (by omega) (by omega) hr
  have d1' : 0 - r.getD k 0 ≤ getM (hullM n Ps) 0 (k + 1) := d1
  have d2' : r.getD k 0 - 0 ≤ getM (hullM n Ps) (k + 1) 0 := d2
  unfold tmax
  rw [show -(getM (hullM n Ps) 0 (k + 1)) = r1.getD k 0 by omega, show getM (hullM n Ps) (k + 1) 0 = r2.getD k 0 by omega]
  refine ⟨?_, ?_⟩
  · by_cases c0 : 0 ≤ c
    · have := Int.mul_le_mul_of_nonneg_left (show r.getD k 0 ≤ r2.getD k 0 by omega) c0
      omega
    · have := Int.mul_le_mul_of_nonpos_left (show c ≤ 0 by omega) (show r1.getD k 0 ≤ r.getD k 0 by omega)
      omega
  · by_cases h : c * r1.getD k 0 ≤ c * r2.getD k 0
    · exact ⟨r2, hr2, by omega⟩
    · exact ⟨r1, hr1, by omega⟩
theorem spanH_val {cs : List Int} {hi : Int} {Ps : List (List Int)} {r : List Int} (hr : r ∈ Ps) : val cs r + hi ≤ spanHi (hullM cs.length Ps) cs hi := by
  unfold spanHi
  rw [val_used]
  have := sum_le (f := fun k => cs.getD k 0 * r.getD k 0) (g := fun k => tmax (hullM cs.length Ps) (cs.getD k 0) k) (usedZ cs) fun k hk => (tmax_ge hr (mem_usedZ.mp hk).1).1
  omega
theorem spanH_mono {cs : List Int} {hi : Int} {Ps Qs : List (List Int)} {q : List Int} (hq : q ∈ Qs) (sub : ∀ r ∈ Qs, r ∈ Ps) : spanHi (hullM cs.length Qs) cs hi ≤ spanHi (hullM cs.length Ps) cs hi := by
  unfold spanHi
  have := sum_le (f := fun k => tmax (hullM cs.length Qs) (cs.getD k 0) k) (g := fun k => tmax (hullM cs.length Ps) (cs.getD k 0) k) (usedZ cs) fun k hk => by
    obtain ⟨s, hs, e⟩ := (tmax_ge (c := cs.getD k 0) hq (mem_usedZ.mp hk).1).2
    show tmax (hullM cs.length Qs) (cs.getD k 0) k ≤ _
    rw [e]
    exact (tmax_ge (sub s hs) (mem_usedZ.mp hk).1).1
  omega
theorem minV_le {cs : List Int} {Ps : List (List Int)} {r : List Int} (hr : r ∈ Ps) : minV cs Ps ≤ val cs r ∧ ∃ s ∈ Ps, minV cs Ps = val cs s := by
  unfold minV
  have h1 := lmax_le (List.mem_map_of_mem (f := fun p => -(val cs p)) hr)
  have h2 := lmax_mem (xs := Ps.map fun p => -(val cs p)) (fun z => by rw [List.map_eq_nil_iff] at z; rw [z] at hr; simp at hr)
  obtain ⟨s, hs, e⟩ := List.mem_map.mp h2
  exact ⟨by omega, s, hs, by omega⟩
theorem maxV_ge {cs : List Int} {Ps : List (List Int)} {r : List Int} (hr : r ∈ Ps) : val cs r ≤ maxV cs Ps ∧ ∃ s ∈ Ps, maxV cs Ps = val cs s := by
  unfold maxV
  have h1 := lmax_le (List.mem_map_of_mem (f := fun p => val cs p) hr)
  have h2 := lmax_mem (xs := Ps.map fun p => val cs p) (fun z => by rw [List.map_eq_nil_iff] at z; rw [z] at hr; simp at hr)
  obtain ⟨s, hs, e⟩ := List.mem_map.mp h2
  exact ⟨h1, s, hs, e.symm⟩
theorem low_le {cs : List Int} {flo : Int} {Ps : List (List Int)} {r : List Int} (hr : r ∈ Ps) : lowF cs flo Ps ≤ val cs r + flo := by
  unfold lowF
  split
  · have := (minV_le (cs := cs) hr).1
    omega
  · exact span_val hr
theorem high_ge {cs : List Int} {fhi : Int} {Ps : List (List Int)} {r : List Int} (hr : r ∈ Ps) : val cs r + fhi ≤ highF cs fhi Ps := by
  unfold highF
  split
  · have := (maxV_ge (cs := cs) hr).1
    omega
  · exact spanH_val hr
theorem low_mono {cs : List Int} {flo : Int} {Ps Qs : List (List Int)} {q : List Int} (hq : q ∈ Qs) (sub : ∀ r ∈ Qs, r ∈ Ps) : lowF cs flo Ps ≤ lowF cs flo Qs := by
  unfold lowF
  split
  · obtain ⟨s, hs, e⟩ := (minV_le (cs := cs) hq).2
    have := (minV_le (cs := cs) (sub s hs)).1
    omega
  · exact span_mono hq sub
theorem high_mono {cs : List Int} {fhi : Int} {Ps Qs : List (List Int)} {q : List Int} (hq : q ∈ Qs) (sub : ∀ r ∈ Qs, r ∈ Ps) : highF cs fhi Qs ≤ highF cs fhi Ps := by
  unfold highF
  split
  · obtain ⟨s, hs, e⟩ := (maxV_ge (cs := cs) hq).2
    have := (maxV_ge (cs := cs) (sub s hs)).1
    omega
  · exact spanH_mono hq sub
/-! ### ranges of forms over boxes of bounded entries -/
def EntB (M : List (List Int)) : Prop := ∀ i j, -1000000000000 ≤ getM M i j ∧ getM M i j ≤ 1000000000000
theorem entC {M : List (List Int)} {c z : Int} {k j : Nat} (h : EntB M) (e : [-(getM M 0 (k + 1)), getM M (k + 1) 0][j]? = some z) : CMul c z := by
  have h1 := h 0 (k + 1)
  have h2 := h (k + 1) 0
  match j, e with
  | 0, e =>
    cases e
    exact .inr ⟨by omega, by omega⟩
  | 1, e =>
    cases e
    exact .inr ⟨by omega, by omega⟩
  | j + 2, e => simp at e
def spFormR (K : PySem.W.Frag) : Sp := fun vs H Q _ => ∃ (f p : Addr) (M : List (List Int)) (cs : List Int) (lo hi : Int), vs = [.ref f, .ref p] ∧ FormAt K H f cs lo hi ∧ EntB M ∧ cs.length ≤ 60 ∧ Mx true true K H p M ∧ Sz (cs.length + 1) M ∧
  ∀ t H' L G, Same H H' → H' t = some (.tup [.int L, .int G]) → RngF M cs lo hi L G → Q (.ref t) H'
section
variable {P : Program} {w : World} {K : PySem.W.Frag} {mg : Str → Option Value} {base : Heap}
theorem ok_range_of_form (T : Txt w K mg) : FnOk P w K mg base CX0 3 T.a_range_of_form T.d_range_of_form p_range_of_form (spFormR K) := by
  have g_used_columns := ok_used_columns (P := P) (w := w) (K := K) (base := base) T
  have g_difference_columns := ok_difference_columns (P := P) (w := w) (K := K) (base := base) T
  have g_range_of := ok_range_of (P := P) (w := w) (K := K) (base := base) T
  refine T.F_range_of_form.ok sc_range_of_form (fun vs H Q E h => ?_) (fun cdv A outer s H vs Q E hr h => ?_)
  · obtain ⟨f, p, M, cs, lo, hi, rfl, _⟩ := h
    rfl
  obtain ⟨f, p, M, cs, lo, hi, rfl, hF, eb, lc, hM, sM, q⟩ := h
  refine ⟨_, (pss_cons (ps_asg (pv 0) (pg_tup rfl (pgs_cons (pg_name (i := 2) sc_range_of_form.nd rfl (Or.inr rfl)) (pgs_cons (pg_name (i := 3) sc_range_of_form.nd rfl (Or.inl rfl)) (pgs_cons (pg_name (i := 4) sc_range_of_form.nd rfl (Or.inl rfl)) pgs_nil)))))
      (pss_cons (ps_set (i := 5) sc_range_of_form.nd rfl (Or.inl rfl) (pe_call g_difference_columns (hr.mono (by first | decide | omega)) rfl T.m_difference_columns T.F_difference_columns.kp T.b_difference_columns .nil pass0 (pa_cons (pv 0) pa_nil)))
      (pss_cons (ps_if (pt_cmpR op_notN (pv 5) pe_non (nomark _)) (pss_cons (ps_asg (pv 5) (pg_tup rfl (pgs_cons (pg_name (i := 6) sc_range_of_form.nd rfl (Or.inl rfl)) (pgs_cons (pg_name (i := 7) sc_range_of_form.nd rfl (Or.inl rfl)) pgs_nil))))
      (pss_one (ps_ret (pe_tup (pa_cons (pe_op op_sub (pv 3) (pe_ix ix_tup (pe_ix ix_tup (pv 1) (pv 7) (fun _ _ => rfl)) (pv 6) (fun _ _ => rfl))) (pa_cons (pe_op op_add (pv 4) (pe_ix ix_tup (pe_ix ix_tup (pv 1) (pv 6) (fun _ _ => rfl)) (pv 7) (fun _ _ => rfl))) pa_nil)))))) pss_nil)
      (pss_cons (ps_for PassesOwn.never rfl (pi_list (pe_call g_used_columns (hr.mono (by first | decide | omega)) rfl T.m_used_columns T.F_used_columns.kp T.b_used_columns .nil pass0 (pa_cons (pv 0) pa_nil))) (pg_name (i := 8) sc_range_of_form.nd rfl (Or.inr rfl))
        (pss_cons (ps_setLc (i := 9) (own := [("end", 10)]) (g := gName 10) (tt := tYes) rfl sc_range_of_form.nd rfl rfl (sw_true rfl rfl rfl (by decide +kernel)) (pi_tup (pe_call g_range_of (hr.mono (by first | decide | omega)) rfl T.m_range_of T.F_range_of.kp T.b_range_of .nil pass0 (pa_cons (pv 1) (pa_cons (pv 8) pa_nil)))) (blkOk_by (own := [("end", 10)]) (N := n_range_of_form) (sc := defScope s_range_of_form) (by decide +kernel)) (fun _ _ _ _ _ => (pg_name (i := 10) sc_range_of_form.nd rfl (Or.inl rfl))) (fun _ _ _ _ _ => pts_nil) (fun _ _ _ _ _ => (pe_op op_mul (pe_ix (show IxR _ (rIxT K) from ix_tup) (pv 2) (pe_op op_sub (pv 8) pe_int) (fun _ _ => rfl)) (pv 10))))
      (pss_cons (ps_set (i := 3) sc_range_of_form.nd rfl (Or.inl rfl) (pe_op op_add (pv 3) (pe_callB (cr_min rfl) rfl T.z_min bb_min (pa_cons (pv 9) pa_nil))))
      (pss_one (ps_set (i := 4) sc_range_of_form.nd rfl (Or.inl rfl) (pe_op op_add (pv 4) (pe_callB (cr_max rfl) rfl T.z_max bb_max (pa_cons (pv 9) pa_nil))))))))
      (pss_one (ps_ret (pe_tup (pa_cons (pv 3) (pa_cons (pv 4) pa_nil))))))))), ?_⟩
  obtain ⟨c, hf, hc⟩ := id hF
  refine ⟨_, rfl, f, _, rfl, hf, rfl, _, _, rfl, _, _, rfl, _, _, rfl, rfl, ?_⟩
  refine ⟨_, rfl, f, cs, lo, hi, rfl, hF, by omega, fun G s0 nd => ?_, fun t G i j s0 d dij ht => ?_⟩
  · refine ⟨_, rfl, rfl, _, rfl, ifF (by decide) ?_⟩
    refine ⟨_, rfl, f, cs, lo, hi, rfl, hF.same s0, by omega, fun u H2 s2 hu => ⟨u, rfl, ⟨_, SqL.of hu⟩, ?_⟩⟩
    have s02 := s0.trans s2
    refine for_it (walk_list (xs := natsV (usedN cs))) (fun i σ F => (∃ x8 x9 x10 : Option V, σ = [some (.ref f), some (.ref p), some (.ref c), some (.int (lo + (((usedZ cs).take i).map fun k => tmin M (cs.getD k 0) k).sum)), some (.int (hi + (((usedZ cs).take i).map fun k => tmax M (cs.getD k 0) k).sum)), some .non, none, none, x8, x9, x10]) ∧ Same H2 F)
      ⟨⟨none, none, none, by rw [List.take_zero]; show _ = [_, _, _, some (V.int (lo + 0)), some (V.int (hi + 0)), _, _, _, _, _, _]; rw [Int.add_zero, Int.add_zero]; rfl⟩, Same.refl _⟩ (fun j σ F _ P => SqL.of (P.2 _ _ hu)) ?_ ?_
    · rintro i x σ F0 F hi2 ⟨⟨x8, x9, x10, rfl⟩, sF⟩ ⟨rfl, ex⟩
      rw [natsU_len] at hi2
      have ek : (usedZ cs)[i]? = some (usedZ cs)[i] := List.getElem?_eq_getElem hi2
      have mk := mem_usedZ.mp (List.getElem_mem hi2)
      generalize (usedZ cs)[i] = k at ek mk
      rw [natsU_get ek] at ex
      obtain rfl := Option.some.inj ex
      have sF2 := s02.trans sF
      refine ⟨_, rfl, _, rfl, p, M, cs.length, k + 1, rfl, by omega, hM.same sF2, sM, by omega, fun t H3 s3 ht => ⟨t, rfl, ⟨_, ht⟩, fun D hD => ?_⟩⟩
      have sF3 := sF2.trans s3
      refine lc_it (walk_tup (xs := [-(getM M 0 (k + 1)), getM M (k + 1) 0].map V.int)) (LcP (Same H3) (RInt ([-(getM M 0 (k + 1)), getM M (k + 1) 0].map fun y => cs.getD k 0 * y)) D) (lcp_start hD) (fun j F4 _ P => Same.tup P.1 ht) ?_ ?_
      · rintro j y F4 F5 hj P ⟨rfl, ey⟩
        obtain ⟨z, ez, rfl⟩ := get_int ey
        refine ⟨rfl, tyes ?_⟩
        refine ⟨_, rfl, _, rfl, _, _, rfl, rfl, c, _, _, _, rfl, rfl, Same.tup (sF3.trans P.1) hc, coef_at mk.1, _, rfl, _, _, rfl, rfl, entC eb ez, ?_⟩
        exact lcp_same P hD (Same.refl _) (lt_line (by have : j < 2 := hj; omega)) RInt.mono ⟨_, map_get ez, rfl⟩
      · intro F4 P
        have ei := lcp_ints (K := K) P rfl
        refine ⟨_, rfl, _, rfl, D, _, rfl, SqL.of ei, by show 0 < 2; decide, fun m hm hx => ⟨_, _, rfl, rfl, ?_⟩⟩
        refine ⟨_, rfl, _, rfl, D, _, rfl, SqL.of ei, by show 0 < 2; decide, fun m2 hm2 hx2 => ⟨_, _, rfl, rfl, ?_⟩⟩
        have em : m = tmin M (cs.getD k 0) k := by
          have x1 := hx (cs.getD k 0 * -(getM M 0 (k + 1))) (by simp)
          have x2 := hx (cs.getD k 0 * getM M (k + 1) 0) (by simp)
          simp only [List.map_cons, List.map_nil, List.mem_cons, List.not_mem_nil, or_false] at hm
          unfold tmin
          omega
        have em2 : m2 = tmax M (cs.getD k 0) k := by
          have x1 := hx2 (cs.getD k 0 * -(getM M 0 (k + 1))) (by simp)
          have x2 := hx2 (cs.getD k 0 * getM M (k + 1) 0) (by simp)
          simp only [List.map_cons, List.map_nil, List.mem_cons, List.not_mem_nil, or_false] at hm2
          unfold tmax
          omega
        have eL : lo + (((usedZ cs).take (i + 1)).map fun k => tmin M (cs.getD k 0) k).sum = lo + (((usedZ cs).take i).map fun k => tmin M (cs.getD k 0) k).sum + m := by
          rw [take_snoc ek, List.map_append, List.sum_append, em]
          show lo + (_ + (tmin M (cs.getD k 0) k + 0)) = _
          omega
        have eG : hi + (((usedZ cs).take (i + 1)).map fun k => tmax M (cs.getD k 0) k).sum = hi + (((usedZ cs).take i).map fun k => tmax M (cs.getD k 0) k).sum + m2 := by
          rw [take_snoc ek, List.map_append, List.sum_append, em2]
          show hi + (_ + (tmax M (cs.getD k 0) k + 0)) = _
          omega
        rw [eL, eG]
        exact ⟨⟨_, _, _, rfl⟩, (sF.trans s3).trans P.1⟩
    · rintro σ F ⟨⟨x8, x9, x10, rfl⟩, sF⟩
      rw [natsU_len, List.take_length]
      refine ⟨_, rfl, _, rfl, (by show 2 ≤ sizeLine; decide), fun t ht => ?_⟩
      exact q t _ _ _ ((s02.trans sF).trans (Same.new ht _)) upd_same (.inl ⟨nd, rfl, rfl⟩)
  · refine ⟨_, rfl, rfl, _, rfl, ifT (by rw [decide_eq_false (fun z => by cases z)]; rfl) ?_⟩
    refine ⟨_, rfl, t, _, rfl, SqT.of ht, rfl, _, _, rfl, _, _, rfl, rfl, ?_⟩
    obtain ⟨h1, h2, h3, h4, hv⟩ := id dij
    have hM1 := hM.same s0
    obtain ⟨vs1, a1, r1, x1, x2, x3, x4⟩ := hM1.get3 sM (i := j) (j := i) (by omega) (by omega)
    obtain ⟨vs2, a2, r2, y1, y2, y3, y4⟩ := hM1.get3 sM (i := i) (j := j) (by omega) (by omega)
    refine ⟨_, rfl, _, rfl, _, rfl, p, _, _, _, rfl, rfl, x1, x2, _, rfl, a1, _, _, _, rfl, rfl, x3, x4, _, _, rfl, rfl, ?_⟩
    refine ⟨_, rfl, _, rfl, _, rfl, p, _, _, _, rfl, rfl, y1, y2, _, rfl, a2, _, _, _, rfl, rfl, y3, y4, _, _, rfl, rfl, (by show 2 ≤ sizeLine; decide), fun t2 ht2 => ?_⟩
    exact q t2 _ _ _ (s0.trans (Same.new ht2 _)) upd_same (.inr ⟨i, j, d, dij, rfl, rfl⟩)
end
/-! ### how great the numbers of a form get -/
def PtB (Ps : List (List Int)) : Prop := ∀ r ∈ Ps, ∀ k, -400000000000 ≤ r.getD k 0 ∧ r.getD k 0 ≤ 400000000000
theorem Bd.mono {a b : Nat} {x : Int} (h : Bd a x) (l : a ≤ b) : Bd b x := Nat.lt_of_lt_of_le h (Nat.pow_le_pow_right (by decide) l)
theorem bd_mul {a b : Nat} {x y : Int} (hx : Bd a x) (hy : Bd b y) : Bd (a + b) (x * y) := by
  unfold Bd
  rw [Int.natAbs_mul, Nat.pow_add]
  exact Nat.mul_lt_mul_of_lt_of_lt hx hy
theorem bd_add {a : Nat} {x y : Int} (hx : Bd a x) (hy : Bd a y) : Bd (a + 1) (x + y) ∧ Bd (a + 1) (x - y) := by
  have e1 := Int.natAbs_add_le x y
  have e2 := Int.natAbs_sub_le x y
  unfold Bd at *
  rw [Nat.pow_succ]
  omega
theorem bd_neg {a : Nat} {x : Int} (hx : Bd a x) : Bd a (-x) := by
  unfold Bd at *
  rw [Int.natAbs_neg]
  exact hx
theorem bd_min {a : Nat} {x y : Int} (hx : Bd a x) (hy : Bd a y) : Bd a (min x y) ∧ Bd a (max x y) := by
  by_cases h : x ≤ y
  · rw [Int.min_eq_left h, Int.max_eq_right h]
    exact ⟨hx, hy⟩
  · rw [Int.min_eq_right (by omega), Int.max_eq_left (by omega)]
    exact ⟨hy, hx⟩
theorem bd_small {x : Int} (h : -1000000000000 ≤ x ∧ x ≤ 1000000000000) : Bd 40 x := by
  unfold Bd
  rw [show (2 : Nat) ^ 40 = 1099511627776 by decide]
  omega
theorem sum_abs {f : Nat → Int} {B : Nat} : ∀ xs : List Nat, (∀ k ∈ xs, (f k).natAbs ≤ B) → ((xs.map f).sum).natAbs ≤ xs.length * B
  | [], _ => by simp
  | x :: xs, h => by
    have h1 := h x List.mem_cons_self
    have h2 := sum_abs xs fun k hk => h k (List.mem_cons_of_mem _ hk)
    rw [List.map_cons, List.sum_cons, List.length_cons, Nat.succ_mul]
    have := Int.natAbs_add_le (f x) ((xs.map f).sum)
    omega
theorem bd_sum {e n : Nat} {v : Int} {f : Nat → Int} {xs : List Nat} (hv : Bd e v) (l : xs.length ≤ n) (hn : n ≤ 60) (h : ∀ k ∈ xs, Bd (e + 40) (f k)) : Bd (e + 47) (v + (xs.map f).sum) := by
  have h1 := sum_abs (B := 2 ^ (e + 40)) xs fun k hk => Nat.le_of_lt (h k hk)
  have h2 := Int.natAbs_add_le v ((xs.map f).sum)
  have h3 : xs.length * 2 ^ (e + 40) ≤ 60 * 2 ^ (e + 40) := Nat.mul_le_mul_right _ (by omega)
  have e1 : (2 : Nat) ^ (e + 47) = 128 * 2 ^ (e + 40) := by
    rw [show e + 47 = (e + 40) + 7 by omega, Nat.pow_add _ (e + 40) 7, Nat.mul_comm]
  have e2 : (2 : Nat) ^ e ≤ 2 ^ (e + 40) := Nat.pow_le_pow_right (by decide) (by omega)
  unfold Bd at *
  rw [e1]
  omega
theorem entB_hull {n : Nat} {Ps : List (List Int)} (ne : Ps ≠ []) (hp : PtB Ps) : EntB (hullM n Ps) := fun i j => by
  have out : ∀ {M : List (List Int)}, Sz (n + 1) M → ¬ (i < n + 1 ∧ j < n + 1) → getM M i j = 0 := fun {M} z h => by
    unfold getM
    by_cases hi : i < n + 1
    · obtain ⟨r, er, lr⟩ := z.at hi
      have e0 : M.getD i [] = r := by rw [List.getD_eq_getElem?_getD, er]; rfl
      rw [e0, List.getD_eq_getElem?_getD, List.getElem?_eq_none (by omega)]
      rfl
    · have e0 : M.getD i [] = [] := by
        rw [List.getD_eq_getElem?_getD, List.getElem?_eq_none (by rw [z.1]; omega)]
        rfl
      rw [e0]
      rfl
  by_cases h : i < n + 1 ∧ j < n + 1
  · obtain ⟨r, hr, e⟩ := hull_at (n := n) ne h.1 h.2
    have b : ∀ a, -400000000000 ≤ (0 :: r).getD a 0 ∧ (0 :: r).getD a 0 ≤ 400000000000 := fun a => by
      cases a with
      | zero =>
        show -400000000000 ≤ (0 : Int) ∧ (0 : Int) ≤ 400000000000
        decide
      | succ k => exact hp r hr k
    have b1 := b i
    have b2 := b j
    rw [← e]
    unfold dif
    omega
  · rw [out (hullM_sz n Ps) h]
    decide
theorem mkR_getD {n k : Nat} {f : Nat → Int} (hk : k < n) : (mkR n f).getD k 0 = f k := by
  rw [List.getD_eq_getElem?_getD, mkR_at hk]
  rfl
theorem bd_val {e n : Nat} {F : Fm} {p : List Int} {v : Int} (fb : FmB e n F) (hv : Bd e v) (hn : n ≤ 60) (hp : ∀ k, -400000000000 ≤ p.getD k 0 ∧ p.getD k 0 ≤ 400000000000) : Bd (e + 47) (v + val (mkR n F.c) p) := by
  unfold val
  refine bd_sum (n := n) hv (by rw [List.length_range, mkR_len]; exact Nat.le_refl _) hn fun k hk => ?_
  rw [List.mem_range, mkR_len] at hk
  rw [mkR_getD hk]
  have := hp k
  exact bd_mul (fb.c k hk) (bd_small (by omega))
theorem low_bd {e n : Nat} {F : Fm} {Ps : List (List Int)} (ne : Ps ≠ []) (hp : PtB Ps) (hn : n ≤ 60) (fb : FmB e n F) : Bd (e + 47) (F.low n Ps) ∧ Bd (e + 47) (F.high n Ps) := by
  have eb := entB_hull (n := n) ne hp
  have ln : (mkR n F.c).length = n := mkR_len
  obtain ⟨r, hr⟩ := List.exists_mem_of_ne_nil _ ne
  have tb : ∀ k ∈ usedZ (mkR n F.c), Bd (e + 40) (tmin (hullM (mkR n F.c).length Ps) ((mkR n F.c).getD k 0) k) ∧ Bd (e + 40) (tmax (hullM (mkR n F.c).length Ps) ((mkR n F.c).getD k 0) k) := fun k hk => by
    have hk1 := (mem_usedZ.mp hk).1
    rw [ln] at hk1
    rw [ln, mkR_getD hk1]
    unfold tmin tmax
    exact bd_min (bd_mul (fb.c k hk1) (bd_neg (bd_small (eb 0 (k + 1))))) (bd_mul (fb.c k hk1) (bd_small (eb (k + 1) 0)))
  have lz := usedZ_len (cs := mkR n F.c)
  unfold Fm.low Fm.high lowF highF
  constructor
  · split
    · obtain ⟨s, hs, es⟩ := (minV_le (cs := mkR n F.c) hr).2
      rw [es]
      exact bd_val fb fb.l hn (hp s hs)
    · unfold spanLo
      exact bd_sum (n := n) fb.l (by omega) hn fun k hk => (tb k hk).1
  · split
    · obtain ⟨s, hs, es⟩ := (maxV_ge (cs := mkR n F.c) hr).2
      rw [es]
      exact bd_val fb fb.h hn (hp s hs)
    · unfold spanHi
      exact bd_sum (n := n) fb.h (by omega) hn fun k hk => (tb k hk).2
def Eb : Nat → Nat
  | 0 => 0
  | m + 1 => 2 * Eb m + 100
def Ef.ok (S : List Str) : Nat → Ef → Prop
  | 0, _ => False
  | _ + 1, .num i => -1000000000000 ≤ i ∧ i ≤ 1000000000000
  | _ + 1, .var z => z ∈ S
  | m + 1, .bin _ a b => a.ok S m ∧ b.ok S m
def Kok (S N : List Str) (κ : Str → Int) : Prop := ∀ z ∈ S, z ∉ N → -1000000000000 ≤ κ z ∧ κ z ≤ 1000000000000
theorem FmB.mono {a b n : Nat} {F : Fm} (h : FmB a n F) (l : a ≤ b) : FmB b n F := ⟨fun k hk => (h.c k hk).mono l, h.l.mono l, h.h.mono l⟩
theorem times_bd {a b n : Nat} {F : Fm} {v : Int} (h : FmB a n F) (hv : Bd b v) : FmB (b + a) n (F.times v) :=
  ⟨fun k hk => bd_mul hv (h.c k hk), (bd_min (bd_mul hv h.l) (bd_mul hv h.h)).1, (bd_min (bd_mul hv h.l) (bd_mul hv h.h)).2⟩
theorem add_bd {a n : Nat} {F G : Fm} (h : FmB a n F) (k : FmB a n G) : FmB (a + 1) n (F.add G) := ⟨fun i hi => (bd_add (h.c i hi) (k.c i hi)).1, (bd_add h.l k.l).1, (bd_add h.h k.h).1⟩
theorem fm_bd {S N : List Str} {κ : Str → Int} {n : Nat} {Ps : List (List Int)} (ne : Ps ≠ []) (hp : PtB Ps) (hn : n ≤ 60) (hκ : Kok S N κ) : ∀ {m : Nat} {e : Ef}, e.ok S m → FmB (Eb m) n (fm N κ n Ps e)
  | 0, _, h => h.elim
  | m + 1, .num i, h => ⟨fun k _ => (show Bd 1 0 by show (0 : Nat) < 2; decide).mono (by unfold Eb; omega), (bd_small h).mono (by unfold Eb; omega), (bd_small h).mono (by unfold Eb; omega)⟩
  | m + 1, .var z, h => by
    unfold fm
    split
    · refine ⟨fun k _ => ?_, (show Bd 1 0 by show (0 : Nat) < 2; decide).mono (by unfold Eb; omega), (show Bd 1 0 by show (0 : Nat) < 2; decide).mono (by unfold Eb; omega)⟩
      show Bd _ (if k = _ then 1 else 0)
      split
      · exact (show Bd 1 1 by show (1 : Nat) < 2; decide).mono (by unfold Eb; omega)
      · exact (show Bd 1 0 by show (0 : Nat) < 2; decide).mono (by unfold Eb; omega)
    · rename_i hz
      have hk := hκ z h hz
      exact ⟨fun k _ => (show Bd 1 0 by show (0 : Nat) < 2; decide).mono (by unfold Eb; omega), (bd_small hk).mono (by unfold Eb; omega), (bd_small hk).mono (by unfold Eb; omega)⟩
  | m + 1, .bin o a b, h => by
    have ha := fm_bd ne hp hn hκ h.1
    have hb := fm_bd ne hp hn hκ h.2
    cases o with
    | add => exact (add_bd ha hb).mono (by show Eb m + 1 ≤ 2 * Eb m + 100; omega)
    | sub => exact (add_bd (ha.mono (Nat.le_succ _)) (((times_bd (b := 1) hb (by show (1 : Nat) < 2; decide)).mono (by omega)))).mono (by show Eb m + 1 + 1 ≤ 2 * Eb m + 100; omega)
    | mul =>
      have l1 := low_bd ne hp hn ha
      have l2 := low_bd ne hp hn hb
      unfold fm
      split
      · exact (times_bd hb ha.l).mono (by show Eb m + Eb m ≤ 2 * Eb m + 100; omega)
      · split
        · exact (times_bd ha hb.l).mono (by show Eb m + Eb m ≤ 2 * Eb m + 100; omega)
        · have q1 := bd_mul l1.1 l2.1
          have q2 := bd_mul l1.1 l2.2
          have q3 := bd_mul l1.2 l2.1
          have q4 := bd_mul l1.2 l2.2
          refine FmB.mono (a := Eb m + 47 + (Eb m + 47)) ⟨fun k _ => (show Bd 1 0 by show (0 : Nat) < 2; decide).mono (by omega), ?_, ?_⟩ (by show Eb m + 47 + (Eb m + 47) ≤ 2 * Eb m + 100; omega)
          · exact (bd_min (bd_min q1 q2).1 (bd_min q3 q4).1).1
          · exact (bd_min (bd_min q1 q2).2 (bd_min q3 q4).2).2
theorem Eb_le : ∀ {m : Nat}, m ≤ 8 → Eb m ≤ 26000
  | m, h => by
    have : ∀ m ≤ 8, Eb m ≤ 26000 := by decide
    exact this m h
/-! ### cuts, for wide coefficients (as in Forms2.inc) -/
def Cw (e : Nat) (cs : List Int) : Prop := ∀ k, k < cs.length → Bd e (cs.getD k 0)
theorem am_sub {n : Nat} {cs : List Int} {lo most : Int} {Ps : List (List Int)} : ∀ r ∈ amL n cs lo most Ps, r ∈ Ps := fun r hr => by
  unfold amL KeepLe at hr
  split at hr
  · exact (List.mem_filter.mp hr).1
  · split at hr
    · simp at hr
    · exact hr
theorem PtB.sub {Ps Qs : List (List Int)} (h : PtB Ps) (s : ∀ r ∈ Qs, r ∈ Ps) : PtB Qs := fun r hr => h r (s r hr)
theorem neg_cw {e : Nat} {cs : List Int} (h : Cw e cs) : Cw e (cs.map fun c => -c) := fun k hk => by
  rw [List.length_map] at hk
  rw [neg_getD]
  exact bd_neg (h k hk)
theorem mkR_cs {cs : List Int} : mkR cs.length (fun k => cs.getD k 0) = cs := by
  refine List.ext_getElem? fun k => ?_
  by_cases hk : k < cs.length
  · rw [mkR_at hk, List.getD_eq_getElem?_getD, List.getElem?_eq_getElem hk]
    rfl
  · rw [List.getElem?_eq_none (by rw [mkR_len]; omega), List.getElem?_eq_none (by omega)]
def spAtM (K : PySem.W.Frag) : Sp := fun vs H Q _ => ∃ (v : V) (f : Addr) (cs : List Int) (lo hi most : Int) (Ps : List (List Int)) (e : Nat), vs = [v, .ref f, .int most] ∧ FormAt K H f cs lo hi ∧ Cw e cs ∧ e ≤ 8000 ∧ PtB Ps ∧ cs.length ≤ 60 ∧ BoxAt K H v (hull cs.length Ps) ∧ Full cs.length Ps ∧
  ∀ v' H', Same H H' → BoxAt K H' v' (hull cs.length (amL cs.length cs lo most Ps)) → Q v' H'
noncomputable def alL (n : Nat) (cs : List Int) (hi least : Int) (Ps : List (List Int)) : List (List Int) := amL n (cs.map fun c => -c) (-hi) (-least) Ps
def spAtL (K : PySem.W.Frag) : Sp := fun vs H Q _ => ∃ (v : V) (f : Addr) (cs : List Int) (lo hi least : Int) (Ps : List (List Int)) (e : Nat), vs = [v, .ref f, .int least] ∧ FormAt K H f cs lo hi ∧ lo ≤ hi ∧ Cw e cs ∧ Bd e lo ∧ Bd e hi ∧ e ≤ 8000 ∧ PtB Ps ∧ cs.length ≤ 60 ∧ BoxAt K H v (hull cs.length Ps) ∧ Full cs.length Ps ∧
  ∀ v' H', Same H H' → BoxAt K H' v' (hull cs.length (alL cs.length cs hi least Ps)) → Q v' H'
def spEqTo (K : PySem.W.Frag) : Sp := fun vs H Q _ => ∃ (v : V) (f : Addr) (cs : List Int) (lo hi x : Int) (Ps : List (List Int)) (e : Nat), vs = [v, .ref f, .int x] ∧ FormAt K H f cs lo hi ∧ lo ≤ hi ∧ Cw e cs ∧ Bd e lo ∧ Bd e hi ∧ e ≤ 8000 ∧ PtB Ps ∧ cs.length ≤ 60 ∧ BoxAt K H v (hull cs.length Ps) ∧ Full cs.length Ps ∧
  ∀ v' H', Same H H' → BoxAt K H' v' (hull cs.length (alL cs.length cs hi x (amL cs.length cs lo x Ps))) → Q v' H'
section
variable {P : Program} {w : World} {K : PySem.W.Frag} {mg : Str → Option Value} {base : Heap}
theorem ok_at_most (T : Txt w K mg) : FnOk P w K mg base CX0 4 T.a_at_most T.d_at_most p_at_most (spAtM K) := by
  have g_used_columns := ok_used_columns (P := P) (w := w) (K := K) (base := base) T
  have g_difference_columns := ok_difference_columns (P := P) (w := w) (K := K) (base := base) T
  have g_range_of_form := ok_range_of_form (P := P) (w := w) (K := K) (base := base) T
  have g_bound := ok_bound (P := P) (w := w) (K := K) (base := base) T
  refine T.F_at_most.ok sc_at_most (fun vs H Q E h => ?_) (fun cdv A outer s H vs Q E hr h => ?_)
  · obtain ⟨v, f, cs, lo, hi, most, Ps, e, rfl, _⟩ := h
    rfl
  obtain ⟨v, f, cs, lo, hi, most, Ps, e, rfl, hF, cf, he, pB, lc, hB, fu, q⟩ := h
  refine ⟨_, (pss_cons (ps_if (pt_cmpR op_isN (pv 0) pe_non (nomark _)) (pss_one (ps_ret pe_non)) pss_nil)
      (pss_cons (ps_asg (pv 1) (pg_tup rfl (pgs_cons (pg_name (i := 3) sc_at_most.nd rfl (Or.inl rfl)) (pgs_cons (pg_name (i := 4) sc_at_most.nd rfl (Or.inl rfl)) (pgs_cons (pg_name (i := 5) sc_at_most.nd rfl (Or.inl rfl)) pgs_nil)))))
      (pss_cons (ps_set (i := 6) sc_at_most.nd rfl (Or.inl rfl) (pe_call g_used_columns (hr.mono (by first | decide | omega)) rfl T.m_used_columns T.F_used_columns.kp T.b_used_columns .nil pass0 (pa_cons (pv 1) pa_nil)))
      (pss_cons (ps_if (pt_cmpR op_eq (pe_callB call_len_seq rfl T.z_len PySem.boot_len (pa_cons (pv 6) pa_nil)) pe_int (nomark _)) (pss_cons (ps_set (i := 7) sc_at_most.nd rfl (Or.inl rfl) (pe_ix ix_list (pv 6) pe_int (fun _ _ => rfl)))
      (pss_cons (ps_set (i := 8) sc_at_most.nd rfl (Or.inl rfl) (pe_ix ix_tup (pv 3) (pe_op op_sub (pv 7) pe_int) (fun _ _ => rfl)))
      (pss_cons (ps_set (i := 9) sc_at_most.nd rfl (Or.inl rfl) (pe_op op_fdivW (pe_op op_sub (pv 2) (pv 4)) (pe_callB call_abs rfl T.z_abs bb_abs (pa_cons (pv 8) pa_nil))))
      (pss_one (ps_ret (pe_ifExp (pt_cmpR op_gt (pv 8) pe_int (nomark _)) (pe_call g_bound (hr.mono (by first | decide | omega)) rfl T.m_bound T.F_bound.kp T.b_bound .nil pass0 (pa_cons (pv 0) (pa_cons (pv 7) (pa_cons pe_int (pa_cons (pv 9) pa_nil))))) (pe_call g_bound (hr.mono (by first | decide | omega)) rfl T.m_bound T.F_bound.kp T.b_bound .nil pass0 (pa_cons (pv 0) (pa_cons pe_int (pa_cons (pv 7) (pa_cons (pv 9) pa_nil))))))))))) pss_nil)
      (pss_cons (ps_set (i := 10) sc_at_most.nd rfl (Or.inl rfl) (pe_call g_difference_columns (hr.mono (by first | decide | omega)) rfl T.m_difference_columns T.F_difference_columns.kp T.b_difference_columns .nil pass0 (pa_cons (pv 1) pa_nil)))
      (pss_cons (ps_if (pt_cmpR op_notN (pv 10) pe_non (nomark _)) (pss_one (ps_ret (pe_call g_bound (hr.mono (by first | decide | omega)) rfl T.m_bound T.F_bound.kp T.b_bound .nil pass0 (pa_cons (pv 0) (pa_cons (pe_ix ix_tup (pv 10) pe_int (fun _ _ => rfl)) (pa_cons (pe_ix ix_tup (pv 10) pe_int (fun _ _ => rfl)) (pa_cons (pe_op op_sub (pv 2) (pv 4)) pa_nil))))))) pss_nil)
      (pss_one (ps_ret (pe_ifExp (pt_cmpR op_gt (pe_ix ix_tup (pe_call g_range_of_form (hr.mono (by first | decide | omega)) rfl T.m_range_of_form T.F_range_of_form.kp T.b_range_of_form .nil pass0 (pa_cons (pv 1) (pa_cons (pv 0) pa_nil))) pe_int (fun _ _ => rfl)) (pv 2) (nomark _)) pe_non (pv 0)))))))))), ?_⟩
  obtain ⟨c, hf, hc⟩ := id hF
  by_cases ne : Ps = []
  · subst ne
    obtain rfl : v = .non := hB
    refine ⟨_, rfl, rfl, _, rfl, ifT (by decide) ?_⟩
    refine q .non H (Same.refl _) ?_
    have e : amL cs.length cs lo most [] = [] := by
      unfold amL KeepLe
      split
      · rfl
      · split <;> rfl
    rw [e]
    rfl
  have hB0 := hB
  rw [hull_some ne] at hB
  obtain ⟨p, rfl, hM⟩ := hB
  refine ⟨_, rfl, rfl, _, rfl, ifF (by rw [decide_eq_false (fun z => by cases z)]) ?_⟩
  refine ⟨_, rfl, f, _, rfl, hf, rfl, _, _, rfl, _, _, rfl, _, _, rfl, rfl, ?_⟩
  refine ⟨_, rfl, f, cs, lo, hi, rfl, hF, by omega, fun u H2 s2 hu => ?_⟩
  refine ⟨_, rfl, u, _, rfl, .inl (SqL.of hu), rfl, _, rfl, ite2 (fun h => ?_) (fun h => ?_)⟩
  · have l1 : (usedZ cs).length = 1 := by
      have := V.int.inj (of_decide_eq_true h)
      rw [natsU_len] at this
      omega
    obtain ⟨k, eU⟩ : ∃ k, usedZ cs = [k] := by
      match hu : usedZ cs, l1 with
      | [k], _ => exact ⟨k, rfl⟩
    have mk := mem_usedZ.mp (show k ∈ usedZ cs by rw [eU]; simp)
    have eN : natsV (usedN cs) = [.int ((k + 1 : Nat) : Int)] := by
      unfold natsV usedN
      rw [eU]
      rfl
    rw [eN] at hu
    have sim : Simple cs := .inl (by rw [eU]; exact Nat.le_refl 1)
    have eA : amL cs.length cs lo most Ps = KeepLe cs lo most Ps := if_pos sim
    rw [eA] at q
    have ck := cf _ mk.1
    refine ⟨_, rfl, u, _, _, _, rfl, rfl, SqL.of hu, rfl, ?_⟩
    refine ⟨_, rfl, _, rfl, _, _, rfl, rfl, c, _, _, _, rfl, rfl, Same.tup s2 hc, coef_at mk.1, ?_⟩
    refine ⟨_, rfl, _, rfl, _, _, rfl, rfl, _, rfl, _, rfl, _, _, rfl, rfl, ?_, ?_⟩
    · refine ⟨by have := mk.2; split <;> omega, ?_⟩
      have ea : (if cs.getD k 0 < 0 then -(cs.getD k 0) else cs.getD k 0).natAbs = (cs.getD k 0).natAbs := by split <;> omega
      rw [ea]
      have hz : (cs.getD k 0).natAbs ≠ 0 := by have := mk.2; omega
      have := (Nat.log2_lt hz).mpr ck
      omega
    refine ⟨_, rfl, _, _, rfl, rfl, _, rfl, ite2 (fun hp => ?_) (fun hp => ?_)⟩
    · have pos : 0 < cs.getD k 0 := of_decide_eq_true hp
      refine ⟨_, rfl, _, rfl, _, rfl, .ref p, hull cs.length Ps, cs.length + 1, k + 1, 0, _, rfl, hB0.same s2, hull_sz _ _, (fun M e => by rw [hull_some ne] at e; cases e; exact hull_clo ne), by omega, by omega, by omega, fun v H3 s3 b3 => ?_⟩
      rw [if_neg (by omega), ← Int.fdiv_eq_ediv_of_nonneg _ (by omega : 0 ≤ cs.getD k 0), (keep_pos fu rfl eU pos).1] at b3
      exact q v H3 (s2.trans s3) b3
    · have neg : cs.getD k 0 < 0 := by
        have : ¬ (0 < cs.getD k 0) := fun z => hp (decide_eq_true z)
        have := mk.2
        omega
      refine ⟨_, rfl, _, rfl, _, rfl, .ref p, hull cs.length Ps, cs.length + 1, 0, k + 1, _, rfl, hB0.same s2, hull_sz _ _, (fun M e => by rw [hull_some ne] at e; cases e; exact hull_clo ne), by omega, by omega, by omega, fun v H3 s3 b3 => ?_⟩
      rw [if_pos neg, ← Int.fdiv_eq_ediv_of_nonneg _ (by omega : 0 ≤ -cs.getD k 0), (keep_neg fu rfl eU neg).1] at b3
      exact q v H3 (s2.trans s3) b3
  · have l1 : (usedZ cs).length ≠ 1 := fun z => h (by rw [natsU_len, z]; rfl)
    refine ⟨_, rfl, f, cs, lo, hi, rfl, hF.same s2, by omega, fun G s0 nd => ?_, fun t G i j s0 d dij ht => ?_⟩
    · have sG := s2.trans s0
      refine ⟨_, rfl, rfl, _, rfl, ifF (by decide) ?_⟩
      refine ⟨_, rfl, _, rfl, f, p, hullM cs.length Ps, cs, lo, hi, rfl, hF.same sG, entB_hull ne pB, lc, hM.same sG, hullM_sz _ _, fun t G2 L U s4 ht r => ?_⟩
      obtain ⟨_, rfl, rfl⟩ : ¬ IsD cs ∧ L = spanLo (hullM cs.length Ps) cs lo ∧ U = spanHi (hullM cs.length Ps) cs hi := by
        rcases r with r | ⟨i, j, d, _⟩
        · exact r
        · exact absurd d nd
      have sG4 := sG.trans s4
      refine ⟨t, _, _, _, rfl, rfl, SqT.of ht, rfl, _, rfl, _, _, rfl, rfl, _, rfl, ite2 (fun hp => ?_) (fun hp => ?_)⟩
      · have gt : spanLo (hullM cs.length Ps) cs lo > most := of_decide_eq_true hp
        refine q .non G2 sG4 ?_
        have e : amL cs.length cs lo most Ps = [] := by
          unfold amL
          by_cases sim : Simple cs
          · rw [if_pos sim]
            have e0 : usedZ cs = [] := by
              rcases sim with g | g
              · exact List.length_eq_zero_iff.mp (by omega)
              · exact absurd g nd
            rw [(keep_none fu e0).1]
            unfold spanLo at gt
            rw [e0] at gt
            exact if_pos (by simpa using gt)
          · rw [if_neg sim, if_pos gt]
        rw [e]
        rfl
      · have le : ¬ spanLo (hullM cs.length Ps) cs lo > most := fun z => hp (decide_eq_true z)
        refine ⟨_, rfl, q (.ref p) G2 sG4 ?_⟩
        have e : amL cs.length cs lo most Ps = Ps := by
          unfold amL
          by_cases sim : Simple cs
          · rw [if_pos sim]
            have e0 : usedZ cs = [] := by
              rcases sim with g | g
              · exact List.length_eq_zero_iff.mp (by omega)
              · exact absurd g nd
            rw [(keep_none fu e0).1]
            unfold spanLo at le
            rw [e0] at le
            exact if_neg (by simpa using le)
          · rw [if_neg sim, if_neg le]
        rw [e]
        exact hB0.same sG4
    · have sG := s2.trans s0
      obtain ⟨h1, h2, h3, h4, hv⟩ := id dij
      refine ⟨_, rfl, rfl, _, rfl, ifT (by rw [decide_eq_false (fun z => by cases z)]; rfl) ?_⟩
      refine ⟨_, rfl, _, rfl, t, _, _, _, rfl, rfl, SqT.of ht, rfl, _, rfl, t, _, _, _, rfl, rfl, SqT.of ht, rfl, _, rfl, _, rfl, _, _, rfl, rfl, ?_⟩
      refine ⟨.ref p, hull cs.length Ps, cs.length + 1, i, j, _, rfl, hB0.same sG, hull_sz _ _, (fun M e => by rw [hull_some ne] at e; cases e; exact hull_clo ne), by omega, by omega, by omega, fun v H3 s3 b3 => ?_⟩
      have eA : amL cs.length cs lo most Ps = KeepLe cs lo most Ps := if_pos (.inr d)
      rw [eA] at q
      have b3' : BoxAt K H3 v (bndB (cs.length + 1) i j (most - lo) (hull cs.length Ps)) := b3
      rw [(keep_diff fu rfl dij).1] at b3'
      exact q v H3 (sG.trans s3) b3'
theorem ok_at_least (T : Txt w K mg) : FnOk P w K mg base CX0 5 T.a_at_least T.d_at_least p_at_least (spAtL K) := by
  have g_form_times := ok_form_times (P := P) (w := w) (K := K) (base := base) T
  have g_at_most := ok_at_most (P := P) (w := w) (K := K) (base := base) T
  refine T.F_at_least.ok sc_at_least (fun vs H Q E h => ?_) (fun cdv A outer s H vs Q E hr h => ?_)
  · obtain ⟨v, f, cs, lo, hi, least, Ps, e, rfl, _⟩ := h
    rfl
  obtain ⟨v, f, cs, lo, hi, least, Ps, e, rfl, hF, le, cf, bl, bh, he, pB, lc, hB, fu, q⟩ := h
  refine ⟨_, (pss_one (ps_ret (pe_call g_at_most (hr.mono (by first | decide | omega)) rfl T.m_at_most T.F_at_most.kp T.b_at_most .nil pass0 (pa_cons (pv 0) (pa_cons (pe_call g_form_times (hr.mono (by first | decide | omega)) rfl T.m_form_times T.F_form_times.kp T.b_form_times .nil pass0 (pa_cons (pv 1) (pa_cons (pe_un un_neg pe_int) pa_nil))) (pa_cons (pe_un un_neg (pv 2)) pa_nil)))))), ?_⟩
  have ln : (cs.map fun c => -c).length = cs.length := by simp
  refine ⟨_, rfl, _, rfl, _, rfl, f, -1, ⟨fun k => cs.getD k 0, lo, hi⟩, cs.length, e, 1, rfl, lc, (by show FormAt K _ f (mkR cs.length fun k => cs.getD k 0) lo hi; rw [mkR_cs]; exact hF), ⟨cf, bl, bh⟩, by show (1 : Nat) < 2; decide, by omega, by decide, fun g H2 s2 hg => ?_⟩
  have hg : FormAt K H2 g (cs.map fun c => -c) (-hi) (-lo) := by
    have e1 : mkR cs.length (fun k => -1 * cs.getD k 0) = cs.map fun c => -c := by
      refine (mkR_cs (cs := cs.map fun c => -c)).symm.trans ?_ |>.symm
      rw [ln]
      unfold mkR
      refine List.map_congr_left fun k _ => ?_
      rw [neg_getD]
      omega
    have e2 : min (-1 * lo) (-1 * hi) = -hi := by omega
    have e3 : max (-1 * lo) (-1 * hi) = -lo := by omega
    have hg : FormAt K H2 g (mkR cs.length fun k => -1 * cs.getD k 0) (min (-1 * lo) (-1 * hi)) (max (-1 * lo) (-1 * hi)) := hg
    rw [e1, e2, e3] at hg
    exact hg
  refine ⟨_, rfl, _, rfl, ?_⟩
  refine ⟨v, g, cs.map fun c => -c, -hi, -lo, -least, Ps, e, rfl, hg, neg_cw cf, he, pB, by rw [ln]; exact lc, (by rw [ln]; exact hB.same s2), (by rw [ln]; exact fu), fun v' H3 s3 b3 => ?_⟩
  rw [ln] at b3
  exact q v' H3 (s2.trans s3) b3
theorem ok_equal_to (T : Txt w K mg) : FnOk P w K mg base CX0 6 T.a_equal_to T.d_equal_to p_equal_to (spEqTo K) := by
  have g_at_most := ok_at_most (P := P) (w := w) (K := K) (base := base) T
  have g_at_least := ok_at_least (P := P) (w := w) (K := K) (base := base) T
  refine T.F_equal_to.ok sc_equal_to (fun vs H Q E h => ?_) (fun cdv A outer s H vs Q E hr h => ?_)
  · obtain ⟨v, f, cs, lo, hi, least, Ps, e, rfl, _⟩ := h
    rfl
  obtain ⟨v, f, cs, lo, hi, x, Ps, e, rfl, hF, le, cf, bl, bh, he, pB, lc, hB, fu, q⟩ := h
  refine ⟨_, (pss_one (ps_ret (pe_call g_at_least (hr.mono (by first | decide | omega)) rfl T.m_at_least T.F_at_least.kp T.b_at_least .nil pass0 (pa_cons (pe_call g_at_most (hr.mono (by first | decide | omega)) rfl T.m_at_most T.F_at_most.kp T.b_at_most .nil pass0 (pa_cons (pv 0) (pa_cons (pv 1) (pa_cons (pv 2) pa_nil)))) (pa_cons (pv 1) (pa_cons (pv 2) pa_nil)))))), ?_⟩
  refine ⟨_, rfl, _, rfl, _, rfl, v, f, cs, lo, hi, x, Ps, e, rfl, hF, cf, he, pB, lc, hB, fu, fun v1 H2 s2 b2 => ?_⟩
  refine ⟨_, rfl, _, rfl, v1, f, cs, lo, hi, x, _, e, rfl, hF.same s2, le, cf, bl, bh, he, pB.sub am_sub, lc, b2, am_full fu rfl, fun v' H3 s3 b3 => ?_⟩
  exact q v' H3 (s2.trans s3) b3
end
theorem cut_lo {xs : List V} {r : Int} (h0 : 0 ≤ r) (h : r.toNat ≤ xs.length) : cutV xs (some r) none = xs.drop r.toNat := by
  have e : HT.sIx xs.length 0 (some r) = r.toNat := by
    show (if r < 0 then (r + (xs.length : Int)).toNat else min r.toNat xs.length) = r.toNat
    rw [if_neg (by omega), Nat.min_eq_left h]
  unfold cutV
  rw [e]
  show (xs.drop r.toNat).take (xs.length - r.toNat) = _
  exact List.take_of_length_le (by rw [List.length_drop]; omega)
theorem cut_hi {xs : List V} {r : Int} (h0 : 0 ≤ r) (h : r.toNat ≤ xs.length) : cutV xs none (some r) = xs.take r.toNat := by
  have e : HT.sIx xs.length xs.length (some r) = r.toNat := by
    show (if r < 0 then (r + (xs.length : Int)).toNat else min r.toNat xs.length) = r.toNat
    rw [if_neg (by omega), Nat.min_eq_left h]
  unfold cutV
  rw [e]
  show (xs.drop 0).take (r.toNat - 0) = _
  rw [List.drop_zero, Nat.sub_zero]
/-! ### comprehensions with two sources -/
/-- the inner source's loop -/
theorem lc2_in {J1 : It} {n1 : Nat} {G1 : Hp → Prop} {Y1 : Nat → Hp → V → Hp → Prop} (w : Walk J1 n1 G1 Y1) {g1 : TG} {tt1 : TT} {te : TE} {vs1 : List Nat} {σ2 : L2.St} {H4 : Hp} {D : Addr} {Nx : Hp → Prop} (Pw : Nat → Hp → Prop) (h0 : Pw 0 H4) (hG : ∀ j H, j ≤ n1 → Pw j H → G1 H)
    (hs : ∀ j x H H', j < n1 → Pw j H → Y1 j H x H' → g1 x (wipe σ2 vs1) H' fun σ3 H5 => wipe σ3 vs1 = wipe σ2 vs1 ∧ tt1 σ3 H5 fun b H6 =>
      if b = true then te σ3 H6 fun y H7 => ∃ acc, H7 D = some (.lst acc) ∧ acc.length < sizeLine ∧ Pw (j + 1) (upd H7 D (.lst (acc ++ [y]))) else Pw (j + 1) H6) (hd : ∀ H, Pw n1 H → Nx H) :
    ∃ W1 : Nat → Nat → Hp → Prop, (∃ m, W1 0 m H4) ∧ ∀ j k H, W1 j k H →
      (J1.stop j H ∧ Nx H) ∨ (J1.go j H ∧ ∃ Nx1 : Hp → Prop, (∀ H', Nx1 H' → ∃ k', k' < k ∧ W1 (j + 1) k' H') ∧ ∀ x H', J1.yld j H x H' → g1 x (wipe σ2 vs1) H' fun σ3 H5 => wipe σ3 vs1 = wipe σ2 vs1 ∧ tt1 σ3 H5 fun b H6 =>
        if b = true then te σ3 H6 fun y H7 => ∃ acc, H7 D = some (.lst acc) ∧ acc.length < sizeLine ∧ Nx1 (upd H7 D (.lst (acc ++ [y]))) else Nx1 H6) := by
  refine ⟨fun j k H => k = n1 - j ∧ j ≤ n1 ∧ Pw j H, ⟨n1, by simp, Nat.zero_le _, h0⟩, ?_⟩
  rintro j k H ⟨rfl, hj, p⟩
  have q := hG j H hj p
  by_cases hlt : j < n1
  · exact .inr ⟨w.goes j H hlt q, Pw (j + 1), fun H' p' => ⟨n1 - (j + 1), by omega, rfl, hlt, p'⟩, fun x H' y => hs j x H H' hlt p (w.yields j H x H' hlt q y)⟩
  · have e : j = n1 := by omega
    subst e
    exact .inl ⟨w.stops H q, hd H p⟩
/-- the outer source's loop -/
theorem lc2_out {J : It} {n : Nat} {G : Hp → Prop} {Y : Nat → Hp → V → Hp → Prop} (w : Walk J n G Y) {g g1 : TG} {tt tt1 : TT} {wi1 : TI} {te : TE} {vs vs1 : List Nat} {σ : L2.St} {H1 : Hp} {D : Addr} {Qd : Hp → Prop} (Pv : Nat → Hp → Prop) (h0 : Pv 0 (upd H1 D (.lst []))) (hG : ∀ i H, i ≤ n → Pv i H → G H)
    (hs : ∀ i x H H', i < n → Pv i H → Y i H x H' → g x (wipe σ vs) H' fun σ2 H2 => wipe σ2 vs = wipe σ vs ∧ tt σ2 H2 fun b H3 =>
      if b = true then wi1 σ2 H3 fun J1 H4 => ∃ W1 : Nat → Nat → Hp → Prop, (∃ m, W1 0 m H4) ∧ ∀ j k H, W1 j k H →
        (J1.stop j H ∧ Pv (i + 1) H) ∨ (J1.go j H ∧ ∃ Nx1 : Hp → Prop, (∀ H', Nx1 H' → ∃ k', k' < k ∧ W1 (j + 1) k' H') ∧ ∀ x H', J1.yld j H x H' → g1 x (wipe σ2 vs1) H' fun σ3 H5 => wipe σ3 vs1 = wipe σ2 vs1 ∧ tt1 σ3 H5 fun b H6 =>
          if b = true then te σ3 H6 fun y H7 => ∃ acc, H7 D = some (.lst acc) ∧ acc.length < sizeLine ∧ Nx1 (upd H7 D (.lst (acc ++ [y]))) else Nx1 H6)
      else Pv (i + 1) H3) (hd : ∀ H, Pv n H → Qd H) :
    ∃ W : Nat → Nat → Hp → Prop, (∃ m, W 0 m (upd H1 D (.lst []))) ∧ ∀ i m H, W i m H →
      (J.stop i H ∧ Qd H) ∨ (J.go i H ∧ ∃ Nx : Hp → Prop, (∀ H', Nx H' → ∃ m', m' < m ∧ W (i + 1) m' H') ∧ ∀ x H', J.yld i H x H' → g x (wipe σ vs) H' fun σ2 H2 => wipe σ2 vs = wipe σ vs ∧ tt σ2 H2 fun b H3 =>
        if b = true then wi1 σ2 H3 fun J1 H4 => ∃ W1 : Nat → Nat → Hp → Prop, (∃ m, W1 0 m H4) ∧ ∀ j k H, W1 j k H →
          (J1.stop j H ∧ Nx H) ∨ (J1.go j H ∧ ∃ Nx1 : Hp → Prop, (∀ H', Nx1 H' → ∃ k', k' < k ∧ W1 (j + 1) k' H') ∧ ∀ x H', J1.yld j H x H' → g1 x (wipe σ2 vs1) H' fun σ3 H5 => wipe σ3 vs1 = wipe σ2 vs1 ∧ tt1 σ3 H5 fun b H6 =>
            if b = true then te σ3 H6 fun y H7 => ∃ acc, H7 D = some (.lst acc) ∧ acc.length < sizeLine ∧ Nx1 (upd H7 D (.lst (acc ++ [y]))) else Nx1 H6)
        else Nx H3) := by
  refine ⟨fun i m H => m = n - i ∧ i ≤ n ∧ Pv i H, ⟨n, by simp, Nat.zero_le _, h0⟩, ?_⟩
  rintro i m H ⟨rfl, hi, p⟩
  have q := hG i H hi p
  by_cases hlt : i < n
  · exact .inr ⟨w.goes i H hlt q, Pv (i + 1), fun H' p' => ⟨n - (i + 1), by omega, rfl, hlt, p'⟩, fun x H' y => hs i x H H' hlt p (w.yields i H x H' hlt q y)⟩
  · have e : i = n := by omega
    subst e
    exact .inl ⟨w.stops H q, hd H p⟩
/-- a list of truth values at D: k of them, and all hold if and only if A -/
def AllP (H1 : Hp) (D : Addr) (k : Nat) (A : Prop) (H : Hp) : Prop := Same H1 H ∧ ∃ bs : List Bool, H D = some (.lst (bs.map V.bl)) ∧ bs.length = k ∧ (bs.all id = true ↔ A)
theorem AllP.start {H1 : Hp} {D : Addr} {A : Prop} (hD : H1 D = none) (a : A) : AllP H1 D 0 A (upd H1 D (.lst [])) :=
  ⟨Same.new hD _, [], upd_same, rfl, ⟨fun _ => a, fun _ => rfl⟩⟩
theorem AllP.imp {H1 H : Hp} {D : Addr} {k k' : Nat} {A A' : Prop} (h : AllP H1 D k A H) (ek : k = k') (e : A ↔ A') : AllP H1 D k' A' H := by
  obtain ⟨s, bs, h1, h2, h3⟩ := h
  exact ⟨s, bs, h1, by omega, h3.trans e⟩
theorem AllP.push {H1 H H4 : Hp} {D : Addr} {k : Nat} {A : Prop} {b : Bool} (h : AllP H1 D k A H) (hD : H1 D = none) (s : Same H H4) (hk : k < sizeLine) :
    ∃ acc, H4 D = some (.lst acc) ∧ acc.length < sizeLine ∧ AllP H1 D (k + 1) (A ∧ b = true) (upd H4 D (.lst (acc ++ [.bl b]))) := by
  obtain ⟨s1, bs, h1, h2, h3⟩ := h
  refine ⟨_, s _ _ h1, by rw [List.length_map]; omega, fun c u e => by rw [upd_ne (ne_of_none e hD)]; exact s _ _ (s1 _ _ e), bs ++ [b], by rw [List.map_append]; exact upd_same, by simp [h2], ?_⟩
  rw [List.all_append, Bool.and_eq_true, h3]
  simp
/-! ### a tuple but for its first item -/
theorem slT_tail {K : PySem.W.Frag} {H : Hp} {a : Addr} {xs : List V} {Q : VK} (h : SqT K H a xs) (h0 : 1 ≤ xs.length) (q : ∀ p H', Same H H' → H' p = some (.tup (xs.drop 1)) → Q (.ref p) H') : rSlT K (.ref a) (some 1) none H Q := by
  have ec : cutV xs (some (1 : Int)) none = xs.drop 1 := cut_lo (r := 1) (by decide) (by show 1 ≤ _; exact h0)
  refine ⟨a, _, rfl, h, ?_, fun p hp => ?_⟩
  · rintro ⟨z, _⟩
    have e1 : HT.sIx xs.length 0 (some ((1 : Nat) : Int)) = min 1 xs.length := HT.sIx_nat _ _ 1
    have e2 : HT.sIx xs.length 0 (some (1 : Int)) = min 1 xs.length := e1
    rw [e2] at z
    omega
  · refine q p _ (Same.new hp _) ?_
    rw [← ec]
    exact upd_same
/-! ### the form of an expression: the program -/
theorem inV_str {z : Str} : ∀ N : List Str, inV (.str z) (N.map V.str) = decide (z ∈ N)
  | [] => rfl
  | x :: N => by
    have ih := inV_str (z := z) N
    unfold inV at *
    rw [List.map_cons, List.any_cons, ih]
    show (x == z || decide (z ∈ N)) = decide (z ∈ x :: N)
    by_cases h : x = z
    · subst h
      simp
    · have h1 : (x == z) = false := beq_eq_false_iff_ne.mpr h
      have h2 : z ≠ x := fun e => h e.symm
      rw [h1, Bool.false_or]
      simp [h2]
theorem idx_first {z : Str} : ∀ (N : List Str) {i : Nat}, i < N.idxOf z → N[i]? ≠ some z
  | [], _, h => absurd h (Nat.not_lt_zero _)
  | x :: N, i, h => by
    rw [List.idxOf_cons] at h
    by_cases e : x = z
    · subst e
      simp at h
    · have hb : (x == z) = false := beq_eq_false_iff_ne.mpr e
      rw [hb] at h
      cases i with
      | zero => exact fun y => e (Option.some.inj y)
      | succ i => exact idx_first N (Nat.lt_of_succ_lt_succ h)
theorem flatS (N : List Str) : (N.map V.str).all flatV = true := by
  induction N with
  | nil => rfl
  | cons x N ih => rw [List.map_cons, List.all_cons, ih]; rfl
def EfAt (K : PySem.W.Frag) (H : Hp) : Ef → V → Prop
  | .num i, v => ∃ p, v = .ref p ∧ SqT K H p [.str "num", .int i]
  | .var z, v => ∃ p, v = .ref p ∧ SqT K H p [.str "name", .str z]
  | .bin o a b, v => ∃ p x y, v = .ref p ∧ SqT K H p [.str o.s, x, y] ∧ EfAt K H a x ∧ EfAt K H b y
def KeepT (K : PySem.W.Frag) (H H' : Hp) : Prop := ∀ p xs, SqT K H p xs → SqT K H' p xs
theorem EfAt.keep {K : PySem.W.Frag} {H H' : Hp} (k : KeepT K H H') : ∀ {e : Ef} {v : V}, EfAt K H e v → EfAt K H' e v
  | .num _, _, ⟨p, e, h⟩ => ⟨p, e, k _ _ h⟩
  | .var _, _, ⟨p, e, h⟩ => ⟨p, e, k _ _ h⟩
  | .bin _ _ _, _, ⟨p, x, y, e, h, q, r⟩ => ⟨p, x, y, e, k _ _ h, EfAt.keep k q, EfAt.keep k r⟩
theorem EfAt.same {K : PySem.W.Frag} {H H' : Hp} (s : Same H H') {e : Ef} {v : V} (h : EfAt K H e v) : EfAt K H' e v := h.keep fun _ _ q => Same.tup s q
def spOcc (K : PySem.W.Frag) (m : Nat) : Sp := fun vs H Q _ => ∃ (nt : Addr) (v : V) (N S : List Str) (e : Ef), vs = [.ref nt, v] ∧ SqT K H nt (N.map V.str) ∧ EfAt K H e v ∧ e.ok S m ∧ ∀ H', Same H H' → Q (.bl (occ N e)) H'
def spProd (K : PySem.W.Frag) : Sp := fun vs H Q _ => ∃ (f g p : Addr) (F G : Fm) (n e : Nat) (Ps : List (List Int)), vs = [.ref f, .ref g, .ref p] ∧ n ≤ 60 ∧ FmAt K H f n F ∧ FmAt K H g n G ∧ FmB e n F ∧ FmB e n G ∧ e ≤ 100000 ∧ Ps ≠ [] ∧ PtB Ps ∧ Mx true true K H p (hullM n Ps) ∧
  ∀ q H', Same H H' → FmAt K H' q n (.prod (F.low n Ps) (F.high n Ps) (G.low n Ps) (G.high n Ps)) → Q (.ref q) H'
def NtAt (K : PySem.W.Frag) (H : Hp) (nt : Addr) (N : List Str) : Prop := SqT K H nt (N.map V.str) ∧ RpT.TupFz H nt
theorem NtAt.same {K : PySem.W.Frag} {H H' : Hp} {nt : Addr} {N : List Str} (s : Same H H') (h : NtAt K H nt N) : NtAt K H' nt N := ⟨Same.tup s h.1, let ⟨o, ys, a, b⟩ := h.2; ⟨o, ys, s _ _ a, b⟩⟩
def spFof (K : PySem.W.Frag) (m : Nat) : Sp := fun vs H Q _ => ∃ (v : V) (dk nt p : Addr) (kvs : List (Key × V)) (N S : List Str) (κ : Str → Int) (n : Nat) (Ps : List (List Int)) (e : Ef), vs = [v, .ref dk, .ref nt, .ref p] ∧ n ≤ 60 ∧ EfAt K H e v ∧ e.ok S m ∧ H dk = some (.dK kvs) ∧ (∀ z ∈ S, z ∉ N → valV kvs (Sum.inr z) = some (.int (κ z))) ∧ Kok S N κ ∧ NtAt K H nt N ∧ N.length ≤ n ∧ Ps ≠ [] ∧ PtB Ps ∧ Mx true true K H p (hullM n Ps) ∧
  ∀ q H', Same H H' → FmAt K H' q n (fm N κ n Ps e) → Q (.ref q) H'
theorem fn_vac {P : Program} {w : World} {K : PySem.W.Frag} {mg : Str → Option Value} {base : Heap} {k : Nat} {f : Addr} {fd : FuncData} {ps : List Str} {sp : Sp} (no : ∀ vs H Q E, ¬ sp vs H Q E) : FnOk P w K mg base CX0 k f fd ps sp :=
  ⟨fun vs H Q E h => absurd h (no vs H Q E), fun A outer s H args us vs Q E _ _ _ _ h => absurd h (no vs H Q E)⟩
section
variable {P : Program} {w : World} {K : PySem.W.Frag} {mg : Str → Option Value} {base : Heap}
theorem ok_product_form (T : Txt w K mg) : FnOk P w K mg base CX0 4 T.a_product_form T.d_product_form p_product_form (spProd K) := by
  have g_range_of_form := ok_range_of_form (P := P) (w := w) (K := K) (base := base) T
  refine T.F_product_form.ok sc_product_form (fun vs H Q E h => ?_) (fun cdv A outer s H vs Q E hr h => ?_)
  · obtain ⟨f, g, p, F, G, n, e, Ps, rfl, _⟩ := h
    rfl
  obtain ⟨f, g, p, F, G, n, e, Ps, rfl, hn, hF, hG, fb, gb, he, ne, hp, hM, q⟩ := h
  refine ⟨_, (pss_cons (ps_set (i := 3) sc_product_form.nd rfl (Or.inl rfl) (pe_call g_range_of_form (hr.mono (by first | decide | omega)) rfl T.m_range_of_form T.F_range_of_form.kp T.b_range_of_form .nil pass0 (pa_cons (pv 0) (pa_cons (pv 2) pa_nil))))
      (pss_cons (ps_set (i := 4) sc_product_form.nd rfl (Or.inr rfl) (pe_call g_range_of_form (hr.mono (by first | decide | omega)) rfl T.m_range_of_form T.F_range_of_form.kp T.b_range_of_form .nil pass0 (pa_cons (pv 1) (pa_cons (pv 2) pa_nil))))
      (pss_cons (ps_setLc2 (i := 5) (own := [("a", 6), ("b", 7)]) (vs1 := [7]) (g := gName 6) (g1 := gName 7) (tt := tYes) (tt1 := tYes) rfl sc_product_form.nd rfl rfl (sw_true rfl rfl rfl (by decide +kernel)) (pi_tup (pv 3)) (blkOk_by (own := [("a", 6), ("b", 7)]) (N := n_product_form) (sc := defScope s_product_form) (by decide +kernel)) (by decide) (fun _ _ _ _ _ => (pg_name (i := 6) sc_product_form.nd rfl (Or.inl rfl))) (fun _ _ _ _ _ => pts_nil) (fun _ _ _ _ _ => (show PI _ _ _ (iTup K _) from (pi_tup (pv 4)))) (fun _ _ _ _ _ => (pg_name (i := 7) sc_product_form.nd rfl (Or.inl rfl))) (fun _ _ _ _ _ => pts_nil) (fun _ _ _ _ _ => (pe_op op_mulW (pv 6) (pv 7))))
      (pss_one (ps_ret (pe_tup (pa_cons (pe_op RpT.op_repTA (pe_tup (pa_cons pe_int pa_nil)) (pe_op op_sub (pe_callB call_len_seq rfl T.z_len PySem.boot_len (pa_cons (pv 2) pa_nil)) pe_int)) (pa_cons (pe_callB (cr_min rfl) rfl T.z_min bb_min (pa_cons (pv 5) pa_nil)) (pa_cons (pe_callB (cr_max rfl) rfl T.z_max bb_max (pa_cons (pv 5) pa_nil)) pa_nil))))))))), ?_⟩
  have eb := entB_hull (n := n) ne hp
  have sM := hullM_sz n Ps
  have lF : (mkR n F.c).length = n := mkR_len
  have lG : (mkR n G.c).length = n := mkR_len
  refine ⟨_, rfl, _, rfl, f, p, hullM n Ps, mkR n F.c, F.lo, F.hi, rfl, hF, eb, by rw [lF]; exact hn, hM, by rw [lF]; exact sM, fun t1 H1 L1 G1 s1 ht1 r1 => ?_⟩
  have r1' : RngF (hullM (mkR n F.c).length Ps) (mkR n F.c) F.lo F.hi L1 G1 := by rw [lF]; exact r1
  obtain ⟨rfl, rfl⟩ := rng_is ne r1'
  refine ⟨_, rfl, _, rfl, g, p, hullM n Ps, mkR n G.c, G.lo, G.hi, rfl, hG.same s1, eb, by rw [lG]; exact hn, hM.same s1, by rw [lG]; exact sM, fun t2 H2 L2 G2 s2 ht2 r2 => ?_⟩
  have r2' : RngF (hullM (mkR n G.c).length Ps) (mkR n G.c) G.lo G.hi L2 G2 := by rw [lG]; exact r2
  obtain ⟨rfl, rfl⟩ := rng_is ne r2'
  have b1 := low_bd ne hp hn fb
  have b2 := low_bd ne hp hn gb
  have ht1' : SqT K H2 t1 [.int (F.low n Ps), .int (F.high n Ps)] := SqT.of (s2 _ _ ht1)
  have ht2' : SqT K H2 t2 [.int (G.low n Ps), .int (G.high n Ps)] := SqT.of ht2
  generalize F.low n Ps = a1 at *
  generalize F.high n Ps = c1 at *
  generalize G.low n Ps = a2 at *
  generalize G.high n Ps = c2 at *
  refine ⟨_, rfl, t1, rfl, ⟨_, ht1'⟩, fun D hD => ?_⟩
  have prodAt : ∀ {i j : Nat} {x y : V}, ([a1, c1].map V.int)[i]? = some x → ([a2, c2].map V.int)[j]? = some y → ∃ u v : Int, x = .int u ∧ y = .int v ∧ Bd (e + 47) u ∧ Bd (e + 47) v ∧ [a1 * a2, a1 * c2, c1 * a2, c1 * c2][i * 2 + j]? = some (u * v) ∧ i < 2 ∧ j < 2 := fun {i j x y} ex ey => by
    match i, j, ex, ey with
    | 0, 0, ex, ey => cases ex; cases ey; exact ⟨a1, a2, rfl, rfl, b1.1, b2.1, rfl, by decide, by decide⟩
    | 0, 1, ex, ey => cases ex; cases ey; exact ⟨a1, c2, rfl, rfl, b1.1, b2.2, rfl, by decide, by decide⟩
    | 1, 0, ex, ey => cases ex; cases ey; exact ⟨c1, a2, rfl, rfl, b1.2, b2.1, rfl, by decide, by decide⟩
    | 1, 1, ex, ey => cases ex; cases ey; exact ⟨c1, c2, rfl, rfl, b1.2, b2.2, rfl, by decide, by decide⟩
    | i + 2, _, ex, _ => simp at ex
    | _, j + 2, _, ey => simp at ey
  refine lc2_out (walk_tup (xs := [a1, c1].map V.int)) (fun i G => LcP (Same H2) (RInt [a1 * a2, a1 * c2, c1 * a2, c1 * c2]) D (i * 2) G) (lcp_start hD) (fun i G _ P => Same.tup P.1 ht1') ?_ ?_
  · rintro i x G G' hi P ⟨rfl, ex⟩
    have hi2 : i < 2 := hi
    obtain ⟨u0, _, rfl, _, _⟩ := prodAt (j := 0) ex rfl
    refine ⟨rfl, tyes ?_⟩
    refine ⟨_, rfl, t2, rfl, ⟨_, Same.tup P.1 ht2'⟩, ?_⟩
    refine lc2_in (walk_tup (xs := [a2, c2].map V.int)) (fun j F1 => LcP (Same H2) (RInt [a1 * a2, a1 * c2, c1 * a2, c1 * c2]) D (i * 2 + j) F1) P (fun j F1 _ P2 => Same.tup P2.1 ht2') ?_ ?_
    · rintro j y F1 F2 hj P2 ⟨rfl, ey⟩
      have hj2 : j < 2 := hj
      obtain ⟨u, v, e1, rfl, bu, bv, eu, _, _⟩ := prodAt ex ey
      cases e1
      refine ⟨rfl, tyes ?_⟩
      refine ⟨_, rfl, _, rfl, _, _, rfl, rfl, mulW bu bv (by omega) (by omega), ?_⟩
      exact lcp_same P2 hD (Same.refl _) (lt_line (by show i * 2 + j ≤ 10000000; omega)) RInt.mono ⟨_, eu, rfl⟩
    · intro F1 P2
      have e2 : i * 2 + ([a2, c2].map V.int).length = (i + 1) * 2 := by show i * 2 + 2 = _; omega
      rw [e2] at P2
      exact P2
  · intro G1 P
    have P : LcP (Same H2) (RInt [a1 * a2, a1 * c2, c1 * a2, c1 * c2]) D 4 G1 := P
    have ei := lcp_ints (K := K) P rfl
    obtain ⟨bs, hbs, lbs, _⟩ := id ((hM.same s1).same s2)
    have s12 := s1.trans s2
    refine ⟨(by show 1 ≤ sizeLine; decide), fun z hz => ?_⟩
    have sz := Same.new hz (.tup [.int 0])
    refine ⟨_, rfl, p, _, rfl, .inr (Same.tup (P.1.trans sz) hbs), _, _, rfl, rfl, ?_⟩
    have ln : (((bs.map V.ref).length : Nat) : Int) - 1 = (n : Int) := by
      rw [List.length_map, lbs, sM.1]
      omega
    have mn : ∀ m : Int, m ∈ [a1 * a2, a1 * c2, c1 * a2, c1 * c2] → (∀ y, y ∈ [a1 * a2, a1 * c2, c1 * a2, c1 * c2] → m ≤ y) → m = min4 (a1 * a2) (a1 * c2) (c1 * a2) (c1 * c2) := fun m hm hx => by
      have x1 := hx (a1 * a2) (by simp)
      have x2 := hx (a1 * c2) (by simp)
      have x3 := hx (c1 * a2) (by simp)
      have x4 := hx (c1 * c2) (by simp)
      simp only [List.mem_cons, List.not_mem_nil, or_false] at hm
      unfold min4
      omega
    have mx : ∀ m : Int, m ∈ [a1 * a2, a1 * c2, c1 * a2, c1 * c2] → (∀ y, y ∈ [a1 * a2, a1 * c2, c1 * a2, c1 * c2] → y ≤ m) → m = max4 (a1 * a2) (a1 * c2) (c1 * a2) (c1 * c2) := fun m hm hx => by
      have x1 := hx (a1 * a2) (by simp)
      have x2 := hx (a1 * c2) (by simp)
      have x3 := hx (c1 * a2) (by simp)
      have x4 := hx (c1 * c2) (by simp)
      simp only [List.mem_cons, List.not_mem_nil, or_false] at hm
      unfold max4
      omega
    refine ⟨z, _, _, rfl, rfl, SqT.of upd_same, by simp, by rw [ln]; omega, by rw [ln]; omega, by show 1 ≤ 1000; decide, fun e1 => ?_, fun e1 p2 hp2 => ?_⟩
    · have n1 : n = 1 := by omega
      subst n1
      refine ⟨_, rfl, D, _, rfl, SqL.of (sz _ _ ei), by show 0 < 4; decide, fun m1 hm1 hx1 => ?_⟩
      refine ⟨_, rfl, D, _, rfl, SqL.of (sz _ _ ei), by show 0 < 4; decide, fun m2 hm2 hx2 => ⟨(by show 3 ≤ sizeLine; decide), fun q2 hq2 => ?_⟩⟩
      obtain rfl := mn m1 hm1 hx1
      obtain rfl := mx m2 hm2 hx2
      have s2' := Same.new hq2 (.tup [.ref z, .int (min4 (a1 * a2) (a1 * c2) (c1 * a2) (c1 * c2)), .int (max4 (a1 * a2) (a1 * c2) (c1 * a2) (c1 * c2))])
      exact q q2 _ (((s12.trans P.1).trans sz).trans s2') ⟨z, SqT.of upd_same, SqT.of (s2' _ _ upd_same)⟩
    · rw [ln, Int.toNat_natCast, rep0] at *
      have sp2 := Same.new hp2 (.tup ((mkR n fun _ => (0 : Int)).map V.int))
      refine ⟨_, rfl, D, _, rfl, SqL.of (sp2 _ _ (sz _ _ ei)), by show 0 < 4; decide, fun m1 hm1 hx1 => ?_⟩
      refine ⟨_, rfl, D, _, rfl, SqL.of (sp2 _ _ (sz _ _ ei)), by show 0 < 4; decide, fun m2 hm2 hx2 => ⟨(by show 3 ≤ sizeLine; decide), fun q2 hq2 => ?_⟩⟩
      obtain rfl := mn m1 hm1 hx1
      obtain rfl := mx m2 hm2 hx2
      have s2' := Same.new hq2 (.tup [.ref p2, .int (min4 (a1 * a2) (a1 * c2) (c1 * a2) (c1 * c2)), .int (max4 (a1 * a2) (a1 * c2) (c1 * a2) (c1 * c2))])
      exact q q2 _ ((((s12.trans P.1).trans sz).trans sp2).trans s2') ⟨p2, SqT.of upd_same, SqT.of (s2' _ _ upd_same)⟩
theorem ok_occurs (T : Txt w K mg) : ∀ m : Nat, m ≤ 20 → FnOk P w K mg base CX0 (m + 1) T.a_occurs T.d_occurs p_occurs (spOcc K m)
  | 0, _ => fn_vac fun vs H Q E h => by obtain ⟨nt, v, N, S, e, _, _, _, h, _⟩ := h; exact h
  | m + 1, hm => by
    have g_occurs := ok_occurs T m (by omega)
    refine T.F_occurs.ok sc_occurs (fun vs H Q E h => ?_) (fun cdv A outer s H vs Q E hr h => ?_)
    · obtain ⟨nt, v, N, S, e, rfl, _⟩ := h
      rfl
    obtain ⟨nt, v, N, S, e, rfl, hN, hx, ho, q⟩ := h
    refine ⟨_, (pss_cons (ps_if (pt_cmpR op_eq (pe_ix ix_tup (pv 1) pe_int (fun _ _ => rfl)) pe_str (nomark _)) (pss_one (ps_ret (pe_cmpR op_in_seq (pe_ix ix_tup (pv 1) pe_int (fun _ _ => rfl)) (pv 0) (by rfl)))) pss_nil)
      (pss_cons (ps_if (pt_cmpR op_eq (pe_ix ix_tup (pv 1) pe_int (fun _ _ => rfl)) pe_str (nomark _)) (pss_one (ps_ret pe_bl)) pss_nil)
      (pss_one (ps_ret (pe_callB (cr_any rfl) rfl T.z_any bb_any (pa_cons (pe_lc (own := [("operand", 2)]) (g := gName 2) (tt := tYes) rfl sc_occurs.nd (pi_tup (pe_slice sl_tup (pv 1) (po_some pe_int) po_none)) (blkOk_by (own := [("operand", 2)]) (N := n_occurs) (sc := defScope s_occurs) (by decide +kernel)) (fun _ _ _ _ _ => (pg_name (i := 2) sc_occurs.nd rfl (Or.inl rfl))) (fun _ _ _ _ _ => pts_nil) (fun _ _ _ _ _ => (pe_call g_occurs (hr.mono (by first | decide | omega)) rfl T.m_occurs T.F_occurs.kp T.b_occurs .nil pass0 (pa_cons (pv 0) (pa_cons (pv 2) pa_nil))))) pa_nil)))))), ?_⟩
    cases e with
    | num i =>
      obtain ⟨p, rfl, hp⟩ := hx
      refine ⟨_, rfl, p, _, _, _, rfl, rfl, hp, rfl, rfl, _, rfl, ifF (by decide +kernel) ?_⟩
      refine ⟨_, rfl, p, _, _, _, rfl, rfl, hp, rfl, rfl, _, rfl, ifT (by decide +kernel) ?_⟩
      exact q H (Same.refl _)
    | var z =>
      obtain ⟨p, rfl, hp⟩ := hx
      refine ⟨_, rfl, p, _, _, _, rfl, rfl, hp, rfl, rfl, _, rfl, ifT (by decide +kernel) ?_⟩
      refine ⟨_, rfl, p, _, _, _, rfl, rfl, hp, rfl, _, rfl, nt, _, rfl, .inr hN, rfl, flatS N, ?_⟩
      rw [inV_str]
      exact q H (Same.refl _)
    | bin o a b =>
      obtain ⟨p, x, y, rfl, hp, hx, hy⟩ := hx
      have n1 : ¬ (V.str o.s = V.str "name") := by cases o <;> decide +kernel
      have n2 : ¬ (V.str o.s = V.str "num") := by cases o <;> decide +kernel
      refine ⟨_, rfl, p, _, _, _, rfl, rfl, hp, rfl, rfl, _, rfl, ifF (decide_eq_false n1) ?_⟩
      refine ⟨_, rfl, p, _, _, _, rfl, rfl, hp, rfl, rfl, _, rfl, ifF (decide_eq_false n2) ?_⟩
      refine ⟨_, rfl, _, rfl, ?_⟩
      dsimp only [tNoPart]
      refine slT_tail hp (by show 1 ≤ 3; decide) fun w1 F1 s1 hw => ⟨w1, rfl, ⟨_, SqT.of hw⟩, fun D hD => ?_⟩
      refine lc_it (walk_tup (xs := [x, y])) (fun i G => Same F1 G ∧ G D = some (.lst (([occ N a, occ N b].take i).map V.bl))) ⟨Same.new hD _, upd_same⟩ (fun i G _ P => Same.tup P.1 (SqT.of hw)) ?_ ?_
      · rintro i z G G' hi P ⟨rfl, ez⟩
        obtain ⟨eN, ez2, oN, he⟩ : ∃ e' : Ef, EfAt K H e' z ∧ e'.ok S m ∧ ([occ N a, occ N b].take (i + 1)).map V.bl = ([occ N a, occ N b].take i).map V.bl ++ [V.bl (occ N e')] := by
          match i, hi, ez with
          | 0, _, ez => cases ez; exact ⟨a, hx, ho.1, rfl⟩
          | 1, _, ez => cases ez; exact ⟨b, hy, ho.2, rfl⟩
        refine ⟨rfl, tyes ?_⟩
        refine ⟨_, rfl, _, rfl, nt, z, N, S, eN, rfl, Same.tup (s1.trans P.1) hN, ez2.same (s1.trans P.1), oN, fun H5 s5 => ?_⟩
        refine ⟨_, s5 _ _ P.2, lt_line (by rw [List.length_map, List.length_take]; show min i 2 ≤ _; omega), fun b o e => ?_, ?_⟩
        · rw [upd_ne (ne_of_none e hD)]
          exact s5 _ _ (P.1 _ _ e)
        · rw [he]
          exact upd_same
      · rintro G ⟨sG, eG⟩
        refine ⟨D, [occ N a, occ N b], rfl, SqL.of eG, ?_⟩
        have e1 : ([occ N a, occ N b].any id) = occ N (.bin o a b) := by
          show (occ N a || (occ N b || false)) = (occ N a || occ N b)
          rw [Bool.or_false]
        rw [e1]
        exact q G (s1.trans sG)
theorem ok_form_of (T : Txt w K mg) : ∀ m : Nat, m ≤ 8 → FnOk P w K mg base CX0 (m + 10) T.a_form_of T.d_form_of p_form_of (spFof K m)
  | 0, _ => fn_vac fun vs H Q E h => by obtain ⟨v, dk, nt, p, kvs, N, S, κ, n, Ps, e, _, _, _, h, _⟩ := h; exact h
  | m + 1, hm => by
    have g_form_of := ok_form_of T m (by omega)
    have g_constant_form := ok_constant_form (P := P) (w := w) (K := K) (base := base) T
    have g_column_form := ok_column_form (P := P) (w := w) (K := K) (base := base) T
    have g_sum_of_forms := ok_sum_of_forms (P := P) (w := w) (K := K) (base := base) T
    have g_difference_of_forms := ok_difference_of_forms (P := P) (w := w) (K := K) (base := base) T
    have g_form_times := ok_form_times (P := P) (w := w) (K := K) (base := base) T
    have g_product_form := ok_product_form (P := P) (w := w) (K := K) (base := base) T
    have g_occurs := ok_occurs (P := P) (w := w) (K := K) (base := base) T m (by omega)
    refine T.F_form_of.ok sc_form_of (fun vs H Q E h => ?_) (fun cdv A outer s H vs Q E hr h => ?_)
    · obtain ⟨v, dk, nt, p, kvs, N, S, κ, n, Ps, e, rfl, _⟩ := h
      rfl
    obtain ⟨v, dk, nt, p, kvs, N, S, κ, n, Ps, e, rfl, hn, hx, ho, hd, hk, hκ, hN, lN, ne, hp, hM, q⟩ := h
    refine ⟨_, (pss_cons (ps_set (i := 4) sc_form_of.nd rfl (Or.inl rfl) (pe_ix ix_tup (pv 0) pe_int (fun _ _ => rfl)))
      (pss_cons (ps_if (pt_cmpR op_eq (pv 4) pe_str (nomark _)) (pss_one (ps_ret (pe_call g_constant_form (hr.mono (by first | decide | omega)) rfl T.m_constant_form T.F_constant_form.kp T.b_constant_form .nil pass0 (pa_cons (pe_ix ix_tup (pv 0) pe_int (fun _ _ => rfl)) (pa_cons (pv 3) pa_nil))))) pss_nil)
      (pss_cons (ps_if (pt_cmpR op_eq (pv 4) pe_str (nomark _)) (pss_cons (ps_set (i := 5) sc_form_of.nd rfl (Or.inl rfl) (pe_ix ix_tup (pv 0) pe_int (fun _ _ => rfl)))
      (pss_cons (ps_if (pt_cmpR op_in_seq (pv 5) (pv 2) (by rfl)) (pss_one (ps_ret (pe_call g_column_form (hr.mono (by first | decide | omega)) rfl T.m_column_form T.F_column_form.kp T.b_column_form .nil pass0 (pa_cons (pe_op op_add (RpT.pe_bmT PySem.F.plainAttrs_tuple PySem.F.slot_tuple_index PySem.F.type_tuple_index mt_tup_index (pv 2) (pa_cons (pv 5) pa_nil)) pe_int) (pa_cons (pv 3) pa_nil))))) pss_nil)
      (pss_one (ps_ret (pe_call g_constant_form (hr.mono (by first | decide | omega)) rfl T.m_constant_form T.F_constant_form.kp T.b_constant_form .nil pass0 (pa_cons (pe_dget (hu_of hr) (pv 1) (pv 5) (fun _ _ => rfl)) (pa_cons (pv 3) pa_nil))))))) pss_nil)
      (pss_cons (ps_set (i := 6) sc_form_of.nd rfl (Or.inl rfl) (pe_call g_form_of (hr.mono (by first | decide | omega)) rfl T.m_form_of T.F_form_of.kp T.b_form_of .nil pass0 (pa_cons (pe_ix ix_tup (pv 0) pe_int (fun _ _ => rfl)) (pa_cons (pv 1) (pa_cons (pv 2) (pa_cons (pv 3) pa_nil))))))
      (pss_cons (ps_set (i := 7) sc_form_of.nd rfl (Or.inl rfl) (pe_call g_form_of (hr.mono (by first | decide | omega)) rfl T.m_form_of T.F_form_of.kp T.b_form_of .nil pass0 (pa_cons (pe_ix ix_tup (pv 0) pe_int (fun _ _ => rfl)) (pa_cons (pv 1) (pa_cons (pv 2) (pa_cons (pv 3) pa_nil))))))
      (pss_cons (ps_if (pt_cmpR op_eq (pv 4) pe_str (nomark _)) (pss_one (ps_ret (pe_call g_sum_of_forms (hr.mono (by first | decide | omega)) rfl T.m_sum_of_forms T.F_sum_of_forms.kp T.b_sum_of_forms .nil pass0 (pa_cons (pv 6) (pa_cons (pv 7) pa_nil))))) pss_nil)
      (pss_cons (ps_if (pt_cmpR op_eq (pv 4) pe_str (nomark _)) (pss_one (ps_ret (pe_call g_difference_of_forms (hr.mono (by first | decide | omega)) rfl T.m_difference_of_forms T.F_difference_of_forms.kp T.b_difference_of_forms .nil pass0 (pa_cons (pv 6) (pa_cons (pv 7) pa_nil))))) pss_nil)
      (pss_cons (ps_if (pt_not (pt_val (pe_call g_occurs (hr.mono (by first | decide | omega)) rfl T.m_occurs T.F_occurs.kp T.b_occurs .nil pass0 (pa_cons (pv 2) (pa_cons (pe_ix ix_tup (pv 0) pe_int (fun _ _ => rfl)) pa_nil))))) (pss_one (ps_ret (pe_call g_form_times (hr.mono (by first | decide | omega)) rfl T.m_form_times T.F_form_times.kp T.b_form_times .nil pass0 (pa_cons (pv 7) (pa_cons (pe_ix ix_tup (pv 6) pe_int (fun _ _ => rfl)) pa_nil))))) pss_nil)
      (pss_cons (ps_if (pt_not (pt_val (pe_call g_occurs (hr.mono (by first | decide | omega)) rfl T.m_occurs T.F_occurs.kp T.b_occurs .nil pass0 (pa_cons (pv 2) (pa_cons (pe_ix ix_tup (pv 0) pe_int (fun _ _ => rfl)) pa_nil))))) (pss_one (ps_ret (pe_call g_form_times (hr.mono (by first | decide | omega)) rfl T.m_form_times T.F_form_times.kp T.b_form_times .nil pass0 (pa_cons (pv 6) (pa_cons (pe_ix ix_tup (pv 7) pe_int (fun _ _ => rfl)) pa_nil))))) pss_nil)
      (pss_one (ps_ret (pe_call g_product_form (hr.mono (by first | decide | omega)) rfl T.m_product_form T.F_product_form.kp T.b_product_form .nil pass0 (pa_cons (pv 6) (pa_cons (pv 7) (pa_cons (pv 3) pa_nil))))))))))))))), ?_⟩
    have sM := hullM_sz n Ps
    cases e with
    | num i =>
      obtain ⟨t, rfl, ht⟩ := hx
      refine ⟨_, rfl, t, _, _, _, rfl, rfl, ht, rfl, ?_⟩
      refine ⟨_, rfl, rfl, _, rfl, ifT (by decide +kernel) ?_⟩
      refine ⟨_, rfl, t, _, _, _, rfl, rfl, ht, rfl, _, rfl, i, p, hullM n Ps, n, rfl, hn, hM, sM, fun q1 H1 s1 h1 => ?_⟩
      exact q q1 H1 s1 h1
    | var z =>
      obtain ⟨t, rfl, ht⟩ := hx
      refine ⟨_, rfl, t, _, _, _, rfl, rfl, ht, rfl, ?_⟩
      refine ⟨_, rfl, rfl, _, rfl, ifF (by decide +kernel) ?_⟩
      refine ⟨_, rfl, rfl, _, rfl, ifT (by decide +kernel) ?_⟩
      refine ⟨_, rfl, t, _, _, _, rfl, rfl, ht, rfl, ?_⟩
      refine ⟨_, rfl, _, rfl, nt, _, rfl, .inr hN.1, rfl, flatS N, _, rfl, ?_⟩
      rw [inV_str]
      refine ite2 (fun hz => ?_) (fun hz => ?_)
      · have mz : z ∈ N := of_decide_eq_true hz
        have li := List.idxOf_lt_length_iff.mpr mz
        have e1 : fm N κ n Ps (.var z) = .col (N.idxOf z) := by
          unfold fm
          rw [if_pos mz]
        rw [e1] at q
        refine ⟨_, rfl, ⟨nt, rfl, hN.2⟩, _, rfl, nt, N, z, N.idxOf z, rfl, rfl, hN.1, ?_, ?_, _, _, rfl, rfl, _, rfl, N.idxOf z, p, hullM n Ps, n, rfl, hn, hM, sM, fun q1 H1 s1 h1 => ?_⟩
        · rw [List.getElem?_eq_getElem li, List.getElem_idxOf]
        · intro i hi he
          exact idx_first N hi he
        · exact q q1 H1 s1 h1
      · have mz : z ∉ N := fun y => hz (decide_eq_true y)
        have e1 : fm N κ n Ps (.var z) = .con (κ z) := by
          unfold fm
          rw [if_neg mz]
        rw [e1] at q
        have kz := hk z ho mz
        refine ⟨_, rfl, _, rfl, dk, _, rfl, .inl ⟨_, _, .inl hd, rfl, kz.symm⟩, _, rfl, κ z, p, hullM n Ps, n, rfl, hn, hM, sM, fun q1 H1 s1 h1 => ?_⟩
        exact q q1 H1 s1 h1
    | bin o a b =>
      obtain ⟨t, x, y, rfl, ht, hx, hy⟩ := hx
      have n1 : ¬ (V.str o.s = V.str "name") := by cases o <;> decide +kernel
      have n2 : ¬ (V.str o.s = V.str "num") := by cases o <;> decide +kernel
      refine ⟨_, rfl, t, _, _, _, rfl, rfl, ht, rfl, ?_⟩
      refine ⟨_, rfl, rfl, _, rfl, ifF (decide_eq_false n2) ?_⟩
      refine ⟨_, rfl, rfl, _, rfl, ifF (decide_eq_false n1) ?_⟩
      have fb : ∀ {e : Ef}, e.ok S m → FmB (Eb m) n (fm N κ n Ps e) := fun {e} h => fm_bd (n := n) ne hp hn hκ h
      have el := Eb_le (m := m) (by omega)
      refine ⟨_, rfl, t, _, _, _, rfl, rfl, ht, rfl, _, rfl, _, rfl, _, rfl, x, dk, nt, p, kvs, N, S, κ, n, Ps, a, rfl, hn, hx, ho.1, hd, hk, hκ, hN, lN, ne, hp, hM, fun L H1 s1 hL => ?_⟩
      refine ⟨_, rfl, t, _, _, _, rfl, rfl, Same.tup s1 ht, rfl, _, rfl, _, rfl, _, rfl, y, dk, nt, p, kvs, N, S, κ, n, Ps, b, rfl, hn, hy.same s1, ho.2, s1 _ _ hd, hk, hκ, hN.same s1, lN, ne, hp, hM.same s1, fun R H2 s2 hR => ?_⟩
      have s12 := s1.trans s2
      have hL := hL.same s2
      have hM := hM.same s12
      have hN := hN.same s12
      have hx := hx.same s12
      have hy := hy.same s12
      have ht := Same.tup s12 ht
      have q : ∀ q1 H3, Same H2 H3 → FmAt K H3 q1 n (fm N κ n Ps (.bin o a b)) → Q (.ref q1) H3 := fun q1 H3 s3 h3 => q q1 H3 (s12.trans s3) h3
      refine ⟨_, rfl, rfl, _, rfl, ite2 (fun h => ?_) (fun h => ?_)⟩
      · obtain rfl : o = .add := by
          have := of_decide_eq_true h
          revert this
          cases o <;> decide +kernel
        exact ⟨_, rfl, _, rfl, L, R, _, _, n, rfl, hn, hL, hR, q⟩
      have na : o ≠ .add := fun e => by
        subst e
        exact h (by decide +kernel)
      refine ⟨_, rfl, rfl, _, rfl, ite2 (fun h => ?_) (fun h => ?_)⟩
      · obtain rfl : o = .sub := by
          have := of_decide_eq_true h
          revert this
          cases o <;> decide +kernel
        exact ⟨_, rfl, _, rfl, L, R, _, _, n, _, rfl, hn, hL, hR, fb ho.2, by omega, q⟩
      have ns : o ≠ .sub := fun e => by
        subst e
        exact h (by decide +kernel)
      obtain rfl : o = .mul := by
        revert na ns
        cases o <;> simp
      refine ⟨_, rfl, _, rfl, t, _, _, _, rfl, rfl, ht, rfl, nt, x, N, S, a, rfl, hN.1, hx, ho.1, fun H3 s3 => ?_⟩
      refine ⟨_, rfl, ?_⟩
      refine ite2 (fun h => ?_) (fun h => ?_)
      · have oa : occ N a = false := by simpa using h
        have ef : fm N κ n Ps (.bin .mul a b) = (fm N κ n Ps b).times (fm N κ n Ps a).lo := by
          rw [fm, if_pos oa]
        rw [ef] at q
        obtain ⟨c1, hc1, _⟩ := id (hL.same s3)
        exact ⟨_, rfl, _, rfl, L, _, _, _, rfl, rfl, hc1, rfl, R, _, _, n, _, _, rfl, hn, hR.same s3, fb ho.2, (fb ho.1).l, by omega, by omega, fun q1 H4 s4 h4 => q q1 H4 (s3.trans s4) h4⟩
      have oa : ¬ occ N a = false := by simpa using h
      refine ⟨_, rfl, _, rfl, t, _, _, _, rfl, rfl, Same.tup s3 ht, rfl, nt, y, N, S, b, rfl, Same.tup s3 hN.1, hy.same s3, ho.2, fun H4 s4 => ?_⟩
      have s34 := s3.trans s4
      refine ⟨_, rfl, ?_⟩
      refine ite2 (fun h => ?_) (fun h => ?_)
      · have ob : occ N b = false := by simpa using h
        have ef : fm N κ n Ps (.bin .mul a b) = (fm N κ n Ps a).times (fm N κ n Ps b).lo := by
          rw [fm, if_neg oa, if_pos ob]
        rw [ef] at q
        obtain ⟨c1, hc1, _⟩ := id (hR.same s34)
        exact ⟨_, rfl, _, rfl, R, _, _, _, rfl, rfl, hc1, rfl, L, _, _, n, _, _, rfl, hn, hL.same s34, fb ho.1, (fb ho.2).l, by omega, by omega, fun q1 H5 s5 h5 => q q1 H5 (s34.trans s5) h5⟩
      have ob : ¬ occ N b = false := by simpa using h
      have ef : fm N κ n Ps (.bin .mul a b) = .prod ((fm N κ n Ps a).low n Ps) ((fm N κ n Ps a).high n Ps) ((fm N κ n Ps b).low n Ps) ((fm N κ n Ps b).high n Ps) := by
        rw [fm, if_neg oa, if_neg ob]
      rw [ef] at q
      exact ⟨_, rfl, _, rfl, _, rfl, L, R, p, _, _, n, _, Ps, rfl, hn, hL.same s34, hR.same s34, fb ho.1, fb ho.2, by omega, ne, hp, hM.same s34, fun q1 H5 s5 h5 => q q1 H5 (s34.trans s5) h5⟩
end
/-! ### one of a row, a far number (as in Draw28.inc) -/
theorem Sq.or {K : PySem.W.Frag} {t : Bool} {H : Hp} {p : Addr} {xs : List V} (h : Sq t K H p xs) : SqL K H p xs ∨ SqT K H p xs := by
  cases t
  · exact .inl h
  · exact .inr h
theorem Sq.ix {K : PySem.W.Frag} {t : Bool} {H : Hp} {p : Addr} {xs : List V} {i : Int} {v : V} {Q : VK} (h : Sq t K H p xs) (e : atI xs i = some v) (q : Q v H) : rIxT K (.ref p) (.int i) H Q ∨ rIxL K (.ref p) (.int i) H Q := by
  cases t
  · exact .inr ⟨p, xs, i, v, rfl, rfl, h, e, q⟩
  · exact .inl ⟨p, xs, i, v, rfl, rfl, h, e, q⟩
def spOneG (K : PySem.W.Frag) : Sp := fun vs H Q _ => ∃ (a p : Addr) (xs : List V) (t : Bool), vs = [.ref a, .ref p] ∧ Src H a ∧ (t = false → p ≠ a) ∧ Sq t K H p xs ∧ 0 < xs.length ∧ xs.length < 1000 ∧ ∀ v H', v ∈ xs → Stp a H H' → Q v H'
def spFar : Sp := fun vs H Q _ => ∃ a : Addr, vs = [.ref a] ∧ Src H a ∧ ∀ (r : Int) H', Stp a H H' → Q (.int r) H'
theorem sqT_but {K : PySem.W.Frag} {D p : Addr} {H H' : Hp} {xs acc : List V} (b : But D H H') (hD : H D = some (.lst acc)) (h : SqT K H p xs) : SqT K H' p xs := by
  have ne : ∀ {u : HO}, H p = some u → (∀ ys, u ≠ .lst ys) → p ≠ D := fun e n z => by
    rw [z, hD] at e
    exact n _ (Option.some.inj e).symm
  rcases h with (q | ⟨o', q⟩) | q
  · exact .inl (.inl (b _ _ (ne q (fun _ z => nomatch z)) q))
  · exact .inl (.inr ⟨o', b _ _ (ne q (fun _ z => nomatch z)) q⟩)
  · exact .inr q
def RTup (K : PySem.W.Frag) (M : List (List Int)) (D : Addr) : Nat → V → Hp → Prop := fun j y H => ∃ (a : Addr) (r : List Int), y = .ref a ∧ M[j]? = some r ∧ ∀ H', But D H H' → SqT K H' a (r.map V.int)
theorem RTup.mono {K : PySem.W.Frag} {M : List (List Int)} {D : Addr} : ∀ (j : Nat) (z : V) (G G' : Hp), RTup K M D j z G → But D G G' → RTup K M D j z G' := by
  rintro j z G G' ⟨a, r, e1, e2, e3⟩ b
  exact ⟨a, r, e1, e2, fun H' c => e3 H' (b.trans c)⟩
theorem Stp.sq {K : PySem.W.Frag} {a p : Addr} {H H' : Hp} {xs : List V} {t : Bool} (s : Stp a H H') (hs : Src H a) (ne : t = false → p ≠ a) (h : Sq t K H p xs) : Sq t K H' p xs := by
  cases t
  · exact s.rdL h (ne rfl)
  · exact s.rd h hs
section
variable {P : Program} {w : World} {K : PySem.W.Frag} {mg : Str → Option Value} {base : Heap}
theorem ok_l_oneG (T : Txt w K mg) : FnOk P w K mg base CX0 2 T.a_l_one T.d_l_one p_l_one (spOneG K) := by
  have g_l_pick := ok_l_pick (P := P) (w := w) (base := base) T
  refine T.F_l_one.ok sc_l_one (fun vs H Q E h => ?_) (fun cdv A outer s H vs Q E hr h => ?_)
  · obtain ⟨a, p, xs, t, rfl, _⟩ := h
    rfl
  obtain ⟨a, p, xs, t, rfl, hS, ne, hx, h0, h9, q⟩ := h
  refine ⟨_, (pss_one (ps_ret (pe_ix (IxR.or ix_tup ix_list) (pv 1) (pe_call g_l_pick (hr.mono (by first | decide | omega)) rfl T.m_l_pick T.F_l_pick.kp T.b_l_pick .nil pass0 (pa_cons (pv 0) (pa_cons (pe_callB call_len_seq rfl T.z_len PySem.boot_len (pa_cons (pv 1) pa_nil)) pa_nil))) (fun _ _ => rfl)))), ?_⟩
  refine ⟨_, rfl, _, rfl, _, rfl, p, _, rfl, Sq.or (t := t) hx, a, _, rfl, hS, by omega, fun r H' st r0 r1 => ?_⟩
  have hr' : r.toNat < xs.length := by omega
  exact Sq.ix (t := t) (st.sq hS ne hx) (atI_int (xs := xs) r0 hr') (q _ _ (List.getElem_mem hr') st)
theorem ok_l_far (T : Txt w K mg) : FnOk P w K mg base CX0 2 T.a_l_far T.d_l_far p_l_far spFar := by
  have g_l_pick := ok_l_pick (P := P) (w := w) (base := base) T
  refine T.F_l_far.ok sc_l_far (fun vs H Q E h => ?_) (fun cdv A outer s H vs Q E hr h => ?_)
  · obtain ⟨a, rfl, _⟩ := h
    rfl
  obtain ⟨a, rfl, hS, q⟩ := h
  refine ⟨_, (pss_cons (ps_if (pt_cmpR op_eq (pe_call g_l_pick (hr.mono (by first | decide | omega)) rfl T.m_l_pick T.F_l_pick.kp T.b_l_pick .nil pass0 (pa_cons (pv 0) (pa_cons pe_int pa_nil))) pe_int (nomark _)) (pss_one (ps_ret (pe_op op_mul (pe_op op_sub (pe_call g_l_pick (hr.mono (by first | decide | omega)) rfl T.m_l_pick T.F_l_pick.kp T.b_l_pick .nil pass0 (pa_cons (pv 0) (pa_cons pe_int pa_nil))) pe_int) pe_int))) pss_nil)
      (pss_one (ps_ret (pe_op op_sub (pe_call g_l_pick (hr.mono (by first | decide | omega)) rfl T.m_l_pick T.F_l_pick.kp T.b_l_pick .nil pass0 (pa_cons (pv 0) (pa_cons pe_int pa_nil))) pe_int)))), ?_⟩
  refine ⟨_, rfl, a, 4, rfl, hS, by decide, fun r H1 st r0 r1 => ⟨rfl, _, rfl, ite2 (fun _ => ?_) (fun _ => ?_)⟩⟩
  · refine ⟨_, rfl, a, 2000001, rfl, st.s, by decide, fun r2 H2 st2 r20 r21 => ?_⟩
    refine ⟨_, _, rfl, rfl, _, _, rfl, rfl, .inr ⟨by decide, by decide⟩, ?_⟩
    exact q _ _ (st.trans st2)
  · refine ⟨_, rfl, a, 13, rfl, st.s, by decide, fun r2 H2 st2 r20 r21 => ?_⟩
    refine ⟨_, _, rfl, rfl, ?_⟩
    exact q _ _ (st.trans st2)
end
/-! ### the least box of points (as in Draw28.inc), of none too -/
def spBox (K : PySem.W.Frag) : Sp := fun vs H Q _ => ∃ (p : Addr) (n : Nat) (Ps : List (List Int)), vs = [.ref p] ∧ n ≤ 900 ∧ Mx false true K H p Ps ∧ (∀ r ∈ Ps, r.length = n) ∧ Ps.length ≤ 1000 ∧ ∀ v H', Same H H' → BoxAt K H' v (hull n Ps) → Q v H'
section
variable {P : Program} {w : World} {K : PySem.W.Frag} {mg : Str → Option Value} {base : Heap}
theorem ok_l_box (T : Txt w K mg) : FnOk P w K mg base CX0 1 T.a_l_box T.d_l_box p_l_box (spBox K) := by
  refine T.F_l_box.ok sc_l_box (fun vs H Q E h => ?_) (fun cdv A outer s H vs Q E hr h => ?_)
  · obtain ⟨p, n, Ps, rfl, _⟩ := h
    rfl
  obtain ⟨p, n, Ps, rfl, hn, hM, hl, hz, q⟩ := h
  refine ⟨_, (pss_cons (ps_if (pt_cmpR (op_eqL0 hr.units0) (pv 0) (pe_lst pa_nil) (nomark _)) (pss_one (ps_ret pe_non)) pss_nil)
      (pss_cons (ps_set (i := 1) sc_l_box.nd rfl (Or.inr rfl) (pe_lc (own := [("_law_point", 2)]) (g := gName 2) (tt := tYes) rfl sc_l_box.nd (pi_list (pv 0)) (blkOk_by (own := [("_law_point", 2)]) (N := n_l_box) (sc := defScope s_l_box) (by decide +kernel)) (fun _ _ _ _ _ => (pg_name (i := 2) sc_l_box.nd rfl (Or.inl rfl))) (fun _ _ _ _ _ => pts_nil) (fun _ _ _ _ _ => (pe_op (show OpR _ _ (rCatT K) from op_catT) (pe_tup (pa_cons pe_int pa_nil)) (pv 2)))))
      (pss_cons (ps_set (i := 3) sc_l_box.nd rfl (Or.inl rfl) (pe_lst pa_nil))
      (pss_cons (ps_for PassesOwn.never rfl (pi_range1 rfl T.z_range (pa_cons (pe_callB call_len_seq rfl T.z_len PySem.boot_len (pa_cons (pe_ix ix_list (pv 1) pe_int (fun _ _ => rfl)) pa_nil)) pa_nil)) (pg_name (i := 4) sc_l_box.nd rfl (Or.inr rfl))
        (pss_one (ps_expr (pe_bm PySem.F.plainAttrs_list PySem.F.slot_list_append PySem.F.type_list_append mt_append (pv 3) (pa_cons (pe_callTy call_tuple_of rfl T.z_tuple bt_tuple (pa_cons (pe_lc (own := [("_law_j", 5)]) (g := gName 5) (tt := tYes) rfl sc_l_box.nd (pi_range1 rfl T.z_range (pa_cons (pe_callB call_len_seq rfl T.z_len PySem.boot_len (pa_cons (pe_ix ix_list (pv 1) pe_int (fun _ _ => rfl)) pa_nil)) pa_nil)) (blkOk_by (own := [("_law_j", 5)]) (N := n_l_box) (sc := defScope s_l_box) (by decide +kernel)) (fun _ _ _ _ _ => (pg_name (i := 5) sc_l_box.nd rfl (Or.inr rfl))) (fun _ _ _ _ _ => pts_nil) (fun _ _ _ _ _ => (pe_callB (show CallR _ _ (rMax K) from (cr_max rfl)) rfl T.z_max bb_max (pa_cons (pe_lc (own := [("_law_point", 2)]) (g := gName 2) (tt := tYes) rfl sc_l_box.nd (show PI _ _ _ (iList K _) from (pi_list (pv 1))) (blkOk_by (own := [("_law_point", 2)]) (N := n_l_box) (sc := relS _ (defScope s_l_box)) (by decide +kernel)) (fun _ _ _ _ _ => (pg_name (i := 2) sc_l_box.nd rfl (Or.inl rfl))) (fun _ _ _ _ _ => pts_nil) (fun _ _ _ _ _ => (pe_op op_sub (pe_ix (show IxR _ (rIxT K) from ix_tup) (pv 2) (pv 4) (fun _ _ => rfl)) (pe_ix (show IxR _ (rIxT K) from ix_tup) (pv 2) (pv 5) (fun _ _ => rfl))))) pa_nil)))) pa_nil)) pa_nil)))))
      (pss_one (ps_ret (pe_callTy call_tuple_of rfl T.z_tuple bt_tuple (pa_cons (pv 3) pa_nil)))))))), ?_⟩
  obtain ⟨vs, hv, lv, hrow⟩ := hM.row
  refine ⟨_, rfl, (by show 0 ≤ sizeLine; decide), fun e he => ?_⟩
  have s0 : Same H (upd H e (.lst [])) := Same.new he _
  by_cases hne : Ps = []
  · subst hne
    have z : vs = [] := List.length_eq_zero_iff.mp (by simpa using lv)
    subst z
    exact ⟨p, e, [], rfl, rfl, s0.seq hv, SqL.of upd_same, _, rfl, ifT rfl (q .non _ s0 rfl)⟩
  have nev : vs ≠ [] := fun z => by
    subst z
    exact hne (List.length_eq_zero_iff.mp (by simpa using lv.symm))
  refine ⟨p, e, vs, rfl, rfl, s0.seq hv, SqL.of upd_same, _, rfl, ifF (by cases vs with
    | nil => exact absurd rfl nev
    | cons _ _ => rfl) ?_⟩
  refine ⟨_, rfl, p, rfl, ⟨vs, s0.seq hv⟩, fun D hD => ?_⟩
  refine lc_it (walk_list (xs := vs)) (LcP (Same (upd H e (.lst []))) (RTup K (Ps.map (0 :: ·)) D) D) (lcp_start hD) (fun _ F _ P => P.1.seq (s0.seq hv)) ?_ ?_
  · rintro i x F F' hi P ⟨rfl, ex⟩
    obtain ⟨a, r, rfl, er, ha⟩ := hrow i x ex
    have lr := hl r (List.mem_of_getElem? er)
    have ha1 := Sq.same (s0.trans P.1) ha
    refine ⟨rfl, tyes ?_⟩
    refine ⟨(by show 1 ≤ sizeLine; decide), fun t1 ht1 => ?_⟩
    refine ⟨_, rfl, cat0 (SqT.of upd_same) (Same.tup (Same.new ht1 _) ha1) (by omega) fun z1 Fa sa hz1 => ?_⟩
    obtain ⟨acc, q1, _⟩ := P.acc
    have sa2 := (Same.new ht1 (.tup [.int 0])).trans sa
    exact lcp_same P hD sa2 (lt_line (by omega)) RTup.mono ⟨z1, _, rfl, map_get er, fun F' bu => sqT_but bu (sa2 _ _ q1) hz1⟩
  · intro G P
    have mF : Mx false true K G D (Ps.map (0 :: ·)) := by
      obtain ⟨sG, acc, q1, q2, q3⟩ := P
      exact Mx.of (SqL.of q1) (by rw [q2, List.length_map, lv]) fun j y e => by
        obtain ⟨a, r, e1, e2, e3⟩ := q3 j y e
        exact ⟨a, r, e1, e2, e3 _ (But.of_same (Same.refl _))⟩
    have s1 := s0.trans P.1
    obtain ⟨fs, hf, lf, frow⟩ := mF.row
    rw [List.length_map] at lf
    have rows : ∀ (k : Nat) (x : V), fs[k]? = some x → ∃ (a : Addr) (r : List Int), x = .ref a ∧ Ps[k]? = some r ∧ r.length = n ∧ SqT K G a ((0 :: r).map V.int) := fun k x e => by
      obtain ⟨a, r, e1, e2, e3⟩ := frow k x e
      rw [List.getElem?_map] at e2
      cases e4 : Ps[k]? with
      | none => rw [e4] at e2; cases e2
      | some r0 =>
        rw [e4] at e2
        cases e2
        exact ⟨a, r0, e1, rfl, hl r0 (List.mem_of_getElem? e4), e3⟩
    have pos : 0 < fs.length := by
      rw [lf]
      exact List.length_pos_iff.mpr hne
    have f0 : fs[0]? = some fs[0] := List.getElem?_eq_getElem pos
    obtain ⟨a0, r0, x0, _, l0, h0⟩ := rows 0 _ f0
    rw [x0] at f0
    have len0 : ((0 :: r0).map V.int).length = n + 1 := by rw [List.length_map, List.length_cons, l0]
    refine ⟨(by show 0 ≤ sizeLine; decide), fun pr hpr => ?_⟩
    refine ⟨_, rfl, D, _, 0, _, rfl, rfl, (Same.new hpr _).seq hf, atI_nat (j := 0) f0, a0, _, rfl, .inr (Same.tup (Same.new hpr _) h0), _, rfl, by omega, by rw [len0]; omega, for_range (lo := 0) (fun i σ F => (∃ b c : Option V, σ = [some (.ref p), some (.ref D), none, some (.ref pr), b, c]) ∧ LcP (Same G) (RRow K true (hullM n Ps) pr) pr i F)
      ⟨⟨none, none, rfl⟩, lcp_start hpr⟩ ?_ ?_⟩
    · rintro i σ F hi ⟨⟨b, c, rfl⟩, PF⟩
      rw [len0] at hi
      obtain ⟨acc, a1, a2⟩ := PF.acc
      refine ⟨_, rfl, .inl ⟨rfl, _, SqL.of a1⟩, ?_⟩
      refine ⟨_, rfl, D, _, 0, _, rfl, rfl, PF.1.seq hf, atI_nat (j := 0) f0, a0, _, rfl, .inr (Same.tup PF.1 h0), _, rfl, by omega, by rw [len0]; omega, fun D2 hD2 => ?_⟩
      refine lc_it walk_range (LcP (Same F) (RInt ((List.range (n + 1)).map fun j => lmax (Ps.map (dif i j)))) D2) (lcp_start hD2) (fun _ _ _ _ => trivial) ?_ ?_
      · rintro j x F1 F2 hj P1 ⟨rfl, rfl⟩
        rw [len0] at hj
        have sF := PF.1.trans P1.1
        refine ⟨rfl, tyes ?_⟩
        refine ⟨_, rfl, D, rfl, ⟨fs, sF.seq hf⟩, fun D3 hD3 => ?_⟩
        refine lc_it (walk_list (xs := fs)) (LcP (Same F2) (RInt (Ps.map (dif i j))) D3) (lcp_start hD3) (fun _ F3 _ P3 => (sF.trans P3.1).seq hf) ?_ ?_
        · rintro k x F3 F4 hk P3 ⟨rfl, ex⟩
          obtain ⟨a, r, rfl, er, lr, ha⟩ := rows k x ex
          have ha1 := Same.tup (sF.trans P3.1) ha
          refine ⟨rfl, tyes ?_⟩
          refine ⟨_, rfl, _, rfl, a, _, _, _, rfl, rfl, ha1, atI_row (by simp; omega), _, rfl, _, rfl, a, _, _, _, rfl, rfl, ha1, atI_row (by simp; omega), _, _, rfl, rfl, ?_⟩
          exact lcp_same P3 hD3 (Same.refl _) (lt_line (by omega)) RInt.mono ⟨dif i j r, map_get er, rfl⟩
        · intro F3 P3
          refine ⟨D3, _, rfl, SqL.of (lcp_ints (K := K) P3 (by rw [List.length_map]; exact lf)), List.length_pos_iff.mpr (fun z => hne (List.map_eq_nil_iff.mp z)), fun m hm hx => ?_⟩
          exact lcp_same P1 hD2 P3.1 (lt_line (by omega)) RInt.mono ⟨m, by rw [lmax_eq hm hx]; exact map_get (range_get (by omega)), rfl⟩
      · intro F1 P1
        have ei := lcp_ints (K := K) P1 (by rw [len0]; simp)
        refine ⟨D2, _, rfl, .inl ⟨SqL.of ei, fun t ht => ?_⟩⟩
        have sF := P1.1.trans (Same.new ht (.tup (((List.range (n + 1)).map fun j => lmax (Ps.map (dif i j))).map V.int)))
        have tn : t ≠ pr := fun z => by
          have := P1.1 _ _ a1
          rw [← z, ht] at this
          cases this
        refine ⟨pr, acc, _, rfl, rfl, sF _ _ a1, lt_line (by omega), ⟨_, _, rfl⟩, ?_⟩
        exact lcp_put PF a1 hpr sF (lt_line (by omega)) RRow.mono ⟨t, _, rfl, map_get (range_get (by omega)), tn, Sq.upd_sameT⟩
    · rintro σ F ⟨⟨b, c, rfl⟩, PF⟩
      obtain ⟨as, h1, h2, h3⟩ := lcp_rows PF (by rw [len0]; simp [hullM])
      refine ⟨_, rfl, pr, _, rfl, .inl ⟨h1, fun l hl => ?_⟩⟩
      refine q (.ref l) _ ((s1.trans PF.1).trans (Same.new hl _)) ?_
      unfold hull
      rw [if_neg hne]
      exact ⟨l, rfl, as, Sq.upd_sameT, h2, fun i a r e1 e2 => Sq.same (Same.new hl _) (h3 i a r e1 e2)⟩
end
/-! ### points that are tracked tuples (keys of a dict) -/
def TA (H : Hp) (as : List Addr) (Ps : List (List Int)) : Prop := as.length = Ps.length ∧ ∀ (i : Nat) (a : Addr) (r : List Int), as[i]? = some a → Ps[i]? = some r → H a = some (.tup (r.map V.int))
def TPts (H : Hp) (p : Addr) (Ps : List (List Int)) : Prop := ∃ as : List Addr, H p = some (.lst (as.map V.ref)) ∧ TA H as Ps
theorem TA.same {H H' : Hp} {as : List Addr} {Ps : List (List Int)} (s : Same H H') (h : TA H as Ps) : TA H' as Ps := ⟨h.1, fun i a r e1 e2 => s _ _ (h.2 i a r e1 e2)⟩
theorem TA.pa {K : PySem.W.Frag} {H : Hp} {as : List Addr} {Ps : List (List Int)} (h : TA H as Ps) : PA K H as Ps := ⟨h.1, fun i a r e1 e2 => SqT.of (h.2 i a r e1 e2)⟩
theorem TPts.same {H H' : Hp} {p : Addr} {Ps : List (List Int)} (s : Same H H') (h : TPts H p Ps) : TPts H' p Ps := by
  obtain ⟨as, e, h⟩ := h
  exact ⟨as, s _ _ e, h.same s⟩
theorem TPts.pts {K : PySem.W.Frag} {H : Hp} {p : Addr} {Ps : List (List Int)} (h : TPts H p Ps) : Pts K H p Ps := by
  obtain ⟨as, e, h⟩ := h
  exact h.pa.pts e
theorem TPts.pa {H : Hp} {p : Addr} {Ps : List (List Int)} (h : TPts H p Ps) : ∃ as, H p = some (.lst (as.map V.ref)) ∧ TA H as Ps := h
theorem TPts.nil {H : Hp} {p : Addr} (e : H p = some (.lst [])) : TPts H p [] := ⟨[], e, rfl, fun i a r e1 => by simp at e1⟩
theorem TPts.push {G F : Hp} {L z : Addr} {as : List Addr} {Ps : List (List Int)} {r : List Int} (h : TA G as Ps) (s : Same G F) (e : F L = some (.lst (as.map V.ref))) (hz : F z = some (.tup (r.map V.int))) : TPts (upd F L (.lst (as.map V.ref ++ [.ref z]))) L (Ps ++ [r]) := by
  have ne : ∀ {x : Addr} {xs : List V}, F x = some (.tup xs) → x ≠ L := fun h q => by rw [q, e] at h; cases h
  refine ⟨as ++ [z], by rw [List.map_append]; exact upd_same, by rw [List.length_append, List.length_append, h.1]; rfl, fun i a q e1 e2 => ?_⟩
  by_cases hi : i < as.length
  · rw [List.getElem?_append_left hi] at e1
    rw [List.getElem?_append_left (by rw [← h.1]; exact hi)] at e2
    have := s _ _ (h.2 i a q e1 e2)
    rw [upd_ne (ne this)]
    exact this
  · have e0 : i - as.length = 0 := by
      rw [List.getElem?_append_right (by omega)] at e1
      have := (List.getElem?_eq_some_iff.mp e1).1
      simp at this
      omega
    rw [List.getElem?_append_right (by omega), e0] at e1
    rw [List.getElem?_append_right (by rw [← h.1]; omega), ← h.1, e0] at e2
    cases e1
    cases e2
    rw [upd_ne (ne hz)]
    exact hz
theorem catT {K : PySem.W.Frag} {H : Hp} {t a : Addr} {xs ys : List V} {Q : VK} (h1 : H t = some (.tup xs)) (h2 : H a = some (.tup ys)) (hz : xs.length + ys.length ≤ 1000) (q : ∀ z H', Same H H' → H' z = some (.tup (xs ++ ys)) → Q (.ref z) H') : rCatA K (.ref t) (.ref a) H Q := by
  refine ⟨t, a, xs, ys, rfl, rfl, SqT.of h1, SqT.of h2, Nat.le_of_lt (small1000 hz), fun e => ?_, fun _ e => ?_, fun _ _ p hp => ?_⟩
  · subst e
    exact q a H (Same.refl H) h2
  · subst e
    exact q t H (Same.refl H) (by rw [List.append_nil]; exact h1)
  · exact q p _ (Same.new hp _) upd_same
theorem TA.stp {a : Addr} {H H' : Hp} {as : List Addr} {Ps : List (List Int)} (s : Stp a H H') (hs : Src H a) (h : TA H as Ps) : TA H' as Ps := ⟨h.1, fun i b r e1 e2 => s.k _ _ (fun z => by
  obtain ⟨x, y, z2, e⟩ := hs
  have := h.2 i b r e1 e2
  rw [z, e] at this
  cases this) (h.2 i b r e1 e2)⟩
theorem TPts.stp {a p : Addr} {H H' : Hp} {Ps : List (List Int)} (s : Stp a H H') (hs : Src H a) (ne : p ≠ a) (h : TPts H p Ps) : TPts H' p Ps := by
  obtain ⟨as, e, h⟩ := h
  exact ⟨as, s.k _ _ ne e, h.stp s hs⟩
theorem Mx.stp2 {K : PySem.W.Frag} {a p : Addr} {H H' : Hp} {M : List (List Int)} (s : Stp a H H') (hs : Src H a) (h : Mx true true K H p M) : Mx true true K H' p M := by
  obtain ⟨as, h1, h2, h3⟩ := h
  exact ⟨as, s.rd h1 hs, h2, fun i b r e1 e2 => s.rd (h3 i b r e1 e2) hs⟩
theorem TPts.row {H : Hp} {p : Addr} {Ps : List (List Int)} (h : TPts H p Ps) : ∃ vs : List V, H p = some (.lst vs) ∧ vs.length = Ps.length ∧ ∀ (i : Nat) (v : V), vs[i]? = some v → ∃ (a : Addr) (r : List Int), v = .ref a ∧ Ps[i]? = some r ∧ H a = some (.tup (r.map V.int)) := by
  obtain ⟨as, e, l, h⟩ := h
  refine ⟨as.map V.ref, e, by rw [List.length_map]; exact l, fun i v ev => ?_⟩
  have hi := (List.getElem?_eq_some_iff.mp ev).1
  rw [List.length_map] at hi
  have ea : as[i]? = some as[i] := List.getElem?_eq_getElem hi
  have er : Ps[i]? = some (Ps[i]'(by omega)) := List.getElem?_eq_getElem _
  rw [map_get ea] at ev
  exact ⟨_, _, (Option.some.inj ev).symm, er, h i _ _ ea er⟩
def PR (listed : Bool) (r : List Int) : Prop := ∃ lo hi : Int, r = [lo, hi] ∧ lo ≤ hi ∧ -1000000000000000000 ≤ lo ∧ lo ≤ 1000000000000000000 ∧ (listed = true → hi ≤ lo + 4)
def spGridT (K : PySem.W.Frag) : Sp := fun vs H Q _ => ∃ (q : Addr) (Rs : List (List Int)), vs = [.ref q] ∧ Mx false true K H q Rs ∧ (∀ r ∈ Rs, PR true r) ∧ Rs.length ≤ 3 ∧ ∀ x H', Same H H' → TPts H' x (gridL Rs) → Q (.ref x) H'
theorem grid_len {Rs : List (List Int)} (h : ∀ r ∈ Rs, PR true r) : ∀ i ≤ Rs.length, (gridL (Rs.take i)).length ≤ 5 ^ i
  | 0, _ => by simp [gridL]
  | i + 1, hi => by
    have e : Rs[i]? = some (Rs[i]'(by omega)) := List.getElem?_eq_getElem _
    obtain ⟨lo, hi2, e2, h1, _, _, h3⟩ := h _ (List.getElem_mem (by omega : i < Rs.length))
    have h4 := h3 rfl
    rw [take_snoc e, gridL_app, Nat.pow_succ]
    have ih := grid_len h i (by omega)
    refine Nat.le_trans (gstep_len (m := 5) ?_ _) (Nat.mul_le_mul_right 5 ih)
    rw [e2, valsR_len]
    show (hi2 + 1 - lo).toNat ≤ 5
    omega
section
variable {P : Program} {w : World} {K : PySem.W.Frag} {mg : Str → Option Value} {base : Heap}
theorem ok_l_gridT (T : Txt w K mg) : FnOk P w K mg base CX0 1 T.a_l_grid T.d_l_grid p_l_grid (spGridT K) := by
  refine T.F_l_grid.ok sc_l_grid (fun vs H Q E h => ?_) (fun cdv A outer s H vs Q E hr h => ?_)
  · obtain ⟨q, Rs, rfl, _⟩ := h
    rfl
  obtain ⟨q, Rs, rfl, hR, hPR, lR, k⟩ := h
  refine ⟨_, (pss_cons (ps_set (i := 1) sc_l_grid.nd rfl (Or.inl rfl) (pe_lst (pa_cons (pe_tup pa_nil) pa_nil)))
      (pss_cons (ps_for PassesOwn.never rfl (pi_list (pv 0)) (pg_name (i := 2) sc_l_grid.nd rfl (Or.inl rfl))
        (pss_cons (ps_set (i := 3) sc_l_grid.nd rfl (Or.inl rfl) (pe_lst pa_nil))
      (pss_cons (ps_for PassesOwn.never rfl (pi_list (pv 1)) (pg_name (i := 4) sc_l_grid.nd rfl (Or.inl rfl))
        (pss_one (ps_for PassesOwn.never rfl (pi_range2 rfl T.z_range (pa_cons (pe_ix ix_tup (pv 2) pe_int (fun _ _ => rfl)) (pa_cons (pe_op op_add (pe_ix ix_tup (pv 2) pe_int (fun _ _ => rfl)) pe_int) pa_nil))) (pg_name (i := 5) sc_l_grid.nd rfl (Or.inl rfl))
        (pss_one (ps_expr (pe_bm PySem.F.plainAttrs_list PySem.F.slot_list_append PySem.F.type_list_append mt_append (pv 3) (pa_cons (pe_op op_catA (pv 4) (pe_tup (pa_cons (pv 5) pa_nil))) pa_nil)))))))
      (pss_one (ps_set (i := 1) sc_l_grid.nd rfl (Or.inl rfl) (pe_callTy call_list_of rfl T.z_list bt_list (pa_cons (pv 3) pa_nil)))))))
      (pss_one (ps_ret (pv 1))))), ?_⟩
  obtain ⟨vs, hv, lv, hrow⟩ := hR.row
  refine ⟨(by show 0 ≤ sizeLine; decide), fun t0 ht0 => ?_⟩
  refine ⟨(by show 1 ≤ sizeLine; decide), fun D0 hD0 => ?_⟩
  have s0 : Same H (upd (upd H t0 (.tup [])) D0 (.lst [.ref t0])) := (Same.new ht0 _).trans (Same.new hD0 _)
  have p0 : TPts (upd (upd H t0 (.tup [])) D0 (.lst [.ref t0])) D0 (gridL (Rs.take 0)) := ⟨[t0], upd_same, rfl, fun i a r e1 e2 => by
    cases i with
    | zero =>
      cases e1
      cases e2
      exact Same.new hD0 _ _ _ upd_same
    | succ i => simp at e1⟩
  generalize upd (upd H t0 (.tup [])) D0 (.lst [.ref t0]) = H0 at s0 p0
  refine ⟨_, rfl, q, rfl, ⟨vs, s0.seq hv⟩, ?_⟩
  refine for_it (walk_list (xs := vs)) (fun i σ G => ∃ (x : Addr) (u v z w : Option V), σ = [some (.ref q), some (.ref x), u, v, z, w] ∧ Same H G ∧ TPts G x (gridL (Rs.take i))) ⟨D0, none, none, none, none, rfl, s0, p0⟩ (fun i σ G _ P => by
    obtain ⟨x, u, v, z, w, _, s, _⟩ := P
    exact s.seq hv) ?_ ?_
  · rintro i y σ G G' hi ⟨x, u, v, z, w, rfl, sG, hX⟩ ⟨rfl, ey⟩
    rw [lv] at hi
    obtain ⟨b, r, rfl, er, hb⟩ := hrow i y ey
    obtain ⟨lo, hi2, rfl, hle, lo1, lo2, h3⟩ := hPR r (List.mem_of_getElem? er)
    have hi3 := h3 rfl
    have lX : ∀ p ∈ gridL (Rs.take i), p.length = i := fun p hp => by
      have := ((mem_grid (by omega) p).mp hp).1
      rw [this, List.length_take]
      omega
    have gl := grid_len hPR i (by omega)
    have gl2 : (gridL (Rs.take i)).length ≤ 125 := Nat.le_trans gl (Nat.le_trans (Nat.pow_le_pow_right (by decide) (by omega : i ≤ 3)) (by decide))
    have eT := take_snoc er
    generalize hE : gridL (Rs.take i) = Es at hX lX gl2
    refine ⟨(by show 0 ≤ sizeLine; decide), fun L hL => ?_⟩
    have sL : Same G' (upd G' L (.lst [])) := Same.new hL _
    obtain ⟨ws, hw, lw, wrow⟩ := hX.row
    refine ⟨_, rfl, x, rfl, ⟨ws, SqL.of (sL _ _ hw)⟩, ?_⟩
    have glen := gstep_len (r := [lo, hi2]) (m := 5) (by rw [valsR_len]; show (hi2 + 1 - lo).toNat ≤ 5; omega)
    have gs : ∀ {j : Nat} {p : List Int}, Es[j]? = some p → gstep [lo, hi2] (Es.take (j + 1)) = gstep [lo, hi2] (Es.take j) ++ (valsR lo hi2).map fun v => p ++ [v] := fun {j p} e => by
      unfold gstep
      rw [take_snoc e, List.flatMap_append]
      simp
    refine for_it (walk_list (xs := ws)) (fun j σ F => (∃ z w : Option V, σ = [some (.ref q), some (.ref x), some (.ref b), some (.ref L), z, w]) ∧ Same G' F ∧ TPts F L (gstep [lo, hi2] (Es.take j))) ⟨⟨z, w, rfl⟩, sL, [], upd_same, rfl, fun i a r e => by simp at e⟩ (fun j σ F _ P => SqL.of (P.2.1 _ _ hw)) ?_ ?_
    · rintro j y σ F F' hj ⟨⟨z, w, rfl⟩, sF, pF⟩ ⟨rfl, ey⟩
      rw [lw] at hj
      obtain ⟨t, pt, rfl, ep, ht⟩ := wrow j y ey
      have lpt := lX pt (List.mem_of_getElem? ep)
      have hbF : ∀ {F1 : Hp}, Same G' F1 → SqT K F1 b [.int lo, .int hi2] := fun s => Same.tup (sG.trans s) hb
      refine ⟨_, rfl, b, _, 0, _, rfl, rfl, hbF sF, rfl, _, rfl, b, _, 1, _, rfl, rfl, hbF sF, rfl, _, _, rfl, rfl, ?_⟩
      refine ⟨_, _, rfl, ⟨by omega, by omega, by omega, by omega⟩, for_range (lo := lo) (fun k σ F1 => (∃ y : Option V, σ = [some (.ref q), some (.ref x), some (.ref b), some (.ref L), some (.ref t), y]) ∧ Same G' F1 ∧ TPts F1 L (gstep [lo, hi2] (Es.take j) ++ ((valsR lo hi2).take k).map fun v => pt ++ [v])) ⟨⟨w, rfl⟩, sF, ?_⟩ ?_ ?_⟩
      · rw [List.take_zero]
        show TPts _ L (_ ++ [])
        rw [List.append_nil]
        exact pF
      · rintro k σ F1 hk ⟨⟨y, rfl⟩, sF1, pF1⟩
        have evk := valsR_get hk
        obtain ⟨bs, b1, b2, b3⟩ := id pF1
        have lb : bs.length ≤ 1000 := by
          rw [b2, List.length_append, List.length_map, List.length_take]
          have := glen (Es.take j)
          rw [List.length_take] at this
          omega
        refine ⟨_, rfl, .inl ⟨rfl, _, SqL.of b1⟩, ?_⟩
        refine ⟨_, rfl, _, rfl, (by show 1 ≤ sizeLine; decide), fun t1 ht1 => ?_⟩
        have sT := Same.new ht1 (.tup [V.int (lo + (k : Int))])
        refine catT ((sF1.trans sT) _ _ ht) upd_same (by rw [List.length_map]; show pt.length + 1 ≤ 1000; omega) fun z F2 s2 hz => ?_
        have sF2 := sT.trans s2
        refine ⟨L, _, _, rfl, rfl, sF2 _ _ b1, lt_line (by rw [List.length_map]; omega), ⟨_, rfl⟩, ?_, ?_⟩
        · intro c o e
          rw [upd_ne (ne_of_none e hL)]
          exact sF2 _ _ (sF1 _ _ e)
        · have p2 := TPts.push (r := pt ++ [lo + (k : Int)]) ⟨b2, b3⟩ sF2 (sF2 _ _ b1) (by rw [hz, List.map_append]; rfl)
          rw [take_snoc evk, List.map_append, ← List.append_assoc]
          exact p2
      · rintro σ F1 ⟨⟨y, rfl⟩, sF1, pF1⟩
        rw [← valsR_len, List.take_length, ← gs ep] at pF1
        exact ⟨⟨_, _, rfl⟩, sF1, pF1⟩
    · rintro σ F ⟨⟨z, w, rfl⟩, sF, pF⟩
      rw [lw, List.take_length] at pF
      obtain ⟨as, e1, e2⟩ := pF
      refine ⟨_, rfl, L, _, rfl, .inl (SqL.of e1), fun l hl => ?_⟩
      have sl := Same.new hl (.lst (as.map V.ref))
      refine ⟨l, _, _, _, _, rfl, sG.trans (sF.trans sl), ?_⟩
      rw [eT, gridL_app, hE]
      exact ⟨as, upd_same, e2.same sl⟩
  · rintro σ G ⟨x, u, v, z, w, rfl, sG, hX⟩
    rw [lv, List.take_length] at hX
    exact ⟨_, rfl, k x G sG hX⟩
end
/-! ### a point in a matrix, by chains of comparisons -/
def spBel24 (K : PySem.W.Frag) : Sp := fun vs H Q _ => ∃ (p t : Addr) (M : List (List Int)) (r : List Int), vs = [.ref p, .ref t] ∧ r.length ≤ 900 ∧ Mx true true K H p M ∧ Sz (r.length + 1) M ∧ (∀ i < r.length + 1, getM M i i = 0) ∧ SqT K H t (r.map V.int) ∧
  ∀ b H', Same H H' → (b = true ↔ LeF (r.length + 1) (dfn r) (getM M)) → Q (.bl b) H'
theorem split_lt24 {n : Nat} {c : Nat → Prop} : (∀ i < n + 1, c i) ↔ (∀ i < n, c i) ∧ c n :=
  ⟨fun h => ⟨fun i hi => h i (by omega), h n (by omega)⟩, fun ⟨h1, h2⟩ i hi => by
    by_cases e : i = n
    · rw [e]; exact h2
    · exact h1 i (by omega)⟩
section
variable {P : Program} {w : World} {K : PySem.W.Frag} {mg : Str → Option Value} {base : Heap}
theorem ok_l_belongs (T : Txt w K mg) : FnOk P w K mg base CX0 1 T.a_l_belongs T.d_l_belongs p_l_belongs (spBel24 K) := by
  refine T.F_l_belongs.ok sc_l_belongs (fun vs H Q E h => ?_) (fun cdv A outer s H vs Q E hr h => ?_)
  · obtain ⟨p, t, M, r, rfl, _⟩ := h
    rfl
  obtain ⟨p, t, M, r, rfl, hn, hM, sM, dg, ht, q⟩ := h
  refine ⟨_, (pss_cons (ps_set (i := 2) sc_l_belongs.nd rfl (Or.inl rfl) (pe_op op_catT (pe_tup (pa_cons pe_int pa_nil)) (pv 1)))
      (pss_cons (ps_for PassesOwn.never rfl (pi_range1 rfl T.z_range (pa_cons (pe_callB call_len_seq rfl T.z_len PySem.boot_len (pa_cons (pv 2) pa_nil)) pa_nil)) (pg_name (i := 3) sc_l_belongs.nd rfl (Or.inl rfl))
        (pss_one (ps_for PassesOwn.never rfl (pi_range1 rfl T.z_range (pa_cons (pv 3) pa_nil)) (pg_name (i := 4) sc_l_belongs.nd rfl (Or.inl rfl))
        (pss_one (ps_if (pt_not (pt_chain op_le op_le (pe_op op_sub (pe_ix ix_tup (pv 2) (pv 3) (fun _ _ => rfl)) (pe_ix ix_tup (pe_ix ix_tup (pv 0) (pv 3) (fun _ _ => rfl)) (pv 4) (fun _ _ => rfl))) (pe_ix ix_tup (pv 2) (pv 4) (fun _ _ => rfl)) (pe_op op_add (pe_ix ix_tup (pv 2) (pv 3) (fun _ _ => rfl)) (pe_ix ix_tup (pe_ix ix_tup (pv 0) (pv 4) (fun _ _ => rfl)) (pv 3) (fun _ _ => rfl))))) (pss_one (ps_ret pe_bl)) pss_nil)))))
      (pss_one (ps_ret pe_bl)))), ?_⟩
  generalize hn' : r.length = n at *
  refine ⟨(by show 1 ≤ sizeLine; decide), fun t1 ht1 => ?_⟩
  refine ⟨_, rfl, cat0 (SqT.of upd_same) (Same.tup (Same.new ht1 _) ht) (by omega) fun z F sa hz => ?_⟩
  have sF : Same H F := (Same.new ht1 _).trans sa
  have hMF := hM.same sF
  have l0 : ((0 :: r).map V.int).length = n + 1 := by simp [hn']
  refine ⟨_, rfl, z, _, rfl, .inr hz, _, rfl, by omega, by omega, for_range (lo := 0) (fun i σ G => G = F ∧ (∃ b c : Option V, σ = [some (.ref p), some (.ref t), some (.ref z), b, c]) ∧ ∀ i' < i, ∀ j < i', dif i' j r ≤ getM M i' j ∧ dif j i' r ≤ getM M j i') ⟨rfl, ⟨none, none, rfl⟩, fun i' h => by omega⟩ ?_ ?_⟩
  · rintro i σ G hi ⟨rfl, ⟨b, c, rfl⟩, hA⟩
    rw [l0] at hi
    refine ⟨_, rfl, _, rfl, by omega, by omega, for_range (lo := 0) (fun j σ G' => G' = G ∧ (∃ c : Option V, σ = [some (.ref p), some (.ref t), some (.ref z), some (.int (0 + (i : Int))), c]) ∧ ∀ j' < j, dif i j' r ≤ getM M i j' ∧ dif j' i r ≤ getM M j' i) ⟨rfl, ⟨c, rfl⟩, fun i' h => by omega⟩ ?_ ?_⟩
    · rintro j σ G' hj ⟨rfl, ⟨c', rfl⟩, hB⟩
      have hj2 : j < i := by omega
      obtain ⟨vs1, a1, r1, x1, x2, x3, x4⟩ := hMF.get3 sM (i := i) (j := j) (by omega) (by omega)
      obtain ⟨vs2, a2, r2, y1, y2, y3, y4⟩ := hMF.get3 sM (i := j) (j := i) (by omega) (by omega)
      have eji : dif j i r = -(dif i j r) := by
        unfold dif
        omega
      refine ⟨_, rfl, _, rfl, z, _, _, _, rfl, rfl, hz, atI_row (by simp; omega), ?_⟩
      refine ⟨_, rfl, _, rfl, p, _, _, _, rfl, rfl, x1, (by rw [Int.zero_add]; exact x2), _, rfl, a1, _, _, _, rfl, rfl, x3, (by rw [Int.zero_add]; exact x4), _, _, rfl, rfl, ?_⟩
      refine ⟨_, rfl, _, rfl, z, _, _, _, rfl, rfl, hz, atI_row (by simp; omega), _, _, rfl, rfl, _, rfl, ite2 (fun h1 => ?_) (fun h1 => ?_)⟩
      · refine ⟨_, rfl, _, rfl, z, _, _, _, rfl, rfl, hz, atI_row (by simp; omega), ?_⟩
        refine ⟨_, rfl, _, rfl, p, _, _, _, rfl, rfl, y1, (by rw [Int.zero_add]; exact y2), _, rfl, a2, _, _, _, rfl, rfl, y3, (by rw [Int.zero_add]; exact y4), _, _, rfl, rfl, _, _, rfl, rfl, _, rfl, ?_⟩
        have g1 : (0 :: r).getD i 0 - getM M i j ≤ (0 :: r).getD j 0 := of_decide_eq_true h1
        refine ite2 (fun h => ?_) (fun h => ?_)
        · refine q _ _ sF ⟨fun z => Bool.noConfusion z, fun z => ?_⟩
          have g2 := z j (by omega) i (by omega)
          have g3 : ¬ ((0 :: r).getD j 0 ≤ (0 :: r).getD i 0 + getM M j i) := fun y => by
            rw [decide_eq_true y] at h
            exact absurd h (by decide)
          exact absurd (by show (0 :: r).getD j 0 ≤ _; have : (0 :: r).getD j 0 - (0 :: r).getD i 0 ≤ getM M j i := g2; omega) g3
        · have g3 : (0 :: r).getD j 0 ≤ (0 :: r).getD i 0 + getM M j i := by
            by_cases y : (0 :: r).getD j 0 ≤ (0 :: r).getD i 0 + getM M j i
            · exact y
            · exact absurd (by rw [decide_eq_false y]; rfl) h
          refine ⟨rfl, ⟨_, rfl⟩, split_lt24.mpr ⟨hB, ?_⟩⟩
          unfold dif
          omega
      · refine ⟨_, rfl, ifT rfl ?_⟩
        have g1 : ¬ ((0 :: r).getD i 0 - getM M i j ≤ (0 :: r).getD j 0) := fun y => h1 (decide_eq_true y)
        refine q _ _ sF ⟨fun z => Bool.noConfusion z, fun z => ?_⟩
        have g2 : (0 :: r).getD i 0 - (0 :: r).getD j 0 ≤ getM M i j := z i (by omega) j (by omega)
        omega
    · rintro σ G' ⟨rfl, ⟨c', rfl⟩, hB⟩
      refine ⟨rfl, ⟨_, _, rfl⟩, split_lt24.mpr ⟨hA, fun j hj => hB j (by omega)⟩⟩
  · rintro σ G ⟨rfl, ⟨b, c, rfl⟩, hA⟩
    rw [l0] at hA
    refine q _ _ sF ⟨fun _ i hi j hj => ?_, fun _ => rfl⟩
    rcases Nat.lt_trichotomy i j with h | h | h
    · exact (hA j (by omega) i h).2
    · subst h
      rw [dg i hi]
      show dif i i r ≤ 0
      unfold dif
      omega
    · exact (hA i (by omega) j h).1
end
/-! ### points drawn: columns shown and moved -/
def kap (S : List Int) : Nat → Nat
  | 0 => 0
  | k + 1 => (S.getD k 0 + 1).toNat
def shf (S T p : List Int) : List Int := mkR S.length fun k => xc p (kap S (k + 1)) + T.getD k 0
def tup (T : List Int) : Nat → Int
  | 0 => 0
  | k + 1 => T.getD k 0
theorem shf_len {S T p : List Int} : (shf S T p).length = S.length := mkR_len
theorem shf_xc {S T p : List Int} {a : Nat} (ha : a < S.length + 1) : xc (shf S T p) a = xc p (kap S a) + tup T a := by
  cases a with
  | zero => rfl
  | succ k =>
    rw [xc_succ, List.getD_eq_getElem?_getD]
    unfold shf
    rw [mkR_at (by omega)]
    rfl
theorem xc_at {r : List Int} {n i : Nat} (l : r.length = n) (hi : i < n + 1) : atI ((0 :: r).map V.int) (i : Int) = some (.int (xc r i)) := atI_nat (map_get (by
  unfold xc
  rw [List.getD_eq_getElem?_getD, List.getElem?_eq_getElem (by rw [List.length_cons]; omega)]
  rfl))
theorem full_shf {n : Nat} {S T : List Int} {B : List (List Int)} (f : Full n B) (hS : ∀ k < S.length + 1, kap S k < n + 1) : Full S.length (B.map (shf S T)) := by
  refine ⟨fun r hr => ?_, fun ne q lq hq => ?_⟩
  · obtain ⟨p, _, rfl⟩ := List.mem_map.mp hr
    exact shf_len
  · have nB : B ≠ [] := fun z => by
      rw [z] at ne
      exact ne rfl
    have hz : ∀ a < S.length + 1, ∀ b < S.length + 1, (xc q a - tup T a) - (xc q b - tup T b) ≤ getM (hullM n B) (kap S a) (kap S b) := fun a ha b hb => by
      have h1 := hq a ha b hb
      obtain ⟨r, hr, e⟩ := hull_at (n := S.length) ne ha hb
      obtain ⟨p, hp, rfl⟩ := List.mem_map.mp hr
      have h2 := hull_le (n := n) (hS a ha) (hS b hb) hp
      rw [← e] at h1
      unfold dfn at h1
      rw [dif_xc, dif_xc, shf_xc ha, shf_xc hb] at h1
      rw [dif_xc] at h2
      omega
    obtain ⟨y, y1, y2, _⟩ := extend (m := S.length) (κ := kap S) (z := fun a => xc q a - tup T a) (hull_clo nB) hS hz
    have y0 : y 0 = 0 := y1 0 (by omega)
    have hm := ptOf_in f nB y0 y2
    refine List.mem_map.mpr ⟨_, hm, xc_ext (n := S.length) shf_len lq fun a ha => ?_⟩
    rw [shf_xc ha, ptOf_xc y0 (hS a ha), y1 a ha]
    omega
open Classical in
noncomputable def inL (n : Nat) (M : List (List Int)) (q : List Int) : Bool := decide (LeF (n + 1) (dfn q) (getM M))
open Classical in
theorem inL_iff {n : Nat} {M : List (List Int)} {q : List Int} : inL n M q = true ↔ LeF (n + 1) (dfn q) (getM M) := by
  unfold inL
  exact decide_eq_true_iff
theorem rep_getD {n k : Nat} {r : List Int} (hk : k < n) : (List.replicate n r).getD k [] = r := by
  rw [List.getD_eq_getElem?_getD, List.getElem?_replicate, if_pos hk]
  rfl
theorem grid_rep {n : Nat} {w : Int} {p : List Int} : p ∈ gridL (List.replicate n [0, w]) ↔ p.length = n ∧ ∀ k < n, 0 ≤ p.getD k 0 ∧ p.getD k 0 ≤ w := by
  have h := mem_grid (Rs := List.replicate n [0, w]) (Nat.le_refl _) p
  rw [List.take_length] at h
  rw [h]
  unfold InR
  rw [List.length_replicate]
  refine and_congr Iff.rfl ⟨fun g k hk => ?_, fun g k hk => ?_⟩
  · have := g k hk
    rw [rep_getD hk] at this
    exact this
  · rw [rep_getD hk]
    exact g k hk
theorem base_full {n : Nat} {w : Int} {Ss : List (List Int)} (ne : Ss ≠ []) (hs : ∀ s ∈ Ss, s ∈ gridL (List.replicate n [0, w])) :
    Full n ((gridL (List.replicate n [0, w])).filter (inL n (hullM n Ss))) ∧ ∀ s ∈ Ss, s ∈ (gridL (List.replicate n [0, w])).filter (inL n (hullM n Ss)) := by
  have sub : ∀ s ∈ Ss, s ∈ (gridL (List.replicate n [0, w])).filter (inL n (hullM n Ss)) := fun s h => List.mem_filter.mpr ⟨hs s h, inL_iff.mpr fun a ha b hb => hull_le ha hb h⟩
  refine ⟨⟨fun r hr => (grid_rep.mp (List.mem_filter.mp hr).1).1, fun nB p lp hp => ?_⟩, sub⟩
  have e := hull_between (n := n) sub ne fun q hq => inL_iff.mp (List.mem_filter.mp hq).2
  rw [hull_some ne, hull_some nB] at e
  rw [← Option.some.inj e] at hp
  refine List.mem_filter.mpr ⟨grid_rep.mpr ⟨lp, fun k hk => ?_⟩, inL_iff.mpr hp⟩
  have up := hp (k + 1) (by omega) 0 (by omega)
  have dn := hp 0 (by omega) (k + 1) (by omega)
  obtain ⟨r1, hr1, e1⟩ := hull_at (n := n) ne (show k + 1 < n + 1 by omega) (show 0 < n + 1 by omega)
  obtain ⟨r2, hr2, e2⟩ := hull_at (n := n) ne (show 0 < n + 1 by omega) (show k + 1 < n + 1 by omega)
  have g1 := (grid_rep.mp (hs r1 hr1)).2 k hk
  have g2 := (grid_rep.mp (hs r2 hr2)).2 k hk
  rw [← e1] at up
  rw [← e2] at dn
  have up' : p.getD k 0 - 0 ≤ r1.getD k 0 - 0 := up
  have dn' : 0 - p.getD k 0 ≤ 0 - r2.getD k 0 := dn
  omega
theorem part_full {n : Nat} {p1 p2 : List Int} {Ps : List (List Int)} (f : Full n Ps) (h1 : p1 ∈ Ps) (h2 : p2 ∈ Ps) :
    Full n (Ps.filter (inL n (hullM n [p1, p2]))) ∧ p1 ∈ Ps.filter (inL n (hullM n [p1, p2])) := by
  have sub : ∀ s ∈ [p1, p2], s ∈ Ps.filter (inL n (hullM n [p1, p2])) := fun s h => List.mem_filter.mpr ⟨by
    simp only [List.mem_cons, List.not_mem_nil, or_false] at h
    rcases h with rfl | rfl
    · exact h1
    · exact h2, inL_iff.mpr fun a ha b hb => hull_le ha hb h⟩
  refine ⟨⟨fun r hr => f.len r (List.mem_filter.mp hr).1, fun nB p lp hp => ?_⟩, sub p1 (by simp)⟩
  have ne : [p1, p2] ≠ [] := by simp
  have nP : Ps ≠ [] := fun z => by rw [z] at h1; simp at h1
  have e := hull_between (n := n) sub ne fun q hq => inL_iff.mp (List.mem_filter.mp hq).2
  rw [hull_some ne, hull_some nB] at e
  rw [← Option.some.inj e] at hp
  refine List.mem_filter.mpr ⟨f.al nP p lp fun a ha b hb => ?_, inL_iff.mpr hp⟩
  obtain ⟨r, hr, er⟩ := hull_at (n := n) ne ha hb
  have g1 := hp a ha b hb
  have g2 : dif a b r ≤ getM (hullM n Ps) a b := hull_le ha hb (List.mem_filter.mp (sub r hr)).1
  rw [← er] at g1
  exact Int.le_trans g1 g2
/-! ### joining least boxes -/
theorem zw_map {α β γ δ : Type} {f : β → γ → δ} {g : α → β} {h : α → γ} : ∀ l : List α, List.zipWith f (l.map g) (l.map h) = l.map fun x => f (g x) (h x)
  | [] => rfl
  | x :: l => by simp [zw_map l]
theorem joinM_hull {n : Nat} {Ps Qs : List (List Int)} (h1 : Ps ≠ []) (h2 : Qs ≠ []) : joinM (hullM n Ps) (hullM n Qs) = hullM n (Ps ++ Qs) := by
  unfold joinM hullM
  rw [zw_map]
  refine List.map_congr_left fun i _ => ?_
  rw [zw_map]
  refine List.map_congr_left fun j _ => ?_
  rw [List.map_append, lmax_append (fun z => h1 (List.map_eq_nil_iff.mp z)) (fun z => h2 (List.map_eq_nil_iff.mp z))]
theorem hull_append (n : Nat) (Ps Qs : List (List Int)) : joinB (hull n Ps) (hull n Qs) = hull n (Ps ++ Qs) := by
  unfold hull
  by_cases h1 : Ps = []
  · subst h1
    rw [if_pos rfl]
    rfl
  · rw [if_neg h1, if_neg (show Ps ++ Qs ≠ [] from fun z => h1 (List.append_eq_nil_iff.mp z).1)]
    by_cases h2 : Qs = []
    · subst h2
      rw [if_pos rfl, List.append_nil]
      rfl
    · rw [if_neg h2]
      show some (joinM _ _) = _
      rw [joinM_hull h1 h2]
/-! ### law k26: what an expression leaves of the points of a box -/
open Classical in
noncomputable def fill (n : Nat) (Ps A : List (List Int)) : List (List Int) := if A = [] then [] else Ps.filter (inL n (hullM n A))
theorem fill_full {n : Nat} {Ps A : List (List Int)} (f : Full n Ps) (sA : ∀ r ∈ A, r ∈ Ps) : Full n (fill n Ps A) ∧ hull n (fill n Ps A) = hull n A ∧ (∀ r ∈ A, r ∈ fill n Ps A) ∧ ∀ r ∈ fill n Ps A, r ∈ Ps := by
  unfold fill
  by_cases ne : A = []
  · rw [if_pos ne, ne]
    exact ⟨full_nil, rfl, fun r hr => by simp at hr, fun r hr => by simp at hr⟩
  rw [if_neg ne]
  have sub : ∀ s ∈ A, s ∈ Ps.filter (inL n (hullM n A)) := fun s h => List.mem_filter.mpr ⟨sA s h, inL_iff.mpr fun a ha b hb => hull_le ha hb h⟩
  have e := hull_between (n := n) sub ne fun q hq => inL_iff.mp (List.mem_filter.mp hq).2
  refine ⟨⟨fun r hr => f.len r (List.mem_filter.mp hr).1, fun nB p lp hp => ?_⟩, e.symm, sub, fun r hr => (List.mem_filter.mp hr).1⟩
  obtain ⟨s0, h0⟩ := List.exists_mem_of_ne_nil _ ne
  have nP : Ps ≠ [] := List.ne_nil_of_mem (sA s0 h0)
  rw [hull_some ne, hull_some nB] at e
  rw [← Option.some.inj e] at hp
  refine List.mem_filter.mpr ⟨f.al nP p lp fun a ha b hb => ?_, inL_iff.mpr hp⟩
  obtain ⟨r, hr, er⟩ := hull_at (n := n) ne ha hb
  have g1 := hp a ha b hb
  have g2 : dif a b r ≤ getM (hullM n Ps) a b := hull_le ha hb (sA r hr)
  rw [← er] at g1
  exact Int.le_trans g1 g2
/-- comparisons -/
inductive Co where
  | lt | le | eq | ne
deriving DecidableEq
def Co.s : Co → Str
  | .lt => "<"
  | .le => "<="
  | .eq => "=="
  | .ne => "!="
def Co.ap : Co → Int → Int → Bool
  | .lt, x, y => decide (x < y)
  | .le, x, y => decide (x ≤ y)
  | .eq, x, y => decide (x = y)
  | .ne, x, y => decide (x ≠ y)
/-- references -/
inductive Rf where
  | null | var (z : Str)
/-- flag expressions -/
inductive Fl where
  | flag (b : Bool) | var (z : Str) | same (r s : Rf) | cmp (o : Co) (a b : Ef) | not (a : Fl) | and (a b : Fl) | or (a b : Fl)
noncomputable def cmpL (n : Nat) (F : Fm) (o : Co) (w : Bool) (Ps : List (List Int)) : List (List Int) :=
  match o, w with
  | .lt, true => amL n (mkR n F.c) F.lo (-1) Ps
  | .lt, false => alL n (mkR n F.c) F.hi 0 Ps
  | .le, true => amL n (mkR n F.c) F.lo 0 Ps
  | .le, false => alL n (mkR n F.c) F.hi 1 Ps
  | .eq, true => alL n (mkR n F.c) F.hi 0 (amL n (mkR n F.c) F.lo 0 Ps)
  | .ne, false => alL n (mkR n F.c) F.hi 0 (amL n (mkR n F.c) F.lo 0 Ps)
  | .eq, false => fill n Ps (amL n (mkR n F.c) F.lo (-1) Ps ++ alL n (mkR n F.c) F.hi 1 Ps)
  | .ne, true => fill n Ps (amL n (mkR n F.c) F.lo (-1) Ps ++ alL n (mkR n F.c) F.hi 1 Ps)
theorem al_full {n : Nat} {cs : List Int} {hi least : Int} {Ps : List (List Int)} (f : Full n Ps) (ln : cs.length = n) : Full n (alL n cs hi least Ps) := am_full f (by rw [List.length_map]; exact ln)
theorem al_sub {n : Nat} {cs : List Int} {hi least : Int} {Ps : List (List Int)} : ∀ r ∈ alL n cs hi least Ps, r ∈ Ps := am_sub
theorem cmp_ok {n : Nat} {F : Fm} {Ps : List (List Int)} (f : Full n Ps) (o : Co) (w : Bool) : Full n (cmpL n F o w Ps) ∧ ∀ r ∈ cmpL n F o w Ps, r ∈ Ps := by
  have ln : (mkR n F.c).length = n := mkR_len
  have fl : Full n (fill n Ps (amL n (mkR n F.c) F.lo (-1) Ps ++ alL n (mkR n F.c) F.hi 1 Ps)) ∧ ∀ r ∈ fill n Ps (amL n (mkR n F.c) F.lo (-1) Ps ++ alL n (mkR n F.c) F.hi 1 Ps), r ∈ Ps := by
    have := fill_full f (A := amL n (mkR n F.c) F.lo (-1) Ps ++ alL n (mkR n F.c) F.hi 1 Ps) fun r hr => by
      rcases List.mem_append.mp hr with h | h
      · exact am_sub r h
      · exact al_sub r h
    exact ⟨this.1, this.2.2.2⟩
  have eq : Full n (alL n (mkR n F.c) F.hi 0 (amL n (mkR n F.c) F.lo 0 Ps)) ∧ ∀ r ∈ alL n (mkR n F.c) F.hi 0 (amL n (mkR n F.c) F.lo 0 Ps), r ∈ Ps := ⟨al_full (am_full f ln) ln, fun r hr => am_sub r (al_sub r hr)⟩
  cases o <;> cases w
  · exact ⟨al_full f ln, al_sub⟩
  · exact ⟨am_full f ln, am_sub⟩
  · exact ⟨al_full f ln, al_sub⟩
  · exact ⟨am_full f ln, am_sub⟩
  · exact fl
  · exact eq
  · exact eq
  · exact fl
noncomputable def dfm (N : List Str) (κ : Str → Int) (n : Nat) (Ps : List (List Int)) (a b : Ef) : Fm := (fm N κ n Ps a).add ((fm N κ n Ps b).times (-1))
/-- what the flags and the references stand for -/
structure Env26 where
  f : Str → Bool
  r : Str → V
def Env26.rv (E : Env26) : Rf → V
  | .null => .non
  | .var z => E.r z
noncomputable def asmL (E : Env26) (N : List Str) (κ : Str → Int) (n : Nat) : Fl → Bool → List (List Int) → List (List Int)
  | .flag b, w, Ps => if b = w then Ps else []
  | .var z, w, Ps => if E.f z = w then Ps else []
  | .same r s, w, Ps => if decide (E.rv r = E.rv s) = w then Ps else []
  | .cmp o a b, w, Ps => if Ps = [] then [] else cmpL n (dfm N κ n Ps a b) o w Ps
  | .not a, w, Ps => asmL E N κ n a (!w) Ps
  | .and a b, true, Ps => asmL E N κ n b true (asmL E N κ n a true Ps)
  | .and a b, false, Ps => fill n Ps (asmL E N κ n a false Ps ++ asmL E N κ n b false Ps)
  | .or a b, false, Ps => asmL E N κ n b false (asmL E N κ n a false Ps)
  | .or a b, true, Ps => fill n Ps (asmL E N κ n a true Ps ++ asmL E N κ n b true Ps)
theorem asm_ok {E : Env26} {N : List Str} {κ : Str → Int} {n : Nat} (e : Fl) : ∀ {w : Bool} {Ps : List (List Int)}, Full n Ps → Full n (asmL E N κ n e w Ps) ∧ ∀ r ∈ asmL E N κ n e w Ps, r ∈ Ps := by
  have ifs : ∀ (c : Prop) [Decidable c] {Ps : List (List Int)}, Full n Ps → Full n (if c then Ps else []) ∧ ∀ r ∈ (if c then Ps else []), r ∈ Ps := fun c _ {Ps} f => by
    split
    · exact ⟨f, fun r h => h⟩
    · exact ⟨full_nil, fun r h => by simp at h⟩
  induction e with
  | flag b => intro w Ps f; exact ifs _ f
  | var z => intro w Ps f; exact ifs _ f
  | same r s => intro w Ps f; exact ifs _ f
  | cmp o a b =>
    intro w Ps f
    unfold asmL
    split
    · exact ⟨full_nil, fun r h => by simp at h⟩
    · exact cmp_ok f o w
  | not a ih => intro w Ps f; exact ih f
  | and a b iha ihb =>
    intro w Ps f
    cases w with
    | true =>
      have h1 := iha (w := true) f
      have h2 := ihb (w := true) h1.1
      exact ⟨h2.1, fun r hr => h1.2 r (h2.2 r hr)⟩
    | false =>
      have h := fill_full f (A := asmL E N κ n a false Ps ++ asmL E N κ n b false Ps) fun r hr => by
        rcases List.mem_append.mp hr with h | h
        · exact (iha f).2 r h
        · exact (ihb f).2 r h
      exact ⟨h.1, h.2.2.2⟩
  | or a b iha ihb =>
    intro w Ps f
    cases w with
    | false =>
      have h1 := iha (w := false) f
      have h2 := ihb (w := false) h1.1
      exact ⟨h2.1, fun r hr => h1.2 r (h2.2 r hr)⟩
    | true =>
      have h := fill_full f (A := asmL E N κ n a true Ps ++ asmL E N κ n b true Ps) fun r hr => by
        rcases List.mem_append.mp hr with h | h
        · exact (iha f).2 r h
        · exact (ihb f).2 r h
      exact ⟨h.1, h.2.2.2⟩
/-! ### law k26: assume, the program -/
def RfAt (K : PySem.W.Frag) (H : Hp) : Rf → V → Prop
  | .null, v => ∃ p, v = .ref p ∧ SqT K H p [.str "null"]
  | .var z, v => ∃ p, v = .ref p ∧ SqT K H p [.str "name", .str z]
def FlAt (K : PySem.W.Frag) (H : Hp) : Fl → V → Prop
  | .flag b, v => ∃ p, v = .ref p ∧ SqT K H p [.str "flag", .bl b]
  | .var z, v => ∃ p, v = .ref p ∧ SqT K H p [.str "name", .str z]
  | .same r s, v => ∃ p x y, v = .ref p ∧ SqT K H p [.str "same", x, y] ∧ RfAt K H r x ∧ RfAt K H s y
  | .cmp o a b, v => ∃ p x y, v = .ref p ∧ SqT K H p [.str o.s, x, y] ∧ EfAt K H a x ∧ EfAt K H b y
  | .not a, v => ∃ p x, v = .ref p ∧ SqT K H p [.str "not", x] ∧ FlAt K H a x
  | .and a b, v => ∃ p x y, v = .ref p ∧ SqT K H p [.str "and", x, y] ∧ FlAt K H a x ∧ FlAt K H b y
  | .or a b, v => ∃ p x y, v = .ref p ∧ SqT K H p [.str "or", x, y] ∧ FlAt K H a x ∧ FlAt K H b y
theorem RfAt.keep {K : PySem.W.Frag} {H H' : Hp} (k : KeepT K H H') : ∀ {r : Rf} {v : V}, RfAt K H r v → RfAt K H' r v
  | .null, _, ⟨p, e, h⟩ => ⟨p, e, k _ _ h⟩
  | .var _, _, ⟨p, e, h⟩ => ⟨p, e, k _ _ h⟩
theorem FlAt.keep {K : PySem.W.Frag} {H H' : Hp} (k : KeepT K H H') : ∀ {e : Fl} {v : V}, FlAt K H e v → FlAt K H' e v
  | .flag _, _, ⟨p, e, h⟩ => ⟨p, e, k _ _ h⟩
  | .var _, _, ⟨p, e, h⟩ => ⟨p, e, k _ _ h⟩
  | .same _ _, _, ⟨p, x, y, e, h, q, r⟩ => ⟨p, x, y, e, k _ _ h, q.keep k, r.keep k⟩
  | .cmp _ _ _, _, ⟨p, x, y, e, h, q, r⟩ => ⟨p, x, y, e, k _ _ h, q.keep k, r.keep k⟩
  | .not _, _, ⟨p, x, e, h, q⟩ => ⟨p, x, e, k _ _ h, FlAt.keep k q⟩
  | .and _ _, _, ⟨p, x, y, e, h, q, r⟩ => ⟨p, x, y, e, k _ _ h, FlAt.keep k q, FlAt.keep k r⟩
  | .or _ _, _, ⟨p, x, y, e, h, q, r⟩ => ⟨p, x, y, e, k _ _ h, FlAt.keep k q, FlAt.keep k r⟩
theorem FlAt.same {K : PySem.W.Frag} {H H' : Hp} (s : Same H H') {e : Fl} {v : V} (h : FlAt K H e v) : FlAt K H' e v := h.keep fun _ _ q => Same.tup s q
def Rf.ok (SR : List Str) : Rf → Prop
  | .null => True
  | .var z => z ∈ SR
def Fl.ok (S SF SR : List Str) : Nat → Fl → Prop
  | 0, _ => False
  | _ + 1, .flag _ => True
  | _ + 1, .var z => z ∈ SF
  | _ + 1, .same r s => r.ok SR ∧ s.ok SR
  | _ + 1, .cmp _ a b => a.ok S 3 ∧ b.ok S 3
  | m + 1, .not a => a.ok S SF SR m
  | m + 1, .and a b => a.ok S SF SR m ∧ b.ok S SF SR m
  | m + 1, .or a b => a.ok S SF SR m ∧ b.ok S SF SR m
structure Kv26 (kvs : List (Key × V)) (N S SF SR : List Str) (κ : Str → Int) (E : Env26) : Prop where
  k : ∀ z ∈ S, z ∉ N → valV kvs (Sum.inr z) = some (.int (κ z))
  b : ∀ z, -1000000000000 ≤ κ z ∧ κ z ≤ 1000000000000
  f : ∀ z ∈ SF, valV kvs (Sum.inr z) = some (.bl (E.f z))
  r : ∀ z ∈ SR, valV kvs (Sum.inr z) = some (E.r z) ∧ (E.r z = .non ∨ ∃ i, E.r z = .int i)
theorem DGet.at {H : Hp} {d : Addr} {kvs : List (Key × V)} {k : Key} {v : V} (h : H d = some (.dK kvs)) (e : valV kvs k = some v) : DGet H d (kV k) (some v) := by
  rw [← e]
  exact DGet.k (k := k) h
def Flat2 (x : V) : Prop := x = .non ∨ ∃ i, x = .int i
def spApS : Sp := fun vs H Q _ => ∃ (x y : V), vs = [.str "same", x, y] ∧ Flat2 x ∧ Flat2 y ∧ Q (.bl (decide (x = y))) H
def spEvR (K : PySem.W.Frag) : Sp := fun vs H Q _ => ∃ (v : V) (d : Addr) (r : Rf) (kvs : List (Key × V)) (SR : List Str) (E : Env26), vs = [v, .ref d] ∧ RfAt K H r v ∧ r.ok SR ∧ H d = some (.dK kvs) ∧ (∀ z ∈ SR, valV kvs (Sum.inr z) = some (E.r z) ∧ Flat2 (E.r z)) ∧ Q (E.rv r) H
def leafV (E : Env26) : Fl → Option Bool
  | .flag b => some b
  | .var z => some (E.f z)
  | .same r s => some (decide (E.rv r = E.rv s))
  | _ => none
def spEvF (K : PySem.W.Frag) : Sp := fun vs H Q _ => ∃ (v : V) (d : Addr) (e : Fl) (kvs : List (Key × V)) (N S SF SR : List Str) (κ : Str → Int) (E : Env26) (m : Nat) (b : Bool), vs = [v, .ref d] ∧ FlAt K H e v ∧ e.ok S SF SR m ∧ H d = some (.dK kvs) ∧ Kv26 kvs N S SF SR κ E ∧ leafV E e = some b ∧ Q (.bl b) H
def spCmp26 (K : PySem.W.Frag) : Sp := fun vs H Q _ => ∃ (o : Co) (w : Bool) (vb : V) (f : Addr) (F : Fm) (n e : Nat) (Ps : List (List Int)), vs = [.str o.s, .bl w, vb, .ref f] ∧ n ≤ 60 ∧ FmAt K H f n F ∧ FmB e n F ∧ F.lo ≤ F.hi ∧ e ≤ 8000 ∧ BoxAt K H vb (hull n Ps) ∧ Full n Ps ∧ PtB Ps ∧
  ∀ v' H', Same H H' → BoxAt K H' v' (hull n (cmpL n F o w Ps)) → Q v' H'
def spAsm (K : PySem.W.Frag) (m : Nat) : Sp := fun vs H Q _ => ∃ (v : V) (w : Bool) (dk nt : Addr) (vb : V) (fl : Fl) (kvs : List (Key × V)) (N S SF SR : List Str) (κ : Str → Int) (E : Env26) (n : Nat) (Ps : List (List Int)), vs = [v, .bl w, .ref dk, .ref nt, vb] ∧ n ≤ 60 ∧ FlAt K H fl v ∧ fl.ok S SF SR m ∧ H dk = some (.dK kvs) ∧
  Kv26 kvs N S SF SR κ E ∧ NtAt K H nt N ∧ N.length ≤ n ∧ BoxAt K H vb (hull n Ps) ∧ Full n Ps ∧ PtB Ps ∧ ∀ v' H', Same H H' → BoxAt K H' v' (hull n (asmL E N κ n fl w Ps)) → Q v' H'
def spPair26 (K : PySem.W.Frag) (m : Nat) : Sp := fun vs H Q _ => ∃ (v : V) (w : Bool) (dk nt : Addr) (vb : V) (fl a b : Fl) (kvs : List (Key × V)) (N S SF SR : List Str) (κ : Str → Int) (E : Env26) (n : Nat) (Ps : List (List Int)), vs = [v, .bl w, .ref dk, .ref nt, vb] ∧ n ≤ 60 ∧ FlAt K H fl v ∧ (fl = .and a b ∨ fl = .or a b) ∧ a.ok S SF SR m ∧ b.ok S SF SR m ∧ H dk = some (.dK kvs) ∧
  Kv26 kvs N S SF SR κ E ∧ NtAt K H nt N ∧ N.length ≤ n ∧ BoxAt K H vb (hull n Ps) ∧ Full n Ps ∧ PtB Ps ∧ ∀ v' H', Same H H' → BoxAt K H' v' (hull n (asmL E N κ n fl w Ps)) → Q v' H'
theorem Env26.flat {E : Env26} {SR : List Str} (h : ∀ z ∈ SR, Flat2 (E.r z)) : ∀ {r : Rf}, r.ok SR → Flat2 (E.rv r)
  | .null, _ => .inl rfl
  | .var z, hz => h z hz
section
variable {P : Program} {w : World} {K : PySem.W.Frag} {mg : Str → Option Value} {base : Heap}
theorem ok_apply (T : Txt w K mg) : FnOk P w K mg base CX0 1 T.a_apply T.d_apply p_apply spApS := by
  refine T.F_apply.ok sc_apply (fun vs H Q E h => ?_) (fun cdv A outer s H vs Q E hr h => ?_)
  · obtain ⟨x, y, rfl, _⟩ := h
    rfl
  obtain ⟨x, y, rfl, hx, hy, q⟩ := h
  refine ⟨_, (pss_cons (ps_if (pt_cmpR op_eq (pv 0) pe_str (nomark _)) (pss_one (ps_ret (pe_op op_add (pv 1) (pv 2)))) pss_nil)
      (pss_cons (ps_if (pt_cmpR op_eq (pv 0) pe_str (nomark _)) (pss_one (ps_ret (pe_op op_sub (pv 1) (pv 2)))) pss_nil)
      (pss_cons (ps_if (pt_cmpR op_eq (pv 0) pe_str (nomark _)) (pss_one (ps_ret (pe_op op_mulW (pv 1) (pv 2)))) pss_nil)
      (pss_cons (ps_if (pt_cmpR op_eq (pv 0) pe_str (nomark _)) (pss_one (ps_ret (pe_cmpR op_lt (pv 1) (pv 2) (nomark _)))) pss_nil)
      (pss_cons (ps_if (pt_cmpR op_eq (pv 0) pe_str (nomark _)) (pss_one (ps_ret (pe_cmpR op_le (pv 1) (pv 2) (nomark _)))) pss_nil)
      (pss_cons (ps_if (pt_cmpR op_eq (pv 0) pe_str (nomark _)) (pss_one (ps_ret (pe_and (pv 1) (pe_one (pv 2))))) pss_nil)
      (pss_cons (ps_if (pt_cmpR op_eq (pv 0) pe_str (nomark _)) (pss_one (ps_ret (pe_or (pv 1) (pe_one (pv 2))))) pss_nil)
      (pss_one (ps_ret (pe_ifExp (pt_cmpR op_eq (pv 0) pe_str (nomark _)) (pe_cmpR op_ne (pv 1) (pv 2) (nomark _)) (pe_cmpR op_eq (pv 1) (pv 2) (nomark _)))))))))))), ?_⟩
  have hf : scal x y = true := by
    rcases hx with rfl | ⟨i, rfl⟩ <;> rcases hy with rfl | ⟨j, rfl⟩ <;> rfl
  exact ⟨_, rfl, rfl, _, rfl, ifF (by decide +kernel) ⟨_, rfl, rfl, _, rfl, ifF (by decide +kernel) ⟨_, rfl, rfl, _, rfl, ifF (by decide +kernel) ⟨_, rfl, rfl, _, rfl, ifF (by decide +kernel) ⟨_, rfl, rfl, _, rfl, ifF (by decide +kernel) ⟨_, rfl, rfl, _, rfl, ifF (by decide +kernel) ⟨_, rfl, rfl, _, rfl, ifF (by decide +kernel) ⟨_, rfl, rfl, _, rfl, ifF (by decide +kernel) ⟨_, rfl, _, rfl, hf, q⟩⟩⟩⟩⟩⟩⟩⟩⟩
theorem ok_evaluate0 (T : Txt w K mg) : FnOk P w K mg base CX0 1 T.a_evaluate T.d_evaluate p_evaluate (spEvR K) := by
  have g_evaluate : FnOk P w K mg base CX0 0 T.a_evaluate T.d_evaluate p_evaluate (fun _ _ _ _ => False) := fn_vac fun _ _ _ _ h => h
  have g_apply : FnOk P w K mg base CX0 0 T.a_apply T.d_apply p_apply (fun _ _ _ _ => False) := fn_vac fun _ _ _ _ h => h
  refine T.F_evaluate.ok sc_evaluate (fun vs H Q E h => ?_) (fun cdv A outer s H vs Q E hr h => ?_)
  · obtain ⟨v, d, r, kvs, SR, E, rfl, _⟩ := h
    rfl
  obtain ⟨v, d, r, kvs, SR, Ev, rfl, hx, ho, hd, hv, q⟩ := h
  refine ⟨_, (pss_cons (ps_set (i := 2) sc_evaluate.nd rfl (Or.inl rfl) (pe_ix ix_tup (pv 0) pe_int (fun _ _ => rfl)))
      (pss_cons (ps_if (PW.pt (pw_or (pt_cmpR op_eq (pv 2) pe_str (nomark _)) (pw_or1 (pt_cmpR op_eq (pv 2) pe_str (nomark _))))) (pss_one (ps_ret (pe_ix ix_tup (pv 0) pe_int (fun _ _ => rfl)))) pss_nil)
      (pss_cons (ps_if (pt_cmpR op_eq (pv 2) pe_str (nomark _)) (pss_one (ps_ret pe_non)) pss_nil)
      (pss_cons (ps_if (pt_cmpR op_eq (pv 2) pe_str (nomark _)) (pss_one (ps_ret (pe_dget (hu_of hr) (pv 1) (pe_ix ix_tup (pv 0) pe_int (fun _ _ => rfl)) (fun _ _ => rfl)))) pss_nil)
      (pss_cons (ps_set (i := 3) sc_evaluate.nd rfl (Or.inl rfl) (pe_call g_evaluate (hr.mono (by first | decide | omega)) rfl T.m_evaluate T.F_evaluate.kp T.b_evaluate .nil pass0 (pa_cons (pe_ix ix_tup (pv 0) pe_int (fun _ _ => rfl)) (pa_cons (pv 1) pa_nil))))
      (pss_cons (ps_if (pt_cmpR op_eq (pv 2) pe_str (nomark _)) (pss_one (ps_ret (pe_not (pv 3)))) pss_nil)
      (pss_one (ps_ret (pe_call g_apply (hr.mono (by first | decide | omega)) rfl T.m_apply T.F_apply.kp T.b_apply .nil pass0 (pa_cons (pv 2) (pa_cons (pv 3) (pa_cons (pe_call g_evaluate (hr.mono (by first | decide | omega)) rfl T.m_evaluate T.F_evaluate.kp T.b_evaluate .nil pass0 (pa_cons (pe_ix ix_tup (pv 0) pe_int (fun _ _ => rfl)) (pa_cons (pv 1) pa_nil))) pa_nil)))))))))))), ?_⟩
  cases r with
  | null =>
    obtain ⟨p, rfl, hp⟩ := hx
    exact ⟨_, rfl, p, _, 0, _, rfl, rfl, hp, rfl, _, rfl, rfl, _, rfl, ifF (by decide +kernel) ⟨_, rfl, rfl, _, rfl, ifF (by decide +kernel) ⟨_, rfl, rfl, _, rfl, ifT (by decide +kernel) q⟩⟩⟩
  | var z =>
    obtain ⟨p, rfl, hp⟩ := hx
    exact ⟨_, rfl, p, _, 0, _, rfl, rfl, hp, rfl, _, rfl, rfl, _, rfl, ifF (by decide +kernel) ⟨_, rfl, rfl, _, rfl, ifF (by decide +kernel) ⟨_, rfl, rfl, _, rfl, ifF (by decide +kernel) ⟨_, rfl, rfl, _, rfl, ifT (by decide +kernel) ⟨_, rfl, _, rfl, p, _, 1, _, rfl, rfl, hp, rfl, d, _, rfl, DGet.at (k := Sum.inr z) hd (hv z ho).1, q⟩⟩⟩⟩⟩
theorem ok_evaluate (T : Txt w K mg) : FnOk P w K mg base CX0 2 T.a_evaluate T.d_evaluate p_evaluate (spEvF K) := by
  have g_evaluate := ok_evaluate0 (P := P) (w := w) (K := K) (base := base) T
  have g_apply := ok_apply (P := P) (w := w) (base := base) T
  refine T.F_evaluate.ok sc_evaluate (fun vs H Q E h => ?_) (fun cdv A outer s H vs Q E hr h => ?_)
  · obtain ⟨v, d, e, kvs, N, S, SF, SR, κ, E, m, b, rfl, _⟩ := h
    rfl
  obtain ⟨v, d, e, kvs, N, S, SF, SR, κ, Ev, m, b, rfl, hx, ho, hd, hk, hb, q⟩ := h
  refine ⟨_, (pss_cons (ps_set (i := 2) sc_evaluate.nd rfl (Or.inl rfl) (pe_ix ix_tup (pv 0) pe_int (fun _ _ => rfl)))
      (pss_cons (ps_if (PW.pt (pw_or (pt_cmpR op_eq (pv 2) pe_str (nomark _)) (pw_or1 (pt_cmpR op_eq (pv 2) pe_str (nomark _))))) (pss_one (ps_ret (pe_ix ix_tup (pv 0) pe_int (fun _ _ => rfl)))) pss_nil)
      (pss_cons (ps_if (pt_cmpR op_eq (pv 2) pe_str (nomark _)) (pss_one (ps_ret pe_non)) pss_nil)
      (pss_cons (ps_if (pt_cmpR op_eq (pv 2) pe_str (nomark _)) (pss_one (ps_ret (pe_dget (hu_of hr) (pv 1) (pe_ix ix_tup (pv 0) pe_int (fun _ _ => rfl)) (fun _ _ => rfl)))) pss_nil)
      (pss_cons (ps_set (i := 3) sc_evaluate.nd rfl (Or.inl rfl) (pe_call g_evaluate (hr.mono (by first | decide | omega)) rfl T.m_evaluate T.F_evaluate.kp T.b_evaluate .nil pass0 (pa_cons (pe_ix ix_tup (pv 0) pe_int (fun _ _ => rfl)) (pa_cons (pv 1) pa_nil))))
      (pss_cons (ps_if (pt_cmpR op_eq (pv 2) pe_str (nomark _)) (pss_one (ps_ret (pe_not (pv 3)))) pss_nil)
      (pss_one (ps_ret (pe_call g_apply (hr.mono (by first | decide | omega)) rfl T.m_apply T.F_apply.kp T.b_apply .nil pass0 (pa_cons (pv 2) (pa_cons (pv 3) (pa_cons (pe_call g_evaluate (hr.mono (by first | decide | omega)) rfl T.m_evaluate T.F_evaluate.kp T.b_evaluate .nil pass0 (pa_cons (pe_ix ix_tup (pv 0) pe_int (fun _ _ => rfl)) (pa_cons (pv 1) pa_nil))) pa_nil)))))))))))), ?_⟩
  cases m with
  | zero => exact ho.elim
  | succ m =>
  cases e with
  | flag i =>
    obtain ⟨p, rfl, hp⟩ := hx
    cases hb
    exact ⟨_, rfl, p, _, 0, _, rfl, rfl, hp, rfl, _, rfl, rfl, _, rfl, ifF (by decide +kernel) ⟨_, rfl, rfl, _, rfl, ifT (by decide +kernel) ⟨_, rfl, p, _, 1, _, rfl, rfl, hp, rfl, q⟩⟩⟩
  | var z =>
    obtain ⟨p, rfl, hp⟩ := hx
    cases hb
    exact ⟨_, rfl, p, _, 0, _, rfl, rfl, hp, rfl, _, rfl, rfl, _, rfl, ifF (by decide +kernel) ⟨_, rfl, rfl, _, rfl, ifF (by decide +kernel) ⟨_, rfl, rfl, _, rfl, ifF (by decide +kernel) ⟨_, rfl, rfl, _, rfl, ifT (by decide +kernel) ⟨_, rfl, _, rfl, p, _, 1, _, rfl, rfl, hp, rfl, d, _, rfl, DGet.at (k := Sum.inr z) hd (hk.f z ho), q⟩⟩⟩⟩⟩
  | same r t =>
    obtain ⟨p, x, y, rfl, hp, hx, hy⟩ := hx
    cases hb
    have fr : ∀ {r : Rf}, r.ok SR → Flat2 (Ev.rv r) := fun {r} h => Env26.flat (E := Ev) (fun z hz => (hk.r z hz).2) h
    refine ⟨_, rfl, p, _, 0, _, rfl, rfl, hp, rfl, _, rfl, rfl, _, rfl, ifF (by decide +kernel) ⟨_, rfl, rfl, _, rfl, ifF (by decide +kernel) ⟨_, rfl, rfl, _, rfl, ifF (by decide +kernel) ⟨_, rfl, rfl, _, rfl, ifF (by decide +kernel) ?_⟩⟩⟩⟩
    refine ⟨_, rfl, p, _, 1, _, rfl, rfl, hp, rfl, _, rfl, x, d, r, kvs, SR, Ev, rfl, hx, ho.1, hd, hk.r, ?_⟩
    refine ⟨_, rfl, rfl, _, rfl, ifF (by decide +kernel) ?_⟩
    exact ⟨_, rfl, _, rfl, _, rfl, p, _, 2, _, rfl, rfl, hp, rfl, _, rfl, y, d, t, kvs, SR, Ev, rfl, hy, ho.2, hd, hk.r, _, _, rfl, fr ho.1, fr ho.2, q⟩
  | cmp o a b => cases hb
  | not a => cases hb
  | and a b => cases hb
  | or a b => cases hb
end
theorem join_hull2 {n : Nat} {Ps A B : List (List Int)} (f : Full n Ps) (sA : ∀ r ∈ A, r ∈ Ps) (sB : ∀ r ∈ B, r ∈ Ps) : joinB (hull n A) (hull n B) = hull n (fill n Ps (A ++ B)) := by
  rw [hull_append]
  exact (fill_full f fun r hr => (List.mem_append.mp hr).elim (sA r) (sB r)).2.1.symm
theorem hull_alike {n : Nat} (hn : n ≤ 60) {A B : List (List Int)} : Alike (hull n A) (hull n B) := fun M N e1 e2 => ⟨n + 1, by omega, hull_sz n A M e1, hull_sz n B N e2⟩
theorem asm_nil {E : Env26} {N : List Str} {κ : Str → Int} {n : Nat} {e : Fl} {w : Bool} : asmL E N κ n e w [] = [] := by
  have h := (asm_ok (E := E) (N := N) (κ := κ) e (w := w) (full_nil (n := n))).2
  cases c : asmL E N κ n e w [] with
  | nil => rfl
  | cons x y =>
    have := h x (by rw [c]; exact List.mem_cons_self)
    simp at this
section
variable {P : Program} {w : World} {K : PySem.W.Frag} {mg : Str → Option Value} {base : Heap}
theorem ok_compare (T : Txt w K mg) : FnOk P w K mg base CX0 7 T.a_compare T.d_compare p_compare (spCmp26 K) := by
  have g_at_most := ok_at_most (P := P) (w := w) (K := K) (base := base) T
  have g_at_least := ok_at_least (P := P) (w := w) (K := K) (base := base) T
  have g_equal_to := ok_equal_to (P := P) (w := w) (K := K) (base := base) T
  have g_join_boxes := ok_join_boxes (P := P) (w := w) (K := K) (base := base) T
  refine T.F_compare.ok sc_compare (fun vs H Q E h => ?_) (fun cdv A outer s H vs Q E hr h => ?_)
  · obtain ⟨o, w, vb, f, F, n, e, Ps, rfl, _⟩ := h
    rfl
  obtain ⟨o, w, vb, f, F, n, e, Ps, rfl, hn, hF, fb, le, he, hB, fu, pB, q⟩ := h
  refine ⟨_, (pss_cons (ps_if (pt_cmpR op_eq (pv 0) pe_str (nomark _)) (pss_one (ps_ret (pe_ifExp (pt_val (pv 1)) (pe_call g_at_most (hr.mono (by first | decide | omega)) rfl T.m_at_most T.F_at_most.kp T.b_at_most .nil pass0 (pa_cons (pv 2) (pa_cons (pv 3) (pa_cons (pe_un un_neg pe_int) pa_nil)))) (pe_call g_at_least (hr.mono (by first | decide | omega)) rfl T.m_at_least T.F_at_least.kp T.b_at_least .nil pass0 (pa_cons (pv 2) (pa_cons (pv 3) (pa_cons pe_int pa_nil))))))) pss_nil)
      (pss_cons (ps_if (pt_cmpR op_eq (pv 0) pe_str (nomark _)) (pss_one (ps_ret (pe_ifExp (pt_val (pv 1)) (pe_call g_at_most (hr.mono (by first | decide | omega)) rfl T.m_at_most T.F_at_most.kp T.b_at_most .nil pass0 (pa_cons (pv 2) (pa_cons (pv 3) (pa_cons pe_int pa_nil)))) (pe_call g_at_least (hr.mono (by first | decide | omega)) rfl T.m_at_least T.F_at_least.kp T.b_at_least .nil pass0 (pa_cons (pv 2) (pa_cons (pv 3) (pa_cons pe_int pa_nil))))))) pss_nil)
      (pss_cons (ps_if (pt_cmpR op_eq (pv 1) (pe_cmpR op_eq (pv 0) pe_str (nomark _)) (nomark _)) (pss_one (ps_ret (pe_call g_equal_to (hr.mono (by first | decide | omega)) rfl T.m_equal_to T.F_equal_to.kp T.b_equal_to .nil pass0 (pa_cons (pv 2) (pa_cons (pv 3) (pa_cons pe_int pa_nil)))))) pss_nil)
      (pss_one (ps_ret (pe_call g_join_boxes (hr.mono (by first | decide | omega)) rfl T.m_join_boxes T.F_join_boxes.kp T.b_join_boxes .nil pass0 (pa_cons (pe_call g_at_most (hr.mono (by first | decide | omega)) rfl T.m_at_most T.F_at_most.kp T.b_at_most .nil pass0 (pa_cons (pv 2) (pa_cons (pv 3) (pa_cons (pe_un un_neg pe_int) pa_nil)))) (pa_cons (pe_call g_at_least (hr.mono (by first | decide | omega)) rfl T.m_at_least T.F_at_least.kp T.b_at_least .nil pass0 (pa_cons (pv 2) (pa_cons (pv 3) (pa_cons pe_int pa_nil)))) pa_nil)))))))), ?_⟩
  have ln : (mkR n F.c).length = n := mkR_len
  have cw : Cw e (mkR n F.c) := fun k hk => by
    rw [mkR_getD (by omega)]
    exact fb.c k (by omega)
  have hB1 : BoxAt K H vb (hull (mkR n F.c).length Ps) := by rw [ln]; exact hB
  have fu1 : Full (mkR n F.c).length Ps := by rw [ln]; exact fu
  have l60 : (mkR n F.c).length ≤ 60 := by rw [ln]; exact hn
  have am : ∀ (x : Int) (Q2 : VK), (∀ v' H', Same H H' → BoxAt K H' v' (hull n (amL n (mkR n F.c) F.lo x Ps)) → Q2 v' H') → spAtM K [vb, .ref f, .int x] H Q2 E0 := fun x Q2 k => by
    refine ⟨vb, f, mkR n F.c, F.lo, F.hi, x, Ps, e, rfl, hF, cw, he, pB, l60, hB1, fu1, fun v' H' s b => k v' H' s ?_⟩
    rw [ln] at b
    exact b
  have al : ∀ (x : Int) (G : Hp) (Q2 : VK), Same H G → (∀ v' H', Same G H' → BoxAt K H' v' (hull n (alL n (mkR n F.c) F.hi x Ps)) → Q2 v' H') → spAtL K [vb, .ref f, .int x] G Q2 E0 := fun x G Q2 s0 k => by
    refine ⟨vb, f, mkR n F.c, F.lo, F.hi, x, Ps, e, rfl, hF.same s0, le, cw, fb.l, fb.h, he, pB, l60, hB1.same s0, fu1, fun v' H' s b => k v' H' s ?_⟩
    rw [ln] at b
    exact b
  have eqc : ∀ (Q2 : VK), (∀ v' H', Same H H' → BoxAt K H' v' (hull n (alL n (mkR n F.c) F.hi 0 (amL n (mkR n F.c) F.lo 0 Ps))) → Q2 v' H') → spEqTo K [vb, .ref f, .int 0] H Q2 E0 := fun Q2 k => by
    refine ⟨vb, f, mkR n F.c, F.lo, F.hi, 0, Ps, e, rfl, hF, le, cw, fb.l, fb.h, he, pB, l60, hB1, fu1, fun v' H' s b => k v' H' s ?_⟩
    rw [ln] at b
    exact b
  have jn : ∀ {v1 v2 : V} {H1 H2 : Hp}, Same H H1 → Same H1 H2 → BoxAt K H1 v1 (hull n (amL n (mkR n F.c) F.lo (-1) Ps)) → BoxAt K H2 v2 (hull n (alL n (mkR n F.c) F.hi 1 Ps)) → ∀ (Q2 : VK), (∀ v' H', Same H H' → BoxAt K H' v' (hull n (fill n Ps (amL n (mkR n F.c) F.lo (-1) Ps ++ alL n (mkR n F.c) F.hi 1 Ps))) → Q2 v' H') → spJoin K [v1, v2] H2 Q2 E0 := fun {v1 v2 H1 H2} s1 s2 b1 b2 Q2 k => by
    refine ⟨v1, v2, _, _, rfl, b1.same s2, b2, hull_alike hn, fun v' H' s3 b3 => k v' H' ((s1.trans s2).trans s3) ?_⟩
    rw [join_hull2 fu am_sub al_sub] at b3
    exact b3
  cases o <;> cases w
  · exact ⟨_, rfl, rfl, _, rfl, ifT (by decide +kernel) ⟨_, rfl, _, rfl, ifF rfl ⟨_, rfl, _, rfl, al 0 H _ (Same.refl _) q⟩⟩⟩
  · exact ⟨_, rfl, rfl, _, rfl, ifT (by decide +kernel) ⟨_, rfl, _, rfl, ifT rfl ⟨_, rfl, _, rfl, _, rfl, am (-1) _ q⟩⟩⟩
  · exact ⟨_, rfl, rfl, _, rfl, ifF (by decide +kernel) ⟨_, rfl, rfl, _, rfl, ifT (by decide +kernel) ⟨_, rfl, _, rfl, ifF rfl ⟨_, rfl, _, rfl, al 1 H _ (Same.refl _) q⟩⟩⟩⟩
  · exact ⟨_, rfl, rfl, _, rfl, ifF (by decide +kernel) ⟨_, rfl, rfl, _, rfl, ifT (by decide +kernel) ⟨_, rfl, _, rfl, ifT rfl ⟨_, rfl, _, rfl, am 0 _ q⟩⟩⟩⟩
  · refine ⟨_, rfl, rfl, _, rfl, ifF (by decide +kernel) ⟨_, rfl, rfl, _, rfl, ifF (by decide +kernel) ⟨_, rfl, _, rfl, rfl, rfl, _, rfl, ifF (by decide +kernel) ?_⟩⟩⟩
    exact ⟨_, rfl, _, rfl, _, rfl, am (-1) _ fun v1 H1 s1 b1 => ⟨_, rfl, _, rfl, al 1 H1 _ s1 fun v2 H2 s2 b2 => jn s1 s2 b1 b2 _ q⟩⟩
  · refine ⟨_, rfl, rfl, _, rfl, ifF (by decide +kernel) ⟨_, rfl, rfl, _, rfl, ifF (by decide +kernel) ⟨_, rfl, _, rfl, rfl, rfl, _, rfl, ifT (by decide +kernel) ?_⟩⟩⟩
    exact ⟨_, rfl, _, rfl, eqc _ q⟩
  · refine ⟨_, rfl, rfl, _, rfl, ifF (by decide +kernel) ⟨_, rfl, rfl, _, rfl, ifF (by decide +kernel) ⟨_, rfl, _, rfl, rfl, rfl, _, rfl, ifT (by decide +kernel) ?_⟩⟩⟩
    exact ⟨_, rfl, _, rfl, eqc _ q⟩
  · refine ⟨_, rfl, rfl, _, rfl, ifF (by decide +kernel) ⟨_, rfl, rfl, _, rfl, ifF (by decide +kernel) ⟨_, rfl, _, rfl, rfl, rfl, _, rfl, ifF (by decide +kernel) ?_⟩⟩⟩
    exact ⟨_, rfl, _, rfl, _, rfl, am (-1) _ fun v1 H1 s1 b1 => ⟨_, rfl, _, rfl, al 1 H1 _ s1 fun v2 H2 s2 b2 => jn s1 s2 b1 b2 _ q⟩⟩
theorem ok_assume_pair (T : Txt w K mg) {m k : Nat} (g_assume : FnOk P w K mg base CX0 (k + 2) T.a_assume T.d_assume p_assume (spAsm K m)) : FnOk P w K mg base CX0 (k + 3) T.a_assume_pair T.d_assume_pair p_assume_pair (spPair26 K m) := by
  have g_join_boxes := ok_join_boxes (P := P) (w := w) (K := K) (base := base) T
  refine T.F_assume_pair.ok sc_assume_pair (fun vs H Q E h => ?_) (fun cdv A outer s H vs Q E hr h => ?_)
  · obtain ⟨v, w, dk, nt, vb, fl, a, b, kvs, N, S, SF, SR, κ, Ev, n, Ps, rfl, _⟩ := h
    rfl
  obtain ⟨v, w, dk, nt, vb, fl, a, b, kvs, N, S, SF, SR, κ, Ev, n, Ps, rfl, hn, hx, hab, oa, ob, hd, hk, hN, lN, hB, fu, pB, q⟩ := h
  refine ⟨_, (pss_cons (ps_asg (pv 0) (pg_tup rfl (pgs_cons (pg_name (i := 5) sc_assume_pair.nd rfl (Or.inl rfl)) (pgs_cons (pg_name (i := 6) sc_assume_pair.nd rfl (Or.inl rfl)) (pgs_cons (pg_name (i := 7) sc_assume_pair.nd rfl (Or.inl rfl)) pgs_nil)))))
      (pss_cons (ps_set (i := 8) sc_assume_pair.nd rfl (Or.inl rfl) (pe_call g_assume (hr.mono (by first | decide | omega)) rfl T.m_assume T.F_assume.kp T.b_assume .nil pass0 (pa_cons (pv 6) (pa_cons (pv 1) (pa_cons (pv 2) (pa_cons (pv 3) (pa_cons (pv 4) pa_nil)))))))
      (pss_cons (ps_if (pt_cmpR op_eq (pv 1) (pe_cmpR op_eq (pv 5) pe_str (nomark _)) (nomark _)) (pss_one (ps_ret (pe_call g_join_boxes (hr.mono (by first | decide | omega)) rfl T.m_join_boxes T.F_join_boxes.kp T.b_join_boxes .nil pass0 (pa_cons (pv 8) (pa_cons (pe_call g_assume (hr.mono (by first | decide | omega)) rfl T.m_assume T.F_assume.kp T.b_assume .nil pass0 (pa_cons (pv 7) (pa_cons (pv 1) (pa_cons (pv 2) (pa_cons (pv 3) (pa_cons (pv 4) pa_nil)))))) pa_nil))))) pss_nil)
      (pss_one (ps_ret (pe_call g_assume (hr.mono (by first | decide | omega)) rfl T.m_assume T.F_assume.kp T.b_assume .nil pass0 (pa_cons (pv 7) (pa_cons (pv 1) (pa_cons (pv 2) (pa_cons (pv 3) (pa_cons (pv 8) pa_nil))))))))))), ?_⟩
  rcases hab with rfl | rfl
  · obtain ⟨p, x, y, rfl, hp, hx, hy⟩ := hx
    cases w
    · refine ⟨_, rfl, p, _, rfl, hp, rfl, _, _, rfl, _, _, rfl, _, _, rfl, rfl, ?_⟩
      refine ⟨_, rfl, _, rfl, _, rfl, _, rfl, _, rfl, x, false, dk, nt, vb, a, kvs, N, S, SF, SR, κ, Ev, n, Ps, rfl, hn, hx, oa, hd, hk, hN, lN, hB, fu, pB, fun v1 H1 s1 b1 => ?_⟩
      have a1 := asm_ok (E := Ev) (N := N) (κ := κ) a (w := false) fu
      have a2 := asm_ok (E := Ev) (N := N) (κ := κ) b (w := false) fu
      refine ⟨_, rfl, _, rfl, rfl, rfl, _, rfl, ifT (by decide +kernel) ?_⟩
      refine ⟨_, rfl, _, rfl, _, rfl, _, rfl, _, rfl, _, rfl, y, false, dk, nt, vb, b, kvs, N, S, SF, SR, κ, Ev, n, Ps, rfl, hn, hy.same s1, ob, s1 _ _ hd, hk, hN.same s1, lN, hB.same s1, fu, pB, fun v2 H2 s2 b2 => ?_⟩
      refine ⟨v1, v2, _, _, rfl, b1.same s2, b2, hull_alike hn, fun v3 H3 s3 b3 => q v3 H3 ((s1.trans s2).trans s3) ?_⟩
      rw [join_hull2 fu a1.2 a2.2] at b3
      exact b3
    · refine ⟨_, rfl, p, _, rfl, hp, rfl, _, _, rfl, _, _, rfl, _, _, rfl, rfl, ?_⟩
      refine ⟨_, rfl, _, rfl, _, rfl, _, rfl, _, rfl, x, true, dk, nt, vb, a, kvs, N, S, SF, SR, κ, Ev, n, Ps, rfl, hn, hx, oa, hd, hk, hN, lN, hB, fu, pB, fun v1 H1 s1 b1 => ?_⟩
      have a1 := asm_ok (E := Ev) (N := N) (κ := κ) a (w := true) fu
      have a2 := asm_ok (E := Ev) (N := N) (κ := κ) b (w := true) fu
      refine ⟨_, rfl, _, rfl, rfl, rfl, _, rfl, ifF (by decide +kernel) ?_⟩
      refine ⟨_, rfl, _, rfl, _, rfl, _, rfl, _, rfl, y, true, dk, nt, v1, b, kvs, N, S, SF, SR, κ, Ev, n, _, rfl, hn, hy.same s1, ob, s1 _ _ hd, hk, hN.same s1, lN, b1, a1.1, pB.sub a1.2, fun v2 H2 s2 b2 => q v2 H2 (s1.trans s2) b2⟩
  · obtain ⟨p, x, y, rfl, hp, hx, hy⟩ := hx
    cases w
    · refine ⟨_, rfl, p, _, rfl, hp, rfl, _, _, rfl, _, _, rfl, _, _, rfl, rfl, ?_⟩
      refine ⟨_, rfl, _, rfl, _, rfl, _, rfl, _, rfl, x, false, dk, nt, vb, a, kvs, N, S, SF, SR, κ, Ev, n, Ps, rfl, hn, hx, oa, hd, hk, hN, lN, hB, fu, pB, fun v1 H1 s1 b1 => ?_⟩
      have a1 := asm_ok (E := Ev) (N := N) (κ := κ) a (w := false) fu
      have a2 := asm_ok (E := Ev) (N := N) (κ := κ) b (w := false) fu
      refine ⟨_, rfl, _, rfl, rfl, rfl, _, rfl, ifF (by decide +kernel) ?_⟩
      refine ⟨_, rfl, _, rfl, _, rfl, _, rfl, _, rfl, y, false, dk, nt, v1, b, kvs, N, S, SF, SR, κ, Ev, n, _, rfl, hn, hy.same s1, ob, s1 _ _ hd, hk, hN.same s1, lN, b1, a1.1, pB.sub a1.2, fun v2 H2 s2 b2 => q v2 H2 (s1.trans s2) b2⟩
    · refine ⟨_, rfl, p, _, rfl, hp, rfl, _, _, rfl, _, _, rfl, _, _, rfl, rfl, ?_⟩
      refine ⟨_, rfl, _, rfl, _, rfl, _, rfl, _, rfl, x, true, dk, nt, vb, a, kvs, N, S, SF, SR, κ, Ev, n, Ps, rfl, hn, hx, oa, hd, hk, hN, lN, hB, fu, pB, fun v1 H1 s1 b1 => ?_⟩
      have a1 := asm_ok (E := Ev) (N := N) (κ := κ) a (w := true) fu
      have a2 := asm_ok (E := Ev) (N := N) (κ := κ) b (w := true) fu
      refine ⟨_, rfl, _, rfl, rfl, rfl, _, rfl, ifT (by decide +kernel) ?_⟩
      refine ⟨_, rfl, _, rfl, _, rfl, _, rfl, _, rfl, _, rfl, y, true, dk, nt, vb, b, kvs, N, S, SF, SR, κ, Ev, n, Ps, rfl, hn, hy.same s1, ob, s1 _ _ hd, hk, hN.same s1, lN, hB.same s1, fu, pB, fun v2 H2 s2 b2 => ?_⟩
      refine ⟨v1, v2, _, _, rfl, b1.same s2, b2, hull_alike hn, fun v3 H3 s3 b3 => q v3 H3 ((s1.trans s2).trans s3) ?_⟩
      rw [join_hull2 fu a1.2 a2.2] at b3
      exact b3
theorem ok_assume (T : Txt w K mg) : ∀ m : Nat, m ≤ 8 → FnOk P w K mg base CX0 (2 * m + 16) T.a_assume T.d_assume p_assume (spAsm K m)
  | 0, _ => fn_vac fun vs H Q E h => by obtain ⟨v, w, dk, nt, vb, fl, kvs, N, S, SF, SR, κ, Ev, n, Ps, _, _, _, h, _⟩ := h; exact h
  | m + 1, hm => by
    have g_assume := ok_assume T m (by omega)
    have g_assume_pair := ok_assume_pair (k := 2 * m + 14) T g_assume
    have g_form_of := ok_form_of (P := P) (w := w) (K := K) (base := base) T 3 (by decide)
    have g_difference_of_forms := ok_difference_of_forms (P := P) (w := w) (K := K) (base := base) T
    have g_compare := ok_compare (P := P) (w := w) (K := K) (base := base) T
    have g_evaluate := ok_evaluate (P := P) (w := w) (K := K) (base := base) T
    show FnOk P w K mg base CX0 (2 * m + 17 + 1) T.a_assume T.d_assume p_assume (spAsm K (m + 1))
    refine T.F_assume.ok sc_assume (fun vs H Q E h => ?_) (fun cdv A outer s H vs Q E hr h => ?_)
    · obtain ⟨v, w, dk, nt, vb, fl, kvs, N, S, SF, SR, κ, Ev, n, Ps, rfl, _⟩ := h
      rfl
    obtain ⟨v, w, dk, nt, vb, fl, kvs, N, S, SF, SR, κ, Ev, n, Ps, rfl, hn, hx, ho, hd, hk, hN, lN, hB, fu, pB, q⟩ := h
    refine ⟨_, (pss_cons (ps_if (pt_cmpR op_isN (pv 4) pe_non (nomark _)) (pss_one (ps_ret pe_non)) pss_nil)
      (pss_cons (ps_set (i := 5) sc_assume.nd rfl (Or.inl rfl) (pe_ix ix_tup (pv 0) pe_int (fun _ _ => rfl)))
      (pss_cons (ps_if (pt_cmpR op_eq (pv 5) pe_str (nomark _)) (pss_one (ps_ret (pe_call g_assume (hr.mono (by first | decide | omega)) rfl T.m_assume T.F_assume.kp T.b_assume .nil pass0 (pa_cons (pe_ix ix_tup (pv 0) pe_int (fun _ _ => rfl)) (pa_cons (pe_not (pv 1)) (pa_cons (pv 2) (pa_cons (pv 3) (pa_cons (pv 4) pa_nil)))))))) pss_nil)
      (pss_cons (ps_if (PW.pt (pw_or (pt_cmpR op_eq (pv 5) pe_str (nomark _)) (pw_or1 (pt_cmpR op_eq (pv 5) pe_str (nomark _))))) (pss_one (ps_ret (pe_call g_assume_pair (hr.mono (by first | decide | omega)) rfl T.m_assume_pair T.F_assume_pair.kp T.b_assume_pair .nil pass0 (pa_cons (pv 0) (pa_cons (pv 1) (pa_cons (pv 2) (pa_cons (pv 3) (pa_cons (pv 4) pa_nil)))))))) pss_nil)
      (pss_cons (ps_if (pt_cmpR op_in_seq (pv 5) (pe_tup (pa_cons pe_str (pa_cons pe_str (pa_cons pe_str (pa_cons pe_str pa_nil))))) (by rfl)) (pss_cons (ps_set (i := 6) sc_assume.nd rfl (Or.inl rfl) (pe_call g_form_of (hr.mono (by first | decide | omega)) rfl T.m_form_of T.F_form_of.kp T.b_form_of .nil pass0 (pa_cons (pe_ix ix_tup (pv 0) pe_int (fun _ _ => rfl)) (pa_cons (pv 2) (pa_cons (pv 3) (pa_cons (pv 4) pa_nil))))))
      (pss_cons (ps_set (i := 7) sc_assume.nd rfl (Or.inl rfl) (pe_call g_form_of (hr.mono (by first | decide | omega)) rfl T.m_form_of T.F_form_of.kp T.b_form_of .nil pass0 (pa_cons (pe_ix ix_tup (pv 0) pe_int (fun _ _ => rfl)) (pa_cons (pv 2) (pa_cons (pv 3) (pa_cons (pv 4) pa_nil))))))
      (pss_one (ps_ret (pe_call g_compare (hr.mono (by first | decide | omega)) rfl T.m_compare T.F_compare.kp T.b_compare .nil pass0 (pa_cons (pv 5) (pa_cons (pv 1) (pa_cons (pv 4) (pa_cons (pe_call g_difference_of_forms (hr.mono (by first | decide | omega)) rfl T.m_difference_of_forms T.F_difference_of_forms.kp T.b_difference_of_forms .nil pass0 (pa_cons (pv 6) (pa_cons (pv 7) pa_nil))) pa_nil))))))))) pss_nil)
      (pss_one (ps_ret (pe_ifExp (pt_cmpR op_eq (pe_call g_evaluate (hr.mono (by first | decide | omega)) rfl T.m_evaluate T.F_evaluate.kp T.b_evaluate .nil pass0 (pa_cons (pv 0) (pa_cons (pv 2) pa_nil))) (pv 1) (nomark _)) (pv 4) pe_non)))))))), ?_⟩
    have hB0 := hB
    by_cases ne : Ps = []
    · subst ne
      obtain rfl : vb = .non := hB
      refine ⟨_, rfl, rfl, _, rfl, ifT (by decide) ?_⟩
      refine q .non H (Same.refl _) ?_
      rw [asm_nil]
      exact hB0
    rw [hull_some ne] at hB
    obtain ⟨pb, rfl, hM⟩ := hB
    refine ⟨_, rfl, rfl, _, rfl, ifF (by rw [decide_eq_false (fun z => by cases z)]) ?_⟩
    have hx0 := hx
    cases fl with
    | flag b =>
      obtain ⟨p, rfl, hp⟩ := hx
      have ea : asmL Ev N κ n (.flag b) w Ps = if b = w then Ps else [] := by
        unfold asmL
        rfl
      rw [ea] at q
      refine ⟨_, rfl, p, _, _, _, rfl, rfl, hp, rfl, ?_⟩
      refine ⟨_, rfl, rfl, _, rfl, ifF (by decide +kernel) ?_⟩
      refine ⟨_, rfl, rfl, _, rfl, ifF (by decide +kernel) ⟨_, rfl, rfl, _, rfl, ifF (by decide +kernel) ?_⟩⟩
      refine ⟨_, rfl, by show 4 ≤ sizeLine; decide, fun l hl => ⟨l, _, rfl, .inr (SqT.of upd_same), rfl, rfl, _, rfl, ifF (by decide +kernel) ?_⟩⟩
      have sl := Same.new hl (.tup [.str "<", .str "<=", .str "==", .str "!="])
      refine ⟨_, rfl, _, rfl, _, dk, _, kvs, N, S, SF, SR, κ, Ev, m + 1, _, rfl, hx0.same sl, ho, sl _ _ hd, hk, rfl, ⟨_, rfl, rfl, _, rfl, ite2 (fun h => ?_) (fun h => ?_)⟩⟩
      · have e : b = w := V.bl.inj (of_decide_eq_true h)
        rw [if_pos e] at q
        exact ⟨_, rfl, q _ _ sl (hB0.same sl)⟩
      · have e : ¬ b = w := fun e => h (decide_eq_true (congrArg V.bl e))
        rw [if_neg e] at q
        exact q _ _ sl rfl
    | var z =>
      obtain ⟨p, rfl, hp⟩ := hx
      have ea : asmL Ev N κ n (.var z) w Ps = if Ev.f z = w then Ps else [] := by
        unfold asmL
        rfl
      rw [ea] at q
      refine ⟨_, rfl, p, _, _, _, rfl, rfl, hp, rfl, ?_⟩
      refine ⟨_, rfl, rfl, _, rfl, ifF (by decide +kernel) ?_⟩
      refine ⟨_, rfl, rfl, _, rfl, ifF (by decide +kernel) ⟨_, rfl, rfl, _, rfl, ifF (by decide +kernel) ?_⟩⟩
      refine ⟨_, rfl, by show 4 ≤ sizeLine; decide, fun l hl => ⟨l, _, rfl, .inr (SqT.of upd_same), rfl, rfl, _, rfl, ifF (by decide +kernel) ?_⟩⟩
      have sl := Same.new hl (.tup [.str "<", .str "<=", .str "==", .str "!="])
      refine ⟨_, rfl, _, rfl, _, dk, _, kvs, N, S, SF, SR, κ, Ev, m + 1, _, rfl, hx0.same sl, ho, sl _ _ hd, hk, rfl, ⟨_, rfl, rfl, _, rfl, ite2 (fun h => ?_) (fun h => ?_)⟩⟩
      · have e : Ev.f z = w := V.bl.inj (of_decide_eq_true h)
        rw [if_pos e] at q
        exact ⟨_, rfl, q _ _ sl (hB0.same sl)⟩
      · have e : ¬ Ev.f z = w := fun e => h (decide_eq_true (congrArg V.bl e))
        rw [if_neg e] at q
        exact q _ _ sl rfl
    | same r t =>
      obtain ⟨p, x, y, rfl, hp, hx, hy⟩ := hx
      have ea : asmL Ev N κ n (.same r t) w Ps = if decide (Ev.rv r = Ev.rv t) = w then Ps else [] := by
        unfold asmL
        rfl
      rw [ea] at q
      refine ⟨_, rfl, p, _, _, _, rfl, rfl, hp, rfl, ?_⟩
      refine ⟨_, rfl, rfl, _, rfl, ifF (by decide +kernel) ?_⟩
      refine ⟨_, rfl, rfl, _, rfl, ifF (by decide +kernel) ⟨_, rfl, rfl, _, rfl, ifF (by decide +kernel) ?_⟩⟩
      refine ⟨_, rfl, by show 4 ≤ sizeLine; decide, fun l hl => ⟨l, _, rfl, .inr (SqT.of upd_same), rfl, rfl, _, rfl, ifF (by decide +kernel) ?_⟩⟩
      have sl := Same.new hl (.tup [.str "<", .str "<=", .str "==", .str "!="])
      refine ⟨_, rfl, _, rfl, _, dk, _, kvs, N, S, SF, SR, κ, Ev, m + 1, _, rfl, hx0.same sl, ho, sl _ _ hd, hk, rfl, ⟨_, rfl, rfl, _, rfl, ite2 (fun h => ?_) (fun h => ?_)⟩⟩
      · have e : decide (Ev.rv r = Ev.rv t) = w := V.bl.inj (of_decide_eq_true h)
        rw [if_pos e] at q
        exact ⟨_, rfl, q _ _ sl (hB0.same sl)⟩
      · have e : ¬ decide (Ev.rv r = Ev.rv t) = w := fun e => h (decide_eq_true (congrArg V.bl e))
        rw [if_neg e] at q
        exact q _ _ sl rfl
    | not a =>
      obtain ⟨p, x, rfl, hp, hx⟩ := hx
      refine ⟨_, rfl, p, _, _, _, rfl, rfl, hp, rfl, ?_⟩
      refine ⟨_, rfl, rfl, _, rfl, ifT (by decide +kernel) ?_⟩
      exact ⟨_, rfl, p, _, _, _, rfl, rfl, hp, rfl, _, rfl, w, rfl, _, rfl, _, rfl, _, rfl, x, !w, dk, nt, .ref pb, a, kvs, N, S, SF, SR, κ, Ev, n, Ps, rfl, hn, hx, ho, hd, hk, hN, lN, hB0, fu, pB, q⟩
    | and a b =>
      obtain ⟨p, x, y, rfl, hp, hx, hy⟩ := hx
      refine ⟨_, rfl, p, _, _, _, rfl, rfl, hp, rfl, ?_⟩
      refine ⟨_, rfl, rfl, _, rfl, ifF (by decide +kernel) ?_⟩
      refine ⟨_, rfl, rfl, _, rfl, ifT (by decide +kernel) (iteT ?_)⟩
      exact ⟨_, rfl, _, rfl, _, rfl, _, rfl, _, rfl, _, w, dk, nt, .ref pb, _, a, b, kvs, N, S, SF, SR, κ, Ev, n, Ps, rfl, hn, hx0, .inl rfl, ho.1, ho.2, hd, hk, hN, lN, hB0, fu, pB, q⟩
    | or a b =>
      obtain ⟨p, x, y, rfl, hp, hx, hy⟩ := hx
      refine ⟨_, rfl, p, _, _, _, rfl, rfl, hp, rfl, ?_⟩
      refine ⟨_, rfl, rfl, _, rfl, ifF (by decide +kernel) ?_⟩
      refine ⟨_, rfl, rfl, _, rfl, ifF (by decide +kernel) ⟨_, rfl, rfl, _, rfl, ifT (by decide +kernel) ?_⟩⟩
      exact ⟨_, rfl, _, rfl, _, rfl, _, rfl, _, rfl, _, w, dk, nt, .ref pb, _, a, b, kvs, N, S, SF, SR, κ, Ev, n, Ps, rfl, hn, hx0, .inr rfl, ho.1, ho.2, hd, hk, hN, lN, hB0, fu, pB, q⟩
    | cmp o a b =>
      obtain ⟨p, x, y, rfl, hp, hx, hy⟩ := hx
      have n1 : ¬ (V.str o.s = V.str "not") := by cases o <;> decide +kernel
      have n2 : ¬ (V.str o.s = V.str "and") := by cases o <;> decide +kernel
      have n3 : ¬ (V.str o.s = V.str "or") := by cases o <;> decide +kernel
      refine ⟨_, rfl, p, _, _, _, rfl, rfl, hp, rfl, ?_⟩
      refine ⟨_, rfl, rfl, _, rfl, ifF (decide_eq_false n1) ?_⟩
      refine ⟨_, rfl, rfl, _, rfl, ifF (decide_eq_false n2) ⟨_, rfl, rfl, _, rfl, ifF (decide_eq_false n3) ?_⟩⟩
      refine ⟨_, rfl, by show 4 ≤ sizeLine; decide, fun l hl => ⟨l, _, rfl, .inr (SqT.of upd_same), rfl, rfl, _, rfl, ifT (by cases o <;> decide +kernel) ?_⟩⟩
      have sl := Same.new hl (.tup [.str "<", .str "<=", .str "==", .str "!="])
      have hκ : Kok S N κ := fun z _ _ => hk.b z
      refine ⟨_, rfl, p, _, _, _, rfl, rfl, Same.tup sl hp, rfl, _, rfl, _, rfl, _, rfl, x, dk, nt, pb, kvs, N, S, κ, n, Ps, a, rfl, hn, hx.same sl, ho.1, sl _ _ hd, hk.k, hκ, hN.same sl, lN, ne, pB, hM.same sl, fun f1 H1 s1 h1 => ?_⟩
      have s01 := sl.trans s1
      refine ⟨_, rfl, p, _, _, _, rfl, rfl, Same.tup s01 hp, rfl, _, rfl, _, rfl, _, rfl, y, dk, nt, pb, kvs, N, S, κ, n, Ps, b, rfl, hn, hy.same s01, ho.2, s01 _ _ hd, hk.k, hκ, hN.same s01, lN, ne, pB, hM.same s01, fun f2 H2 s2 h2 => ?_⟩
      have s02 := s01.trans s2
      have fa := fm_bd (n := n) ne pB hn hκ ho.1
      have fb := fm_bd (n := n) ne pB hn hκ ho.2
      have ea : asmL Ev N κ n (.cmp o a b) w Ps = cmpL n (dfm N κ n Ps a b) o w Ps := by
        rw [asmL, if_neg ne]
      rw [ea] at q
      refine ⟨_, rfl, _, rfl, _, rfl, _, rfl, _, rfl, f1, f2, _, _, n, Eb 3, rfl, hn, h1.same s2, h2, fb, by decide, fun f3 H3 s3 h3 => ?_⟩
      have s03 := s02.trans s3
      have fd : FmB (Eb 3 + 2) n (dfm N κ n Ps a b) := (add_bd (fa.mono (Nat.le_succ _)) ((times_bd (b := 1) fb (by show (1 : Nat) < 2; decide)).mono (by omega))).mono (by omega)
      have le : (dfm N κ n Ps a b).lo ≤ (dfm N κ n Ps a b).hi := by
        have g1 := fm_le (N := N) (κ := κ) (n := n) (Ps := Ps) a
        have g2 := le_times (A := fm N κ n Ps b) (c := -1)
        show _ + _ ≤ _ + _
        omega
      exact ⟨o, w, .ref pb, f3, dfm N κ n Ps a b, n, Eb 3 + 2, Ps, rfl, hn, h3, fd, le, by decide, hB0.same s03, fu, pB, fun v' H' s4 b4 => q v' H' (s03.trans s4) b4⟩
end
/-! ### the names of the draws: twenty texts in one of four styles -/
def numS (i : Int) : Str := Str.ofString (toString i)
theorem len_app (x y : Str) : (x ++ y).length = x.length + y.length := Array.size_append
def lettersL : List Nat := ("bcdeghijklmnopqrtuvw" : Str).cps.toList
def nmW (st : Int) (k : Nat) : Str :=
  if st = 3 then ("n" : Str) ++ numS ((k : Int) * (k : Int) + 3)
  else if st = 2 then ("zz" : Str) ++ ⟨#[lettersL.getD k 0]⟩
  else if st = 1 then (⟨#[lettersL.getD k 0]⟩ : Str) ++ ("q7" : Str)
  else ⟨#[lettersL.getD k 0]⟩
def namesOf (st : Int) : List Str := (List.range 20).map (nmW st)
theorem numS_short {i : Int} (h : -1000000000 ≤ i ∧ i ≤ 1000000000) : (numS i).length ≤ 11 := by
  have e := int_text_length_le10 (a := i) (k := 10) (by decide) (by omega)
  unfold numS
  rw [ofString_length]
  exact e
theorem log_short {i : Int} (h : -1000000000 ≤ i ∧ i ≤ 1000000000) : i.natAbs.log2 < 1920 := by
  by_cases z : i.natAbs = 0
  · rw [z]
    decide
  · refine (Nat.log2_lt z).mpr (Nat.lt_of_lt_of_le (m := 2 ^ 32) ?_ (Nat.pow_le_pow_right (by decide) (by decide)))
    omega
def spNames : Sp := fun vs H Q _ => ∃ a : Addr, vs = [.ref a] ∧ Src H a ∧ ∀ (st : Int) (p : Addr) (H' : Hp), Stp a H H' → H p = none → 0 ≤ st → st < 4 → H' p = some (.lst ((namesOf st).map V.str)) → Q (.ref p) H'
section
variable {P : Program} {w : World} {K : PySem.W.Frag} {mg : Str → Option Value} {base : Heap}
theorem ok_l_names (T : Txt w K mg) : FnOk P w K mg base CX0 2 T.a_l_names T.d_l_names p_l_names spNames := by
  have g_l_pick := ok_l_pick (P := P) (w := w) (base := base) T
  refine T.F_l_names.ok sc_l_names (fun vs H Q E h => ?_) (fun cdv A outer s H vs Q E hr h => ?_)
  · obtain ⟨a, rfl, _⟩ := h
    rfl
  obtain ⟨a, rfl, hS, q⟩ := h
  refine ⟨_, (pss_cons (ps_set (i := 1) sc_l_names.nd rfl (Or.inl rfl) (pe_call g_l_pick (hr.mono (by first | decide | omega)) rfl T.m_l_pick T.F_l_pick.kp T.b_l_pick .nil pass0 (pa_cons (pv 0) (pa_cons pe_int pa_nil))))
      (pss_cons (ps_set (i := 2) sc_l_names.nd rfl (Or.inl rfl) (pe_lst pa_nil))
      (pss_cons (ps_for PassesOwn.never rfl (pi_range1 rfl T.z_range (pa_cons pe_int pa_nil)) (pg_name (i := 3) sc_l_names.nd rfl (Or.inl rfl))
        (pss_cons (ps_set (i := 4) sc_l_names.nd rfl (Or.inl rfl) (pe_ix ix_str pe_str (pv 3) (fun _ _ => rfl)))
      (C8.pss_cut (ps_if (pt_cmpR op_eq (pv 1) pe_int (nomark _)) (pss_one (ps_set (i := 4) sc_l_names.nd rfl (Or.inl rfl) (pe_op op_add_str (pv 4) pe_str))) pss_nil)
      (C8.pss_cut (ps_if (pt_cmpR op_eq (pv 1) pe_int (nomark _)) (pss_one (ps_set (i := 4) sc_l_names.nd rfl (Or.inl rfl) (pe_op op_add_str pe_str (pv 4)))) pss_nil)
      (C8.pss_cut (ps_if (pt_cmpR op_eq (pv 1) pe_int (nomark _)) (pss_one (ps_set (i := 4) sc_l_names.nd rfl (Or.inl rfl) (pe_op op_add_str pe_str (pe_callTy call_str_int rfl T.z_str bt_str (pa_cons (pe_op op_add (pe_op op_mul (pv 3) (pv 3)) pe_int) pa_nil))))) pss_nil)
      (pss_one (ps_expr (pe_bm PySem.F.plainAttrs_list PySem.F.slot_list_append PySem.F.type_list_append mt_append (pv 2) (pa_cons (pv 4) pa_nil)))))))))
      (pss_one (ps_ret (pv 2)))))), ?_⟩
  refine ⟨_, rfl, a, 4, rfl, hS, by decide, fun st H1 st1 s0 s1 => ?_⟩
  refine ⟨by show 0 ≤ sizeLine; decide, fun l hl => ?_⟩
  have n0 : H l = none := st1.free hl
  refine ⟨20, rfl, by decide, by decide, for_range (lo := 0) (n := 20) (fun i σ H' => Stp a H H' ∧ H' l = some (.lst ((List.range i).map fun k => V.str (nmW st k))) ∧ ∃ v1 v2 : Option V, σ = [some (.ref a), some (.int st), some (.ref l), v1, v2]) ⟨st1.new hl, upd_same, none, none, rfl⟩ ?_ ?_⟩
  · rintro i σ H' hi ⟨sti, hli, v1, v2, rfl⟩
    have hi' : (0 + (i : Int)).toNat < ("bcdeghijklmnopqrtuvw" : Str).cps.toList.length := by
      show (0 + (i : Int)).toNat < 20
      omega
    have e0 := atI_int (xs := ("bcdeghijklmnopqrtuvw" : Str).cps.toList) (r := 0 + (i : Int)) (by omega) hi'
    have e1 : ("bcdeghijklmnopqrtuvw" : Str).cps.toList[(0 + (i : Int)).toNat] = lettersL.getD i 0 := by
      have z : (0 + (i : Int)).toNat = i := by omega
      have hi2 : i < lettersL.length := by show i < 20; exact hi
      show lettersL[(0 + (i : Int)).toNat]'_ = _
      rw [List.getD_eq_getElem?_getD, List.getElem?_eq_getElem hi2]
      show _ = lettersL[i]
      congr 1
    rw [e1] at e0
    refine ⟨_, rfl, _, _, _, rfl, rfl, by decide +kernel, e0, ?_⟩
    generalize ec : lettersL.getD i 0 = c
    refine ⟨fun σ H2 => H2 = H' ∧ σ = [some (.ref a), some (.int st), some (.ref l), some (.int (0 + (i : Int))), some (.str (if st = 1 then (⟨#[c]⟩ : Str) ++ ("q7" : Str) else ⟨#[c]⟩))], ⟨_, rfl, rfl, _, rfl, ?_⟩, ?_⟩
    · refine ite2 (fun h => ?_) (fun h => ?_)
      · have h1 : st = 1 := V.int.inj (of_decide_eq_true h)
        refine ⟨_, rfl, _, _, rfl, rfl, (by show 1 + 2 ≤ sizeLine; decide), rfl, ?_⟩
        rw [if_pos h1]
        rfl
      · have h1 : ¬ st = 1 := fun z => h (decide_eq_true (congrArg V.int z))
        refine ⟨rfl, ?_⟩
        rw [if_neg h1]
        rfl
    rintro σ H2 ⟨rfl, rfl⟩
    refine ⟨fun σ H3 => H3 = H2 ∧ σ = [some (.ref a), some (.int st), some (.ref l), some (.int (0 + (i : Int))), some (.str (if st = 2 then ("zz" : Str) ++ ⟨#[c]⟩ else if st = 1 then (⟨#[c]⟩ : Str) ++ ("q7" : Str) else ⟨#[c]⟩))], ⟨_, rfl, rfl, _, rfl, ?_⟩, ?_⟩
    · refine ite2 (fun h => ?_) (fun h => ?_)
      · have h1 : st = 2 := V.int.inj (of_decide_eq_true h)
        subst h1
        refine ⟨_, rfl, _, _, rfl, rfl, ?_, rfl, rfl⟩
        rw [if_neg (by decide)]
        show 2 + 1 ≤ sizeLine
        decide
      · have h1 : ¬ st = 2 := fun z => h (decide_eq_true (congrArg V.int z))
        refine ⟨rfl, ?_⟩
        rw [if_neg h1]
    rintro σ H3 ⟨rfl, rfl⟩
    refine ⟨fun σ H4 => H4 = H3 ∧ σ = [some (.ref a), some (.int st), some (.ref l), some (.int (0 + (i : Int))), some (.str (nmW st i))], ⟨_, rfl, rfl, _, rfl, ?_⟩, ?_⟩
    · refine ite2 (fun h => ?_) (fun h => ?_)
      · have h1 : st = 3 := V.int.inj (of_decide_eq_true h)
        subst h1
        have hb : ((0 + (i : Int)) * (0 + (i : Int)) + 3) = ((i : Int) * (i : Int) + 3) := by rw [Int.zero_add]
        have hsq : 0 ≤ (i : Int) * (i : Int) ∧ (i : Int) * (i : Int) ≤ 400 := by
          refine ⟨Int.mul_nonneg (by omega) (by omega), ?_⟩
          exact Int.le_trans (Int.mul_le_mul (by omega : (i : Int) ≤ 20) (by omega : (i : Int) ≤ 20) (by omega) (by decide)) (by decide)
        have hbd : -1000000000 ≤ (i : Int) * (i : Int) + 3 ∧ (i : Int) * (i : Int) + 3 ≤ 1000000000 := by omega
        refine ⟨_, rfl, _, rfl, _, _, rfl, rfl, .inl ⟨by omega, by omega⟩, _, _, rfl, rfl, _, rfl, ?_, _, _, rfl, rfl, ?_, rfl, ?_⟩
        · rw [hb]
          exact log_short hbd
        · rw [hb]
          have z := numS_short hbd
          show 1 + (numS ((i : Int) * (i : Int) + 3)).length ≤ sizeLine
          rw [sizeLine_eq]
          omega
        · rw [hb]
          rfl
      · have h1 : ¬ st = 3 := fun z => h (decide_eq_true (congrArg V.int z))
        refine ⟨rfl, ?_⟩
        unfold nmW
        rw [if_neg h1, ec]
    rintro σ H4 ⟨rfl, rfl⟩
    refine ⟨_, rfl, .inl ⟨rfl, _, SqL.of hli⟩, _, rfl, l, _, _, rfl, rfl, hli, ?_, ?_⟩
    · rw [List.length_map, List.length_range]
      exact small1000 (by omega)
    have nl : l ≠ a := (st1.s.ne hl).symm
    have st2 : Stp a H (upd H4 l (.lst ((List.range i).map (fun k => V.str (nmW st k)) ++ [.str (nmW st i)]))) := by
      obtain ⟨c1, m1, k1, hc⟩ := sti.s
      refine ⟨⟨c1, m1, k1, by rw [upd_ne nl.symm]; exact hc⟩, fun b o hb e => ?_⟩
      rw [upd_ne (ne_of_none e n0)]
      exact sti.k b o hb e
    refine ⟨st2, ?_, _, _, rfl⟩
    rw [upd_same, List.range_succ, List.map_append]
    rfl
  · rintro σ H' ⟨sti, hli, v1, v2, rfl⟩
    refine ⟨_, rfl, q st l H' sti n0 s0 (by omega) ?_⟩
    rw [hli]
    exact congrArg (fun z => some (HO.lst z)) (by show _ = (List.map V.str (List.map (nmW st) (List.range 20))); rw [List.map_map]; rfl)
end
/-! ### law k23: far numbers, words, their order, expressions -/
def spFarB : Sp := fun vs H Q _ => ∃ a : Addr, vs = [.ref a] ∧ Src H a ∧ ∀ (r : Int) H', Stp a H H' → -990000000 ≤ r → r ≤ 990000000 → Q (.int r) H'
def spWords : Sp := fun vs H Q _ => ∃ a : Addr, vs = [.ref a] ∧ Src H a ∧ ∀ (zs : List Str) (p : Addr) (H' : Hp), zs.Nodup → zs.length = 20 → Stp a H H' → H p = none → H' p = some (.lst (zs.map V.str)) → Q (.ref p) H'
def spOrder : Sp := fun vs H Q _ => ∃ (a l : Addr) (ws : List Str), vs = [.ref a, .ref l] ∧ Src H a ∧ H l = some (.lst (ws.map V.str)) ∧ ws.length ≤ 20 ∧ ∀ (zs : List Str) (p : Addr) (H' : Hp), zs.Perm ws → Stp a H H' → H p = none → H' p = some (.lst (zs.map V.str)) → Q (.ref p) H'
def spNum23 (K : PySem.W.Frag) (m : Nat) : Sp := fun vs H Q _ => ∃ (a p : Addr) (pool : List Str) (d : Nat), vs = [.ref a, .ref p, .int (d : Int)] ∧ Src H a ∧ H p = some (.lst (pool.map V.str)) ∧ pool.length ≤ 40 ∧ d < m ∧
  ∀ v e H', Stp a H H' → EfAt K H' e v → e.ok pool (d + 1) → Q v H'
theorem lst_ne' {a p : Addr} {H : Hp} {zs : List Str} (h : Src H a) (e : H p = some (.lst (zs.map V.str))) : p ≠ a := fun z => by
  obtain ⟨c, m, k, hs⟩ := h
  rw [z, hs] at e
  have e2 := HO.lst.inj (Option.some.inj e)
  cases zs with
  | nil => cases e2
  | cons x y => rw [List.map_cons] at e2; cases e2
theorem names_nd {st : Int} (h0 : 0 ≤ st) (h4 : st < 4) : (namesOf st).Nodup ∧ (namesOf st).length = 20 := by
  have h : st = 0 ∨ st = 1 ∨ st = 2 ∨ st = 3 := by omega
  rcases h with rfl | rfl | rfl | rfl <;> decide +kernel
section
variable {P : Program} {w : World} {K : PySem.W.Frag} {mg : Str → Option Value} {base : Heap}
theorem ok_l_farB (T : Txt w K mg) : FnOk P w K mg base CX0 2 T.a_l_far T.d_l_far p_l_far spFarB := by
  have g_l_pick := ok_l_pick (P := P) (w := w) (base := base) T
  refine T.F_l_far.ok sc_l_far (fun vs H Q E h => ?_) (fun cdv A outer s H vs Q E hr h => ?_)
  · obtain ⟨a, rfl, _⟩ := h
    rfl
  obtain ⟨a, rfl, hS, q⟩ := h
  refine ⟨_, (pss_cons (ps_if (pt_cmpR op_eq (pe_call g_l_pick (hr.mono (by first | decide | omega)) rfl T.m_l_pick T.F_l_pick.kp T.b_l_pick .nil pass0 (pa_cons (pv 0) (pa_cons pe_int pa_nil))) pe_int (nomark _)) (pss_one (ps_ret (pe_op op_mul (pe_op op_sub (pe_call g_l_pick (hr.mono (by first | decide | omega)) rfl T.m_l_pick T.F_l_pick.kp T.b_l_pick .nil pass0 (pa_cons (pv 0) (pa_cons pe_int pa_nil))) pe_int) pe_int))) pss_nil)
      (pss_one (ps_ret (pe_op op_sub (pe_call g_l_pick (hr.mono (by first | decide | omega)) rfl T.m_l_pick T.F_l_pick.kp T.b_l_pick .nil pass0 (pa_cons (pv 0) (pa_cons pe_int pa_nil))) pe_int)))), ?_⟩
  refine ⟨_, rfl, a, 4, rfl, hS, by decide, fun r H1 st r0 r1 => ⟨rfl, _, rfl, ite2 (fun _ => ?_) (fun _ => ?_)⟩⟩
  · refine ⟨_, rfl, a, 2000001, rfl, st.s, by decide, fun r2 H2 st2 r20 r21 => ?_⟩
    refine ⟨_, _, rfl, rfl, _, _, rfl, rfl, .inr ⟨by decide, by decide⟩, ?_⟩
    exact q _ _ (st.trans st2) (by omega) (by omega)
  · refine ⟨_, rfl, a, 13, rfl, st.s, by decide, fun r2 H2 st2 r20 r21 => ?_⟩
    refine ⟨_, _, rfl, rfl, ?_⟩
    exact q _ _ (st.trans st2) (by omega) (by omega)
theorem ok_l_words (T : Txt w K mg) : FnOk P w K mg base CX0 3 T.a_l_words T.d_l_words p_l_words spWords := by
  have g_l_pick := ok_l_pick (P := P) (w := w) (base := base) T
  have g_l_names := ok_l_names (P := P) (w := w) (base := base) T
  refine T.F_l_words.ok sc_l_words (fun vs H Q E h => ?_) (fun cdv A outer s H vs Q E hr h => ?_)
  · obtain ⟨a, rfl, _⟩ := h
    rfl
  obtain ⟨a, rfl, hS, q⟩ := h
  refine ⟨_, (pss_cons (ps_set (i := 1) sc_l_words.nd rfl (Or.inl rfl) (pe_call g_l_names (hr.mono (by first | decide | omega)) rfl T.m_l_names T.F_l_names.kp T.b_l_names .nil pass0 (pa_cons (pv 0) pa_nil)))
      (pss_cons (ps_set (i := 2) sc_l_words.nd rfl (Or.inl rfl) (pe_call g_l_pick (hr.mono (by first | decide | omega)) rfl T.m_l_pick T.F_l_pick.kp T.b_l_pick .nil pass0 (pa_cons (pv 0) (pa_cons pe_int pa_nil))))
      (pss_one (ps_ret (pe_op op_cat (pe_slice sl_list (pv 1) (po_some (pv 2)) po_none) (pe_slice sl_list (pv 1) po_none (po_some (pv 2)))))))), ?_⟩
  refine ⟨_, rfl, a, rfl, hS, fun st p H2 st2 hp2 st0 st4 hN => ?_⟩
  refine ⟨_, rfl, a, 20, rfl, st2.s, by decide, fun r H3 st3 r0 r1 => ?_⟩
  have hr2 : r.toNat ≤ ((namesOf st).map V.str).length := by
    rw [List.length_map]
    show r.toNat ≤ 20
    omega
  have hp3 : H3 p = some (.lst ((namesOf st).map V.str)) := st3.k _ _ (lst_ne' st2.s hN) hN
  refine ⟨_, rfl, _, rfl, r, rfl, p, _, rfl, SqL.of hp3, fun q1 hq1 => ?_⟩
  have k1 := Same.new hq1 (.lst (cutV ((namesOf st).map V.str) (some r) none))
  refine ⟨_, rfl, _, rfl, r, rfl, p, _, rfl, SqL.of (k1 _ _ hp3), fun q2 hq2 => ?_⟩
  have k2 := k1.trans (Same.new hq2 (.lst (cutV ((namesOf st).map V.str) none (some r))))
  have n12 : q1 ≠ q2 := ne_of_none upd_same hq2
  refine ⟨q1, q2, _, _, rfl, rfl, by rw [upd_ne n12, upd_same], upd_same, ?_, fun ln hln => ?_⟩
  · have c1 := cutV_length ((namesOf st).map V.str) (some r) none
    have c2 := cutV_length ((namesOf st).map V.str) none (some r)
    have c3 : ((namesOf st).map V.str).length = 20 := by rw [List.length_map]; rfl
    have c4 : (40 : Nat) ≤ sizeLine := by decide
    omega
  rw [cut_lo r0 hr2, cut_hi r0 hr2, ← List.map_drop, ← List.map_take, ← List.map_append]
  have pm : ((namesOf st).drop r.toNat ++ (namesOf st).take r.toNat).Perm (namesOf st) := by
    have := @List.perm_append_comm _ ((namesOf st).drop r.toNat) ((namesOf st).take r.toNat)
    rw [List.take_append_drop] at this
    exact this
  have nn := names_nd st0 st4
  rw [cut_lo r0 hr2, cut_hi r0 hr2, ← List.map_drop, ← List.map_take] at k2 hln
  have n0 : H ln = none := by
    have := ((st2.trans st3).same k2).free hln
    exact this
  exact q _ ln _ (pm.nodup_iff.mpr nn.1) (pm.length_eq.trans nn.2) (((st2.trans st3).same k2).new hln) n0 upd_same
theorem ok_l_order (T : Txt w K mg) : FnOk P w K mg base CX0 3 T.a_l_order T.d_l_order p_l_order spOrder := by
  have g_l_pick := ok_l_pick (P := P) (w := w) (base := base) T
  refine T.F_l_order.ok sc_l_order (fun vs H Q E h => ?_) (fun cdv A outer s H vs Q E hr h => ?_)
  · obtain ⟨a, l, ws, rfl, _⟩ := h
    rfl
  obtain ⟨a, l, ws, rfl, hS, hl, lw, q⟩ := h
  refine ⟨_, (pss_cons (ps_set (i := 2) sc_l_order.nd rfl (Or.inl rfl) (pe_lst pa_nil))
      (pss_cons (ps_for PassesOwn.never rfl (pi_list (pv 1)) (pg_name (i := 3) sc_l_order.nd rfl (Or.inl rfl))
        (pss_one (ps_expr (pe_bm PySem.F.plainAttrs_list PySem.F.slot_list_insert PySem.F.type_list_insert mt_insert (pv 2) (pa_cons (pe_call g_l_pick (hr.mono (by first | decide | omega)) rfl T.m_l_pick T.F_l_pick.kp T.b_l_pick .nil pass0 (pa_cons (pv 0) (pa_cons (pe_op op_add (pe_callB call_len_seq rfl T.z_len PySem.boot_len (pa_cons (pv 2) pa_nil)) pe_int) pa_nil))) (pa_cons (pv 3) pa_nil))))))
      (pss_one (ps_ret (pv 2))))), ?_⟩
  have nla := lst_ne' hS hl
  refine ⟨by show 0 ≤ sizeLine; decide, fun o ho => ?_⟩
  have so := Same.new ho (.lst [])
  have noa : o ≠ a := (hS.ne ho).symm
  refine ⟨_, rfl, l, rfl, ⟨_, SqL.of (so _ _ hl)⟩, for_list (K := K) (a := l) (xs := ws.map V.str) (fun i σ G => Stp a H G ∧ ∃ zs : List Str, zs.Perm (ws.take i) ∧ G o = some (.lst (zs.map V.str)) ∧ ∃ v3 : Option V, σ = [some (.ref a), some (.ref l), some (.ref o), v3])
    ⟨Stp.of_same hS so, [], .nil, upd_same, none, rfl⟩ (fun i σ G _ ⟨st, _⟩ => SqL.of (st.k _ _ nla hl)) ?_ ?_⟩
  · rintro i y σ G ey ⟨st, zs, pz, hz, v3, rfl⟩
    obtain ⟨w1, ew, rfl⟩ : ∃ w1, ws[i]? = some w1 ∧ y = .str w1 := by
      rw [List.getElem?_map] at ey
      cases e : ws[i]? with
      | none => rw [e] at ey; cases ey
      | some z => rw [e] at ey; exact ⟨z, rfl, (Option.some.inj ey).symm⟩
    have lz : zs.length ≤ 20 := by
      have := pz.length_eq
      rw [List.length_take] at this
      omega
    refine ⟨_, rfl, .inl ⟨rfl, _, SqL.of hz⟩, ?_⟩
    refine ⟨_, rfl, _, rfl, o, _, rfl, .inl (SqL.of hz), _, _, rfl, rfl, a, _, rfl, st.s, by rw [List.length_map]; omega, fun r G2 st2 r0 r1 => ?_⟩
    rw [List.length_map] at r1
    have hz2 := st2.k _ _ noa hz
    refine ⟨_, rfl, o, _, r, _, rfl, rfl, hz2, by rw [List.length_map]; exact small1000 (by omega), r0, by omega, ?_⟩
    have e2 : (zs.map V.str).take r.toNat ++ [V.str w1] ++ (zs.map V.str).drop r.toNat = (zs.take r.toNat ++ [w1] ++ zs.drop r.toNat).map V.str := by
      rw [List.map_append, List.map_append, List.map_take, List.map_drop]
      rfl
    rw [e2]
    have stE : Stp a H (upd G2 o (.lst ((zs.take r.toNat ++ [w1] ++ zs.drop r.toNat).map V.str))) := by
      obtain ⟨c, m, k, hc⟩ := st2.s
      refine ⟨⟨c, m, k, by rw [upd_ne noa.symm]; exact hc⟩, fun b u hb e => ?_⟩
      rw [upd_ne (ne_of_none e ho)]
      exact (st.trans st2).k b u hb e
    refine ⟨stE, _, ?_, upd_same, some (.str w1), rfl⟩
    have p1 : (zs.take r.toNat ++ [w1] ++ zs.drop r.toNat).Perm (zs ++ [w1]) := by
      have p2 : (zs.take r.toNat ++ ([w1] ++ zs.drop r.toNat)).Perm (zs.take r.toNat ++ (zs.drop r.toNat ++ [w1])) := List.Perm.append_left _ List.perm_append_comm
      rw [← List.append_assoc, ← List.append_assoc, List.take_append_drop] at p2
      exact p2
    rw [List.take_add_one, ew]
    exact p1.trans (List.Perm.append_right _ pz)
  · rintro σ G ⟨st, zs, pz, hz, v3, rfl⟩
    rw [List.length_map, List.take_length] at pz
    exact ⟨_, rfl, q zs o G pz st ho hz⟩
end
section
variable {P : Program} {w : World} {K : PySem.W.Frag} {mg : Str → Option Value} {base : Heap}
theorem ok_l_number (T : Txt w K mg) : ∀ m : Nat, m ≤ 8 → FnOk P w K mg base CX0 (m + 3) T.a_l_number T.d_l_number p_l_number (spNum23 K m)
  | 0, _ => fn_vac fun vs H Q E h => by obtain ⟨a, p, pool, d, _, _, _, _, h, _⟩ := h; exact absurd h (Nat.not_lt_zero _)
  | m + 1, hm => by
    have g_l_pick := ok_l_pick (P := P) (w := w) (base := base) T
    have g_l_one := ok_l_oneG (P := P) (w := w) (K := K) (base := base) T
    have g_l_far := ok_l_farB (P := P) (w := w) (base := base) T
    have g_l_number := ok_l_number T m (by omega)
    refine T.F_l_number.ok sc_l_number (fun vs H Q E h => ?_) (fun cdv A outer s H vs Q E hr h => ?_)
    · obtain ⟨a, p, pool, d, rfl, _⟩ := h
      rfl
    obtain ⟨a, p, pool, d, rfl, hS, hp, lp, hd, q⟩ := h
    refine ⟨_, (pss_cons (ps_set (i := 3) sc_l_number.nd rfl (Or.inl rfl) (pe_call g_l_pick (hr.mono (by first | decide | omega)) rfl T.m_l_pick T.F_l_pick.kp T.b_l_pick .nil pass0 (pa_cons (pv 0) (pa_cons pe_int pa_nil))))
      (pss_cons (ps_if (PW.pt (pw_and (pt_cmpR op_gt (pv 2) pe_int (nomark _)) (pw_and1 (pt_cmpR op_lt (pv 3) pe_int (nomark _))))) (pss_cons (ps_set (i := 4) sc_l_number.nd rfl (Or.inl rfl) (pe_call g_l_number (hr.mono (by first | decide | omega)) rfl T.m_l_number T.F_l_number.kp T.b_l_number .nil pass0 (pa_cons (pv 0) (pa_cons (pv 1) (pa_cons (pe_op op_sub (pv 2) pe_int) pa_nil)))))
      (pss_cons (ps_set (i := 5) sc_l_number.nd rfl (Or.inl rfl) (pv 4))
      (C8.pss_cut (ps_if (pt_cmpR op_gt (pv 3) pe_int (nomark _)) (pss_one (ps_set (i := 5) sc_l_number.nd rfl (Or.inl rfl) (pe_call g_l_number (hr.mono (by first | decide | omega)) rfl T.m_l_number T.F_l_number.kp T.b_l_number .nil pass0 (pa_cons (pv 0) (pa_cons (pv 1) (pa_cons (pe_op op_sub (pv 2) pe_int) pa_nil)))))) pss_nil)
      (pss_one (ps_ret (pe_tup (pa_cons (pe_call g_l_one (hr.mono (by first | decide | omega)) rfl T.m_l_one T.F_l_one.kp T.b_l_one .nil pass0 (pa_cons (pv 0) (pa_cons (pe_lst (pa_cons pe_str (pa_cons pe_str (pa_cons pe_str pa_nil)))) pa_nil))) (pa_cons (pv 4) (pa_cons (pv 5) pa_nil))))))))) pss_nil)
      (pss_cons (ps_if (PW.pt (pw_and (pt_cmpR (op_neL0 hr.units0) (pv 1) (pe_lst pa_nil) (nomark _)) (pw_and1 (pt_cmpR op_gt (pe_op op_modN (pe_callTy call_int1 rfl T.z_int bt_int (pa_cons (pv 3) pa_nil)) pe_int) pe_int (nomark _))))) (pss_one (ps_ret (pe_tup (pa_cons pe_str (pa_cons (pe_call g_l_one (hr.mono (by first | decide | omega)) rfl T.m_l_one T.F_l_one.kp T.b_l_one .nil pass0 (pa_cons (pv 0) (pa_cons (pv 1) pa_nil))) pa_nil))))) pss_nil)
      (pss_one (ps_ret (pe_tup (pa_cons pe_str (pa_cons (pe_call g_l_far (hr.mono (by first | decide | omega)) rfl T.m_l_far T.F_l_far.kp T.b_l_far .nil pass0 (pa_cons (pv 0) pa_nil)) pa_nil)))))))), ?_⟩
    have npa := lst_ne' hS hp
    refine ⟨_, rfl, a, 9, rfl, hS, by decide, fun c H1 st1 c0 c1 => ?_⟩
    have hp1 := st1.k _ _ npa hp
    refine ⟨_, rfl, _, _, rfl, rfl, _, rfl, ite2 (fun hd0 => ⟨_, rfl, _, _, rfl, rfl, _, rfl, ite2 (fun hc7 => ?_) (fun _ => ?_)⟩) (fun _ => iteF ?_)⟩
    · have d0 : 0 < d := by
        have := of_decide_eq_true hd0
        omega
      have cast : ((d : Int) - 1) = ((d - 1 : Nat) : Int) := by omega
      refine ⟨_, rfl, _, rfl, _, rfl, _, _, rfl, rfl, a, p, pool, d - 1, by rw [← cast]; rfl, st1.s, hp1, lp, by omega, fun v1 e1 H2 st2 x1 o1 => ?_⟩
      rw [Nat.sub_add_cancel d0] at o1
      have hp2 := st2.k _ _ npa hp1
      refine ⟨_, rfl, fun σ G => ∃ v2 e2, Stp a H G ∧ EfAt K G e1 v1 ∧ EfAt K G e2 v2 ∧ e2.ok pool d ∧ σ = [some (.ref a), some (.ref p), some (.int (d : Int)), some (.int c), some v1, some v2], ?_, ?_⟩
      · refine ⟨_, rfl, _, _, rfl, rfl, _, rfl, ite2 (fun _ => ?_) (fun _ => ?_)⟩
        · refine ⟨_, rfl, _, rfl, _, rfl, _, _, rfl, rfl, a, p, pool, d - 1, by rw [← cast]; rfl, st2.s, hp2, lp, by omega, fun v2 e2 H3 st3 x2 o2 => ?_⟩
          rw [Nat.sub_add_cancel d0] at o2
          exact ⟨v2, e2, (st1.trans st2).trans st3, x1.keep (fun _ _ h => st3.rd h st2.s), x2, o2, rfl⟩
        · exact ⟨v1, e1, st1.trans st2, x1, x1, o1, rfl⟩
      · rintro σ G ⟨v2, e2, st, y1, y2, o2, rfl⟩
        refine ⟨_, rfl, by show 3 ≤ sizeLine; decide, fun l hl => ?_⟩
        have sl := Same.new hl (.lst [.str "+", .str "-", .str "*"])
        refine ⟨a, l, _, false, rfl, (st.same sl).s, fun _ => (st.s.ne hl).symm, SqL.of upd_same, by decide, by decide, fun v G2 hv st3 => ?_⟩
        obtain ⟨o, rfl⟩ : ∃ o : Op, v = .str o.s := by
          simp only [List.mem_cons, List.not_mem_nil, or_false] at hv
          rcases hv with rfl | rfl | rfl
          · exact ⟨.add, rfl⟩
          · exact ⟨.sub, rfl⟩
          · exact ⟨.mul, rfl⟩
        have kp : KeepT K G G2 := fun _ _ h => st3.rd (Same.tup sl h) (st.same sl).s
        refine ⟨_, rfl, _, rfl, by show 3 ≤ sizeLine; decide, fun t ht => ?_⟩
        have st5 := (((st.same sl).trans st3).new (o := .tup [.str o.s, v1, v2]) ht)
        have kt := Same.new ht (.tup [.str o.s, v1, v2])
        exact q (.ref t) (.bin o e1 e2) _ st5 ⟨t, v1, v2, rfl, SqT.of upd_same, (y1.keep kp).same kt, (y2.keep kp).same kt⟩ ⟨o1, o2⟩
    all_goals
      refine ⟨_, rfl, by show 0 ≤ sizeLine; decide, fun e0 he => ?_⟩
      have se := Same.new he (.lst [])
      have hpe := se _ _ hp1
      have stE := st1.same se
      have num : tRet (tTup (tCons (tC (V.str (Str.ofString "num"))) (tCons (tCall spFarB [] E0 (tCons (tVar 0) tNil)) tNil))) { nx := fun x H' => Q V.non H', rt := Q } (List.set (L2.start n_l_number [V.ref a, V.ref p, V.int ↑d]) 3 (some (V.int c))) (upd H1 e0 (.lst [])) := by
        refine ⟨_, rfl, a, rfl, stE.s, fun r G stG b1 b2 => ⟨by show 2 ≤ sizeLine; decide, fun t ht => ?_⟩⟩
        exact q (.ref t) (.num r) _ ((stE.trans stG).new ht) ⟨t, rfl, SqT.of upd_same⟩ ⟨by omega, by omega⟩
      refine ⟨p, e0, _, rfl, rfl, SqL.of hpe, SqL.of upd_same, _, rfl, ite2 (fun hne => ⟨_, rfl, .inl ⟨c, rfl, _, _, rfl, rfl, (by intro z; cases z), _, _, rfl, rfl, _, rfl, ite2 (fun _ => ?_) (fun _ => num)⟩⟩) (fun _ => iteF num)⟩
      have nep : pool ≠ [] := fun z => by
        subst z
        exact absurd hne (by decide)
      refine ⟨_, rfl, _, rfl, a, p, _, false, rfl, stE.s, fun _ => npa, SqL.of hpe, by rw [List.length_map]; exact List.length_pos_iff.mpr nep, by rw [List.length_map]; omega, fun v G hv stG => ⟨by show 2 ≤ sizeLine; decide, fun t ht => ?_⟩⟩
      obtain ⟨z, hz, rfl⟩ := List.mem_map.mp hv
      exact q (.ref t) (.var z) _ ((stE.trans stG).new ht) ⟨t, rfl, SqT.of upd_same⟩ hz
end
theorem ints_ofQ23 {q : Int → Prop} {acc : List V} (h : ∀ (j : Nat) (y : V), acc[j]? = some y → ∃ k : Int, y = .int k ∧ q k) : ∃ ns : List Int, acc = ns.map V.int ∧ ∀ k ∈ ns, q k := by
  induction acc with
  | nil => exact ⟨[], rfl, fun k hk => by simp at hk⟩
  | cons y acc ih =>
    obtain ⟨k, rfl, hk⟩ := h 0 y rfl
    obtain ⟨ns, rfl, hn⟩ := ih fun j y e => h (j + 1) y (by simpa using e)
    exact ⟨k :: ns, rfl, fun z hz => by
      rcases List.mem_cons.mp hz with rfl | hz
      · exact hk
      · exact hn z hz⟩
/-! ### points drawn: the program -/
theorem Mx.but {K : PySem.W.Frag} {D p : Addr} {H H' : Hp} {M : List (List Int)} {acc : List V} (b : But D H H') (hD : H D = some (.lst acc)) (h : Mx true true K H p M) : Mx true true K H' p M := by
  obtain ⟨as, h1, h2, h3⟩ := h
  exact ⟨as, sqT_but b hD h1, h2, fun i a r e1 e2 => sqT_but b hD (h3 i a r e1 e2)⟩
theorem rep_ref {n : Nat} {p : Addr} : (List.replicate n [V.ref p]).flatten = (List.replicate n p).map V.ref := by
  induction n with
  | zero => rfl
  | succ n ih => rw [List.replicate_succ, List.replicate_succ, List.flatten_cons, ih, List.map_cons]; rfl
def spPts26 (K : PySem.W.Frag) : Sp := fun vs H Q _ => ∃ (a : Addr) (l : Nat), vs = [.ref a, .int l, .int 4] ∧ Src H a ∧ l ≤ 1 ∧
  ∀ p H' n Ps, Stp a H H' → H p = none → TPts H' p Ps → Full n Ps → Ps ≠ [] → n ≤ 20 → l ≤ n → Ps.length ≤ 125 → PtB Ps → Q (.ref p) H'
section
variable {P : Program} {w : World} {K : PySem.W.Frag} {mg : Str → Option Value} {base : Heap}
theorem ok_l_points (T : Txt w K mg) : FnOk P w K mg base CX0 3 T.a_l_points T.d_l_points p_l_points (spPts26 K) := by
  have g_l_pick := ok_l_pick (P := P) (w := w) (base := base) T
  have g_l_one := ok_l_oneG (P := P) (w := w) (K := K) (base := base) T
  have g_l_far := ok_l_farB (P := P) (w := w) (base := base) T
  have g_l_box := ok_l_box (P := P) (w := w) (K := K) (base := base) T
  have g_l_grid := ok_l_gridT (P := P) (w := w) (K := K) (base := base) T
  have g_l_belongs := ok_l_belongs (P := P) (w := w) (K := K) (base := base) T
  refine T.F_l_points.ok sc_l_points (fun vs H Q E h => ?_) (fun cdv A outer s H vs Q E hr h => ?_)
  · obtain ⟨a, l, rfl, _⟩ := h
    rfl
  obtain ⟨a, l, rfl, hS, hl, q⟩ := h
  refine ⟨_, (pss_cons (ps_set (i := 3) sc_l_points.nd rfl (Or.inl rfl) (pe_call g_l_one (hr.mono (by first | decide | omega)) rfl T.m_l_one T.F_l_one.kp T.b_l_one .nil pass0 (pa_cons (pv 0) (pa_cons (pe_lst (pa_cons pe_int (pa_cons pe_int (pa_cons pe_int (pa_cons pe_int (pa_cons pe_int (pa_cons pe_int (pa_cons pe_int (pa_cons pe_int pa_nil))))))))) pa_nil))))
      (pss_cons (ps_set (i := 4) sc_l_points.nd rfl (Or.inl rfl) (pe_callB (call_max2 rfl) rfl T.z_max bb_max (pa_cons (pv 1) (pa_cons (pe_call g_l_one (hr.mono (by first | decide | omega)) rfl T.m_l_one T.F_l_one.kp T.b_l_one .nil pass0 (pa_cons (pv 0) (pa_cons (pe_lst (pa_cons pe_int (pa_cons pe_int (pa_cons pe_int (pa_cons pe_int (pa_cons pe_int (pa_cons pe_int (pa_cons pe_int (pa_cons pe_int pa_nil))))))))) pa_nil))) pa_nil))))
      (C8.pss_cut (ps_if (pt_cmpR op_gt (pv 3) pe_int (nomark _)) (pss_one (ps_set (i := 4) sc_l_points.nd rfl (Or.inl rfl) (pe_callB (call_min2 rfl) rfl T.z_min bb_min (pa_cons (pv 4) (pa_cons pe_int pa_nil))))) pss_nil)
      (pss_cons (ps_set (i := 5) sc_l_points.nd rfl (Or.inl rfl) (pe_lst pa_nil))
      (pss_cons (ps_for PassesOwn.never rfl (pi_range1 rfl T.z_range (pa_cons (pe_call g_l_one (hr.mono (by first | decide | omega)) rfl T.m_l_one T.F_l_one.kp T.b_l_one .nil pass0 (pa_cons (pv 0) (pa_cons (pe_lst (pa_cons pe_int (pa_cons pe_int (pa_cons pe_int (pa_cons pe_int (pa_cons pe_int (pa_cons pe_int pa_nil))))))) pa_nil))) pa_nil)) (pg_name (i := 6) sc_l_points.nd rfl (Or.inl rfl))
        (pss_one (ps_expr (pe_bm PySem.F.plainAttrs_list PySem.F.slot_list_append PySem.F.type_list_append mt_append (pv 5) (pa_cons (pe_callTy call_tuple_of rfl T.z_tuple bt_tuple (pa_cons (pe_lc (own := [("_law_k", 7)]) (g := gName 7) (tt := tYes) rfl sc_l_points.nd (pi_range1 rfl T.z_range (pa_cons (pv 4) pa_nil)) (blkOk_by (own := [("_law_k", 7)]) (N := n_l_points) (sc := defScope s_l_points) (by decide +kernel)) (fun _ _ _ _ _ => (pg_name (i := 7) sc_l_points.nd rfl (Or.inl rfl))) (fun _ _ _ _ _ => pts_nil) (fun _ _ _ _ _ => (pe_call g_l_pick (hr.mono (by first | decide | omega)) rfl T.m_l_pick T.F_l_pick.kp T.b_l_pick .nil pass0 (pa_cons (pv 0) (pa_cons (pv 2) pa_nil))))) pa_nil)) pa_nil)))))
      (pss_cons (ps_set (i := 8) sc_l_points.nd rfl (Or.inl rfl) (pe_call g_l_box (hr.mono (by first | decide | omega)) rfl T.m_l_box T.F_l_box.kp T.b_l_box .nil pass0 (pa_cons (pv 5) pa_nil)))
      (pss_cons (ps_set (i := 9) sc_l_points.nd rfl (Or.inr rfl) (pe_listRg rfl rfl T.z_list (prg_1 rfl T.z_range (pv 4))))
      (pss_cons (ps_for PassesOwn.never rfl (pi_range1 rfl T.z_range (pa_cons (pv 3) pa_nil)) (pg_name (i := 6) sc_l_points.nd rfl (Or.inl rfl))
        (pss_one (ps_expr (pe_bm PySem.F.plainAttrs_list PySem.F.slot_list_insert PySem.F.type_list_insert mt_insert (pv 9) (pa_cons (pe_call g_l_pick (hr.mono (by first | decide | omega)) rfl T.m_l_pick T.F_l_pick.kp T.b_l_pick .nil pass0 (pa_cons (pv 0) (pa_cons (pe_op op_add (pe_callB call_len_seq rfl T.z_len PySem.boot_len (pa_cons (pv 9) pa_nil)) pe_int) pa_nil))) (pa_cons (pe_op op_sub (pe_call g_l_pick (hr.mono (by first | decide | omega)) rfl T.m_l_pick T.F_l_pick.kp T.b_l_pick .nil pass0 (pa_cons (pv 0) (pa_cons (pe_op op_add (pv 4) pe_int) pa_nil))) pe_int) pa_nil))))))
      (pss_cons (ps_set (i := 10) sc_l_points.nd rfl (Or.inr rfl) (pe_lc (own := [("_law_k", 7)]) (g := gName 7) (tt := tYes) rfl sc_l_points.nd (pi_list (pv 9)) (blkOk_by (own := [("_law_k", 7)]) (N := n_l_points) (sc := defScope s_l_points) (by decide +kernel)) (fun _ _ _ _ _ => (pg_name (i := 7) sc_l_points.nd rfl (Or.inl rfl))) (fun _ _ _ _ _ => pts_nil) (fun _ _ _ _ _ => (pe_call g_l_far (hr.mono (by first | decide | omega)) rfl T.m_l_far T.F_l_far.kp T.b_l_far .nil pass0 (pa_cons (pv 0) pa_nil)))))
      (pss_cons (ps_set (i := 11) sc_l_points.nd rfl (Or.inl rfl) (pe_lst pa_nil))
      (pss_cons (ps_for PassesOwn.never rfl (pi_list (pe_call g_l_grid (hr.mono (by first | decide | omega)) rfl T.m_l_grid T.F_l_grid.kp T.b_l_grid .nil pass0 (pa_cons (pe_op op_rep (pe_lst (pa_cons (pe_tup (pa_cons pe_int (pa_cons (pe_op op_sub (pv 2) pe_int) pa_nil))) pa_nil)) (pv 4)) pa_nil))) (pg_name (i := 12) sc_l_points.nd rfl (Or.inl rfl))
        (pss_one (ps_if (pt_val (pe_call g_l_belongs (hr.mono (by first | decide | omega)) rfl T.m_l_belongs T.F_l_belongs.kp T.b_l_belongs .nil pass0 (pa_cons (pv 8) (pa_cons (pv 12) pa_nil)))) (pss_cons (ps_set (i := 13) sc_l_points.nd rfl (Or.inr rfl) (pe_op op_catT (pe_tup (pa_cons pe_int pa_nil)) (pv 12)))
      (pss_one (ps_expr (pe_bm PySem.F.plainAttrs_list PySem.F.slot_list_append PySem.F.type_list_append mt_append (pv 11) (pa_cons (pe_callTy call_tuple_of rfl T.z_tuple bt_tuple (pa_cons (pe_lc (own := [("_law_k", 7)]) (g := gName 7) (tt := tYes) rfl sc_l_points.nd (pi_range1 rfl T.z_range (pa_cons (pe_callB call_len_seq rfl T.z_len PySem.boot_len (pa_cons (pv 9) pa_nil)) pa_nil)) (blkOk_by (own := [("_law_k", 7)]) (N := n_l_points) (sc := defScope s_l_points) (by decide +kernel)) (fun _ _ _ _ _ => (pg_name (i := 7) sc_l_points.nd rfl (Or.inl rfl))) (fun _ _ _ _ _ => pts_nil) (fun _ _ _ _ _ => (pe_op op_add (pe_ix (show IxR _ (rIxT K) from ix_tup) (pv 13) (pe_op op_add (pe_ix (show IxR _ (rIxL K) from ix_list) (pv 9) (pv 7) (fun _ _ => rfl)) pe_int) (fun _ _ => rfl)) (pe_ix (show IxR _ (rIxL K) from ix_list) (pv 10) (pv 7) (fun _ _ => rfl))))) pa_nil)) pa_nil))))) pss_nil)))
      (pss_one (ps_ret (pv 11)))))))))))))), ?_⟩
  have lst : ∀ {G : Hp} {l0 : Addr} {ns : List Int}, Src G a → G l0 = none → (upd G l0 (.lst (ns.map V.int))) l0 = some (.lst (ns.map V.int)) ∧ Stp a G (upd G l0 (.lst (ns.map V.int))) ∧ l0 ≠ a := fun hs e => ⟨upd_same, (Stp.refl hs).new e, (hs.ne e).symm⟩
  refine ⟨_, rfl, (by show 8 ≤ sizeLine; decide), fun l0 hl0 => ?_⟩
  obtain ⟨e0, s0, n0⟩ := lst (ns := [0, 0, 0, 0, 1, 2, 3, 9]) hS hl0
  refine ⟨a, l0, _, false, rfl, s0.s, fun _ => n0, SqL.of e0, by decide, by decide, fun v1 H1 hv1 st1 => ?_⟩
  obtain ⟨mo, hmo, rfl⟩ := List.mem_map.mp hv1
  have hmo17 : 0 ≤ mo ∧ mo ≤ 17 := by
    simp at hmo
    omega
  have s1 := s0.trans st1
  refine ⟨_, rfl, _, rfl, (by show 8 ≤ sizeLine; decide), fun l1 hl1 => ?_⟩
  obtain ⟨e1, s1', n1⟩ := lst (ns := [0, 1, 2, 2, 3, 3, 3, 3]) s1.s hl1
  refine ⟨a, l1, _, false, rfl, s1'.s, fun _ => n1, SqL.of e1, by decide, by decide, fun v2 H2 hv2 st2 => ?_⟩
  obtain ⟨co, hco, rfl⟩ := List.mem_map.mp hv2
  have hco3 : 0 ≤ co ∧ co ≤ 3 := by
    simp at hco
    omega
  have s2 := (s1.trans s1').trans st2
  refine ⟨_, _, rfl, ?_⟩
  refine ⟨fun σ G => ∃ n m : Nat, σ = [some (.ref a), some (.int l), some (.int 4), some (.int m), some (.int n), none, none, none, none, none, none, none, none, none] ∧ Stp a H G ∧ n ≤ 3 ∧ m ≤ 17 ∧ n + m ≤ 20 ∧ l ≤ n, ?_, ?_⟩
  · refine ⟨_, rfl, _, _, rfl, rfl, _, rfl, ite2 (fun h => ?_) (fun h => ?_)⟩
    · have h3 : 3 < mo := of_decide_eq_true h
      refine ⟨_, rfl, _, _, rfl, ?_⟩
      refine ⟨(if 2 < if co > (l : Int) then co else (l : Int) then 2 else if co > (l : Int) then co else (l : Int)).toNat, mo.toNat, ?_, s2, by split <;> split <;> omega, by omega, by split <;> split <;> omega, by split <;> split <;> omega⟩
      have e1 : ((mo.toNat : Nat) : Int) = mo := by omega
      have e2 : (((if 2 < if co > (l : Int) then co else (l : Int) then 2 else if co > (l : Int) then co else (l : Int)).toNat : Nat) : Int) = (if 2 < if co > (l : Int) then co else (l : Int) then 2 else if co > (l : Int) then co else (l : Int)) := by split <;> split <;> omega
      rw [e1, e2]
      rfl
    · have h3 : ¬ 3 < mo := fun z => h (decide_eq_true z)
      refine ⟨(if co > (l : Int) then co else (l : Int)).toNat, mo.toNat, ?_, s2, by split <;> omega, by omega, by split <;> omega, by split <;> omega⟩
      have e1 : ((mo.toNat : Nat) : Int) = mo := by omega
      have e2 : (((if co > (l : Int) then co else (l : Int)).toNat : Nat) : Int) = (if co > (l : Int) then co else (l : Int)) := by split <;> omega
      rw [e1, e2]
      rfl
  clear s2 st2 s1' s1 st1 s0 e0 e1
  rintro σ G ⟨n, m, rfl, sG, hn3, hm17, hnm, hln⟩
  refine ⟨(by show 0 ≤ sizeLine; decide), fun L hL => ?_⟩
  have sL := sG.new (o := .lst []) hL
  refine ⟨_, rfl, (by show 6 ≤ sizeLine; decide), fun l2 hl2 => ?_⟩
  obtain ⟨e2, s2', n2⟩ := lst (ns := [1, 2, 3, 4, 4, 4]) sL.s hl2
  refine ⟨a, l2, _, false, rfl, s2'.s, fun _ => n2, SqL.of e2, by decide, by decide, fun v3 H3 hv3 st3 => ?_⟩
  obtain ⟨tn, htn, rfl⟩ := List.mem_map.mp hv3
  have htn4 : 1 ≤ tn ∧ tn ≤ 4 := by
    simp at htn
    omega
  have naL : a ≠ L := sG.s.ne hL
  have hL0 : H L = none := sG.free hL
  have s3 := (sL.trans s2').trans st3
  have eL3 : H3 L = some (.lst []) := (s2'.trans st3).k _ _ naL.symm upd_same
  refine ⟨_, rfl, by omega, by omega, for_range (lo := 0) (fun i σ F => (∃ y z : Option V, σ = [some (.ref a), some (.int l), some (.int 4), some (.int m), some (.int n), some (.ref L), y, z, none, none, none, none, none, none]) ∧ Stp a H F ∧ ∃ Ss, TPts F L Ss ∧ Ss.length = i ∧ ∀ s ∈ Ss, s ∈ gridL (List.replicate n [0, 3]))
    ⟨⟨_, _, rfl⟩, s3, [], TPts.nil eL3, rfl, fun s h => by simp at h⟩ ?_ ?_⟩
  · rintro i σ F hi ⟨⟨y, z, rfl⟩, sF, Ss, tS, lS, gS⟩
    obtain ⟨as, eS, hA⟩ := id tS
    refine ⟨_, rfl, .inl ⟨rfl, _, SqL.of eS⟩, ?_⟩
    refine ⟨_, rfl, _, rfl, by omega, by omega, fun D hD => ?_⟩
    have naD : a ≠ D := sF.s.ne hD
    refine lc_it walk_range (LcP (fun F1 => Stp a F F1) (fun _ y _ => ∃ k : Int, y = .int k ∧ 0 ≤ k ∧ k ≤ 3) D) ⟨(Stp.refl sF.s).new hD, [], upd_same, rfl, fun j y e => by simp at e⟩ (fun _ _ _ _ => trivial) ?_ ?_
    · rintro j x F1 F2 hj PF ⟨rfl, rfl⟩
      refine ⟨rfl, tyes ?_⟩
      refine ⟨_, rfl, _, rfl, a, 4, rfl, PF.1.s, by decide, fun d F3 st4 d0 d1 => ?_⟩
      exact lcp_step PF (fun o e => st4.k _ _ naD.symm e) (lt_line (by omega)) (fun o => (PF.1.trans st4).put sF.s hD) (fun _ _ _ h => h) fun _ => ⟨d, rfl, d0, by omega⟩
    · intro F1 PF
      obtain ⟨sF1, acc, h1, h2, h3⟩ := PF
      obtain ⟨ns, rfl⟩ := ints_of fun j y e => by
        obtain ⟨k, e, _⟩ := h3 j y e
        exact ⟨k, e⟩
      rw [List.length_map] at h2
      refine ⟨D, _, rfl, .inl ⟨SqL.of h1, fun t ht => ?_⟩⟩
      have sT := sF1.new (o := .tup (ns.map V.int)) ht
      have eS2 := sT.k _ _ naL.symm eS
      refine ⟨L, _, _, rfl, rfl, eS2, lt_line (by rw [List.length_map, hA.1]; omega), ⟨_, _, rfl⟩, (sF.trans sT).put hS hL0, Ss ++ [ns], TPts.push (hA.stp sT sF.s) (Same.refl _) eS2 upd_same, by rw [List.length_append, lS]; rfl, fun s hs => ?_⟩
      rcases List.mem_append.mp hs with h4 | h4
      · exact gS s h4
      · rw [List.mem_singleton.mp h4]
        refine grid_rep.mpr ⟨by omega, fun k hk => ?_⟩
        have ek : ns[k]? = some (ns[k]'(by omega)) := List.getElem?_eq_getElem _
        obtain ⟨v, e, v0, v1⟩ := h3 k _ (map_get ek)
        rw [List.getD_eq_getElem?_getD, ek]
        cases e
        exact ⟨v0, v1⟩
  rintro σ F ⟨⟨y, z, rfl⟩, sF, Ss, tS, lS, gS⟩
  have neS : Ss ≠ [] := fun z => by
    rw [z] at lS
    simp at lS
    omega
  have fS : ∀ r ∈ Ss, r.length = n := fun r hr => (grid_rep.mp (gS r hr)).1
  refine ⟨_, rfl, L, n, Ss, rfl, by omega, tS.pts.mx, fS, by omega, fun vb F2 s2 b2 => ?_⟩
  rw [hull_some neS] at b2
  obtain ⟨pb, rfl, mB⟩ := b2
  have bs := base_full (w := 3) neS gS
  have sF2 := sF.same s2
  refine ⟨_, rfl, _, rfl, ⟨by omega, by omega, by omega, by omega, by omega⟩, fun Z hZ => ?_⟩
  have naZ : a ≠ Z := sF2.s.ne hZ
  have eR : rgV 0 (n : Int) = ((List.range n).map fun i : Nat => (0 : Int) + (i : Int)).map V.int := by
    unfold rgV
    rw [show ((n : Int) - 0).toNat = n by omega, List.map_map]
    rfl
  rw [eR]
  have sZ : Stp a F2 (upd F2 Z (.lst (((List.range n).map fun i : Nat => (0 : Int) + (i : Int)).map V.int))) := (Stp.refl sF2.s).new hZ
  refine ⟨_, rfl, _, rfl, by omega, by omega, for_range (lo := 0) (fun i σ G => (∃ y z : Option V, σ = [some (.ref a), some (.int l), some (.int 4), some (.int m), some (.int n), some (.ref L), y, z, some (.ref pb), some (.ref Z), none, none, none, none]) ∧ Stp a F2 G ∧ ∃ S : List Int, G Z = some (.lst (S.map V.int)) ∧ S.length = n + i ∧ ∀ s ∈ S, -1 ≤ s ∧ s ≤ (n : Int) - 1)
    ⟨⟨_, _, rfl⟩, sZ, _, upd_same, by rw [List.length_map, List.length_range]; rfl, fun s hs => by
      obtain ⟨k, hk, rfl⟩ := List.mem_map.mp hs
      rw [List.mem_range] at hk
      omega⟩ ?_ ?_⟩
  · rintro i σ G hi ⟨⟨y, z, rfl⟩, sG2, S, eZ, lS2, hS2⟩
    refine ⟨_, rfl, .inl ⟨rfl, _, SqL.of eZ⟩, ?_⟩
    refine ⟨_, rfl, _, rfl, Z, _, rfl, .inl (SqL.of eZ), _, _, rfl, rfl, a, _, rfl, sG2.s, by rw [List.length_map]; omega, fun d G3 st3 d0 d1 => ?_⟩
    refine ⟨_, rfl, _, rfl, _, _, rfl, rfl, a, _, rfl, st3.s, by omega, fun e G4 st4 e0 e1 => ⟨_, _, rfl, rfl, ?_⟩⟩
    rw [List.length_map] at d1
    have eZ4 := (st3.trans st4).k _ _ naZ.symm eZ
    refine ⟨Z, S.map V.int, d, .int (e - 1), rfl, rfl, eZ4, lt_line (by rw [List.length_map]; omega), d0, by omega, ?_⟩
    refine ⟨⟨_, _, rfl⟩, (sG2.trans (st3.trans st4)).put sF2.s hZ, S.take d.toNat ++ [e - 1] ++ S.drop d.toNat, ?_, ?_, fun s hs => ?_⟩
    · rw [List.map_append, List.map_append, List.map_take, List.map_drop]
      exact upd_same
    · rw [List.length_append, List.length_append, List.length_take, List.length_drop]
      show min d.toNat S.length + 1 + (S.length - d.toNat) = _
      omega
    · rcases List.mem_append.mp hs with h1 | h1
      · rcases List.mem_append.mp h1 with h2 | h2
        · exact hS2 s (List.mem_of_mem_take h2)
        · rw [List.mem_singleton.mp h2]
          omega
      · exact hS2 s (List.mem_of_mem_drop h1)
  rintro σ G ⟨⟨y, z, rfl⟩, sG2, S, eZ, lS2, hS2⟩
  refine ⟨_, rfl, Z, rfl, ⟨_, SqL.of eZ⟩, fun D hD => ?_⟩
  have naD : a ≠ D := sG2.s.ne hD
  refine lc_it (walk_list (xs := S.map V.int)) (LcP (fun F1 => Stp a G F1) (fun _ y _ => ∃ k : Int, y = .int k ∧ -990000000 ≤ k ∧ k ≤ 990000000) D) ⟨(Stp.refl sG2.s).new hD, [], upd_same, rfl, fun j y e => by simp at e⟩ (fun _ _ _ PF => SqL.of (PF.1.k _ _ naZ.symm eZ)) ?_ ?_
  · rintro j x F1 F3 hj PF ⟨rfl, ex⟩
    rw [List.length_map] at hj
    refine ⟨rfl, tyes ?_⟩
    refine ⟨_, rfl, a, rfl, PF.1.s, fun r F4 st4 b1 b2 => ?_⟩
    exact lcp_step PF (fun o e => st4.k _ _ naD.symm e) (lt_line (by omega)) (fun o => (PF.1.trans st4).put sG2.s hD) (fun _ _ _ h => h) fun _ => ⟨r, rfl, b1, b2⟩
  intro F4 PF
  obtain ⟨sF4, acc, h1, h2, h3⟩ := PF
  obtain ⟨Tm, rfl, hTm⟩ := ints_ofQ23 (q := fun k => -990000000 ≤ k ∧ k ≤ 990000000) h3
  rw [List.length_map, List.length_map] at h2
  have eZ5 := sF4.k _ _ naZ.symm eZ
  have mB5 := Mx.stp2 (sG2.trans sF4) sF2.s mB
  have s5 := sF2.trans (sG2.trans sF4)
  refine ⟨(by show 0 ≤ sizeLine; decide), fun L3 hL3 => ?_⟩
  have n3 : F4 L3 = none := hL3
  refine ⟨_, rfl, _, _, rfl, rfl, (by show 2 ≤ sizeLine; decide), fun pt hpt => ⟨(by show 1 ≤ sizeLine; decide), fun l4 hl4 => ?_⟩⟩
  refine ⟨_, rfl, l4, n, _, rfl, rfl, upd_same, by omega, by omega, (by rw [sizeLine_eq]; show 1 * (n : Int).toNat ≤ _; omega), fun l5 hl5 => ?_⟩
  rw [Int.toNat_natCast, rep_ref]
  have eD5 := h1
  have sN : Same F4 (upd (upd (upd (upd F4 L3 (.lst [])) pt (.tup [.int 0, .int (4 - 1)])) l4 (.lst [.ref pt])) l5 (.lst ((List.replicate n pt).map V.ref))) := (((Same.new hL3 _).trans (Same.new hpt _)).trans (Same.new hl4 _)).trans (Same.new hl5 _)
  have eP5 : (upd (upd (upd (upd F4 L3 (.lst [])) pt (.tup [.int 0, .int (4 - 1)])) l4 (.lst [.ref pt])) l5 (.lst ((List.replicate n pt).map V.ref))) pt = some (.tup [.int 0, .int (4 - 1)]) := (Same.new hl5 _) _ _ ((Same.new hl4 _) _ _ upd_same)
  have eL5 : (upd (upd (upd (upd F4 L3 (.lst [])) pt (.tup [.int 0, .int (4 - 1)])) l4 (.lst [.ref pt])) l5 (.lst ((List.replicate n pt).map V.ref))) L3 = some (.lst []) := (Same.new hl5 _) _ _ ((Same.new hl4 _) _ _ ((Same.new hpt _) _ _ upd_same))
  have mR : Mx false true K (upd (upd (upd (upd F4 L3 (.lst [])) pt (.tup [.int 0, .int (4 - 1)])) l4 (.lst [.ref pt])) l5 (.lst ((List.replicate n pt).map V.ref))) l5 (List.replicate n [0, 3]) := ⟨List.replicate n pt, SqL.of upd_same, by rw [List.length_replicate, List.length_replicate], fun i b r e1 e2 => by
    rw [List.getElem?_replicate] at e1 e2
    split at e1
    · cases e1
      split at e2
      · cases e2
        exact SqT.of eP5
      · rename_i g1 g2
        exact absurd g1 g2
    · cases e1⟩
  generalize (upd (upd (upd (upd F4 L3 (.lst [])) pt (.tup [.int 0, .int (4 - 1)])) l4 (.lst [.ref pt])) l5 (.lst ((List.replicate n pt).map V.ref))) = F5 at sN eP5 eL5 mR
  refine ⟨l5, List.replicate n [0, 3], rfl, mR, fun r hr => ?_, by rw [List.length_replicate]; exact hn3, fun x F6 s6 tx => ?_⟩
  · rw [List.eq_of_mem_replicate hr]
    exact ⟨0, 3, rfl, by decide, by decide, by decide, fun _ => by decide⟩
  have gl : (gridL (List.replicate n [0, 3])).length ≤ 125 := by
    have h := grid_len (Rs := List.replicate n [0, 3]) (fun r hr => by
      rw [List.eq_of_mem_replicate hr]
      exact ⟨0, 3, rfl, by decide, by decide, by decide, fun _ => by decide⟩) n (by rw [List.length_replicate]; exact Nat.le_refl _)
    have e : (List.replicate n [(0 : Int), 3]).take n = List.replicate n [0, 3] := List.take_of_length_le (by rw [List.length_replicate]; exact Nat.le_refl _)
    rw [e] at h
    exact Nat.le_trans h (Nat.le_trans (Nat.pow_le_pow_right (by decide) hn3) (by decide))
  obtain ⟨ms, eM, hM⟩ := id tx
  have kS : ∀ k < S.length + 1, kap S k < n + 1 := fun k hk => by
    cases k with
    | zero => exact Nat.zero_lt_succ n
    | succ k =>
      show (S.getD k 0 + 1).toNat < n + 1
      have g := hS2 (S.getD k 0) (by rw [List.getD_eq_getElem?_getD, List.getElem?_eq_getElem (by omega : k < S.length)]; exact List.getElem_mem _)
      omega
  have dg : ∀ i < n + 1, getM (hullM n Ss) i i = 0 := fun i hi => (hull_clo neS).d i hi
  have sN6 := sN.trans s6
  have mB6 := (mB5.same sN6)
  have eZ6 := sN6 _ _ eZ5
  have eD6 := sN6 _ _ eD5
  have eL6 := s6 _ _ eL5
  have s56 := s5.same sN6
  have h3F : ∀ {F7 : Hp}, Same F6 F7 → ∀ c o, F4 c = some o → F7 c = some o := fun s c o e => s _ _ (sN6 _ _ e)
  refine ⟨x, rfl, ⟨_, SqL.of eM⟩, ?_⟩
  have nG : gridL (List.replicate n [0, 3]) ≠ [] := fun z => by
    obtain ⟨s, hs⟩ := List.exists_mem_of_ne_nil _ neS
    have := (List.mem_filter.mp (bs.2 s hs)).1
    rw [z] at this
    simp at this
  have nx : x ≠ L3 := fun z => by
    rw [z, eL6] at eM
    cases ms with
    | nil => exact nG (List.length_eq_zero_iff.mp hM.1.symm)
    | cons b bs => cases eM
  have nZ3 : Z ≠ L3 := ne_of_none eZ5 n3
  have nD3 : D ≠ L3 := ne_of_none eD5 n3
  refine for_it (walk_list (xs := ms.map V.ref)) (fun i σ F => (∃ z y12 y13 : Option V, σ = [some (.ref a), some (.int l), some (.int 4), some (.int m), some (.int n), some (.ref L), y, z, some (.ref pb), some (.ref Z), some (.ref D), some (.ref L3), y12, y13]) ∧ But L3 F6 F ∧ TPts F L3 ((((gridL (List.replicate n [0, 3])).take i).filter (inL n (hullM n Ss))).map (shf S Tm)))
    ⟨⟨_, _, _, rfl⟩, (But.of_same (Same.refl _)), TPts.nil eL6⟩ (fun j σ F _ P => SqL.of (P.2.1 _ _ nx eM)) ?_ ?_
  · rintro i v σ F7 F hi ⟨⟨z, y12, y13, rfl⟩, bF, pF⟩ ⟨rfl, ev⟩
    rw [List.length_map, hM.1] at hi
    have er : (gridL (List.replicate n [0, 3]))[i]? = some (gridL (List.replicate n [0, 3]))[i] := List.getElem?_eq_getElem hi
    have mr := grid_rep.mp (List.getElem_mem hi)
    generalize (gridL (List.replicate n [0, 3]))[i] = r at er mr
    have lr := mr.1
    have ea : ms[i]? = some (ms[i]'(by rw [hM.1]; exact hi)) := List.getElem?_eq_getElem _
    generalize ms[i]'(by rw [hM.1]; exact hi) = tp at ea
    rw [map_get ea] at ev
    obtain rfl := Option.some.inj ev
    have ht6 := hM.2 i tp r ea er
    have ntp : tp ≠ L3 := fun z => by rw [z, eL6] at ht6; cases ht6
    have htF := bF _ _ ntp ht6
    refine ⟨_, rfl, _, rfl, pb, tp, hullM n Ss, r, rfl, by omega, mB6.but bF eL6, (by rw [lr]; exact hullM_sz n Ss), (by rw [lr]; exact dg), SqT.of htF, fun b F8 s8 hb => ⟨_, rfl, ite2 (fun h => ?_) (fun h => ?_)⟩⟩
    · have hin : inL n (hullM n Ss) r = true := inL_iff.mpr (by
        have := hb.mp h
        rwa [lr] at this)
      refine ⟨(by show 1 ≤ sizeLine; decide), fun t1 ht1 => ?_⟩
      refine ⟨_, rfl, cat0 (SqT.of upd_same) (SqT.of ((s8.trans (Same.new ht1 _)) _ _ htF)) (by omega) fun zf F9 sa hz => ?_⟩
      have s79 := (s8.trans (Same.new ht1 (.tup [.int 0]))).trans sa
      obtain ⟨as7, e7, hA7⟩ := id (pF.same s79)
      refine ⟨_, rfl, .inl ⟨rfl, _, SqL.of e7⟩, ?_⟩
      have eZ9 := s79 _ _ (bF _ _ nZ3 eZ6)
      have eD9 := s79 _ _ (bF _ _ nD3 eD6)
      refine ⟨_, rfl, Z, _, rfl, .inl (SqL.of eZ9), _, rfl, by omega, by rw [List.length_map]; omega, fun D2 hD2 => ?_⟩
      refine lc_it walk_range (LcP (Same F9) (RInt (shf S Tm r)) D2) (lcp_start hD2) (fun _ _ _ _ => trivial) ?_ ?_
      · rintro k x2 F10 F11 hk PF2 ⟨rfl, rfl⟩
        have hk2 : k < S.length := by
          rw [List.length_map] at hk
          omega
        have gk := kS (k + 1) (by omega)
        have gs := hS2 (S.getD k 0) (by rw [List.getD_eq_getElem?_getD, List.getElem?_eq_getElem hk2]; exact List.getElem_mem _)
        refine ⟨rfl, tyes ?_⟩
        have eAt : atI ((0 :: r).map V.int) (S.getD k 0 + 1) = some (.int (xc r (kap S (k + 1)))) := by
          have e : (S.getD k 0 + 1) = ((kap S (k + 1) : Nat) : Int) := by
            show S.getD k 0 + 1 = (((S.getD k 0 + 1).toNat : Nat) : Int)
            omega
          rw [e]
          exact xc_at lr gk
        refine ⟨_, rfl, _, rfl, _, rfl, Z, _, _, _, rfl, rfl, SqL.of (PF2.1 _ _ eZ9), atI_row hk2, _, _, rfl, rfl, zf, _, _, _, rfl, rfl, Same.tup PF2.1 hz, eAt, _, rfl, _, rfl, D, _, _, _, rfl, rfl, SqL.of (PF2.1 _ _ eD9), atI_row (by omega), _, _, rfl, rfl, ?_⟩
        exact lcp_same PF2 hD2 (Same.refl _) (lt_line (by omega)) RInt.mono ⟨_, mkR_at hk2, rfl⟩
      · intro F10 PF2
        refine ⟨D2, _, rfl, .inl ⟨SqL.of (lcp_ints (K := K) PF2 (by rw [List.length_map, shf_len]; omega)), fun t ht => ?_⟩⟩
        have sT := PF2.1.trans (Same.new ht (.tup ((shf S Tm r).map V.int)))
        have e8 := sT _ _ e7
        refine ⟨L3, _, _, rfl, rfl, e8, lt_line (by rw [List.length_map, hA7.1, List.length_map]; have := List.length_filter_le (inL n (hullM n Ss)) ((gridL (List.replicate n [0, 3])).take i); rw [List.length_take] at this; omega), ?_⟩
        refine ⟨⟨_, _, _, rfl⟩, fun c o nc e => ?_, ?_⟩
        · rw [upd_ne nc]
          exact sT _ _ (s79 _ _ (bF _ _ nc e))
        · rw [take_snoc er, List.filter_append, List.filter_cons_of_pos hin, List.filter_nil, List.map_append]
          exact TPts.push hA7 sT e8 upd_same
    · have hin : ¬ inL n (hullM n Ss) r = true := fun z => h (hb.mpr (by
        rw [lr]
        exact inL_iff.mp z))
      refine ⟨⟨_, _, _, rfl⟩, fun c o nc e => s8 _ _ (bF _ _ nc e), ?_⟩
      rw [take_snoc er, List.filter_append, List.filter_cons_of_neg hin, List.filter_nil, List.append_nil]
      exact pF.same s8
  · rintro σ F ⟨⟨z, y12, y13, rfl⟩, bF, pF⟩
    rw [List.length_map, hM.1, List.take_length] at pF
    have n30 : H L3 = none := s5.free n3
    have sFin : Stp a H F := by
      obtain ⟨x1, x2, x3, e⟩ := s56.s
      exact ⟨⟨x1, x2, x3, bF _ _ (fun z => by rw [z, eL6] at e; cases e) e⟩, fun c o nc e => bF _ _ (ne_of_none e n30) (s56.k _ _ nc e)⟩
    refine ⟨_, rfl, q L3 F S.length _ sFin n30 pF (full_shf bs.1 kS) ?_ (by omega) (by omega) ?_ ?_⟩
    · obtain ⟨s, hs⟩ := List.exists_mem_of_ne_nil _ neS
      have hm := List.mem_map_of_mem (f := shf S Tm) (bs.2 s hs)
      exact List.ne_nil_of_mem hm
    · rw [List.length_map]
      exact Nat.le_trans (List.length_filter_le _ _) gl
    · intro r hr k
      obtain ⟨p0, hp0, rfl⟩ := List.mem_map.mp hr
      have mr := grid_rep.mp (List.mem_filter.mp hp0).1
      by_cases hk : k < S.length
      · have e : (shf S Tm p0).getD k 0 = xc p0 (kap S (k + 1)) + Tm.getD k 0 := mkR_getD hk
        have b1 : -990000000 ≤ Tm.getD k 0 ∧ Tm.getD k 0 ≤ 990000000 := by
          rw [List.getD_eq_getElem?_getD, List.getElem?_eq_getElem (by omega : k < Tm.length)]
          exact hTm _ (List.getElem_mem _)
        have b2 : 0 ≤ xc p0 (kap S (k + 1)) ∧ xc p0 (kap S (k + 1)) ≤ 3 := by
          have g := kS (k + 1) (by omega)
          cases c : kap S (k + 1) with
          | zero =>
            show 0 ≤ (0 : Int) ∧ (0 : Int) ≤ 3
            decide
          | succ j =>
            rw [xc_succ]
            exact mr.2 j (by omega)
        rw [e]
        omega
      · rw [List.getD_eq_getElem?_getD, List.getElem?_eq_none (by rw [shf_len]; omega)]
        show -400000000000 ≤ (0 : Int) ∧ (0 : Int) ≤ _
        decide
end
/-! ### the spread of a form over points -/
/-- the least and the greatest of what one column less another is -/
def DMM (cs : List Int) (lo hi : Int) (Ps : List (List Int)) (L G : Int) : Prop := ((∃ p ∈ Ps, L = lo + val cs p) ∧ ∀ p ∈ Ps, L ≤ lo + val cs p) ∧ ((∃ p ∈ Ps, G = hi + val cs p) ∧ ∀ p ∈ Ps, hi + val cs p ≤ G)
theorem val_D {cs : List Int} (d : IsD cs) {k1 k2 : Nat} (m1 : k1 ∈ usedZ cs) (m2 : k2 ∈ usedZ cs) (c1 : cs.getD k1 0 = 1) (c2 : cs.getD k2 0 = -1) (p : List Int) : val cs p = p.getD k1 0 - p.getD k2 0 := by
  obtain ⟨a, b, e, la, lb, nab, alt⟩ := isD_used d
  rw [e] at m1 m2
  simp only [List.mem_cons, List.not_mem_nil, or_false] at m1 m2
  rcases alt with ⟨e1, e2⟩ | ⟨e1, e2⟩
  · have h1 : k1 = a := by
      rcases m1 with h | h
      · exact h
      · rw [h] at c1; omega
    have h2 : k2 = b := by
      rcases m2 with h | h
      · rw [h] at c2; omega
      · exact h
    subst h1
    subst h2
    have := (diffAt_of e la lb e1 e2).1.2.2.2.2 p
    exact this
  · have h1 : k1 = b := by
      rcases m1 with h | h
      · rw [h] at c1; omega
      · exact h
    have h2 : k2 = a := by
      rcases m2 with h | h
      · exact h
      · rw [h] at c2; omega
    subst h1
    subst h2
    have := (diffAt_of' e la lb e1 e2).2.2.2.2 p
    exact this
def spSpread (K : PySem.W.Frag) : Sp := fun vs H Q _ => ∃ (f p : Addr) (cs : List Int) (lo hi : Int) (Ps : List (List Int)), vs = [.ref f, .ref p] ∧ FormAt K H f cs lo hi ∧ PtB Ps ∧ cs.length ≤ 20 ∧ TPts H p Ps ∧ Ps ≠ [] ∧ Ps.length ≤ 1000 ∧ (∀ r ∈ Ps, r.length = cs.length) ∧
  ∀ t H' L G, Same H H' → H' t = some (.tup [.int L, .int G]) → (¬ IsD cs → L = spanLo (hullM cs.length Ps) cs lo ∧ G = spanHi (hullM cs.length Ps) cs hi) → (IsD cs → DMM cs lo hi Ps L G) → Q (.ref t) H'
theorem isD_ends {cs : List Int} : IsD cs ↔ numL cs = [1, -1] ∨ numL cs = [-1, 1] := by
  constructor
  · intro h
    obtain ⟨a, b, e, _, _, _, alt⟩ := isD_used h
    unfold numL
    rw [e]
    rcases alt with ⟨e1, e2⟩ | ⟨e1, e2⟩
    · left
      show [cs.getD a 0, cs.getD b 0] = _
      rw [e1, e2]
    · right
      show [cs.getD a 0, cs.getD b 0] = _
      rw [e1, e2]
  · rintro (h | h)
    · unfold IsD
      rw [h]
      exact List.Perm.swap _ _ _
    · unfold IsD
      rw [h]
theorem tmin_is {n k : Nat} {c m : Int} {Ps : List (List Int)} (ne : Ps ≠ []) (hk : k < n) (h1 : m ∈ Ps.map fun r => c * r.getD k 0) (h2 : ∀ y ∈ Ps.map (fun r => c * r.getD k 0), m ≤ y) : m = tmin (hullM n Ps) c k := by
  obtain ⟨r1, hr1, e1⟩ := hull_at (n := n) (Ps := Ps) ne (show 0 < n + 1 by omega) (show k + 1 < n + 1 by omega)
  obtain ⟨r2, hr2, e2⟩ := hull_at (n := n) (Ps := Ps) ne (show k + 1 < n + 1 by omega) (show 0 < n + 1 by omega)
  have e1' : 0 - r1.getD k 0 = getM (hullM n Ps) 0 (k + 1) := e1
  have e2' : r2.getD k 0 - 0 = getM (hullM n Ps) (k + 1) 0 := e2
  have g1 := h2 _ (List.mem_map.mpr ⟨r1, hr1, rfl⟩)
  have g2 := h2 _ (List.mem_map.mpr ⟨r2, hr2, rfl⟩)
  obtain ⟨r, hr, e⟩ := List.mem_map.mp h1
  have d1 : dif 0 (k + 1) r ≤ getM (hullM n Ps) 0 (k + 1) := hull_le (by omega) (by omega) hr
  have d2 : dif (k + 1) 0 r ≤ getM (hullM n Ps) (k + 1) 0 := hull_le (by omega) (by omega) hr
  have d1' : 0 - r.getD k 0 ≤ getM (hullM n Ps) 0 (k + 1) := d1
  have d2' : r.getD k 0 - 0 ≤ getM (hullM n Ps) (k + 1) 0 := d2
  unfold tmin
  rw [show -(getM (hullM n Ps) 0 (k + 1)) = r1.getD k 0 by omega, show getM (hullM n Ps) (k + 1) 0 = r2.getD k 0 by omega]
  by_cases c0 : 0 ≤ c
  · have := Int.mul_le_mul_of_nonneg_left (show r1.getD k 0 ≤ r.getD k 0 by omega) c0
    omega
  · have := Int.mul_le_mul_of_nonpos_left (show c ≤ 0 by omega) (show r.getD k 0 ≤ r2.getD k 0 by omega)
    omega
theorem tmax_is {n k : Nat} {c m : Int} {Ps : List (List Int)} (ne : Ps ≠ []) (hk : k < n) (h1 : m ∈ Ps.map fun r => c * r.getD k 0) (h2 : ∀ y ∈ Ps.map (fun r => c * r.getD k 0), y ≤ m) : m = tmax (hullM n Ps) c k := by
  obtain ⟨r1, hr1, e1⟩ := hull_at (n := n) (Ps := Ps) ne (show 0 < n + 1 by omega) (show k + 1 < n + 1 by omega)
  obtain ⟨r2, hr2, e2⟩ := hull_at (n := n) (Ps := Ps) ne (show k + 1 < n + 1 by omega) (show 0 < n + 1 by omega)
  have e1' : 0 - r1.getD k 0 = getM (hullM n Ps) 0 (k + 1) := e1
  have e2' : r2.getD k 0 - 0 = getM (hullM n Ps) (k + 1) 0 := e2
  have g1 := h2 _ (List.mem_map.mpr ⟨r1, hr1, rfl⟩)
  have g2 := h2 _ (List.mem_map.mpr ⟨r2, hr2, rfl⟩)
  obtain ⟨r, hr, e⟩ := List.mem_map.mp h1
  have d1 : dif 0 (k + 1) r ≤ getM (hullM n Ps) 0 (k + 1) := hull_le (by omega) (by omega) hr
  have d2 : dif (k + 1) 0 r ≤ getM (hullM n Ps) (k + 1) 0 := hull_le (by omega) (by omega) hr
  have d1' : 0 - r.getD k 0 ≤ getM (hullM n Ps) 0 (k + 1) := d1
  have d2' : r.getD k 0 - 0 ≤ getM (hullM n Ps) (k + 1) 0 := d2
  unfold tmax
  rw [show -(getM (hullM n Ps) 0 (k + 1)) = r1.getD k 0 by omega, show getM (hullM n Ps) (k + 1) 0 = r2.getD k 0 by omega]
  by_cases c0 : 0 ≤ c
  · have := Int.mul_le_mul_of_nonneg_left (show r.getD k 0 ≤ r2.getD k 0 by omega) c0
    omega
  · have := Int.mul_le_mul_of_nonpos_left (show c ≤ 0 by omega) (show r1.getD k 0 ≤ r.getD k 0 by omega)
    omega
theorem flatI (xs : List Int) : (xs.map V.int).all flatV = true := by
  induction xs with
  | nil => rfl
  | cons x xs ih => rw [List.map_cons, List.all_cons, ih]; rfl
theorem coef0 {cs : List Int} {k : Nat} (h : k < cs.length) : atI (cs.map V.int) (k : Int) = some (.int (cs.getD k 0)) := atI_nat (map_get (by rw [List.getD_eq_getElem?_getD, List.getElem?_eq_getElem h]; rfl))
section
variable {P : Program} {w : World} {K : PySem.W.Frag} {mg : Str → Option Value} {base : Heap}
theorem ok_l_spread (T : Txt w K mg) : FnOk P w K mg base CX0 1 T.a_l_spread T.d_l_spread p_l_spread (spSpread K) := by
  refine T.F_l_spread.ok sc_l_spread (fun vs H Q E h => ?_) (fun cdv A outer s H vs Q E hr h => ?_)
  · obtain ⟨f, p, cs, lo, hi, Ps, rfl, _⟩ := h
    rfl
  obtain ⟨f, p, cs, lo, hi, Ps, rfl, ⟨c, hf, hc⟩, pb, lc, tP, ne, lP, lr, q⟩ := h
  refine ⟨_, (pss_cons (ps_setLc (i := 2) (own := [("_law_k", 3)]) (g := gName 3) rfl sc_l_spread.nd rfl rfl (sw_true rfl rfl rfl (by decide +kernel)) (pi_range1 rfl T.z_range (pa_cons (pe_callB call_len_seq rfl T.z_len PySem.boot_len (pa_cons (pe_ix ix_tup (pv 0) pe_int (fun _ _ => rfl)) pa_nil)) pa_nil)) (blkOk_by (own := [("_law_k", 3)]) (N := n_l_spread) (sc := defScope s_l_spread) (by decide +kernel)) (fun _ _ _ _ _ => (pg_name (i := 3) sc_l_spread.nd rfl (Or.inl rfl))) (fun _ _ _ _ _ => (pts_one (pt_cmpR op_ne (pe_ix (show IxR _ (rIxT K) from ix_tup) (pe_ix (show IxR _ (rIxT K) from ix_tup) (pv 0) pe_int (fun _ _ => rfl)) (pv 3) (fun _ _ => rfl)) pe_int (nomark _)))) (fun _ _ _ _ _ => (pv 3)))
      (pss_cons (ps_setLc (i := 4) (own := [("_law_k", 3)]) (g := gName 3) (tt := tYes) rfl sc_l_spread.nd rfl rfl (sw_true rfl rfl rfl (by decide +kernel)) (pi_list (pv 2)) (blkOk_by (own := [("_law_k", 3)]) (N := n_l_spread) (sc := defScope s_l_spread) (by decide +kernel)) (fun _ _ _ _ _ => (pg_name (i := 3) sc_l_spread.nd rfl (Or.inl rfl))) (fun _ _ _ _ _ => pts_nil) (fun _ _ _ _ _ => (pe_ix (show IxR _ (rIxT K) from ix_tup) (pe_ix (show IxR _ (rIxT K) from ix_tup) (pv 0) pe_int (fun _ _ => rfl)) (pv 3) (fun _ _ => rfl))))
      (pss_cons (ps_if (PW.pt (pw_or (pt_cmpR (op_eqD hr.units) (pv 4) (pe_lst (pa_cons pe_int (pa_cons (pe_un un_neg pe_int) pa_nil))) (nomark _)) (pw_or1 (pt_cmpR (op_eqD hr.units) (pv 4) (pe_lst (pa_cons (pe_un un_neg pe_int) (pa_cons pe_int pa_nil))) (nomark _))))) (pss_cons (ps_set (i := 5) sc_l_spread.nd rfl (Or.inr rfl) (pe_ix ix_list (pv 2) (pe_bm PySem.F.plainAttrs_list PySem.F.slot_list_index PySem.F.type_list_index mt_index (pv 4) (pa_cons pe_int pa_nil)) (fun _ _ => rfl)))
      (pss_cons (ps_set (i := 6) sc_l_spread.nd rfl (Or.inr rfl) (pe_ix ix_list (pv 2) (pe_bm PySem.F.plainAttrs_list PySem.F.slot_list_index PySem.F.type_list_index mt_index (pv 4) (pa_cons (pe_un un_neg pe_int) pa_nil)) (fun _ _ => rfl)))
      (pss_cons (ps_setLc (i := 7) (own := [("_law_point", 8)]) (g := gName 8) (tt := tYes) rfl sc_l_spread.nd rfl rfl (sw_true rfl rfl rfl (by decide +kernel)) (pi_list (pv 1)) (blkOk_by (own := [("_law_point", 8)]) (N := n_l_spread) (sc := defScope s_l_spread) (by decide +kernel)) (fun _ _ _ _ _ => (pg_name (i := 8) sc_l_spread.nd rfl (Or.inl rfl))) (fun _ _ _ _ _ => pts_nil) (fun _ _ _ _ _ => (pe_op op_sub (pe_ix (show IxR _ (rIxT K) from ix_tup) (pv 8) (pv 5) (fun _ _ => rfl)) (pe_ix (show IxR _ (rIxT K) from ix_tup) (pv 8) (pv 6) (fun _ _ => rfl)))))
      (pss_one (ps_ret (pe_tup (pa_cons (pe_op op_add (pe_ix ix_tup (pv 0) pe_int (fun _ _ => rfl)) (pe_callB (cr_min rfl) rfl T.z_min bb_min (pa_cons (pv 7) pa_nil))) (pa_cons (pe_op op_add (pe_ix ix_tup (pv 0) pe_int (fun _ _ => rfl)) (pe_callB (cr_max rfl) rfl T.z_max bb_max (pa_cons (pv 7) pa_nil))) pa_nil)))))))) pss_nil)
      (pss_cons (ps_set (i := 9) sc_l_spread.nd rfl (Or.inl rfl) (pe_ix ix_tup (pv 0) pe_int (fun _ _ => rfl)))
      (pss_cons (ps_set (i := 10) sc_l_spread.nd rfl (Or.inl rfl) (pe_ix ix_tup (pv 0) pe_int (fun _ _ => rfl)))
      (pss_cons (ps_for PassesOwn.never rfl (pi_list (pv 2)) (pg_name (i := 3) sc_l_spread.nd rfl (Or.inr rfl))
        (pss_cons (ps_setLc (i := 7) (own := [("_law_point", 8)]) (g := gName 8) (tt := tYes) rfl sc_l_spread.nd rfl rfl (sw_true rfl rfl rfl (by decide +kernel)) (pi_list (pv 1)) (blkOk_by (own := [("_law_point", 8)]) (N := n_l_spread) (sc := defScope s_l_spread) (by decide +kernel)) (fun _ _ _ _ _ => (pg_name (i := 8) sc_l_spread.nd rfl (Or.inl rfl))) (fun _ _ _ _ _ => pts_nil) (fun _ _ _ _ _ => (pe_op op_mul (pe_ix (show IxR _ (rIxT K) from ix_tup) (pe_ix (show IxR _ (rIxT K) from ix_tup) (pv 0) pe_int (fun _ _ => rfl)) (pv 3) (fun _ _ => rfl)) (pe_ix (show IxR _ (rIxT K) from ix_tup) (pv 8) (pv 3) (fun _ _ => rfl)))))
      (pss_cons (ps_set (i := 9) sc_l_spread.nd rfl (Or.inl rfl) (pe_op op_add (pv 9) (pe_callB (cr_min rfl) rfl T.z_min bb_min (pa_cons (pv 7) pa_nil))))
      (pss_one (ps_set (i := 10) sc_l_spread.nd rfl (Or.inl rfl) (pe_op op_add (pv 10) (pe_callB (cr_max rfl) rfl T.z_max bb_max (pa_cons (pv 7) pa_nil))))))))
      (pss_one (ps_ret (pe_tup (pa_cons (pv 9) (pa_cons (pv 10) pa_nil))))))))))), ?_⟩
  obtain ⟨as, eP, hA⟩ := id tP
  refine ⟨_, rfl, f, _, _, _, rfl, rfl, hf, rfl, c, _, rfl, .inr hc, _, rfl, by omega, by rw [List.length_map]; omega, fun D hD => ?_⟩
  refine lc_it walk_range (fun i G => Same H G ∧ G D = some (.lst (natsV (usedTo cs i)))) ⟨Same.new hD _, upd_same⟩ (fun _ _ _ _ => trivial) ?_ ?_
  · rintro i x G G' hi2 P ⟨rfl, rfl⟩
    rw [List.length_map] at hi2
    have hi3 : i < cs.length := by omega
    refine ⟨rfl, ?_⟩
    refine ⟨_, rfl, f, _, _, _, rfl, rfl, Same.tup P.1 hf, rfl, _, rfl, c, _, _, _, rfl, rfl, Same.tup P.1 hc, (by rw [Int.zero_add]; exact coef0 hi3), rfl, _, rfl, ite2 (fun h => ?_) (fun h => ?_)⟩
    · have nz : cs.getD i 0 ≠ 0 := fun z => by
        rw [z] at h
        exact absurd h (by decide)
      refine ⟨_, rfl, _, P.2, lt_line (by simp only [natsV, List.length_map]; have := usedTo_len (cs := cs) (i := i); omega), fun b o e => ?_, ?_⟩
      · rw [upd_ne (ne_of_none e hD)]
        exact P.1 _ _ e
      · rw [usedTo_yes nz]
        simp only [natsV, List.map_append, Int.zero_add]
        exact upd_same
    · have z : cs.getD i 0 = 0 := by
        by_cases z : cs.getD i 0 = 0
        · exact z
        · exact absurd (by rw [decide_eq_false (fun e => z (V.int.inj e))]; rfl) h
      rw [usedTo_no z]
      exact P
  rintro G ⟨sG, eD⟩
  rw [show (((cs.map V.int).length : Nat) : Int).toNat = cs.length by simp, usedTo_all] at eD
  have lz := usedZ_len (cs := cs)
  have lnz : (natsV (usedZ cs)).length = (usedZ cs).length := by simp [natsV]
  have getZ : ∀ {j k : Nat}, (usedZ cs)[j]? = some k → (natsV (usedZ cs))[j]? = some (.int (k : Int)) := fun e => by
    unfold natsV
    exact map_get e
  refine ⟨_, rfl, D, rfl, ⟨_, SqL.of eD⟩, fun D2 hD2 => ?_⟩
  refine lc_it (walk_list (xs := natsV (usedZ cs))) (LcP (Same G) (RInt (numL cs)) D2) (lcp_start hD2) (fun i G2 _ P => SqL.of (P.1 _ _ eD)) ?_ ?_
  · rintro j x F F' hj P ⟨rfl, ex⟩
    rw [lnz] at hj
    have ek : (usedZ cs)[j]? = some (usedZ cs)[j] := List.getElem?_eq_getElem hj
    have mk := mem_usedZ.mp (List.getElem_mem hj)
    generalize (usedZ cs)[j] = k at ek mk
    rw [getZ ek] at ex
    obtain rfl := Option.some.inj ex
    refine ⟨rfl, tyes ?_⟩
    refine ⟨_, rfl, f, _, _, _, rfl, rfl, Same.tup (sG.trans P.1) hf, rfl, _, rfl, c, _, _, _, rfl, rfl, Same.tup (sG.trans P.1) hc, coef0 mk.1, ?_⟩
    exact lcp_same P hD2 (Same.refl _) (lt_line (by omega)) RInt.mono ⟨_, map_get ek, rfl⟩
  intro F P
  have eE := lcp_ints (K := K) P (by rw [lnz]; simp [numL])
  have sF := sG.trans P.1
  have eU := P.1 _ _ eD
  have tPF := tP.same sF
  obtain ⟨_, ePF, hAF⟩ : ∃ _ : Unit, F p = some (.lst (as.map V.ref)) ∧ TA F as Ps := ⟨(), sF _ _ eP, hA.same sF⟩
  have dcase : IsD cs → ∀ v : Int, v = 1 ∨ v = -1 → ∃ j k : Nat, (numL cs)[j]? = some v ∧ (∀ (m : Nat) (z : Int), m < j → (numL cs)[m]? = some z → z ≠ v) ∧ (usedZ cs)[j]? = some k ∧ k < cs.length ∧ cs.getD k 0 = v := fun d v hv => by
    obtain ⟨a, b, e, la, lb, _, alt⟩ := isD_used d
    have en : numL cs = [cs.getD a 0, cs.getD b 0] := by
      unfold numL
      rw [e]
      rfl
    by_cases z : cs.getD a 0 = v
    · exact ⟨0, a, by rw [en, z]; rfl, fun m z h => absurd h (Nat.not_lt_zero m), by rw [e]; rfl, la, z⟩
    · refine ⟨1, b, ?_, fun m z' h e' => ?_, by rw [e]; rfl, lb, by omega⟩
      · rw [en]
        show some (cs.getD b 0) = some v
        congr 1
        omega
      · have m0 : m = 0 := by omega
        rw [m0, en] at e'
        cases e'
        exact z
  have nd : ∀ {L G : Int}, IsD cs → ¬ IsD cs → L = spanLo (hullM cs.length Ps) cs lo ∧ G = spanHi (hullM cs.length Ps) cs hi := fun d n => absurd d n
  refine ⟨_, rfl, _, rfl, (by show 2 ≤ sizeLine; decide), fun l1 hl1 => ?_⟩
  have sl1 := Same.new hl1 (.lst [.int 1, .int (-1)])
  refine eqI (ys := [1, -1]) (SqL.of (sl1 _ _ eE)) (SqL.of upd_same) ⟨_, rfl, ite2 (fun h1 => ifT rfl ?D1) (fun h1 => ?E1)⟩
  case D1 =>
      have d : IsD cs := isD_ends.mpr (.inl (of_decide_eq_true h1))
      have s2 := sl1
      obtain ⟨j1, k1, n1, m1, u1, lk1, co1⟩ := dcase d 1 (.inl rfl)
      obtain ⟨j2, k2, n2, m2, u2, lk2, co2⟩ := dcase d (-1) (.inr rfl)
      have vD := val_D d (List.mem_of_getElem? u1) (List.mem_of_getElem? u2) co1 co2
      have eE2 := s2 _ _ eE
      have eU2 := s2 _ _ eU
      have eP2 := s2 _ _ ePF
      have hA2 := hAF.same s2
      have sH2 := sF.trans s2
      refine ⟨_, rfl, _, rfl, .inl ⟨rfl, _, SqL.of eE2⟩, D2, _, .int 1, j1, .int 1, rfl, rfl, SqL.of eE2, rfl, flatI _, map_get n1, rfl, fun m z' hm e => ?_, D, _, _, _, rfl, rfl, SqL.of eU2, atI_nat (getZ u1), ?_⟩
      · obtain ⟨z, ez, rfl⟩ := get_int e
        have := m1 m z hm ez
        show (z == (1 : Int)) = false
        simpa using this
      refine ⟨_, rfl, _, rfl, .inl ⟨rfl, _, SqL.of eE2⟩, _, rfl, D2, _, .int (-1), j2, .int (-1), rfl, rfl, SqL.of eE2, rfl, flatI _, map_get n2, rfl, fun m z' hm e => ?_, D, _, _, _, rfl, rfl, SqL.of eU2, atI_nat (getZ u2), ?_⟩
      · obtain ⟨z, ez, rfl⟩ := get_int e
        have := m2 m z hm ez
        show (z == (-1 : Int)) = false
        simpa using this
      refine ⟨_, rfl, p, rfl, ⟨_, SqL.of eP2⟩, fun D3 hD3 => ?_⟩
      refine lc_it (walk_list (xs := as.map V.ref)) (LcP (Same _) (RInt (Ps.map fun r => r.getD k1 0 - r.getD k2 0)) D3) (lcp_start hD3) (fun i G2 _ P => SqL.of (P.1 _ _ eP2)) ?_ ?_
      · rintro j x F1 F' hj P3 ⟨rfl, ex⟩
        rw [List.length_map, hA2.1] at hj
        have er : Ps[j]? = some Ps[j] := List.getElem?_eq_getElem hj
        have lq := lr _ (List.getElem_mem hj)
        generalize Ps[j] = r at er lq
        have ea : as[j]? = some (as[j]'(by rw [hA2.1]; exact hj)) := List.getElem?_eq_getElem _
        generalize as[j]'(by rw [hA2.1]; exact hj) = tq at ea
        rw [map_get ea] at ex
        obtain rfl := Option.some.inj ex
        have htq := P3.1 _ _ (hA2.2 j tq r ea er)
        refine ⟨rfl, tyes ?_⟩
        refine ⟨_, rfl, _, rfl, tq, _, _, _, rfl, rfl, SqT.of htq, coef0 (by omega), _, rfl, _, rfl, tq, _, _, _, rfl, rfl, SqT.of htq, coef0 (by omega), _, _, rfl, rfl, ?_⟩
        exact lcp_same P3 hD3 (Same.refl _) (lt_line (by omega)) RInt.mono ⟨_, map_get er, rfl⟩
      · intro F3 P3
        have ei := lcp_ints (K := K) P3 (by rw [List.length_map, List.length_map, hA2.1])
        have pos : 0 < (Ps.map fun r => r.getD k1 0 - r.getD k2 0).length := by
          rw [List.length_map]
          exact List.length_pos_iff.mpr ne
        have s3 := sH2.trans P3.1
        refine ⟨_, rfl, f, _, _, _, rfl, rfl, Same.tup s3 hf, rfl, _, rfl, D3, _, rfl, SqL.of ei, pos, fun m hm hx => ⟨_, _, rfl, rfl, ?_⟩⟩
        refine ⟨_, rfl, f, _, _, _, rfl, rfl, Same.tup s3 hf, rfl, _, rfl, D3, _, rfl, SqL.of ei, pos, fun m' hm' hx' => ⟨_, _, rfl, rfl, (by show 2 ≤ sizeLine; decide), fun t ht => ?_⟩⟩
        refine q t _ _ _ (s3.trans (Same.new ht _)) upd_same (nd d) fun _ => ⟨⟨?_, fun p hp => ?_⟩, ⟨?_, fun p hp => ?_⟩⟩
        · obtain ⟨p, hp, e⟩ := List.mem_map.mp hm
          exact ⟨p, hp, by rw [vD, e]⟩
        · have := hx _ (List.mem_map.mpr ⟨p, hp, rfl⟩)
          rw [vD]
          omega
        · obtain ⟨p, hp, e⟩ := List.mem_map.mp hm'
          exact ⟨p, hp, by rw [vD, e]⟩
        · have := hx' _ (List.mem_map.mpr ⟨p, hp, rfl⟩)
          rw [vD]
          omega
  case E1 =>
    refine ⟨_, rfl, _, rfl, (by show 2 ≤ sizeLine; decide), fun l2 hl2 => ?_⟩
    have sl2 := sl1.trans (Same.new hl2 (.lst [.int (-1), .int 1]))
    refine eqI (ys := [-1, 1]) (SqL.of (sl2 _ _ eE)) (SqL.of upd_same) ⟨_, rfl, ite2 (fun h2 => ?D2) (fun h2 => ?N)⟩
    case D2 =>
      have d : IsD cs := isD_ends.mpr (.inr (of_decide_eq_true h2))
      have s2 := sl2
      obtain ⟨j1, k1, n1, m1, u1, lk1, co1⟩ := dcase d 1 (.inl rfl)
      obtain ⟨j2, k2, n2, m2, u2, lk2, co2⟩ := dcase d (-1) (.inr rfl)
      have vD := val_D d (List.mem_of_getElem? u1) (List.mem_of_getElem? u2) co1 co2
      have eE2 := s2 _ _ eE
      have eU2 := s2 _ _ eU
      have eP2 := s2 _ _ ePF
      have hA2 := hAF.same s2
      have sH2 := sF.trans s2
      refine ⟨_, rfl, _, rfl, .inl ⟨rfl, _, SqL.of eE2⟩, D2, _, .int 1, j1, .int 1, rfl, rfl, SqL.of eE2, rfl, flatI _, map_get n1, rfl, fun m z' hm e => ?_, D, _, _, _, rfl, rfl, SqL.of eU2, atI_nat (getZ u1), ?_⟩
      · obtain ⟨z, ez, rfl⟩ := get_int e
        have := m1 m z hm ez
        show (z == (1 : Int)) = false
        simpa using this
      refine ⟨_, rfl, _, rfl, .inl ⟨rfl, _, SqL.of eE2⟩, _, rfl, D2, _, .int (-1), j2, .int (-1), rfl, rfl, SqL.of eE2, rfl, flatI _, map_get n2, rfl, fun m z' hm e => ?_, D, _, _, _, rfl, rfl, SqL.of eU2, atI_nat (getZ u2), ?_⟩
      · obtain ⟨z, ez, rfl⟩ := get_int e
        have := m2 m z hm ez
        show (z == (-1 : Int)) = false
        simpa using this
      refine ⟨_, rfl, p, rfl, ⟨_, SqL.of eP2⟩, fun D3 hD3 => ?_⟩
      refine lc_it (walk_list (xs := as.map V.ref)) (LcP (Same _) (RInt (Ps.map fun r => r.getD k1 0 - r.getD k2 0)) D3) (lcp_start hD3) (fun i G2 _ P => SqL.of (P.1 _ _ eP2)) ?_ ?_
      · rintro j x F1 F' hj P3 ⟨rfl, ex⟩
        rw [List.length_map, hA2.1] at hj
        have er : Ps[j]? = some Ps[j] := List.getElem?_eq_getElem hj
        have lq := lr _ (List.getElem_mem hj)
        generalize Ps[j] = r at er lq
        have ea : as[j]? = some (as[j]'(by rw [hA2.1]; exact hj)) := List.getElem?_eq_getElem _
        generalize as[j]'(by rw [hA2.1]; exact hj) = tq at ea
        rw [map_get ea] at ex
        obtain rfl := Option.some.inj ex
        have htq := P3.1 _ _ (hA2.2 j tq r ea er)
        refine ⟨rfl, tyes ?_⟩
        refine ⟨_, rfl, _, rfl, tq, _, _, _, rfl, rfl, SqT.of htq, coef0 (by omega), _, rfl, _, rfl, tq, _, _, _, rfl, rfl, SqT.of htq, coef0 (by omega), _, _, rfl, rfl, ?_⟩
        exact lcp_same P3 hD3 (Same.refl _) (lt_line (by omega)) RInt.mono ⟨_, map_get er, rfl⟩
      · intro F3 P3
        have ei := lcp_ints (K := K) P3 (by rw [List.length_map, List.length_map, hA2.1])
        have pos : 0 < (Ps.map fun r => r.getD k1 0 - r.getD k2 0).length := by
          rw [List.length_map]
          exact List.length_pos_iff.mpr ne
        have s3 := sH2.trans P3.1
        refine ⟨_, rfl, f, _, _, _, rfl, rfl, Same.tup s3 hf, rfl, _, rfl, D3, _, rfl, SqL.of ei, pos, fun m hm hx => ⟨_, _, rfl, rfl, ?_⟩⟩
        refine ⟨_, rfl, f, _, _, _, rfl, rfl, Same.tup s3 hf, rfl, _, rfl, D3, _, rfl, SqL.of ei, pos, fun m' hm' hx' => ⟨_, _, rfl, rfl, (by show 2 ≤ sizeLine; decide), fun t ht => ?_⟩⟩
        refine q t _ _ _ (s3.trans (Same.new ht _)) upd_same (nd d) fun _ => ⟨⟨?_, fun p hp => ?_⟩, ⟨?_, fun p hp => ?_⟩⟩
        · obtain ⟨p, hp, e⟩ := List.mem_map.mp hm
          exact ⟨p, hp, by rw [vD, e]⟩
        · have := hx _ (List.mem_map.mpr ⟨p, hp, rfl⟩)
          rw [vD]
          omega
        · obtain ⟨p, hp, e⟩ := List.mem_map.mp hm'
          exact ⟨p, hp, by rw [vD, e]⟩
        · have := hx' _ (List.mem_map.mpr ⟨p, hp, rfl⟩)
          rw [vD]
          omega
    case N =>
      have nD : ¬ IsD cs := fun d => by
        rcases isD_ends.mp d with z | z
        · exact h1 (decide_eq_true z)
        · exact h2 (decide_eq_true z)
      have s2 := sl2
      have eE2 := s2 _ _ eE
      have eU2 := s2 _ _ eU
      have eP2 := s2 _ _ ePF
      have hA2 := hAF.same s2
      have sH2 := sF.trans s2
      refine ⟨_, rfl, f, _, _, _, rfl, rfl, Same.tup sH2 hf, rfl, ?_⟩
      refine ⟨_, rfl, f, _, _, _, rfl, rfl, Same.tup sH2 hf, rfl, ?_⟩
      refine ⟨_, rfl, D, rfl, ⟨_, SqL.of eU2⟩, ?_⟩
      refine for_it (walk_list (xs := natsV (usedZ cs))) (fun i σ F4 => (∃ x3 x7 : Option V, σ = [some (.ref f), some (.ref p), some (.ref D), x3, some (.ref D2), none, none, x7, none, some (.int (lo + (((usedZ cs).take i).map fun k => tmin (hullM cs.length Ps) (cs.getD k 0) k).sum)), some (.int (hi + (((usedZ cs).take i).map fun k => tmax (hullM cs.length Ps) (cs.getD k 0) k).sum))]) ∧ Same F F4)
        ⟨⟨none, none, by rw [List.take_zero]; show _ = [_, _, _, _, _, _, _, _, _, some (V.int (lo + 0)), some (V.int (hi + 0))]; rw [Int.add_zero, Int.add_zero]; rfl⟩, s2⟩ (fun j σ F4 _ P => SqL.of (P.2 _ _ eU)) ?_ ?_
      · rintro i x σ F0 F4 hi2 ⟨⟨x3, x7, rfl⟩, sF4⟩ ⟨rfl, ex⟩
        rw [lnz] at hi2
        have ek : (usedZ cs)[i]? = some (usedZ cs)[i] := List.getElem?_eq_getElem hi2
        have mk := mem_usedZ.mp (List.getElem_mem hi2)
        generalize (usedZ cs)[i] = k at ek mk
        rw [getZ ek] at ex
        obtain rfl := Option.some.inj ex
        have eP4 := sF4 _ _ ePF
        have hA4 := hAF.same sF4
        have sH4 := sF.trans sF4
        refine ⟨_, rfl, p, rfl, ⟨_, SqL.of eP4⟩, fun D3 hD3 => ?_⟩
        refine lc_it (walk_list (xs := as.map V.ref)) (LcP (Same F4) (RInt (Ps.map fun r => cs.getD k 0 * r.getD k 0)) D3) (lcp_start hD3) (fun i G2 _ P => SqL.of (P.1 _ _ eP4)) ?_ ?_
        · rintro j x F1 F' hj P3 ⟨rfl, ex⟩
          rw [List.length_map, hA4.1] at hj
          have er : Ps[j]? = some Ps[j] := List.getElem?_eq_getElem hj
          have lq := lr _ (List.getElem_mem hj)
          have mr := List.getElem_mem hj
          generalize Ps[j] = r at er lq mr
          have ea : as[j]? = some (as[j]'(by rw [hA4.1]; exact hj)) := List.getElem?_eq_getElem _
          generalize as[j]'(by rw [hA4.1]; exact hj) = tq at ea
          rw [map_get ea] at ex
          obtain rfl := Option.some.inj ex
          have htq := P3.1 _ _ (hA4.2 j tq r ea er)
          have s3 := sH4.trans P3.1
          refine ⟨rfl, tyes ?_⟩
          refine ⟨_, rfl, f, _, _, _, rfl, rfl, Same.tup s3 hf, rfl, _, rfl, c, _, _, _, rfl, rfl, Same.tup s3 hc, coef0 mk.1, _, rfl, _, rfl, tq, _, _, _, rfl, rfl, SqT.of htq, coef0 (by omega), _, _, rfl, rfl, .inr ⟨by have := pb r mr k; omega, by have := pb r mr k; omega⟩, ?_⟩
          exact lcp_same P3 hD3 (Same.refl _) (lt_line (by omega)) RInt.mono ⟨_, map_get er, rfl⟩
        · intro F3 P3
          have ei := lcp_ints (K := K) P3 (by rw [List.length_map, List.length_map, hA4.1])
          have pos : 0 < (Ps.map fun r => cs.getD k 0 * r.getD k 0).length := by
            rw [List.length_map]
            exact List.length_pos_iff.mpr ne
          refine ⟨_, rfl, _, rfl, D3, _, rfl, SqL.of ei, pos, fun m hm hx => ⟨_, _, rfl, rfl, ?_⟩⟩
          refine ⟨_, rfl, _, rfl, D3, _, rfl, SqL.of ei, pos, fun m' hm' hx' => ⟨_, _, rfl, rfl, ?_⟩⟩
          have em := tmin_is (n := cs.length) ne mk.1 hm hx
          have em2 := tmax_is (n := cs.length) ne mk.1 hm' hx'
          have eL : lo + (((usedZ cs).take (i + 1)).map fun k => tmin (hullM cs.length Ps) (cs.getD k 0) k).sum = lo + (((usedZ cs).take i).map fun k => tmin (hullM cs.length Ps) (cs.getD k 0) k).sum + m := by
            rw [take_snoc ek, List.map_append, List.sum_append, em]
            show lo + (_ + (tmin _ (cs.getD k 0) k + 0)) = _
            omega
          have eG : hi + (((usedZ cs).take (i + 1)).map fun k => tmax (hullM cs.length Ps) (cs.getD k 0) k).sum = hi + (((usedZ cs).take i).map fun k => tmax (hullM cs.length Ps) (cs.getD k 0) k).sum + m' := by
            rw [take_snoc ek, List.map_append, List.sum_append, em2]
            show hi + (_ + (tmax _ (cs.getD k 0) k + 0)) = _
            omega
          rw [eL, eG]
          exact ⟨⟨_, _, rfl⟩, sF4.trans P3.1⟩
      · rintro σ F4 ⟨⟨x3, x7, rfl⟩, sF4⟩
        rw [lnz, List.take_length]
        refine ⟨_, rfl, _, rfl, (by show 2 ≤ sizeLine; decide), fun t ht => ?_⟩
        exact q t _ _ _ ((sF.trans sF4).trans (Same.new ht _)) upd_same (fun _ => ⟨rfl, rfl⟩) fun d => absurd d nD
end
/-! ### the length of a dict after a write -/
theorem putK_lenle {κ : Type} [DecidableEq κ] {kvs : List (κ × V)} {k : κ} {y : V} : (putK kvs k y).length ≤ kvs.length + 1 := by
  unfold putK
  split
  · rw [List.length_map]
    omega
  · rw [List.length_append]
    exact Nat.le_refl _
/-! ### law k23: whether a name occurs (the law's own) -/
def spHas (K : PySem.W.Frag) (m : Nat) : Sp := fun vs H Q _ => ∃ (v : V) (nl : Addr) (N S : List Str) (e : Ef), vs = [v, .ref nl] ∧ EfAt K H e v ∧ e.ok S m ∧ H nl = some (.lst (N.map V.str)) ∧ ∀ H', Same H H' → Q (.bl (occ N e)) H'
theorem ty_tup {K : PySem.W.Frag} {H : Hp} {p : Addr} {xs : List V} (h : SqT K H p xs) : TyX K H (.ref p) (.type "tuple") := by
  rcases h with (h | ⟨o, h⟩) | ⟨o, its, n, hk, hc, _⟩
  · exact .base (.tup h)
  · exact .fTuple h
  · exact .kTuple hk hc
theorem ef_ref {K : PySem.W.Frag} {H : Hp} {e : Ef} {v : V} (h : EfAt K H e v) : ∃ p xs, v = .ref p ∧ SqT K H p xs := by
  cases e with
  | num i => obtain ⟨p, e, h⟩ := h; exact ⟨p, _, e, h⟩
  | var z => obtain ⟨p, e, h⟩ := h; exact ⟨p, _, e, h⟩
  | bin o a b => obtain ⟨p, x, y, e, h, _⟩ := h; exact ⟨p, _, e, h⟩
section
variable {P : Program} {w : World} {K : PySem.W.Frag} {mg : Str → Option Value} {base : Heap}
theorem ok_l_has (T : Txt w K mg) : ∀ m : Nat, m ≤ 20 → FnOk P w K mg base CX0 (m + 1) T.a_l_has T.d_l_has p_l_has (spHas K m)
  | 0, _ => fn_vac fun vs H Q E h => by obtain ⟨v, nl, N, S, e, _, _, h, _⟩ := h; exact h
  | m + 1, hm => by
    have g_l_has := ok_l_has T m (by omega)
    refine T.F_l_has.ok sc_l_has (fun vs H Q E h => ?_) (fun cdv A outer s H vs Q E hr h => ?_)
    · obtain ⟨v, nl, N, S, e, rfl, _⟩ := h
      rfl
    obtain ⟨v, nl, N, S, e, rfl, hx, ho, hN, q⟩ := h
    refine ⟨_, (pss_cons (ps_if (pt_cmpR op_eq (pe_ix ix_tup (pv 0) pe_int (fun _ _ => rfl)) pe_str (nomark _)) (pss_one (ps_ret (pe_cmpR op_in_seq (pe_ix ix_tup (pv 0) pe_int (fun _ _ => rfl)) (pv 1) (by rfl)))) pss_nil)
      (pss_cons (ps_for PassesOwn.never rfl (pi_tup (pe_slice sl_tup (pv 0) (po_some pe_int) po_none)) (pg_name (i := 2) sc_l_has.nd rfl (Or.inl rfl))
        (pss_one (ps_if (PW.pt (pw_and (pt_val (pe_callB call_isi rfl T.z_isinstance bb_isinstance (pa_cons (pv 2) (pa_cons (pe_bltn (v := .ty "tuple") rfl T.z_tuple bt_tuple rfl) pa_nil)))) (pw_and1 (pt_val (pe_call g_l_has (hr.mono (by first | decide | omega)) rfl T.m_l_has T.F_l_has.kp T.b_l_has .nil pass0 (pa_cons (pv 2) (pa_cons (pv 1) pa_nil))))))) (pss_one (ps_ret pe_bl)) pss_nil)))
      (pss_one (ps_ret pe_bl)))), ?_⟩
    cases e with
    | num i =>
      obtain ⟨p, rfl, hp⟩ := hx
      refine ⟨_, rfl, p, _, _, _, rfl, rfl, hp, rfl, rfl, _, rfl, ifF (by decide +kernel) ?_⟩
      refine ⟨_, rfl, _, rfl, ?_⟩
      dsimp only [tNoPart]
      refine slT_tail hp (by show 1 ≤ 2; decide) fun w1 F1 s1 hw => ⟨w1, rfl, ⟨_, SqT.of hw⟩, for_tup (D := { nx := tRet (tC (V.bl false)) { nx := fun x H' => Q V.non H', rt := Q }, rt := Q }) (K := K) (a := w1) (xs := [V.int i]) (fun _ σ G => Same H G ∧ Same F1 G ∧ ∃ x2 : Option V, σ = [some (.ref p), some (.ref nl), x2]) ⟨s1, Same.refl _, none, rfl⟩ (fun _ σ G _ ⟨_, s, _⟩ => Same.tup s (SqT.of hw)) ?_ ?_⟩
      · rintro j y σ G ey ⟨sG, sF, x2, rfl⟩
        match j, ey with
        | 0, ey =>
          cases ey
          exact ⟨_, rfl, _, _, _, _, false, rfl, .ty _, (.base (.int _)), kit_ty kb_it, ⟨_, rfl, iteF (iteF ⟨sG, sF, _, rfl⟩)⟩⟩
        | j + 1, ey => simp at ey
      · rintro σ G ⟨sG, _, x2, rfl⟩
        exact q G sG
    | var z =>
      obtain ⟨p, rfl, hp⟩ := hx
      refine ⟨_, rfl, p, _, _, _, rfl, rfl, hp, rfl, rfl, _, rfl, ifT (by decide +kernel) ?_⟩
      refine ⟨_, rfl, p, _, _, _, rfl, rfl, hp, rfl, _, rfl, nl, _, rfl, .inl (SqL.of hN), rfl, flatS N, ?_⟩
      rw [inV_str]
      exact q H (Same.refl _)
    | bin o a b =>
      obtain ⟨p, x, y, rfl, hp, hx, hy⟩ := hx
      have n1 : ¬ (V.str o.s = V.str "name") := by cases o <;> decide +kernel
      refine ⟨_, rfl, p, _, _, _, rfl, rfl, hp, rfl, rfl, _, rfl, ifF (decide_eq_false n1) ?_⟩
      refine ⟨_, rfl, _, rfl, ?_⟩
      dsimp only [tNoPart]
      refine slT_tail hp (by show 1 ≤ 3; decide) fun w1 F1 s1 hw => ⟨w1, rfl, ⟨_, SqT.of hw⟩, for_tup (D := { nx := tRet (tC (V.bl false)) { nx := fun x H' => Q V.non H', rt := Q }, rt := Q }) (K := K) (a := w1) (xs := [x, y]) (fun i σ G => Same H G ∧ Same F1 G ∧ (([occ N a, occ N b].take i).any id = false) ∧ ∃ x2 : Option V, σ = [some (.ref p), some (.ref nl), x2]) ⟨s1, Same.refl _, rfl, none, rfl⟩ (fun _ σ G _ ⟨_, s, _⟩ => Same.tup s (SqT.of hw)) ?_ ?_⟩
      · rintro j z σ G ez ⟨sG, sF, an, x2, rfl⟩
        obtain ⟨e', ex, oe, h1, h2⟩ : ∃ e' : Ef, EfAt K H e' z ∧ e'.ok S m ∧ (occ N e' = false → ([occ N a, occ N b].take (j + 1)).any id = false) ∧ (occ N e' = true → occ N (.bin o a b) = true) := by
          match j, ez, an with
          | 0, ez, an =>
            cases ez
            refine ⟨a, hx, ho.1, fun h => ?_, fun h => ?_⟩
            · show (occ N a || false) = false
              rw [h]
              rfl
            · show (occ N a || occ N b) = true
              rw [h]
              rfl
          | 1, ez, an =>
            cases ez
            have ha : occ N a = false := by
              have : (occ N a || false) = false := an
              rwa [Bool.or_false] at this
            refine ⟨b, hy, ho.2, fun h => ?_, fun h => ?_⟩
            · show (occ N a || (occ N b || false)) = false
              rw [h, ha]
              rfl
            · show (occ N a || occ N b) = true
              rw [h, Bool.or_true]
          | j + 2, ez, _ => simp at ez
        obtain ⟨pz, xz, rfl, hz⟩ := ef_ref ex
        refine ⟨_, rfl, _, _, _, _, true, rfl, .ty _, ty_tup (Same.tup sG hz), kit_ty kb_tt, ⟨_, rfl, iteT ⟨_, rfl, _, rfl, _, nl, N, S, e', rfl, ex.same sG, oe, sG _ _ hN, fun G2 s2 => ⟨_, rfl, ?_⟩⟩⟩⟩
        cases hc : occ N e' with
        | true =>
          refine ifT rfl ?_
          have e2 := h2 hc
          rw [e2] at q
          exact q G2 (sG.trans s2)
        | false => exact ifF rfl ⟨sG.trans s2, sF.trans s2, h1 hc, _, rfl⟩
      · rintro σ G ⟨sG, _, an, x2, rfl⟩
        have e2 : occ N (.bin o a b) = false := by
          have : (occ N a || (occ N b || false)) = false := an
          rw [Bool.or_false] at this
          exact this
        rw [e2] at q
        exact q G sG
end
/-! ### law k23: the value of an expression (the law's own) -/
def EvAt (kvs : List (Key × V)) (ρ : Str → Int) : Ef → Prop
  | .num _ => True
  | .var z => valV kvs (Sum.inr z) = some (.int (ρ z))
  | .bin _ a b => EvAt kvs ρ a ∧ EvAt kvs ρ b
theorem ev_bd {S : List Str} {ρ : Str → Int} (hρ : ∀ z, Bd 40 (ρ z)) : ∀ {m : Nat} {e : Ef}, e.ok S m → Bd (Eb m) (evE ρ e)
  | 0, _, h => h.elim
  | m + 1, .num i, h => (bd_small h).mono (by unfold Eb; omega)
  | m + 1, .var z, h => (hρ z).mono (by unfold Eb; omega)
  | m + 1, .bin o a b, h => by
    have ha := ev_bd hρ h.1
    have hb := ev_bd hρ h.2
    cases o with
    | add => exact (bd_add ha hb).1.mono (by show Eb m + 1 ≤ 2 * Eb m + 100; omega)
    | sub => exact (bd_add ha hb).2.mono (by show Eb m + 1 ≤ 2 * Eb m + 100; omega)
    | mul => exact (bd_mul ha hb).mono (by show Eb m + Eb m ≤ 2 * Eb m + 100; omega)
def spVal23 (K : PySem.W.Frag) (m : Nat) : Sp := fun vs H Q _ => ∃ (v : V) (d : Addr) (e : Ef) (S : List Str) (ρ : Str → Int) (kvs : List (Key × V)), vs = [v, .ref d] ∧ EfAt K H e v ∧ e.ok S m ∧ H d = some (.dK kvs) ∧ EvAt kvs ρ e ∧ (∀ z, Bd 40 (ρ z)) ∧
  ∀ H', Same H H' → Q (.int (evE ρ e)) H'
section
variable {P : Program} {w : World} {K : PySem.W.Frag} {mg : Str → Option Value} {base : Heap}
theorem ok_l_value (T : Txt w K mg) : ∀ m : Nat, m ≤ 8 → FnOk P w K mg base CX0 m T.a_l_value T.d_l_value p_l_value (spVal23 K m)
  | 0, _ => fn_vac fun vs H Q E h => by obtain ⟨v, d, e, S, ρ, kvs, _, _, h, _⟩ := h; exact h
  | m + 1, hm => by
    have g_l_value := ok_l_value T m (by omega)
    refine T.F_l_value.ok sc_l_value (fun vs H Q E h => ?_) (fun cdv A outer s H vs Q E hr h => ?_)
    · obtain ⟨v, d, e, S, ρ, kvs, rfl, _⟩ := h
      rfl
    obtain ⟨v, d, e, S, ρ, kvs, rfl, hx, ho, hd, hv, hρ, q⟩ := h
    refine ⟨_, (pss_cons (ps_set (i := 2) sc_l_value.nd rfl (Or.inl rfl) (pe_ix ix_tup (pv 0) pe_int (fun _ _ => rfl)))
      (pss_cons (ps_if (pt_cmpR op_eq (pv 2) pe_str (nomark _)) (pss_one (ps_ret pe_non)) pss_nil)
      (pss_cons (ps_if (pt_cmpR op_eq (pv 2) pe_str (nomark _)) (pss_one (ps_ret (pe_dget (hu_of hr) (pv 1) (pe_ix ix_tup (pv 0) pe_int (fun _ _ => rfl)) (fun _ _ => rfl)))) pss_nil)
      (pss_cons (ps_if (PW.pt (pw_or (pt_cmpR op_eq (pv 2) pe_str (nomark _)) (pw_or1 (pt_cmpR op_eq (pv 2) pe_str (nomark _))))) (pss_one (ps_ret (pe_ix ix_tup (pv 0) pe_int (fun _ _ => rfl)))) pss_nil)
      (pss_cons (ps_set (i := 3) sc_l_value.nd rfl (Or.inl rfl) (pe_call g_l_value (hr.mono (by first | decide | omega)) rfl T.m_l_value T.F_l_value.kp T.b_l_value .nil pass0 (pa_cons (pe_ix ix_tup (pv 0) pe_int (fun _ _ => rfl)) (pa_cons (pv 1) pa_nil))))
      (pss_cons (ps_if (pt_cmpR op_eq (pv 2) pe_str (nomark _)) (pss_one (ps_ret (pe_not (pv 3)))) pss_nil)
      (pss_cons (ps_set (i := 4) sc_l_value.nd rfl (Or.inl rfl) (pe_call g_l_value (hr.mono (by first | decide | omega)) rfl T.m_l_value T.F_l_value.kp T.b_l_value .nil pass0 (pa_cons (pe_ix ix_tup (pv 0) pe_int (fun _ _ => rfl)) (pa_cons (pv 1) pa_nil))))
      (pss_cons (ps_if (pt_cmpR op_in_seq (pv 2) (pe_lst (pa_cons pe_str (pa_cons pe_str (pa_cons pe_str pa_nil)))) (by rfl)) (pss_one (ps_ret (pe_ix ix_list (pe_lst (pa_cons (pe_op op_add (pv 3) (pv 4)) (pa_cons (pe_op op_sub (pv 3) (pv 4)) (pa_cons (pe_op op_mulW (pv 3) (pv 4)) pa_nil)))) (pe_bm PySem.F.plainAttrs_list PySem.F.slot_list_index PySem.F.type_list_index mt_index (pe_lst (pa_cons pe_str (pa_cons pe_str (pa_cons pe_str pa_nil)))) (pa_cons (pv 2) pa_nil)) (fun _ _ => rfl)))) pss_nil)
      (pss_cons (ps_if (pt_cmpR op_in_seq (pv 2) (pe_lst (pa_cons pe_str (pa_cons pe_str pa_nil))) (by rfl)) (pss_one (ps_ret (pe_or (pe_cmpR op_lt (pv 3) (pv 4) (nomark _)) (pe_one (pe_and (pe_cmpR op_eq (pv 2) pe_str (nomark _)) (pe_one (pe_cmpR op_eq (pv 3) (pv 4) (nomark _)))))))) pss_nil)
      (pss_cons (ps_if (pt_cmpR op_eq (pv 2) pe_str (nomark _)) (pss_one (ps_ret (pe_and (pv 3) (pe_one (pv 4))))) pss_nil)
      (pss_cons (ps_if (pt_cmpR op_eq (pv 2) pe_str (nomark _)) (pss_one (ps_ret (pe_or (pv 3) (pe_one (pv 4))))) pss_nil)
      (pss_one (ps_ret (pe_cmpR op_eq (pe_cmpR op_eq (pv 3) (pv 4) (nomark _)) (pe_cmpR op_ne (pv 2) pe_str (nomark _)) (nomark _))))))))))))))), ?_⟩
    cases e with
    | num i =>
      obtain ⟨p, rfl, hp⟩ := hx
      refine ⟨_, rfl, p, _, _, _, rfl, rfl, hp, rfl, _, rfl, rfl, _, rfl, ifF (by decide +kernel) ?_⟩
      refine ⟨_, rfl, rfl, _, rfl, ifF (by decide +kernel) ?_⟩
      refine ⟨_, rfl, rfl, _, rfl, ifT (by decide +kernel) (iteT ?_)⟩
      exact ⟨_, rfl, p, _, _, _, rfl, rfl, hp, rfl, q _ (Same.refl H)⟩
    | var z =>
      obtain ⟨p, rfl, hp⟩ := hx
      refine ⟨_, rfl, p, _, _, _, rfl, rfl, hp, rfl, _, rfl, rfl, _, rfl, ifF (by decide +kernel) ?_⟩
      refine ⟨_, rfl, rfl, _, rfl, ifT (by decide +kernel) ?_⟩
      exact ⟨_, rfl, _, rfl, p, _, _, _, rfl, rfl, hp, rfl, d, _, rfl, DGet.at (k := Sum.inr z) hd hv, q _ (Same.refl H)⟩
    | bin o a b =>
      obtain ⟨p, x, y, rfl, hp, hx, hy⟩ := hx
      have n1 : ¬ (V.str o.s = V.str "null") := by cases o <;> decide +kernel
      have n2 : ¬ (V.str o.s = V.str "name") := by cases o <;> decide +kernel
      have n3 : ¬ (V.str o.s = V.str "num") := by cases o <;> decide +kernel
      have n4 : ¬ (V.str o.s = V.str "flag") := by cases o <;> decide +kernel
      have n5 : ¬ (V.str o.s = V.str "not") := by cases o <;> decide +kernel
      have ea := ev_bd hρ ho.1
      have eb := ev_bd hρ ho.2
      have el := Eb_le (m := m) (by omega)
      refine ⟨_, rfl, p, _, _, _, rfl, rfl, hp, rfl, _, rfl, rfl, _, rfl, ifF (decide_eq_false n1) ?_⟩
      refine ⟨_, rfl, rfl, _, rfl, ifF (decide_eq_false n2) ?_⟩
      refine ⟨_, rfl, rfl, _, rfl, ifF (decide_eq_false n3) ⟨_, rfl, rfl, _, rfl, ifF (decide_eq_false n4) ?_⟩⟩
      refine ⟨_, rfl, p, _, _, _, rfl, rfl, hp, rfl, _, rfl, x, d, a, S, ρ, kvs, rfl, hx, ho.1, hd, hv.1, hρ, fun H1 s1 => ?_⟩
      refine ⟨_, rfl, rfl, _, rfl, ifF (decide_eq_false n5) ?_⟩
      have hp1 := Same.tup s1 hp
      refine ⟨_, rfl, p, _, _, _, rfl, rfl, hp1, rfl, _, rfl, y, d, b, S, ρ, kvs, rfl, hy.same s1, ho.2, s1 _ _ hd, hv.2, hρ, fun H2 s2 => ?_⟩
      have s12 := s1.trans s2
      refine ⟨_, rfl, by show 3 ≤ sizeLine; decide, fun l hl => ⟨l, _, rfl, .inl (SqL.of upd_same), rfl, rfl, _, rfl, ?_⟩⟩
      have s3 := Same.new hl (.lst [.str "+", .str "-", .str "*"])
      have s13 := s12.trans s3
      refine ifT (by cases o <;> decide +kernel) ?_
      generalize ei : evE ρ a = i at *
      generalize ej : evE ρ b = j at *
      have eq1 : evE ρ (.bin o a b) = o.ap i j := by
        show o.ap (evE ρ a) (evE ρ b) = _
        rw [ei, ej]
      rw [eq1] at q
      refine ⟨_, rfl, _, rfl, i, j, rfl, rfl, _, rfl, _, rfl, i, j, rfl, rfl, _, rfl, _, rfl, i, j, rfl, rfl, mulW ea eb (by omega) (by omega), by show 3 ≤ sizeLine; decide, fun l2 hl2 => ?_⟩
      have s4 := Same.new hl2 (.lst [.int (i + j), .int (i - j), .int (i * j)])
      refine ⟨by show 3 ≤ sizeLine; decide, fun l3 hl3 => ⟨.inl ⟨rfl, _, SqL.of upd_same⟩, _, rfl, ?_⟩⟩
      have s5 := Same.new hl3 (.lst [.str "+", .str "-", .str "*"])
      have sE := s13.trans (s4.trans s5)
      have hl2' := s5 _ _ (upd_same (H := upd H2 l (.lst [.str "+", .str "-", .str "*"])) (a := l2) (o := .lst [.int (i + j), .int (i - j), .int (i * j)]))
      cases o with
      | add =>
        refine ⟨l3, _, _, 0, _, rfl, rfl, SqL.of upd_same, rfl, rfl, rfl, by decide +kernel, fun m' z' hm' _ => by omega, ?_⟩
        exact ⟨l2, _, 0, _, rfl, rfl, SqL.of hl2', rfl, q _ sE⟩
      | sub =>
        refine ⟨l3, _, _, 1, _, rfl, rfl, SqL.of upd_same, rfl, rfl, rfl, by decide +kernel, fun m' z' hm' hz => ?_, ?_⟩
        · obtain rfl : m' = 0 := by omega
          cases hz
          decide +kernel
        · exact ⟨l2, _, 1, _, rfl, rfl, SqL.of hl2', rfl, q _ sE⟩
      | mul =>
        refine ⟨l3, _, _, 2, _, rfl, rfl, SqL.of upd_same, rfl, rfl, rfl, by decide +kernel, fun m' z' hm' hz => ?_, ?_⟩
        · have hm2 : m' = 0 ∨ m' = 1 := by omega
          rcases hm2 with rfl | rfl
          · cases hz
            decide +kernel
          · cases hz
            decide +kernel
        · exact ⟨l2, _, 2, _, rfl, rfl, SqL.of hl2', rfl, q _ sE⟩
end
/-! ### law k23: the law's own form: a table that walks the expression with a factor -/
theorem spr_is {cs : List Int} {lo hi L G : Int} {Ps : List (List Int)} (h1 : ¬ IsD cs → L = spanLo (hullM cs.length Ps) cs lo ∧ G = spanHi (hullM cs.length Ps) cs hi) (h2 : IsD cs → DMM cs lo hi Ps L G) : L = lowF cs lo Ps ∧ G = highF cs hi Ps := by
  unfold lowF highF
  by_cases d : IsD cs
  · rw [if_pos d, if_pos d]
    obtain ⟨⟨⟨p1, m1, e1⟩, b1⟩, ⟨p2, m2, e2⟩, b2⟩ := h2 d
    rw [minV_is (m := val cs p1) ⟨p1, m1, rfl⟩ (fun p hp => by have := b1 p hp; omega), maxV_is (m := val cs p2) ⟨p2, m2, rfl⟩ (fun p hp => by have := b2 p hp; omega)]
    exact ⟨e1, e2⟩
  · rw [if_neg d, if_neg d]
    exact h1 d
structure Env23 (H : Hp) (dk nl p : Addr) (kvs : List (Key × V)) (N S : List Str) (κ : Str → Int) (n : Nat) (Ps : List (List Int)) : Prop where
  d : H dk = some (.dK kvs)
  k : ∀ z ∈ S, z ∉ N → valV kvs (Sum.inr z) = some (.int (κ z))
  b : ∀ z, -1000000000000 ≤ κ z ∧ κ z ≤ 1000000000000
  nm : H nl = some (.lst (N.map V.str))
  ln : N.length ≤ n
  p : TPts H p Ps
  ne : Ps ≠ []
  lp : Ps.length ≤ 1000
  lr : ∀ r ∈ Ps, r.length = n
  pb : PtB Ps
  hn : n ≤ 20
theorem Env23.same {H H' : Hp} {dk nl p : Addr} {kvs : List (Key × V)} {N S : List Str} {κ : Str → Int} {n : Nat} {Ps : List (List Int)} (s : Same H H') (h : Env23 H dk nl p kvs N S κ n Ps) : Env23 H' dk nl p kvs N S κ n Ps :=
  ⟨s _ _ h.d, h.k, h.b, s _ _ h.nm, h.ln, h.p.same s, h.ne, h.lp, h.lr, h.pb, h.hn⟩
theorem ev_at {kvs : List (Key × V)} {N S : List Str} {κ : Str → Int} (hk : ∀ z ∈ S, z ∉ N → valV kvs (Sum.inr z) = some (.int (κ z))) : ∀ {m : Nat} {e : Ef}, e.ok S m → occ N e = false → EvAt kvs κ e
  | 0, _, h, _ => h.elim
  | _ + 1, .num _, _, _ => trivial
  | _ + 1, .var z, h, o => hk z h (of_decide_eq_false o)
  | _ + 1, .bin _ a b, h, o => have o := Bool.or_eq_false_iff.mp o; ⟨ev_at hk h.1 o.1, ev_at hk h.2 o.2⟩
def TbAt (H : Hp) (t r : Addr) (n : Nat) (F : Fm) : Prop := t ≠ r ∧ H t = some (.lst [.ref r, .int F.lo, .int F.hi]) ∧ H r = some (.lst ((mkR n F.c).map V.int))
def Tbk (t r : Addr) (H H' : Hp) : Prop := ∀ b o, b ≠ t → b ≠ r → H b = some o → H' b = some o
theorem Tbk.trans {t r : Addr} {H H1 H2 : Hp} (x : Tbk t r H H1) (y : Tbk t r H1 H2) : Tbk t r H H2 := fun b o h1 h2 e => y b o h1 h2 (x b o h1 h2 e)
theorem Tbk.of {t r : Addr} {H H1 : Hp} (s : Same H H1) : Tbk t r H H1 := fun b o _ _ e => s b o e
theorem TbAt.same {H H' : Hp} {t r : Addr} {n : Nat} {F : Fm} (s : Same H H') (h : TbAt H t r n F) : TbAt H' t r n F := ⟨h.1, s _ _ h.2.1, s _ _ h.2.2⟩
theorem Tbk.keep {K : PySem.W.Frag} {t r : Addr} {H H' : Hp} {n : Nat} {F : Fm} (x : Tbk t r H H') (h : TbAt H t r n F) : KeepT K H H' := by
  intro p xs hp
  have ne : ∀ {u : HO}, H p = some u → (∀ ys, u ≠ .lst ys) → p ≠ t ∧ p ≠ r := fun e n => ⟨fun z => by rw [z, h.2.1] at e; exact n _ (Option.some.inj e).symm, fun z => by rw [z, h.2.2] at e; exact n _ (Option.some.inj e).symm⟩
  rcases hp with (q | ⟨o', q⟩) | q
  · exact .inl (.inl (x _ _ (ne q (fun _ z => nomatch z)).1 (ne q (fun _ z => nomatch z)).2 q))
  · exact .inl (.inr ⟨o', x _ _ (ne q (fun _ z => nomatch z)).1 (ne q (fun _ z => nomatch z)).2 q⟩)
  · exact .inr q
theorem Env23.tbk {H H' : Hp} {dk nl p t r : Addr} {kvs : List (Key × V)} {N S : List Str} {κ : Str → Int} {n : Nat} {Ps : List (List Int)} {F : Fm} (x : Tbk t r H H') (hT : TbAt H t r n F) (nr : nl ≠ r) (h : Env23 H dk nl p kvs N S κ n Ps) : Env23 H' dk nl p kvs N S κ n Ps := by
  have ne : ∀ {q : Addr} {u : HO}, H q = some u → (∀ ys, u ≠ .lst ys) → q ≠ t ∧ q ≠ r := fun {q u} e n => ⟨fun z => by rw [z, hT.2.1] at e; exact n _ (Option.some.inj e).symm, fun z => by rw [z, hT.2.2] at e; exact n _ (Option.some.inj e).symm⟩
  obtain ⟨as, hp, ha⟩ := h.p
  have las : as ≠ [] := fun z => by
    have := ha.1
    rw [z] at this
    exact h.ne (List.length_eq_zero_iff.mp this.symm)
  refine ⟨?_, h.k, h.b, ?_, h.ln, ⟨as, ?_, ha.1, fun i b q e1 e2 => ?_⟩, h.ne, h.lp, h.lr, h.pb, h.hn⟩
  · have := ne h.d (fun _ z => nomatch z)
    exact x _ _ this.1 this.2 h.d
  · refine x _ _ (fun z => ?_) nr h.nm
    have e := h.nm
    rw [z, hT.2.1] at e
    have e := HO.lst.inj (Option.some.inj e)
    cases N with
    | nil => cases e
    | cons a b => rw [List.map_cons] at e; cases e
  · refine x _ _ (fun z => ?_) (fun z => ?_) hp
    · rw [z, hT.2.1] at hp
      have e := HO.lst.inj (Option.some.inj hp)
      match as, e with
      | [], e => cases e
      | [_], e => cases e
      | _ :: _ :: _, e => rw [List.map_cons, List.map_cons] at e; cases e
    · rw [z, hT.2.2] at hp
      have e := HO.lst.inj (Option.some.inj hp)
      cases as with
      | nil => exact las rfl
      | cons a b =>
        rw [List.map_cons] at e
        cases h2 : (mkR n F.c) with
        | nil => rw [h2] at e; cases e
        | cons u v => rw [h2, List.map_cons] at e; cases e
  · have e3 := ha.2 i b q e1 e2
    have := ne e3 (fun _ z => nomatch z)
    exact x _ _ this.1 this.2 e3
def spAdd23 (K : PySem.W.Frag) (m : Nat) : Sp := fun vs H Q _ => ∃ (t r dk nl p : Addr) (v : V) (c : Int) (ec : Nat) (F : Fm) (e : Ef) (kvs : List (Key × V)) (N S : List Str) (κ : Str → Int) (n : Nat) (Ps : List (List Int)), vs = [.ref t, v, .int c, .ref dk, .ref nl, .ref p] ∧ Env23 H dk nl p kvs N S κ n Ps ∧
  TbAt H t r n F ∧ nl ≠ r ∧ EfAt K H e v ∧ e.ok S m ∧ Bd ec c ∧ ec + Eb m ≤ 60000 ∧ ∀ H', Tbk t r H H' → TbAt H' t r n (tb N κ n Ps F e c) → Q .non H'
def spForm23 (K : PySem.W.Frag) (m : Nat) : Sp := fun vs H Q _ => ∃ (dk nl p : Addr) (v : V) (e : Ef) (kvs : List (Key × V)) (N S : List Str) (κ : Str → Int) (n : Nat) (Ps : List (List Int)), vs = [v, .ref dk, .ref nl, .ref p] ∧ Env23 H dk nl p kvs N S κ n Ps ∧ EfAt K H e v ∧ e.ok S m ∧
  ∀ f H', Same H H' → FmAt K H' f n (fm N κ n Ps e) → Q (.ref f) H'
def spCor23 (K : PySem.W.Frag) (m : Nat) : Sp := fun vs H Q _ => ∃ (dk nl p : Addr) (v : V) (a b : Ef) (kvs : List (Key × V)) (N S : List Str) (κ : Str → Int) (n : Nat) (Ps : List (List Int)), vs = [v, .ref dk, .ref nl, .ref p] ∧ Env23 H dk nl p kvs N S κ n Ps ∧ EfAt K H (.bin .mul a b) v ∧ a.ok S m ∧ b.ok S m ∧
  ∀ l H' a1 b1 a2 b2, Same H H' → a1 = (fm N κ n Ps a).low n Ps → b1 = (fm N κ n Ps a).high n Ps → a2 = (fm N κ n Ps b).low n Ps → b2 = (fm N κ n Ps b).high n Ps → H' l = some (.lst [.int (a1 * a2), .int (a1 * b2), .int (b1 * a2), .int (b1 * b2)]) → Q (.ref l) H'
theorem mkR_set {n i : Nat} {f g : Nat → Int} {v : Int} (hi : i < n) (h : ∀ k, k < n → g k = if k = i then v else f k) : (mkR n f).set i v = mkR n g := by
  refine List.ext_getElem? fun k => ?_
  by_cases hk : k < n
  · rw [mkR_at hk, h k hk]
    by_cases e : k = i
    · subst e
      rw [if_pos rfl, List.getElem?_set_self (by rw [mkR_len]; exact hk)]
    · rw [if_neg e, List.getElem?_set_ne (fun z => e z.symm), mkR_at hk]
  · rw [List.getElem?_eq_none (by rw [List.length_set, mkR_len]; omega), List.getElem?_eq_none (by rw [mkR_len]; omega)]
section
variable {P : Program} {w : World} {K : PySem.W.Frag} {mg : Str → Option Value} {base : Heap}
theorem ok_l_corners (T : Txt w K mg) {m k : Nat} (hm : m ≤ 7) (g_l_form : FnOk P w K mg base CX0 k T.a_l_form T.d_l_form p_l_form (spForm23 K m)) : FnOk P w K mg base CX0 (k + 2) T.a_l_corners T.d_l_corners p_l_corners (spCor23 K m) := by
  have g_l_spread := ok_l_spread (P := P) (w := w) (K := K) (base := base) T
  refine T.F_l_corners.ok sc_l_corners (fun vs H Q E h => ?_) (fun cdv A outer s H vs Q E hr h => ?_)
  · obtain ⟨dk, nl, p, v, a, b, kvs, N, S, κ, n, Ps, rfl, _⟩ := h
    rfl
  obtain ⟨dk, nl, p, v, a, b, kvs, N, S, κ, n, Ps, rfl, en, hx, oa, ob, q⟩ := h
  refine ⟨_, (pss_cons (ps_set (i := 4) sc_l_corners.nd rfl (Or.inl rfl) (pe_call g_l_spread (hr.mono (by first | decide | omega)) rfl T.m_l_spread T.F_l_spread.kp T.b_l_spread .nil pass0 (pa_cons (pe_call g_l_form (hr.mono (by first | decide | omega)) rfl T.m_l_form T.F_l_form.kp T.b_l_form .nil pass0 (pa_cons (pe_ix ix_tup (pv 0) pe_int (fun _ _ => rfl)) (pa_cons (pv 1) (pa_cons (pv 2) (pa_cons (pv 3) pa_nil))))) (pa_cons (pv 3) pa_nil))))
      (pss_cons (ps_set (i := 5) sc_l_corners.nd rfl (Or.inl rfl) (pe_call g_l_spread (hr.mono (by first | decide | omega)) rfl T.m_l_spread T.F_l_spread.kp T.b_l_spread .nil pass0 (pa_cons (pe_call g_l_form (hr.mono (by first | decide | omega)) rfl T.m_l_form T.F_l_form.kp T.b_l_form .nil pass0 (pa_cons (pe_ix ix_tup (pv 0) pe_int (fun _ _ => rfl)) (pa_cons (pv 1) (pa_cons (pv 2) (pa_cons (pv 3) pa_nil))))) (pa_cons (pv 3) pa_nil))))
      (pss_one (ps_ret (pe_lst (pa_cons (pe_op op_mulW (pe_ix ix_tup (pv 4) pe_int (fun _ _ => rfl)) (pe_ix ix_tup (pv 5) pe_int (fun _ _ => rfl))) (pa_cons (pe_op op_mulW (pe_ix ix_tup (pv 4) pe_int (fun _ _ => rfl)) (pe_ix ix_tup (pv 5) pe_int (fun _ _ => rfl))) (pa_cons (pe_op op_mulW (pe_ix ix_tup (pv 4) pe_int (fun _ _ => rfl)) (pe_ix ix_tup (pv 5) pe_int (fun _ _ => rfl))) (pa_cons (pe_op op_mulW (pe_ix ix_tup (pv 4) pe_int (fun _ _ => rfl)) (pe_ix ix_tup (pv 5) pe_int (fun _ _ => rfl))) pa_nil))))))))), ?_⟩
  obtain ⟨t, x, y, rfl, ht, hx, hy⟩ := hx
  refine ⟨_, rfl, t, _, _, _, rfl, rfl, ht, rfl, _, rfl, _, rfl, _, rfl, dk, nl, p, x, a, kvs, N, S, κ, n, Ps, rfl, en, hx, oa, fun f H1 s1 hf => ?_⟩
  have ln : ∀ G : Fm, (mkR n G.c).length = n := fun G => mkR_len
  have en1 := en.same s1
  refine ⟨_, rfl, f, p, mkR n (fm N κ n Ps a).c, _, _, Ps, rfl, hf, en.pb, by rw [ln]; exact en.hn, en1.p, en.ne, en.lp, fun r hr => by rw [ln]; exact en.lr r hr, fun t1 H2 L1 G1 s2 ht1 d1 d2 => ?_⟩
  obtain ⟨e1, e2⟩ := spr_is d1 d2
  have s12 := s1.trans s2
  refine ⟨_, rfl, t, _, _, _, rfl, rfl, Same.tup s12 ht, rfl, _, rfl, _, rfl, _, rfl, dk, nl, p, y, b, kvs, N, S, κ, n, Ps, rfl, en.same s12, hy.same s12, ob, fun g H3 s3 hg => ?_⟩
  have s13 := s12.trans s3
  have en3 := en.same s13
  refine ⟨_, rfl, g, p, mkR n (fm N κ n Ps b).c, _, _, Ps, rfl, hg, en.pb, by rw [ln]; exact en.hn, en3.p, en.ne, en.lp, fun r hr => by rw [ln]; exact en.lr r hr, fun t2 H4 L2 G2 s4 ht2 d3 d4 => ?_⟩
  obtain ⟨e3, e4⟩ := spr_is d3 d4
  have hκ : Kok S N κ := fun z _ _ => en.b z
  have hn : n ≤ 60 := by have := en.hn; omega
  have b1 := low_bd en.ne en.pb hn (fm_bd (n := n) en.ne en.pb hn hκ oa)
  have b2 := low_bd en.ne en.pb hn (fm_bd (n := n) en.ne en.pb hn hκ ob)
  rw [show (fm N κ n Ps a).low n Ps = L1 from e1.symm, show (fm N κ n Ps a).high n Ps = G1 from e2.symm] at b1
  rw [show (fm N κ n Ps b).low n Ps = L2 from e3.symm, show (fm N κ n Ps b).high n Ps = G2 from e4.symm] at b2
  have el := Eb_le (m := m) (by omega)
  have h1 : SqT K H4 t1 [.int L1, .int G1] := SqT.of (s4 _ _ (s3 _ _ ht1))
  have h2 : SqT K H4 t2 [.int L2, .int G2] := SqT.of ht2
  refine ⟨_, rfl, t1, _, _, _, rfl, rfl, h1, rfl, _, rfl, t2, _, _, _, rfl, rfl, h2, rfl, _, _, rfl, rfl, mulW b1.1 b2.1 (by omega) (by omega), ?_⟩
  refine ⟨_, rfl, t1, _, _, _, rfl, rfl, h1, rfl, _, rfl, t2, _, _, _, rfl, rfl, h2, rfl, _, _, rfl, rfl, mulW b1.1 b2.2 (by omega) (by omega), ?_⟩
  refine ⟨_, rfl, t1, _, _, _, rfl, rfl, h1, rfl, _, rfl, t2, _, _, _, rfl, rfl, h2, rfl, _, _, rfl, rfl, mulW b1.2 b2.1 (by omega) (by omega), ?_⟩
  refine ⟨_, rfl, t1, _, _, _, rfl, rfl, h1, rfl, _, rfl, t2, _, _, _, rfl, rfl, h2, rfl, _, _, rfl, rfl, mulW b1.2 b2.2 (by omega) (by omega), by show 4 ≤ sizeLine; decide, fun l hl => ?_⟩
  exact q l _ L1 G1 L2 G2 ((s13.trans s4).trans (Same.new hl _)) e1 e2 e3 e4 upd_same
theorem ok_l_form (T : Txt w K mg) {m k : Nat} (hm : m ≤ 8) (g_l_add : FnOk P w K mg base CX0 k T.a_l_add T.d_l_add p_l_add (spAdd23 K m)) : FnOk P w K mg base CX0 (k + 1) T.a_l_form T.d_l_form p_l_form (spForm23 K m) := by
  refine T.F_l_form.ok sc_l_form (fun vs H Q E h => ?_) (fun cdv A outer s H vs Q E hr h => ?_)
  · obtain ⟨dk, nl, p, v, e, kvs, N, S, κ, n, Ps, rfl, _⟩ := h
    rfl
  obtain ⟨dk, nl, p, v, e, kvs, N, S, κ, n, Ps, rfl, en, hx, oe, q⟩ := h
  refine ⟨_, (pss_cons (ps_set (i := 4) sc_l_form.nd rfl (Or.inl rfl) (pe_lst (pa_cons (pe_op op_rep (pe_lst (pa_cons pe_int pa_nil)) (pe_callB call_len_seq rfl T.z_len PySem.boot_len (pa_cons (pe_ix ix_list (pv 3) pe_int (fun _ _ => rfl)) pa_nil))) (pa_cons pe_int (pa_cons pe_int pa_nil)))))
      (pss_cons (ps_expr (pe_call g_l_add (hr.mono (by first | decide | omega)) rfl T.m_l_add T.F_l_add.kp T.b_l_add .nil pass0 (pa_cons (pv 4) (pa_cons (pv 0) (pa_cons pe_int (pa_cons (pv 1) (pa_cons (pv 2) (pa_cons (pv 3) pa_nil))))))))
      (pss_one (ps_ret (pe_tup (pa_cons (pe_callTy call_tuple_of rfl T.z_tuple bt_tuple (pa_cons (pe_ix ix_list (pv 4) pe_int (fun _ _ => rfl)) pa_nil)) (pa_cons (pe_ix ix_list (pv 4) pe_int (fun _ _ => rfl)) (pa_cons (pe_ix ix_list (pv 4) pe_int (fun _ _ => rfl)) pa_nil)))))))), ?_⟩
  obtain ⟨as, hp, ha⟩ := en.p
  have las : 0 < as.length := by rw [ha.1]; exact List.length_pos_iff.mpr en.ne
  have f1 : as[0]? = some as[0] := List.getElem?_eq_getElem las
  have f2 : Ps[0]? = some (Ps[0]'(by rw [← ha.1]; exact las)) := List.getElem?_eq_getElem _
  have g1 := ha.2 0 _ _ f1 f2
  have lr := en.lr _ (List.mem_of_getElem? f2)
  generalize as[0] = a0 at f1 g1
  generalize (Ps[0]'(by rw [← ha.1]; exact las)) = r0 at f2 g1 lr
  have hn := en.hn
  refine ⟨(by show 1 ≤ sizeLine; decide), fun l0 hl0 => ?_⟩
  have s0 := Same.new hl0 (.lst [.int 0])
  have h00 : (upd H l0 (.lst [.int 0])) l0 = some (.lst [.int 0]) := upd_same
  refine ⟨_, rfl, p, _, 0, _, rfl, rfl, SqL.of (s0 _ _ hp), atI_nat (j := 0) (map_get f1), a0, _, rfl, .inr (SqT.of (s0 _ _ g1)), ?_⟩
  have ly : (r0.map V.int).length = n := by rw [List.length_map, lr]
  rw [ly]
  refine ⟨l0, n, _, rfl, rfl, h00, by omega, by omega, (by rw [sizeLine_eq]; show 1 * (n : Int).toNat ≤ _; omega), fun l1 hl1 => ?_⟩
  rw [Int.toNat_natCast, rep0]
  have s1 := Same.new hl1 (.lst ((mkR n fun _ => (0 : Int)).map V.int))
  refine ⟨by show 3 ≤ sizeLine; decide, fun t ht => ?_⟩
  have s2 := Same.new ht (.lst [.ref l1, .int 0, .int 0])
  have s02 := (s0.trans s1).trans s2
  have hl1' := s2 _ _ (show (upd (upd H l0 (.lst [.int 0])) l1 (.lst ((mkR n fun _ => (0 : Int)).map V.int))) l1 = some (.lst ((mkR n fun _ => (0 : Int)).map V.int)) from upd_same)
  have nt1 : t ≠ l1 := fun z => by
    rw [z, upd_same] at ht
    cases ht
  have tb0 : TbAt (upd (upd (upd H l0 (.lst [.int 0])) l1 (.lst ((mkR n fun _ => (0 : Int)).map V.int))) t (.lst [.ref l1, .int 0, .int 0])) t l1 n (.con 0) := ⟨nt1, upd_same, hl1'⟩
  have h1n : H l1 = none := by
    cases e1 : H l1 with
    | none => rfl
    | some o => rw [s0 _ _ e1] at hl1; cases hl1
  have htn : H t = none := by
    cases e1 : H t with
    | none => rfl
    | some o => rw [s1 _ _ (s0 _ _ e1)] at ht; cases ht
  refine ⟨_, rfl, _, rfl, _, rfl, _, rfl, _, rfl, t, l1, dk, nl, p, v, 1, 1, .con 0, e, kvs, N, S, κ, n, Ps, rfl, en.same s02, tb0, (fun z => by rw [← z, en.nm] at h1n; cases h1n), hx.same s02, oe, by show (1 : Nat) < 2; decide, by have := Eb_le (m := m) hm; omega, fun H5 k5 tb5 => ?_⟩
  have ef : tb N κ n Ps (.con 0) e 1 = fm N κ n Ps e := by
    unfold tb
    rw [times_one (fm_le e)]
    exact Fm.eq (fun k => Int.zero_add _) (Int.zero_add _) (Int.zero_add _)
  rw [ef] at tb5
  refine ⟨_, rfl, t, _, 0, _, rfl, rfl, SqL.of tb5.2.1, rfl, l1, _, rfl, .inl ⟨SqL.of tb5.2.2, fun l hl => ?_⟩⟩
  have s6 := Same.new hl (.tup ((mkR n (fm N κ n Ps e).c).map V.int))
  have t6 := tb5.same s6
  refine ⟨_, rfl, t, _, 1, _, rfl, rfl, SqL.of t6.2.1, rfl, _, rfl, t, _, 2, _, rfl, rfl, SqL.of t6.2.1, rfl, by show 3 ≤ sizeLine; decide, fun f hf => ?_⟩
  have s7 := Same.new hf (.tup [.ref l, .int (fm N κ n Ps e).lo, .int (fm N κ n Ps e).hi])
  refine q f _ (fun b o eb => s7 _ _ (s6 _ _ (k5 b o (ne_of_none eb htn) (ne_of_none eb h1n) (s02 _ _ eb)))) ⟨l, SqT.of upd_same, SqT.of (s7 _ _ upd_same)⟩
end
theorem Ef.ok.up {S : List Str} : ∀ {m : Nat} {e : Ef}, e.ok S m → e.ok S (m + 1)
  | 0, _, h => h.elim
  | _ + 1, .num _, h => h
  | _ + 1, .var _, h => h
  | _ + 1, .bin _ _ _, h => ⟨h.1.up, h.2.up⟩
theorem ixN_at {n j : Nat} (hj : j < n) : ixN n (j : Int) = some j := by
  unfold ixN
  rw [if_pos (by omega)]
  simp [hj]
theorem mn4 {a b c d m : Int} (hm : m ∈ [a, b, c, d]) (hx : ∀ y, y ∈ [a, b, c, d] → m ≤ y) : m = min4 a b c d := by
  have x1 := hx a (by simp)
  have x2 := hx b (by simp)
  have x3 := hx c (by simp)
  have x4 := hx d (by simp)
  simp only [List.mem_cons, List.not_mem_nil, or_false] at hm
  unfold min4
  omega
theorem mx4 {a b c d m : Int} (hm : m ∈ [a, b, c, d]) (hx : ∀ y, y ∈ [a, b, c, d] → y ≤ m) : m = max4 a b c d := by
  have x1 := hx a (by simp)
  have x2 := hx b (by simp)
  have x3 := hx c (by simp)
  have x4 := hx d (by simp)
  simp only [List.mem_cons, List.not_mem_nil, or_false] at hm
  unfold max4
  omega
theorem Bd.neg {e : Nat} {x : Int} (h : Bd e x) : Bd e (-x) := bd_neg h
section
variable {P : Program} {w : World} {K : PySem.W.Frag} {mg : Str → Option Value} {base : Heap}
theorem ok_l_add (T : Txt w K mg) : ∀ m : Nat, m ≤ 8 → FnOk P w K mg base CX0 (4 * m + 12) T.a_l_add T.d_l_add p_l_add (spAdd23 K m)
  | 0, _ => fn_vac fun vs H Q E h => by obtain ⟨t, r, dk, nl, p, v, c, ec, F, e, kvs, N, S, κ, n, Ps, _, _, _, _, _, h, _⟩ := h; exact h
  | m + 1, hm => by
    have g_l_add := ok_l_add T m (by omega)
    have g_l_corners := ok_l_corners T (m := m) (by omega) (ok_l_form T (by omega) g_l_add)
    have g_l_has := ok_l_has (P := P) (w := w) (K := K) (base := base) T (m + 1) (by omega)
    have g_l_value := ok_l_value (P := P) (w := w) (K := K) (base := base) T (m + 1) (by omega)
    show FnOk P w K mg base CX0 (4 * m + 15 + 1) T.a_l_add T.d_l_add p_l_add (spAdd23 K (m + 1))
    refine T.F_l_add.ok sc_l_add (fun vs H Q E h => ?_) (fun cdv A outer s H vs Q E hr h => ?_)
    · obtain ⟨t, r, dk, nl, p, v, c, ec, F, e, kvs, N, S, κ, n, Ps, rfl, _⟩ := h
      rfl
    obtain ⟨t, r, dk, nl, p, v, c, ec, F, e, kvs, N, S, κ, n, Ps, rfl, en, hT, nr, hx, oe, bc, lc, q⟩ := h
    refine ⟨_, (pss_cons (ps_set (i := 6) sc_l_add.nd rfl (Or.inl rfl) (pe_ix ix_tup (pv 1) pe_int (fun _ _ => rfl)))
      (pss_one (ps_if (PW.pt (pw_and (pt_cmpR op_eq (pv 6) pe_str (nomark _)) (pw_and1 (pt_cmpR op_in_seq (pe_ix ix_tup (pv 1) pe_int (fun _ _ => rfl)) (pv 4) (by rfl))))) (pss_cons (ps_set (i := 7) sc_l_add.nd rfl (Or.inl rfl) (pe_ix ix_list (pv 0) pe_int (fun _ _ => rfl)))
      (pss_cons (ps_set (i := 8) sc_l_add.nd rfl (Or.inl rfl) (pe_bm PySem.F.plainAttrs_list PySem.F.slot_list_index PySem.F.type_list_index mt_index (pv 4) (pa_cons (pe_ix ix_tup (pv 1) pe_int (fun _ _ => rfl)) pa_nil)))
      (pss_one (ps_asg (pe_op op_add (pe_ix ix_list (pv 7) (pv 8) (fun _ _ => rfl)) (pv 2)) (pg_sub (pv 7) (pv 8) set_list))))) (pss_one (ps_if (pt_not (pt_val (pe_call g_l_has (hr.mono (by first | decide | omega)) rfl T.m_l_has T.F_l_has.kp T.b_l_has .nil pass0 (pa_cons (pv 1) (pa_cons (pv 4) pa_nil))))) (pss_cons (ps_set (i := 9) sc_l_add.nd rfl (Or.inl rfl) (pe_op op_mulW (pv 2) (pe_call g_l_value (hr.mono (by first | decide | omega)) rfl T.m_l_value T.F_l_value.kp T.b_l_value .nil pass0 (pa_cons (pv 1) (pa_cons (pv 3) pa_nil)))))
      (pss_cons (ps_asg (pe_op op_add (pe_ix ix_list (pv 0) pe_int (fun _ _ => rfl)) (pv 9)) (pg_sub (pv 0) pe_int set_list))
      (pss_one (ps_asg (pe_op op_add (pe_ix ix_list (pv 0) pe_int (fun _ _ => rfl)) (pv 9)) (pg_sub (pv 0) pe_int set_list))))) (pss_one (ps_if (PW.pt (pw_or (pt_cmpR op_eq (pv 6) pe_str (nomark _)) (pw_or1 (pt_cmpR op_eq (pv 6) pe_str (nomark _))))) (pss_cons (ps_expr (pe_call g_l_add (hr.mono (by first | decide | omega)) rfl T.m_l_add T.F_l_add.kp T.b_l_add .nil pass0 (pa_cons (pv 0) (pa_cons (pe_ix ix_tup (pv 1) pe_int (fun _ _ => rfl)) (pa_cons (pv 2) (pa_cons (pv 3) (pa_cons (pv 4) (pa_cons (pv 5) pa_nil))))))))
      (pss_one (ps_expr (pe_call g_l_add (hr.mono (by first | decide | omega)) rfl T.m_l_add T.F_l_add.kp T.b_l_add .nil pass0 (pa_cons (pv 0) (pa_cons (pe_ix ix_tup (pv 1) pe_int (fun _ _ => rfl)) (pa_cons (pe_ix ix_list (pe_lst (pa_cons (pv 2) (pa_cons (pe_un un_neg (pv 2)) pa_nil))) (pe_callTy call_int1 rfl T.z_int bt_int (pa_cons (pe_cmpR op_eq (pv 6) pe_str (nomark _)) pa_nil)) (fun _ _ => rfl)) (pa_cons (pv 3) (pa_cons (pv 4) (pa_cons (pv 5) pa_nil)))))))))) (pss_one (ps_if (pt_not (pt_val (pe_call g_l_has (hr.mono (by first | decide | omega)) rfl T.m_l_has T.F_l_has.kp T.b_l_has .nil pass0 (pa_cons (pe_ix ix_tup (pv 1) pe_int (fun _ _ => rfl)) (pa_cons (pv 4) pa_nil))))) (pss_one (ps_expr (pe_call g_l_add (hr.mono (by first | decide | omega)) rfl T.m_l_add T.F_l_add.kp T.b_l_add .nil pass0 (pa_cons (pv 0) (pa_cons (pe_ix ix_tup (pv 1) pe_int (fun _ _ => rfl)) (pa_cons (pe_op op_mulW (pv 2) (pe_call g_l_value (hr.mono (by first | decide | omega)) rfl T.m_l_value T.F_l_value.kp T.b_l_value .nil pass0 (pa_cons (pe_ix ix_tup (pv 1) pe_int (fun _ _ => rfl)) (pa_cons (pv 3) pa_nil)))) (pa_cons (pv 3) (pa_cons (pv 4) (pa_cons (pv 5) pa_nil))))))))) (pss_one (ps_if (pt_not (pt_val (pe_call g_l_has (hr.mono (by first | decide | omega)) rfl T.m_l_has T.F_l_has.kp T.b_l_has .nil pass0 (pa_cons (pe_ix ix_tup (pv 1) pe_int (fun _ _ => rfl)) (pa_cons (pv 4) pa_nil))))) (pss_one (ps_expr (pe_call g_l_add (hr.mono (by first | decide | omega)) rfl T.m_l_add T.F_l_add.kp T.b_l_add .nil pass0 (pa_cons (pv 0) (pa_cons (pe_ix ix_tup (pv 1) pe_int (fun _ _ => rfl)) (pa_cons (pe_op op_mulW (pv 2) (pe_call g_l_value (hr.mono (by first | decide | omega)) rfl T.m_l_value T.F_l_value.kp T.b_l_value .nil pass0 (pa_cons (pe_ix ix_tup (pv 1) pe_int (fun _ _ => rfl)) (pa_cons (pv 3) pa_nil)))) (pa_cons (pv 3) (pa_cons (pv 4) (pa_cons (pv 5) pa_nil))))))))) (pss_cons (ps_set (i := 10) sc_l_add.nd rfl (Or.inl rfl) (pe_call g_l_corners (hr.mono (by first | decide | omega)) rfl T.m_l_corners T.F_l_corners.kp T.b_l_corners .nil pass0 (pa_cons (pv 1) (pa_cons (pv 3) (pa_cons (pv 4) (pa_cons (pv 5) pa_nil))))))
      (pss_cons (ps_setLc (i := 11) (own := [("_law_end", 12)]) (g := gName 12) (tt := tYes) rfl sc_l_add.nd rfl rfl (sw_true rfl rfl rfl (by decide +kernel)) (pi_list (pv 10)) (blkOk_by (own := [("_law_end", 12)]) (N := n_l_add) (sc := defScope s_l_add) (by decide +kernel)) (fun _ _ _ _ _ => (pg_name (i := 12) sc_l_add.nd rfl (Or.inl rfl))) (fun _ _ _ _ _ => pts_nil) (fun _ _ _ _ _ => (pe_op op_mulW (pv 2) (pv 12))))
      (pss_cons (ps_asg (pe_op op_add (pe_ix ix_list (pv 0) pe_int (fun _ _ => rfl)) (pe_callB (cr_min rfl) rfl T.z_min bb_min (pa_cons (pv 11) pa_nil))) (pg_sub (pv 0) pe_int set_list))
      (pss_one (ps_asg (pe_op op_add (pe_ix ix_list (pv 0) pe_int (fun _ _ => rfl)) (pe_callB (cr_max rfl) rfl T.z_max bb_max (pa_cons (pv 11) pa_nil))) (pg_sub (pv 0) pe_int set_list))))))))))))))))), ?_⟩
    have bκ : ∀ z, Bd 40 (κ z) := fun z => bd_small (en.b z)
    have eb1 : Eb (m + 1) = 2 * Eb m + 100 := rfl
    have hx0 := hx
    have hn := en.hn
    cases e with
    | num i =>
      obtain ⟨x, rfl, hp⟩ := hx
      have hocc : occ N (.num i) = false := rfl
      refine ⟨_, rfl, x, _, _, _, rfl, rfl, hp, rfl, ?_⟩
      refine ⟨_, rfl, rfl, _, rfl, ifF (by decide +kernel) (iteF ?_)⟩
      refine ⟨_, rfl, _, rfl, _, nl, N, S, _, rfl, hx0, oe, en.nm, fun H1 s1 => ⟨_, rfl, ?_⟩⟩
      rw [hocc]
      refine ifT rfl ?_
      refine ⟨_, rfl, _, rfl, _, rfl, _, dk, _, S, κ, kvs, rfl, hx0.same s1, oe, s1 _ _ en.d, ev_at en.k oe hocc, bκ, fun H2 s2 => ?_⟩
      refine ⟨_, _, rfl, rfl, mulW bc (ev_bd bκ oe) (by omega) (by omega), ?_⟩
      have s12 := s1.trans s2
      have t2 := hT.same s12
      refine ⟨_, rfl, t, _, 1, _, rfl, rfl, SqL.of t2.2.1, rfl, _, rfl, _, _, rfl, rfl, _, rfl, t, _, 1, 1, rfl, rfl, t2.2.1, rfl, ?_⟩
      refine ⟨_, rfl, t, _, 2, _, rfl, rfl, SqL.of upd_same, rfl, _, rfl, _, _, rfl, rfl, _, rfl, t, _, 2, 2, rfl, rfl, upd_same, rfl, ?_⟩
      refine q _ (fun b o h1 h2 eb => by rw [upd_ne h1, upd_ne h1]; exact s12 _ _ eb) ?_
      rw [tb_const hocc]
      exact ⟨hT.1, upd_same, by rw [upd_ne hT.1.symm, upd_ne hT.1.symm]; exact t2.2.2⟩
    | var z =>
      obtain ⟨x, rfl, hp⟩ := hx
      refine ⟨_, rfl, x, _, _, _, rfl, rfl, hp, rfl, ?_⟩
      refine ⟨_, rfl, rfl, _, rfl, ifT (by decide +kernel) ⟨_, rfl, x, _, _, _, rfl, rfl, hp, rfl, _, rfl, nl, _, rfl, .inl (SqL.of en.nm), rfl, flatS N, _, rfl, ?_⟩⟩
      rw [inV_str]
      refine ite2 (fun hz => ?_) (fun hz => ?_)
      · have mz : z ∈ N := of_decide_eq_true hz
        have li := List.idxOf_lt_length_iff.mpr mz
        have ln := en.ln
        refine ⟨_, rfl, t, _, 0, _, rfl, rfl, SqL.of hT.2.1, rfl, ?_⟩
        refine ⟨_, rfl, .inl ⟨rfl, _, SqL.of en.nm⟩, _, rfl, x, _, _, _, rfl, rfl, hp, rfl, nl, N.map V.str, .str z, N.idxOf z, .str z, rfl, rfl, SqL.of en.nm, rfl, flatS N, map_get (by rw [List.getElem?_eq_getElem li, List.getElem_idxOf]), beq_self_eq_true z, fun i z' hi hz' => ?_, ?_⟩
        · rw [List.getElem?_map] at hz'
          cases e : N[i]? with
          | none => rw [e] at hz'; cases hz'
          | some y =>
            rw [e] at hz'
            cases hz'
            exact beq_eq_false_iff_ne.mpr fun w => idx_first N hi (by rw [e, w])
        refine ⟨_, rfl, _, rfl, r, _, _, _, rfl, rfl, SqL.of hT.2.2, atI_nat (map_get (mkR_at (by omega))), _, rfl, _, _, rfl, rfl, _, rfl, _, rfl, r, _, _, N.idxOf z, rfl, rfl, hT.2.2, ixN_at (by rw [List.length_map, mkR_len]; omega), ?_⟩
        have ef : fm N κ n Ps (.var z) = .col (N.idxOf z) := by
          unfold fm
          rw [if_pos mz]
        refine q _ (fun b o h1 h2 eb => by rw [upd_ne h2]; exact eb) ⟨hT.1, ?_, ?_⟩
        · rw [upd_ne hT.1, hT.2.1]
          unfold tb
          rw [ef]
          show some (HO.lst [V.ref r, V.int F.lo, V.int F.hi]) = some (HO.lst [V.ref r, V.int (F.lo + min (c * 0) (c * 0)), V.int (F.hi + max (c * 0) (c * 0))])
          rw [show F.lo + min (c * 0) (c * 0) = F.lo by omega, show F.hi + max (c * 0) (c * 0) = F.hi by omega]
        · rw [upd_same]
          unfold tb
          rw [ef]
          refine (congrArg (fun z => some (HO.lst z)) (List.map_set).symm).trans (congrArg (fun z => some (HO.lst (z.map V.int))) (mkR_set (by omega) fun k hk => ?_))
          show F.c k + c * (if k = N.idxOf z then 1 else 0) = _
          by_cases e : k = N.idxOf z
          · rw [if_pos e, if_pos e, e, Int.mul_one]
          · rw [if_neg e, if_neg e, Int.mul_zero, Int.add_zero]
      · have mz : z ∉ N := fun y => hz (decide_eq_true y)
        have hocc : occ N (.var z) = false := decide_eq_false mz
        refine ⟨_, rfl, _, rfl, _, nl, N, S, _, rfl, hx0, oe, en.nm, fun H1 s1 => ⟨_, rfl, ?_⟩⟩
        rw [hocc]
        refine ifT rfl ?_
        refine ⟨_, rfl, _, rfl, _, rfl, _, dk, _, S, κ, kvs, rfl, hx0.same s1, oe, s1 _ _ en.d, ev_at en.k oe hocc, bκ, fun H2 s2 => ?_⟩
        refine ⟨_, _, rfl, rfl, mulW bc (ev_bd bκ oe) (by omega) (by omega), ?_⟩
        have s12 := s1.trans s2
        have t2 := hT.same s12
        refine ⟨_, rfl, t, _, 1, _, rfl, rfl, SqL.of t2.2.1, rfl, _, rfl, _, _, rfl, rfl, _, rfl, t, _, 1, 1, rfl, rfl, t2.2.1, rfl, ?_⟩
        refine ⟨_, rfl, t, _, 2, _, rfl, rfl, SqL.of upd_same, rfl, _, rfl, _, _, rfl, rfl, _, rfl, t, _, 2, 2, rfl, rfl, upd_same, rfl, ?_⟩
        refine q _ (fun b o h1 h2 eb => by rw [upd_ne h1, upd_ne h1]; exact s12 _ _ eb) ?_
        rw [tb_const hocc]
        exact ⟨hT.1, upd_same, by rw [upd_ne hT.1.symm, upd_ne hT.1.symm]; exact t2.2.2⟩
    | bin o a b =>
      obtain ⟨x, y1, y2, rfl, hp, ha, hb⟩ := hx
      have n1 : ¬ (V.str o.s = V.str "name") := by cases o <;> decide +kernel
      refine ⟨_, rfl, x, _, _, _, rfl, rfl, hp, rfl, ?_⟩
      refine ⟨_, rfl, rfl, _, rfl, ifF (decide_eq_false n1) (iteF ?_)⟩
      cases hocc : occ N (.bin o a b) with
      | false =>
        refine ⟨_, rfl, _, rfl, _, nl, N, S, _, rfl, hx0, oe, en.nm, fun H1 s1 => ⟨_, rfl, ?_⟩⟩
        rw [hocc]
        refine ifT rfl ?_
        refine ⟨_, rfl, _, rfl, _, rfl, _, dk, _, S, κ, kvs, rfl, hx0.same s1, oe, s1 _ _ en.d, ev_at en.k oe hocc, bκ, fun H2 s2 => ?_⟩
        refine ⟨_, _, rfl, rfl, mulW bc (ev_bd bκ oe) (by omega) (by omega), ?_⟩
        have s12 := s1.trans s2
        have t2 := hT.same s12
        refine ⟨_, rfl, t, _, 1, _, rfl, rfl, SqL.of t2.2.1, rfl, _, rfl, _, _, rfl, rfl, _, rfl, t, _, 1, 1, rfl, rfl, t2.2.1, rfl, ?_⟩
        refine ⟨_, rfl, t, _, 2, _, rfl, rfl, SqL.of upd_same, rfl, _, rfl, _, _, rfl, rfl, _, rfl, t, _, 2, 2, rfl, rfl, upd_same, rfl, ?_⟩
        refine q _ (fun b o h1 h2 eb => by rw [upd_ne h1, upd_ne h1]; exact s12 _ _ eb) ?_
        rw [tb_const hocc]
        exact ⟨hT.1, upd_same, by rw [upd_ne hT.1.symm, upd_ne hT.1.symm]; exact t2.2.2⟩
      | true =>
        refine ⟨_, rfl, _, rfl, _, nl, N, S, _, rfl, hx0, oe, en.nm, fun H1 s1 => ⟨_, rfl, ?_⟩⟩
        rw [hocc]
        refine ifF rfl ?_
        have en := en.same s1
        have hT := hT.same s1
        have hp := Same.tup s1 hp
        have ha := ha.same s1
        have hb := hb.same s1
        have q : ∀ H', Tbk t r H1 H' → TbAt H' t r n (tb N κ n Ps F (.bin o a b) c) → Q .non H' := fun H' k1 t1 => q H' ((Tbk.of s1).trans k1) t1
        clear s1
        cases o with
        | add =>
          refine ⟨_, rfl, rfl, _, rfl, ifT (by decide +kernel) (iteT ?_)⟩
          refine ⟨_, rfl, _, rfl, x, _, _, _, rfl, rfl, hp, rfl, _, rfl, _, rfl, _, rfl, _, rfl, t, r, dk, nl, p, y1, c, ec, F, a, kvs, N, S, κ, n, Ps, rfl, en, hT, nr, ha, oe.1, bc, by omega, fun H2 k2 t2 => ?_⟩
          have kp := k2.keep (K := K) hT
          have en2 := en.tbk k2 hT nr
          refine ⟨_, rfl, _, rfl, x, _, _, _, rfl, rfl, kp _ _ hp, rfl, _, rfl, _, rfl, _, rfl, by show 2 ≤ sizeLine; decide, fun l hl => ?_⟩
          have sl := Same.new hl (.lst [.int c, .int (-c)])
          refine ⟨_, rfl, rfl, .inr ⟨_, rfl, l, _, _, _, rfl, rfl, SqL.of upd_same, (by rw [decide_eq_false (show ¬ (V.str Op.add.s = V.str "-") by decide +kernel)]; rfl), ?_⟩⟩
          refine ⟨_, rfl, _, rfl, _, rfl, t, r, dk, nl, p, y2, c, ec, _, b, kvs, N, S, κ, n, Ps, rfl, en2.same sl, t2.same sl, nr, (hb.keep kp).same sl, oe.2, bc, by omega, fun H3 k3 t3 => ?_⟩
          rw [← tb_add] at t3
          exact q H3 ((k2.trans (Tbk.of sl)).trans k3) t3
        | sub =>
          refine ⟨_, rfl, rfl, _, rfl, ifF (by decide +kernel) ⟨_, rfl, rfl, _, rfl, ifT (by decide +kernel) ?_⟩⟩
          refine ⟨_, rfl, _, rfl, x, _, _, _, rfl, rfl, hp, rfl, _, rfl, _, rfl, _, rfl, _, rfl, t, r, dk, nl, p, y1, c, ec, F, a, kvs, N, S, κ, n, Ps, rfl, en, hT, nr, ha, oe.1, bc, by omega, fun H2 k2 t2 => ?_⟩
          have kp := k2.keep (K := K) hT
          have en2 := en.tbk k2 hT nr
          refine ⟨_, rfl, _, rfl, x, _, _, _, rfl, rfl, kp _ _ hp, rfl, _, rfl, _, rfl, _, rfl, by show 2 ≤ sizeLine; decide, fun l hl => ?_⟩
          have sl := Same.new hl (.lst [.int c, .int (-c)])
          refine ⟨_, rfl, rfl, .inr ⟨_, rfl, l, _, _, _, rfl, rfl, SqL.of upd_same, (by rw [decide_eq_true (show (V.str Op.sub.s = V.str "-") by decide +kernel)]; rfl), ?_⟩⟩
          refine ⟨_, rfl, _, rfl, _, rfl, t, r, dk, nl, p, y2, -c, ec, _, b, kvs, N, S, κ, n, Ps, rfl, en2.same sl, t2.same sl, nr, (hb.keep kp).same sl, oe.2, bc.neg, by omega, fun H3 k3 t3 => ?_⟩
          rw [← tb_sub] at t3
          exact q H3 ((k2.trans (Tbk.of sl)).trans k3) t3
        | mul =>
          refine ⟨_, rfl, rfl, _, rfl, ifF (by decide +kernel) ⟨_, rfl, rfl, _, rfl, ifF (by decide +kernel) ?_⟩⟩
          refine ⟨_, rfl, x, _, _, _, rfl, rfl, hp, rfl, _, rfl, y1, nl, N, S, a, rfl, ha, oe.1.up, en.nm, fun H2 s2 => ⟨_, rfl, ?_⟩⟩
          have en2 := en.same s2
          have hp2 := Same.tup s2 hp
          have ha2 := ha.same s2
          have hb2 := hb.same s2
          have hT2 := hT.same s2
          cases oa : occ N a with
          | false =>
            refine ifT rfl ?_
            refine ⟨_, rfl, _, rfl, x, _, _, _, rfl, rfl, hp2, rfl, _, rfl, _, rfl, x, _, _, _, rfl, rfl, hp2, rfl, _, rfl, y1, dk, a, S, κ, kvs, rfl, ha2, oe.1.up, en2.d, ev_at en.k oe.1 oa, bκ, fun H3 s3 => ?_⟩
            have ba := ev_bd bκ oe.1
            refine ⟨_, _, rfl, rfl, mulW bc ba (by omega) (by omega), _, rfl, _, rfl, _, rfl, t, r, dk, nl, p, y2, c * evE κ a, ec + Eb m, F, b, kvs, N, S, κ, n, Ps, rfl, en2.same s3, hT2.same s3, nr, hb2.same s3, oe.2, bd_mul bc ba, by omega, fun H4 k4 t4 => ?_⟩
            rw [← tb_mulL oa] at t4
            exact q H4 ((Tbk.of (s2.trans s3)).trans k4) t4
          | true =>
            refine ifF rfl ?_
            refine ⟨_, rfl, x, _, _, _, rfl, rfl, hp2, rfl, _, rfl, y2, nl, N, S, b, rfl, hb2, oe.2.up, en2.nm, fun H3 s3 => ⟨_, rfl, ?_⟩⟩
            have s23 := s2.trans s3
            have en3 := en.same s23
            have hp3 := Same.tup s23 hp
            have ha3 := ha.same s23
            have hb3 := hb.same s23
            have hT3 := hT.same s23
            cases ob : occ N b with
            | false =>
              refine ifT rfl ?_
              refine ⟨_, rfl, _, rfl, x, _, _, _, rfl, rfl, hp3, rfl, _, rfl, _, rfl, x, _, _, _, rfl, rfl, hp3, rfl, _, rfl, y2, dk, b, S, κ, kvs, rfl, hb3, oe.2.up, en3.d, ev_at en.k oe.2 ob, bκ, fun H4 s4 => ?_⟩
              have bb := ev_bd bκ oe.2
              refine ⟨_, _, rfl, rfl, mulW bc bb (by omega) (by omega), _, rfl, _, rfl, _, rfl, t, r, dk, nl, p, y1, c * evE κ b, ec + Eb m, F, a, kvs, N, S, κ, n, Ps, rfl, en3.same s4, hT3.same s4, nr, ha3.same s4, oe.1, bd_mul bc bb, by omega, fun H5 k5 t5 => ?_⟩
              rw [← tb_mulR oa ob] at t5
              exact q H5 ((Tbk.of (s23.trans s4)).trans k5) t5
            | true =>
              refine ifF rfl ?_
              refine ⟨_, rfl, _, rfl, _, rfl, _, rfl, dk, nl, p, _, a, b, kvs, N, S, κ, n, Ps, rfl, en3, ⟨x, y1, y2, rfl, hp3, ha3, hb3⟩, oe.1, oe.2, fun l H4 a1 b1 a2 b2 s4 e1 e2 e3 e4 hl => ?_⟩
              have hκ : Kok S N κ := fun z _ _ => en.b z
              have w1 := low_bd en.ne en.pb (by omega) (fm_bd (n := n) en.ne en.pb (by omega) hκ oe.1)
              have w2 := low_bd en.ne en.pb (by omega) (fm_bd (n := n) en.ne en.pb (by omega) hκ oe.2)
              rw [← e1, ← e2] at w1
              rw [← e3, ← e4] at w2
              have s24 := s23.trans s4
              have hT4 := hT.same s24
              refine ⟨_, rfl, l, rfl, ⟨_, SqL.of hl⟩, fun D hD => ?_⟩
              refine lc_it (walk_list (xs := [V.int (a1 * a2), .int (a1 * b2), .int (b1 * a2), .int (b1 * b2)])) (LcP (Same H4) (RInt [c * (a1 * a2), c * (a1 * b2), c * (b1 * a2), c * (b1 * b2)]) D) (lcp_start hD) (fun i G _ P => SqL.of (P.1 _ _ hl)) ?_ ?_
              · rintro j y G G' hj P ⟨rfl, ey⟩
                obtain ⟨u, rfl, bu, eu⟩ : ∃ u : Int, y = .int u ∧ Bd (Eb m + 47 + (Eb m + 47)) u ∧ [c * (a1 * a2), c * (a1 * b2), c * (b1 * a2), c * (b1 * b2)][j]? = some (c * u) := by
                  match j, ey with
                  | 0, ey => cases ey; exact ⟨_, rfl, bd_mul w1.1 w2.1, rfl⟩
                  | 1, ey => cases ey; exact ⟨_, rfl, bd_mul w1.1 w2.2, rfl⟩
                  | 2, ey => cases ey; exact ⟨_, rfl, bd_mul w1.2 w2.1, rfl⟩
                  | 3, ey => cases ey; exact ⟨_, rfl, bd_mul w1.2 w2.2, rfl⟩
                  | j + 4, ey => simp at ey
                have hj4 : j < 4 := hj
                refine ⟨rfl, tyes ?_⟩
                refine ⟨_, rfl, _, rfl, _, _, rfl, rfl, mulW bc bu (by omega) (by omega), ?_⟩
                exact lcp_same P hD (Same.refl _) (lt_line (by omega)) RInt.mono ⟨_, eu, rfl⟩
              · intro G P
                have ei := lcp_ints (K := K) P rfl
                have tG := hT4.same P.1
                have nDt : D ≠ t := fun z => by rw [z, hT4.2.1] at hD; cases hD
                refine ⟨_, rfl, t, _, 1, _, rfl, rfl, SqL.of tG.2.1, rfl, _, rfl, D, _, rfl, SqL.of ei, by show 0 < 4; decide, fun m1 hm1 hx1 => ?_⟩
                refine ⟨_, _, rfl, rfl, _, rfl, t, _, 1, 1, rfl, rfl, tG.2.1, rfl, ?_⟩
                refine ⟨_, rfl, t, _, 2, _, rfl, rfl, SqL.of upd_same, rfl, _, rfl, D, _, rfl, SqL.of ((upd_ne nDt).trans ei), by show 0 < 4; decide, fun m2 hm2 hx2 => ?_⟩
                refine ⟨_, _, rfl, rfl, _, rfl, t, _, 2, 2, rfl, rfl, upd_same, rfl, ?_⟩
                have f1 := (mn4 hm1 hx1).symm
                have f2 := (mx4 hm2 hx2).symm
                refine q _ (fun b o h1 h2 eb => by rw [upd_ne h1, upd_ne h1]; exact P.1 _ _ (s24 _ _ eb)) ?_
                rw [tb_prod oa ob e1 e2 e3 e4, f1, f2]
                exact ⟨tG.1, upd_same, by rw [upd_ne tG.1.symm, upd_ne tG.1.symm]; exact tG.2.2⟩
end
/-! ### law k23: the values in a point, the dict that stays -/
def spVat23 (K : PySem.W.Frag) : Sp := fun vs H Q _ => ∃ (dk nl a : Addr) (kvs : List (Key × V)) (N : List Str) (r : List Int), vs = [.ref dk, .ref nl, .ref a] ∧ H dk = some (.dK kvs) ∧ kvs.length ≤ 10 ∧ H nl = some (.lst (N.map V.str)) ∧ SqT K H a (r.map V.int) ∧ N.Nodup ∧ N.length ≤ r.length ∧ N.length ≤ 20 ∧
  ∀ d H' kvs', Same H H' → H d = none → H' d = some (.dK kvs') → (∀ z ∈ N, valV kvs' (Sum.inr z) = some (.int (r.getD (N.idxOf z) 0))) → (∀ z, z ∉ N → valV kvs' (Sum.inr z) = valV kvs (Sum.inr z)) → Q (.ref d) H'
def spKept23 : Sp := fun vs H Q _ => ∃ (hd dk : Addr) (kvs : List (Key × V)), vs = [.ref hd, .ref dk] ∧ H hd = some (.dK kvs) ∧ H dk = some (.dK kvs) ∧ hd ≠ dk ∧ kvs.length ≤ 10 ∧ (∀ k v, valV kvs k = some v → (∃ z, k = Sum.inr z) ∧ (v = .non ∨ (∃ b, v = .bl b) ∨ ∃ i, v = .int i)) ∧ Q (.bl true) H
section
variable {P : Program} {w : World} {K : PySem.W.Frag} {mg : Str → Option Value} {base : Heap}
theorem ok_l_values_at (T : Txt w K mg) : FnOk P w K mg base CX0 1 T.a_l_values_at T.d_l_values_at p_l_values_at (spVat23 K) := by
  refine T.F_l_values_at.ok sc_l_values_at (fun vs H Q E h => ?_) (fun cdv A outer s H vs Q E hr h => ?_)
  · obtain ⟨dk, nl, a, kvs, N, r, rfl, _⟩ := h
    rfl
  obtain ⟨dk, nl, a, kvs, N, r, rfl, hd, lk, hN, ha, nd, lr, lN, q⟩ := h
  refine ⟨_, (pss_cons (ps_set (i := 3) sc_l_values_at.nd rfl (Or.inl rfl) (pe_callTy call_dictD rfl T.z_dict bt_dict (pa_cons (pv 0) pa_nil)))
      (pss_cons (ps_for PassesOwn.never rfl (pi_range1 rfl T.z_range (pa_cons (pe_callB call_len_seq rfl T.z_len PySem.boot_len (pa_cons (pv 1) pa_nil)) pa_nil)) (pg_name (i := 4) sc_l_values_at.nd rfl (Or.inl rfl))
        (pss_one (ps_dput (hu_of hr) (pv 3) (pe_ix ix_list (pv 1) (pv 4) (fun _ _ => rfl)) (pe_ix ix_tup (pv 2) (pv 4) (fun _ _ => rfl)) rfl)))
      (pss_one (ps_ret (pv 3))))), ?_⟩
  refine ⟨_, rfl, dk, kvs, rfl, .inl hd, fun d hdn => ?_⟩
  have sd := Same.new hdn (.dK kvs)
  refine ⟨_, rfl, nl, _, rfl, .inl (SqL.of (sd _ _ hN)), _, rfl, by omega, by rw [List.length_map]; omega, for_range (lo := 0) (fun i σ G => Same H G ∧ ∃ kvs', G d = some (.dK kvs') ∧ kvs'.length ≤ 10 + i ∧ (∀ z, valV kvs' (Sum.inr z) = if z ∈ N.take i then some (.int (r.getD (N.idxOf z) 0)) else valV kvs (Sum.inr z)) ∧ ∃ x4 : Option V, σ = [some (.ref dk), some (.ref nl), some (.ref a), some (.ref d), x4])
    ⟨sd, kvs, upd_same, by omega, fun z => by rw [List.take_zero]; rfl, none, rfl⟩ ?_ ?_⟩
  · rintro i σ G hi ⟨sG, kvs', hk, lk', hv, x4, rfl⟩
    rw [List.length_map] at hi
    have hi2 : i < N.length := by omega
    have hir : i < r.length := by omega
    refine ⟨_, rfl, _, rfl, a, _, _, _, rfl, rfl, Same.tup sG ha, (by rw [Int.zero_add]; exact atI_nat (map_get (List.getElem?_eq_getElem hir))), ?_⟩
    refine ⟨_, rfl, _, rfl, _, rfl, nl, _, _, _, rfl, rfl, SqL.of (sG _ _ hN), (by rw [Int.zero_add]; exact atI_nat (map_get (List.getElem?_eq_getElem hi2))), d, _, rfl, DPut.k (k := Sum.inr N[i]) hk (small1000 (by omega)), ?_⟩
    refine ⟨fun b o e => by rw [upd_ne (ne_of_none e hdn)]; exact sG _ _ e, _, upd_same, ?_, fun z => ?_, _, rfl⟩
    · have := putK_lenle (kvs := kvs') (k := Sum.inr N[i]) (y := V.int r[i])
      omega
    · have tk : N.take (i + 1) = N.take i ++ [N[i]] := by
        rw [List.take_add_one, List.getElem?_eq_getElem hi2]
        rfl
      rw [valV_put, hv, tk]
      by_cases e : z = N[i]
      · subst e
        rw [if_pos rfl, if_pos (List.mem_append_right _ (List.mem_singleton.mpr rfl)), nd.idxOf_getElem i hi2, List.getD_eq_getElem?_getD, List.getElem?_eq_getElem hir]
        rfl
      · rw [if_neg (fun y => e (Sum.inr.inj y))]
        by_cases h : z ∈ N.take i
        · rw [if_pos h, if_pos (List.mem_append_left _ h)]
        · rw [if_neg h, if_neg (fun y => (List.mem_append.mp y).elim h fun y => e (List.mem_singleton.mp y))]
  · rintro σ G ⟨sG, kvs', hk, lk', hv, x4, rfl⟩
    rw [List.length_map] at hv
    refine ⟨_, rfl, q d G kvs' sG hdn hk (fun z hz => ?_) fun z hz => ?_⟩
    · rw [hv, List.take_of_length_le (by omega), if_pos hz]
    · rw [hv, List.take_of_length_le (by omega), if_neg hz]
theorem ok_l_kept (T : Txt w K mg) : FnOk P w K mg base CX0 2 T.a_l_kept T.d_l_kept p_l_kept spKept23 := by
  have g_l_same := ok_l_same (P := P) (w := w) (K := K) (base := base) T 1
  refine T.F_l_kept.ok sc_l_kept (fun vs H Q E h => ?_) (fun cdv A outer s H vs Q E hr h => ?_)
  · obtain ⟨hd, dk, kvs, rfl, _⟩ := h
    rfl
  obtain ⟨hd, dk, kvs, rfl, h1, h2, ne, lk, hf, q⟩ := h
  refine ⟨_, (pss_cons (ps_if (pt_cmpR op_ne (pe_callB call_lenD rfl T.z_len PySem.boot_len (pa_cons (pv 0) pa_nil)) (pe_callB call_lenD rfl T.z_len PySem.boot_len (pa_cons (pv 1) pa_nil)) (nomark _)) (pss_one (ps_ret pe_bl)) pss_nil)
      (pss_cons (ps_lock (ps_for PassesOwn.never rfl (pi_keys (pv 1)) (pg_name (i := 2) sc_l_kept.nd rfl (Or.inl rfl))
        (pss_one (ps_if (PW.pt (pw_or (pt_cmp (pc_dnotin (hu_of hr) (pv 2) (pv 0))) (pw_or1 (pt_not (pt_val (pe_call g_l_same (hr.mono (by first | decide | omega)) rfl T.m_l_same T.F_l_same.kp T.b_l_same .nil pass0 (pa_cons (pe_dget (hu_of hr) (pv 0) (pv 2) (fun _ _ => rfl)) (pa_cons (pe_dget (hu_of hr) (pv 1) (pv 2) (fun _ _ => rfl)) pa_nil)))))))) (pss_one (ps_ret pe_bl)) pss_nil))))
      (pss_one (ps_ret pe_bl)))), ?_⟩
  refine ⟨_, rfl, hd, kvs, rfl, h1, _, rfl, dk, kvs, rfl, h2, rfl, _, rfl, ifF (by rw [decide_eq_true rfl]; rfl) ?_⟩
  refine ⟨dk, _, h2, trivial, fun od => ⟨_, rfl, dk, od, rfl, .inl ⟨kvs, upd_same, for_it (walk_keys (d := dk) (o := od) (kvs := kvs)) (fun i σ G => G = upd H dk (.frz od (.dK kvs)) ∧ ∃ x2 : Option V, σ = [some (.ref hd), some (.ref dk), x2]) ⟨rfl, none, rfl⟩ (fun i σ G _ ⟨e, _⟩ => by rw [e]; exact upd_same) ?_ ?_⟩⟩⟩
  · rintro i x σ G G' hi ⟨rfl, x2, rfl⟩ ⟨rfl, k, v, hk, rfl⟩
    obtain ⟨v', ev⟩ : ∃ v', valV kvs k = some v' := by
      have : (valV kvs k).isSome = true := by
        rw [← valV_any]
        exact List.any_eq_true.mpr ⟨_, List.mem_of_getElem? hk, decide_eq_true rfl⟩
      exact Option.isSome_iff_exists.mp this
    obtain ⟨⟨z, rfl⟩, fl⟩ := hf k v' ev
    have hd1 : (upd H dk (.frz od (.dK kvs))) hd = some (.dK kvs) := by rw [upd_ne ne]; exact h1
    refine ⟨_, rfl, _, rfl, hd, _, rfl, DGet.at (k := Sum.inr z) hd1 ev, ⟨_, rfl, iteF ?_⟩⟩
    refine ⟨_, rfl, _, rfl, hd, v', rfl, DGet.at (k := Sum.inr z) hd1 ev, _, rfl, _, rfl, dk, v', rfl, .inl ⟨kvs, Sum.inr z, .inr ⟨od, upd_same⟩, rfl, ev.symm⟩, ?_⟩
    obtain ⟨dd, g1, g2⟩ : ∃ dd, Dp K (upd H dk (.frz od (.dK kvs))) v' dd ∧ Dok 1 dd := by
      rcases fl with rfl | ⟨b, rfl⟩ | ⟨b, rfl⟩
      · exact ⟨_, .non, trivial⟩
      · exact ⟨_, .bl _, trivial⟩
      · exact ⟨_, .int _, trivial⟩
    exact ⟨v', v', dd, rfl, g1, g1, g2, ⟨_, rfl, ifF rfl ⟨rfl, _, rfl⟩⟩⟩
  · rintro σ G ⟨rfl, x2, rfl⟩
    refine ⟨upd_same, ?_⟩
    rw [upd_upd, show upd H dk (.dK kvs) = H from by
      funext b
      by_cases e : b = dk
      · rw [e, upd_same, h2]
      · rw [upd_ne e]]
    exact q
end
/-! ### law k23: a form stands for its expression, in the points of the box; fewer points give no wider a form -/
structure Zp (n : Nat) (Ps : List (List Int)) (x : List Int) : Prop where
  lo : ∀ k < n, ∃ p ∈ Ps, p.getD k 0 ≤ x.getD k 0
  hi : ∀ k < n, ∃ p ∈ Ps, x.getD k 0 ≤ p.getD k 0
  df : ∀ i < n, ∀ j < n, ∃ p ∈ Ps, x.getD i 0 - x.getD j 0 ≤ p.getD i 0 - p.getD j 0
theorem Zp.pt {n : Nat} {Ps : List (List Int)} {x : List Int} (h : x ∈ Ps) : Zp n Ps x := ⟨fun _ _ => ⟨x, h, Int.le_refl _⟩, fun _ _ => ⟨x, h, Int.le_refl _⟩, fun _ _ _ _ => ⟨x, h, Int.le_refl _⟩⟩
theorem Zp.least {n : Nat} {Ps : List (List Int)} {x : List Int} (h : ∀ k < n, (∃ p ∈ Ps, x.getD k 0 = p.getD k 0) ∧ ∀ p ∈ Ps, x.getD k 0 ≤ p.getD k 0) : Zp n Ps x := by
  refine ⟨fun k hk => ?_, fun k hk => ?_, fun i hi j hj => ?_⟩
  · obtain ⟨⟨p, hp, e⟩, _⟩ := h k hk
    exact ⟨p, hp, by omega⟩
  · obtain ⟨⟨p, hp, e⟩, _⟩ := h k hk
    exact ⟨p, hp, by omega⟩
  · obtain ⟨⟨p, hp, e⟩, _⟩ := h j hj
    have := (h i hi).2 p hp
    exact ⟨p, hp, by omega⟩
theorem Zp.greatest {n : Nat} {Ps : List (List Int)} {x : List Int} (h : ∀ k < n, (∃ p ∈ Ps, x.getD k 0 = p.getD k 0) ∧ ∀ p ∈ Ps, p.getD k 0 ≤ x.getD k 0) : Zp n Ps x := by
  refine ⟨fun k hk => ?_, fun k hk => ?_, fun i hi j hj => ?_⟩
  · obtain ⟨⟨p, hp, e⟩, _⟩ := h k hk
    exact ⟨p, hp, by omega⟩
  · obtain ⟨⟨p, hp, e⟩, _⟩ := h k hk
    exact ⟨p, hp, by omega⟩
  · obtain ⟨⟨p, hp, e⟩, _⟩ := h i hi
    have := (h j hj).2 p hp
    exact ⟨p, hp, by omega⟩
theorem betw {c l h x : Int} (h1 : l ≤ x) (h2 : x ≤ h) : min (c * l) (c * h) ≤ c * x ∧ c * x ≤ max (c * l) (c * h) := by
  by_cases c0 : 0 ≤ c
  · have := Int.mul_le_mul_of_nonneg_left h1 c0
    have := Int.mul_le_mul_of_nonneg_left h2 c0
    omega
  · have := Int.mul_le_mul_of_nonpos_left (show c ≤ 0 by omega) h1
    have := Int.mul_le_mul_of_nonpos_left (show c ≤ 0 by omega) h2
    omega
theorem min4_mem (a b c d : Int) : min4 a b c d = a ∨ min4 a b c d = b ∨ min4 a b c d = c ∨ min4 a b c d = d := by
  unfold min4
  omega
theorem max4_mem (a b c d : Int) : max4 a b c d = a ∨ max4 a b c d = b ∨ max4 a b c d = c ∨ max4 a b c d = d := by
  unfold max4
  omega
theorem min4_le (a b c d : Int) : min4 a b c d ≤ min a b ∧ min4 a b c d ≤ min c d := by
  unfold min4
  omega
theorem max4_ge (a b c d : Int) : max a b ≤ max4 a b c d ∧ max c d ≤ max4 a b c d := by
  unfold max4
  omega
theorem min2_le {a b x y z : Int} (h : min a b ≤ z) (h1 : x ≤ a) (h2 : x ≤ b) : x ≤ z := by omega
theorem max2_ge {a b x z : Int} (h : z ≤ max a b) (h1 : a ≤ x) (h2 : b ≤ x) : z ≤ x := by omega
theorem prod_in {a1 b1 a2 b2 x y : Int} (h1 : a1 ≤ x) (h2 : x ≤ b1) (h3 : a2 ≤ y) (h4 : y ≤ b2) : min4 (a1 * a2) (a1 * b2) (b1 * a2) (b1 * b2) ≤ x * y ∧ x * y ≤ max4 (a1 * a2) (a1 * b2) (b1 * a2) (b1 * b2) := by
  have e1 := betw (c := y) h1 h2
  have e2 := betw (c := a1) h3 h4
  have e3 := betw (c := b1) h3 h4
  rw [Int.mul_comm y a1, Int.mul_comm y b1, Int.mul_comm y x] at e1
  have m := min4_le (a1 * a2) (a1 * b2) (b1 * a2) (b1 * b2)
  have k := max4_ge (a1 * a2) (a1 * b2) (b1 * a2) (b1 * b2)
  exact ⟨min2_le (y := 0) e1.1 (Int.le_trans m.1 e2.1) (Int.le_trans m.2 e3.1), max2_ge e1.2 (Int.le_trans e2.2 k.1) (Int.le_trans e3.2 k.2)⟩
theorem corner_mono {a1 b1 a2 b2 c1 d1 c2 d2 : Int} (h1 : a1 ≤ c1) (h2 : c1 ≤ d1) (h3 : d1 ≤ b1) (h4 : a2 ≤ c2) (h5 : c2 ≤ d2) (h6 : d2 ≤ b2) :
    min4 (a1 * a2) (a1 * b2) (b1 * a2) (b1 * b2) ≤ min4 (c1 * c2) (c1 * d2) (d1 * c2) (d1 * d2) ∧ max4 (c1 * c2) (c1 * d2) (d1 * c2) (d1 * d2) ≤ max4 (a1 * a2) (a1 * b2) (b1 * a2) (b1 * b2) := by
  have p1 := prod_in h1 (Int.le_trans h2 h3) h4 (Int.le_trans h5 h6)
  have p2 := prod_in h1 (Int.le_trans h2 h3) (Int.le_trans h4 h5) h6
  have p3 := prod_in (Int.le_trans h1 h2) h3 h4 (Int.le_trans h5 h6)
  have p4 := prod_in (Int.le_trans h1 h2) h3 (Int.le_trans h4 h5) h6
  constructor
  · rcases min4_mem (c1 * c2) (c1 * d2) (d1 * c2) (d1 * d2) with e | e | e | e
    · rw [e]; exact p1.1
    · rw [e]; exact p2.1
    · rw [e]; exact p3.1
    · rw [e]; exact p4.1
  · rcases max4_mem (c1 * c2) (c1 * d2) (d1 * c2) (d1 * d2) with e | e | e | e
    · rw [e]; exact p1.2
    · rw [e]; exact p2.2
    · rw [e]; exact p3.2
    · rw [e]; exact p4.2
theorem low_zp {cs x : List Int} {flo fhi : Int} {Ps : List (List Int)} (z : Zp cs.length Ps x) : lowF cs flo Ps ≤ val cs x + flo ∧ val cs x + fhi ≤ highF cs fhi Ps := by
  unfold lowF highF
  by_cases d : IsD cs
  · rw [if_pos d, if_pos d]
    obtain ⟨i, j, dij⟩ : ∃ i j, DiffAt cs i j := by
      obtain ⟨a, b, e, la, lb, _, alt⟩ := isD_used d
      rcases alt with ⟨h1, h2⟩ | ⟨h1, h2⟩
      · exact ⟨_, _, (diffAt_of e la lb h1 h2).1⟩
      · exact ⟨_, _, diffAt_of' e la lb h1 h2⟩
    obtain ⟨i1, i2, j1, j2, hv⟩ := dij
    obtain ⟨p, hp, e1⟩ := z.df (j - 1) (by omega) (i - 1) (by omega)
    obtain ⟨r, hr, e2⟩ := z.df (i - 1) (by omega) (j - 1) (by omega)
    have m1 := (minV_le (cs := cs) hp).1
    have m2 := (maxV_ge (cs := cs) hr).1
    rw [hv] at m1 m2
    rw [hv x]
    omega
  · rw [if_neg d, if_neg d]
    unfold spanLo spanHi
    rw [val_used]
    have s1 := sum_le (f := fun k => tmin (hullM cs.length Ps) (cs.getD k 0) k) (g := fun k => cs.getD k 0 * x.getD k 0) (usedZ cs) fun k hk => by
      have lk := (mem_usedZ.mp hk).1
      obtain ⟨p, hp, e1⟩ := z.lo k lk
      obtain ⟨r, hr, e2⟩ := z.hi k lk
      have t1 := (tmin_le (c := cs.getD k 0) hp lk).1
      have t2 := (tmin_le (c := cs.getD k 0) hr lk).1
      have := (betw (c := cs.getD k 0) e1 e2).1
      show tmin _ _ _ ≤ _ * _
      omega
    have s2 := sum_le (f := fun k => cs.getD k 0 * x.getD k 0) (g := fun k => tmax (hullM cs.length Ps) (cs.getD k 0) k) (usedZ cs) fun k hk => by
      have lk := (mem_usedZ.mp hk).1
      obtain ⟨p, hp, e1⟩ := z.lo k lk
      obtain ⟨r, hr, e2⟩ := z.hi k lk
      have t1 := (tmax_ge (c := cs.getD k 0) hp lk).1
      have t2 := (tmax_ge (c := cs.getD k 0) hr lk).1
      have := (betw (c := cs.getD k 0) e1 e2).2
      show _ * _ ≤ tmax _ _ _
      omega
    omega
/-! sums of coefficients with values -/
def vsum (n : Nat) (f : Nat → Int) (x : List Int) : Int := ((List.range n).map fun k => f k * x.getD k 0).sum
theorem vsum_succ {n : Nat} {f : Nat → Int} {x : List Int} : vsum (n + 1) f x = vsum n f x + f n * x.getD n 0 := by
  unfold vsum
  rw [List.range_succ, List.map_append, List.sum_append]
  simp
theorem val_mkR {n : Nat} {f : Nat → Int} {x : List Int} : val (mkR n f) x = vsum n f x := by
  unfold val vsum
  rw [mkR_len]
  congr 1
  refine List.map_congr_left fun k hk => ?_
  rw [mkR_getD (List.mem_range.mp hk)]
theorem vsum_zero {x : List Int} : ∀ n : Nat, vsum n (fun _ => 0) x = 0
  | 0 => rfl
  | n + 1 => by rw [vsum_succ, vsum_zero n]; omega
theorem vsum_add {f g : Nat → Int} {x : List Int} : ∀ n : Nat, vsum n (fun k => f k + g k) x = vsum n f x + vsum n g x
  | 0 => rfl
  | n + 1 => by
    rw [vsum_succ, vsum_succ, vsum_succ, vsum_add n, Int.add_mul]
    omega
theorem vsum_mul {v : Int} {f : Nat → Int} {x : List Int} : ∀ n : Nat, vsum n (fun k => v * f k) x = v * vsum n f x
  | 0 => (Int.mul_zero _).symm
  | n + 1 => by rw [vsum_succ, vsum_succ, vsum_mul n, Int.mul_add, Int.mul_assoc]
theorem vsum_col {i : Nat} {x : List Int} : ∀ n : Nat, vsum n (Fm.col i).c x = if i < n then x.getD i 0 else 0
  | 0 => by rw [if_neg (Nat.not_lt_zero _)]; rfl
  | n + 1 => by
    rw [vsum_succ, vsum_col n]
    show _ + (if n = i then 1 else 0) * _ = _
    by_cases e : n = i
    · subst e
      rw [if_neg (Nat.lt_irrefl _), if_pos rfl, if_pos (Nat.lt_succ_self _)]
      omega
    · rw [if_neg e]
      by_cases h : i < n
      · rw [if_pos h, if_pos (by omega)]
        omega
      · rw [if_neg h, if_neg (by omega)]
        omega
def rho (N : List Str) (κ : Str → Int) (x : List Int) : Str → Int := fun z => if z ∈ N then x.getD (N.idxOf z) 0 else κ z
theorem ev_occ {N : List Str} {κ : Str → Int} {x : List Int} : ∀ e : Ef, occ N e = false → evE (rho N κ x) e = evE κ e
  | .num _, _ => rfl
  | .var z, h => if_neg (of_decide_eq_false h)
  | .bin o a b, h => by
    have h := Bool.or_eq_false_iff.mp h
    show o.ap _ _ = o.ap _ _
    rw [ev_occ a h.1, ev_occ b h.2]
theorem fm_sound {N : List Str} {κ : Str → Int} {n : Nat} {Ps : List (List Int)} {x : List Int} (z : Zp n Ps x) (ln : N.length ≤ n) : ∀ e : Ef, (fm N κ n Ps e).lo + vsum n (fm N κ n Ps e).c x ≤ evE (rho N κ x) e ∧ evE (rho N κ x) e ≤ vsum n (fm N κ n Ps e).c x + (fm N κ n Ps e).hi
  | .num i => by
    have := vsum_zero (x := x) n
    show i + vsum n (fun _ => 0) x ≤ i ∧ i ≤ vsum n (fun _ => 0) x + i
    omega
  | .var y => by
    by_cases h : y ∈ N
    · have e1 : fm N κ n Ps (.var y) = .col (N.idxOf y) := by
        unfold fm
        rw [if_pos h]
      have e2 : evE (rho N κ x) (.var y) = x.getD (N.idxOf y) 0 := if_pos h
      have li := List.idxOf_lt_length_iff.mpr h
      have e3 := vsum_col (i := N.idxOf y) (x := x) n
      rw [if_pos (by omega)] at e3
      rw [e1, e2]
      show 0 + vsum n (Fm.col _).c x ≤ _ ∧ _ ≤ vsum n (Fm.col _).c x + 0
      omega
    · have e1 : fm N κ n Ps (.var y) = .con (κ y) := by
        unfold fm
        rw [if_neg h]
      have e2 : evE (rho N κ x) (.var y) = κ y := if_neg h
      have := vsum_zero (x := x) n
      rw [e1, e2]
      show κ y + vsum n (fun _ => 0) x ≤ κ y ∧ κ y ≤ vsum n (fun _ => 0) x + κ y
      omega
  | .bin .add a b => by
    have h1 := fm_sound z ln (κ := κ) a
    have h2 := fm_sound z ln (κ := κ) b
    have e := vsum_add (f := (fm N κ n Ps a).c) (g := (fm N κ n Ps b).c) (x := x) n
    show _ + _ + vsum n (fun k => (fm N κ n Ps a).c k + (fm N κ n Ps b).c k) x ≤ evE _ a + evE _ b ∧ evE _ a + evE _ b ≤ vsum n (fun k => (fm N κ n Ps a).c k + (fm N κ n Ps b).c k) x + (_ + _)
    omega
  | .bin .sub a b => by
    have h1 := fm_sound z ln (κ := κ) a
    have h2 := fm_sound z ln (κ := κ) b
    have e := vsum_add (f := (fm N κ n Ps a).c) (g := fun k => -1 * (fm N κ n Ps b).c k) (x := x) n
    have e2 := vsum_mul (v := -1) (f := (fm N κ n Ps b).c) (x := x) n
    show _ + min _ _ + vsum n (fun k => (fm N κ n Ps a).c k + -1 * (fm N κ n Ps b).c k) x ≤ evE _ a - evE _ b ∧ evE _ a - evE _ b ≤ vsum n (fun k => (fm N κ n Ps a).c k + -1 * (fm N κ n Ps b).c k) x + (_ + max _ _)
    omega
  | .bin .mul a b => by
    have h1 := fm_sound z ln (κ := κ) a
    have h2 := fm_sound z ln (κ := κ) b
    have tm : ∀ (A : Fm) (v y : Int), A.lo + vsum n A.c x ≤ y → y ≤ vsum n A.c x + A.hi → (A.times v).lo + vsum n (A.times v).c x ≤ v * y ∧ v * y ≤ vsum n (A.times v).c x + (A.times v).hi := fun A v y g1 g2 => by
      have e := vsum_mul (v := v) (f := A.c) (x := x) n
      have g := betw (c := v) (x := y - vsum n A.c x) (show A.lo ≤ _ by omega) (show _ ≤ A.hi by omega)
      rw [Int.mul_sub] at g
      show min (v * A.lo) (v * A.hi) + vsum n (fun k => v * A.c k) x ≤ _ ∧ _ ≤ vsum n (fun k => v * A.c k) x + max (v * A.lo) (v * A.hi)
      omega
    cases oa : occ N a with
    | false =>
      have e : fm N κ n Ps (.bin .mul a b) = (fm N κ n Ps b).times (evE κ a) := by
        rw [fm, if_pos oa, fm_const a oa]
        rfl
      have e2 : evE (rho N κ x) (.bin .mul a b) = evE κ a * evE (rho N κ x) b := by
        show evE _ a * _ = _
        rw [ev_occ a oa]
      rw [e, e2]
      exact tm _ _ _ h2.1 h2.2
    | true =>
      cases ob : occ N b with
      | false =>
        have e : fm N κ n Ps (.bin .mul a b) = (fm N κ n Ps a).times (evE κ b) := by
          rw [fm, if_neg (by rw [oa]; decide), if_pos ob, fm_const b ob]
          rfl
        have e2 : evE (rho N κ x) (.bin .mul a b) = evE κ b * evE (rho N κ x) a := by
          show _ * evE _ b = _
          rw [ev_occ b ob, Int.mul_comm]
        rw [e, e2]
        exact tm _ _ _ h1.1 h1.2
      | true =>
        have e : fm N κ n Ps (.bin .mul a b) = .prod ((fm N κ n Ps a).low n Ps) ((fm N κ n Ps a).high n Ps) ((fm N κ n Ps b).low n Ps) ((fm N κ n Ps b).high n Ps) := by
          rw [fm, if_neg (by rw [oa]; decide), if_neg (by rw [ob]; decide)]
        have za := low_zp (cs := mkR n (fm N κ n Ps a).c) (flo := (fm N κ n Ps a).lo) (fhi := (fm N κ n Ps a).hi) (Ps := Ps) (x := x) (by rw [mkR_len]; exact z)
        have zb := low_zp (cs := mkR n (fm N κ n Ps b).c) (flo := (fm N κ n Ps b).lo) (fhi := (fm N κ n Ps b).hi) (Ps := Ps) (x := x) (by rw [mkR_len]; exact z)
        rw [val_mkR] at za zb
        have g := prod_in (a1 := (fm N κ n Ps a).low n Ps) (b1 := (fm N κ n Ps a).high n Ps) (a2 := (fm N κ n Ps b).low n Ps) (b2 := (fm N κ n Ps b).high n Ps) (x := evE (rho N κ x) a) (y := evE (rho N κ x) b)
          (by unfold Fm.low; omega) (by unfold Fm.high; omega) (by unfold Fm.low; omega) (by unfold Fm.high; omega)
        have v0 := vsum_zero (x := x) n
        rw [e]
        show min4 _ _ _ _ + vsum n (fun _ => 0) x ≤ _ * _ ∧ _ * _ ≤ vsum n (fun _ => 0) x + max4 _ _ _ _
        omega
theorem times_mono (A B : Fm) (v : Int) (k1 : B.c = A.c) (k2 : A.lo ≤ B.lo) (k3 : B.hi ≤ A.hi) (k4 : B.lo ≤ B.hi) : (B.times v).c = (A.times v).c ∧ (A.times v).lo ≤ (B.times v).lo ∧ (B.times v).hi ≤ (A.times v).hi := by
  have g1 := betw (c := v) (x := B.lo) k2 (Int.le_trans k4 k3)
  have g2 := betw (c := v) (x := B.hi) (Int.le_trans k2 k4) k3
  refine ⟨?_, ?_, ?_⟩
  · show (fun k => v * B.c k) = fun k => v * A.c k
    rw [k1]
  · show min (v * A.lo) (v * A.hi) ≤ min (v * B.lo) (v * B.hi)
    exact Int.le_min.mpr ⟨g1.1, g2.1⟩
  · show max (v * B.lo) (v * B.hi) ≤ max (v * A.lo) (v * A.hi)
    exact Int.max_le.mpr ⟨g1.2, g2.2⟩
theorem add_mono (A B C D : Fm) (k1 : B.c = A.c) (k2 : D.c = C.c) (l1 : A.lo ≤ B.lo) (l2 : C.lo ≤ D.lo) (h1 : B.hi ≤ A.hi) (h2 : D.hi ≤ C.hi) : (B.add D).c = (A.add C).c ∧ (A.add C).lo ≤ (B.add D).lo ∧ (B.add D).hi ≤ (A.add C).hi := by
  refine ⟨?_, Int.add_le_add l1 l2, Int.add_le_add h1 h2⟩
  show (fun k => B.c k + D.c k) = fun k => A.c k + C.c k
  rw [k1, k2]
theorem low_fm {n : Nat} {Ps Qs : List (List Int)} {q : List Int} (hq : q ∈ Qs) (sub : ∀ r ∈ Qs, r ∈ Ps) (A B : Fm) (k1 : B.c = A.c) (k2 : A.lo ≤ B.lo) (k3 : B.hi ≤ A.hi) (k4 : B.lo ≤ B.hi) : A.low n Ps ≤ B.low n Qs ∧ B.low n Qs ≤ B.high n Qs ∧ B.high n Qs ≤ A.high n Ps := by
  have low_shift : ∀ {cs : List Int} {u v : Int} {Ps : List (List Int)}, u ≤ v → lowF cs u Ps ≤ lowF cs v Ps ∧ highF cs u Ps ≤ highF cs v Ps := fun {cs u v Ps} h => by
    unfold lowF highF spanLo spanHi
    split <;> omega
  refine ⟨?_, ?_, ?_⟩
  · unfold Fm.low
    rw [k1]
    exact Int.le_trans (low_mono hq sub) (low_shift k2).1
  · unfold Fm.low Fm.high
    have g1 := low_le (cs := mkR n B.c) (flo := B.lo) hq
    have g2 := high_ge (cs := mkR n B.c) (fhi := B.hi) hq
    omega
  · unfold Fm.high
    rw [k1]
    exact Int.le_trans (low_shift k3).2 (high_mono hq sub)
theorem ev_at2 {kvs kv' : List (Key × V)} {N S : List Str} {κ : Str → Int} {x : List Int} (hk : ∀ z ∈ S, z ∉ N → valV kvs (Sum.inr z) = some (.int (κ z))) (v1 : ∀ z ∈ N, valV kv' (Sum.inr z) = some (.int (x.getD (N.idxOf z) 0))) (v2 : ∀ z, z ∉ N → valV kv' (Sum.inr z) = valV kvs (Sum.inr z)) : ∀ {m : Nat} {e : Ef}, e.ok S m → EvAt kv' (rho N κ x) e
  | 0, _, h => h.elim
  | _ + 1, .num _, _ => trivial
  | _ + 1, .var z, h => by
    show valV kv' (Sum.inr z) = some (.int (if z ∈ N then _ else _))
    by_cases hz : z ∈ N
    · rw [if_pos hz]
      exact v1 z hz
    · rw [if_neg hz, v2 z hz]
      exact hk z h hz
  | _ + 1, .bin _ _ _, h => ⟨ev_at2 hk v1 v2 h.1, ev_at2 hk v1 v2 h.2⟩
theorem fm_bin_add {N : List Str} {κ : Str → Int} {n : Nat} {Ps : List (List Int)} {a b : Ef} : fm N κ n Ps (.bin .add a b) = (fm N κ n Ps a).add (fm N κ n Ps b) := by rw [fm]
theorem fm_bin_sub {N : List Str} {κ : Str → Int} {n : Nat} {Ps : List (List Int)} {a b : Ef} : fm N κ n Ps (.bin .sub a b) = (fm N κ n Ps a).add ((fm N κ n Ps b).times (-1)) := by rw [fm]
theorem fm_bin_mulL {N : List Str} {κ : Str → Int} {n : Nat} {Ps : List (List Int)} {a b : Ef} (h : occ N a = false) : fm N κ n Ps (.bin .mul a b) = (fm N κ n Ps b).times (evE κ a) := by
  rw [fm, if_pos h, fm_const a h]
  rfl
theorem fm_bin_mulR {N : List Str} {κ : Str → Int} {n : Nat} {Ps : List (List Int)} {a b : Ef} (h1 : ¬ occ N a = false) (h : occ N b = false) : fm N κ n Ps (.bin .mul a b) = (fm N κ n Ps a).times (evE κ b) := by
  rw [fm, if_neg h1, if_pos h, fm_const b h]
  rfl
theorem fm_bin_prod {N : List Str} {κ : Str → Int} {n : Nat} {Ps : List (List Int)} {a b : Ef} (h1 : ¬ occ N a = false) (h : ¬ occ N b = false) : fm N κ n Ps (.bin .mul a b) = .prod ((fm N κ n Ps a).low n Ps) ((fm N κ n Ps a).high n Ps) ((fm N κ n Ps b).low n Ps) ((fm N κ n Ps b).high n Ps) := by
  rw [fm, if_neg h1, if_neg h]
def LeFm (A B : Fm) : Prop := B.c = A.c ∧ A.lo ≤ B.lo ∧ B.hi ≤ A.hi
theorem prod_mono {a1 b1 a2 b2 c1 d1 c2 d2 : Int} (h1 : a1 ≤ c1) (h2 : c1 ≤ d1) (h3 : d1 ≤ b1) (h4 : a2 ≤ c2) (h5 : c2 ≤ d2) (h6 : d2 ≤ b2) : LeFm (.prod a1 b1 a2 b2) (.prod c1 d1 c2 d2) :=
  have z := corner_mono h1 h2 h3 h4 h5 h6
  ⟨rfl, z.1, z.2⟩
theorem fm_mono {N : List Str} {κ : Str → Int} {n : Nat} {Ps Qs : List (List Int)} {q : List Int} (hq : q ∈ Qs) (sub : ∀ r ∈ Qs, r ∈ Ps) (e : Ef) : LeFm (fm N κ n Ps e) (fm N κ n Qs e) := by
  induction e with
  | num i => exact ⟨rfl, Int.le_refl _, Int.le_refl _⟩
  | var y =>
    unfold fm
    split
    · exact ⟨rfl, Int.le_refl _, Int.le_refl _⟩
    · exact ⟨rfl, Int.le_refl _, Int.le_refl _⟩
  | bin o a b h1 h2 =>
    have ga := fm_le (N := N) (κ := κ) (n := n) (Ps := Qs) a
    have gb := fm_le (N := N) (κ := κ) (n := n) (Ps := Qs) b
    cases o with
    | add =>
      rw [fm_bin_add, fm_bin_add]
      exact add_mono _ _ _ _ h1.1 h2.1 h1.2.1 h2.2.1 h1.2.2 h2.2.2
    | sub =>
      rw [fm_bin_sub, fm_bin_sub]
      have g := times_mono _ _ (-1) h2.1 h2.2.1 h2.2.2 gb
      exact add_mono _ _ _ _ h1.1 g.1 h1.2.1 g.2.1 h1.2.2 g.2.2
    | mul =>
      by_cases oa : occ N a = false
      · rw [fm_bin_mulL oa, fm_bin_mulL oa]
        exact times_mono _ _ _ h2.1 h2.2.1 h2.2.2 gb
      · by_cases ob : occ N b = false
        · rw [fm_bin_mulR oa ob, fm_bin_mulR oa ob]
          exact times_mono _ _ _ h1.1 h1.2.1 h1.2.2 ga
        · rw [fm_bin_prod oa ob, fm_bin_prod oa ob]
          have x := low_fm (n := n) hq sub _ _ h1.1 h1.2.1 h1.2.2 ga
          have y := low_fm (n := n) hq sub _ _ h2.1 h2.2.1 h2.2.2 gb
          exact prod_mono x.1 x.2.1 x.2.2 y.1 y.2.1 y.2.2
/-! ### which points a cut keeps; the law's own cut (as in Cut24.inc, for wide coefficients) -/
def oV : Option Int → V
  | none => .non
  | some x => .int x
def geB (cs : List Int) (lo : Int) : Option Int → List Int → Bool
  | none, _ => true
  | some x, r => decide (val cs r + lo ≤ x)
def leB (cs : List Int) (hi : Int) : Option Int → List Int → Bool
  | none, _ => true
  | some x, r => decide (x ≤ val cs r + hi)
def letB (cs : List Int) (lo hi : Int) (l g : Option Int) (r : List Int) : Bool := geB cs lo g r && leB cs hi l r
open Classical in
noncomputable def lawL (cs : List Int) (lo hi : Int) (l g : Option Int) (Ps : List (List Int)) : List (List Int) :=
  if Simple cs then Ps.filter (letB cs lo hi l g)
  else if (∃ x, l = some x ∧ spanHi (hullM cs.length Ps) cs hi < x) ∨ (∃ x, g = some x ∧ spanLo (hullM cs.length Ps) cs lo > x) then [] else Ps
def spLets (K : PySem.W.Frag) : Sp := fun vs H Q _ => ∃ (f t : Addr) (cs : List Int) (lo hi : Int) (l g : Option Int) (r : List Int), vs = [.ref f, .ref t, oV l, oV g] ∧ FormAt K H f cs lo hi ∧ (∀ k, -400000000000 ≤ r.getD k 0 ∧ r.getD k 0 ≤ 400000000000) ∧ cs.length ≤ 20 ∧ SqT K H t (r.map V.int) ∧ r.length = cs.length ∧
  ∀ H', Same H H' → Q (.bl (letB cs lo hi l g r)) H'
def spCut24 (K : PySem.W.Frag) : Sp := fun vs H Q _ => ∃ (f p : Addr) (cs : List Int) (lo hi : Int) (l g : Option Int) (Ps : List (List Int)), vs = [.ref p, .ref f, oV l, oV g] ∧ FormAt K H f cs lo hi ∧ PtB Ps ∧ cs.length ≤ 20 ∧ TPts H p Ps ∧ Ps ≠ [] ∧ Ps.length ≤ 125 ∧ (∀ r ∈ Ps, r.length = cs.length) ∧
  ∀ v H', Same H H' → BoxAt K H' v (hull cs.length (lawL cs lo hi l g Ps)) → Q v H'
section
variable {P : Program} {w : World} {K : PySem.W.Frag} {mg : Str → Option Value} {base : Heap}
theorem ok_l_lets (T : Txt w K mg) : FnOk P w K mg base CX0 1 T.a_l_lets T.d_l_lets p_l_lets (spLets K) := by
  refine T.F_l_lets.ok sc_l_lets (fun vs H Q E h => ?_) (fun cdv A outer s H vs Q E hr h => ?_)
  · obtain ⟨f, t, cs, lo, hi, l, g, r, rfl, _⟩ := h
    rfl
  obtain ⟨f, t, cs, lo, hi, l, g, r, rfl, ⟨c, hf, hc⟩, cf, lc, ht, lr, q⟩ := h
  refine ⟨_, (pss_cons (ps_set (i := 4) sc_l_lets.nd rfl (Or.inl rfl) (pe_callB (cr_sum rfl) rfl T.z_sum bb_sum (pa_cons (pe_lc (own := [("_law_k", 5)]) (g := gName 5) (tt := tYes) rfl sc_l_lets.nd (pi_range1 rfl T.z_range (pa_cons (pe_callB call_len_seq rfl T.z_len PySem.boot_len (pa_cons (pv 1) pa_nil)) pa_nil)) (blkOk_by (own := [("_law_k", 5)]) (N := n_l_lets) (sc := defScope s_l_lets) (by decide +kernel)) (fun _ _ _ _ _ => (pg_name (i := 5) sc_l_lets.nd rfl (Or.inl rfl))) (fun _ _ _ _ _ => pts_nil) (fun _ _ _ _ _ => (pe_op op_mul (pe_ix (show IxR _ (rIxT K) from ix_tup) (pe_ix (show IxR _ (rIxT K) from ix_tup) (pv 0) pe_int (fun _ _ => rfl)) (pv 5) (fun _ _ => rfl)) (pe_ix (show IxR _ (rIxT K) from ix_tup) (pv 1) (pv 5) (fun _ _ => rfl))))) pa_nil)))
      (pss_cons (ps_if (PW.pt (pw_and (pt_cmpR op_notN (pv 3) pe_non (nomark _)) (pw_and1 (pt_cmpR op_gt (pe_op op_add (pv 4) (pe_ix ix_tup (pv 0) pe_int (fun _ _ => rfl))) (pv 3) (nomark _))))) (pss_one (ps_ret pe_bl)) pss_nil)
      (pss_one (ps_ret (pe_or (pe_cmpR op_isN (pv 2) pe_non (nomark _)) (pe_one (pe_cmpR op_ge (pe_op op_add (pv 4) (pe_ix ix_tup (pv 0) pe_int (fun _ _ => rfl))) (pv 2) (nomark _)))))))), ?_⟩
  refine ⟨_, rfl, t, _, rfl, .inr ht, _, rfl, by omega, by rw [List.length_map]; omega, fun D hD => ?_⟩
  refine lc_it walk_range (LcP (Same H) (RInt ((List.range cs.length).map fun k => cs.getD k 0 * r.getD k 0)) D) (lcp_start hD) (fun _ _ _ _ => trivial) ?_ ?_
  · rintro j x F F' hj P ⟨rfl, rfl⟩
    rw [List.length_map] at hj
    have hj2 : j < cs.length := by omega
    have hj3 : j < r.length := by omega
    refine ⟨rfl, tyes ?_⟩
    refine ⟨_, rfl, f, _, _, _, rfl, rfl, Same.tup P.1 hf, rfl, _, rfl, c, _, _, _, rfl, rfl, Same.tup P.1 hc, (by rw [Int.zero_add]; exact coef0 hj2), _, rfl, _, rfl, t, _, _, _, rfl, rfl, Same.tup P.1 ht, (by rw [Int.zero_add]; exact coef0 hj3), _, _, rfl, rfl, .inr ⟨by have := cf j; omega, by have := cf j; omega⟩, ?_⟩
    exact lcp_same P hD (Same.refl _) (lt_line (by omega)) RInt.mono ⟨_, map_get (range_get hj2), rfl⟩
  intro F P
  have ei := lcp_ints (K := K) P (by rw [List.length_map, List.length_map, List.length_range]; omega)
  refine ⟨D, _, rfl, SqL.of ei, ?_⟩
  have sF := P.1
  have eV : ((List.range cs.length).map fun k => cs.getD k 0 * r.getD k 0).sum = val cs r := rfl
  rw [eV]
  have hfF := Same.tup sF hf
  have fin : geB cs lo g r = true → Q (.bl (leB cs hi l r)) F := fun hg => by
    have e : letB cs lo hi l g r = leB cs hi l r := by
      unfold letB
      rw [hg, Bool.true_and]
    rw [← e]
    exact q F sF
  have fin0 : geB cs lo g r = false → Q (.bl false) F := fun hg => by
    have e : letB cs lo hi l g r = false := by
      unfold letB
      rw [hg, Bool.false_and]
    rw [← e]
    exact q F sF
  cases g with
  | none =>
    refine ⟨_, rfl, rfl, _, rfl, ifF (by decide) (ifF rfl ?_)⟩
    cases l with
    | none => exact ⟨_, rfl, rfl, _, rfl, ifT (by decide) (fin rfl)⟩
    | some x => exact ⟨_, rfl, rfl, _, rfl, ifF (by rw [decide_eq_false (fun z => by cases z)]) ⟨_, rfl, _, rfl, f, _, _, _, rfl, rfl, hfF, rfl, _, _, rfl, rfl, _, rfl, _, _, rfl, rfl, fin rfl⟩⟩
  | some y =>
    refine ⟨_, rfl, rfl, _, rfl, ifT (by rw [decide_eq_false (fun z => by cases z)]; rfl) ?_⟩
    refine ⟨_, rfl, _, rfl, f, _, _, _, rfl, rfl, hfF, rfl, _, _, rfl, rfl, _, rfl, _, _, rfl, rfl, _, rfl, ite2 (fun h => ?_) (fun h => ?_)⟩
    · have g1 : val cs r + lo > y := of_decide_eq_true h
      exact fin0 (decide_eq_false (by omega))
    have g1 : ¬ val cs r + lo > y := fun z => h (decide_eq_true z)
    have g2 : geB cs lo (some y) r = true := decide_eq_true (by omega)
    cases l with
    | none => exact ⟨_, rfl, rfl, _, rfl, ifT (by decide) (fin g2)⟩
    | some x => exact ⟨_, rfl, rfl, _, rfl, ifF (by rw [decide_eq_false (fun z => by cases z)]) ⟨_, rfl, _, rfl, f, _, _, _, rfl, rfl, hfF, rfl, _, _, rfl, rfl, _, rfl, _, _, rfl, rfl, fin g2⟩⟩
theorem ok_l_cut (T : Txt w K mg) : FnOk P w K mg base CX0 3 T.a_l_cut T.d_l_cut p_l_cut (spCut24 K) := by
  have g_l_spread := ok_l_spread (P := P) (w := w) (K := K) (base := base) T
  have g_l_lets := ok_l_lets (P := P) (w := w) (K := K) (base := base) T
  have g_l_box := ok_l_box (P := P) (w := w) (K := K) (base := base) T
  refine T.F_l_cut.ok sc_l_cut (fun vs H Q E h => ?_) (fun cdv A outer s H vs Q E hr h => ?_)
  · obtain ⟨f, p, cs, lo, hi, l, g, Ps, rfl, _⟩ := h
    rfl
  obtain ⟨f, p, cs, lo, hi, l, g, Ps, rfl, hF, cf, lc, tP, ne, lP, lr, q⟩ := h
  refine ⟨_, (pss_cons (ps_set (i := 4) sc_l_cut.nd rfl (Or.inl rfl) (pe_callB (cr_sorted) rfl T.z_sorted bb_sorted (pa_cons (pe_lc (own := [("_law_number_here", 5)]) (g := gName 5) rfl sc_l_cut.nd (pi_tup (pe_ix ix_tup (pv 1) pe_int (fun _ _ => rfl))) (blkOk_by (own := [("_law_number_here", 5)]) (N := n_l_cut) (sc := defScope s_l_cut) (by decide +kernel)) (fun _ _ _ _ _ => (pg_name (i := 5) sc_l_cut.nd rfl (Or.inl rfl))) (fun _ _ _ _ _ => (pts_one (pt_cmpR op_ne (pv 5) pe_int (nomark _)))) (fun _ _ _ _ _ => (pv 5))) pa_nil)))
      (pss_cons (ps_if (PW.pt (pw_and (pt_cmpR op_gt (pe_callB call_len_seq rfl T.z_len PySem.boot_len (pa_cons (pv 4) pa_nil)) pe_int (nomark _)) (pw_and1 (pt_cmpR (op_neD hr.units) (pv 4) (pe_lst (pa_cons (pe_un un_neg pe_int) (pa_cons pe_int pa_nil))) (nomark _))))) (pss_cons (ps_set (i := 6) sc_l_cut.nd rfl (Or.inl rfl) (pe_call g_l_spread (hr.mono (by first | decide | omega)) rfl T.m_l_spread T.F_l_spread.kp T.b_l_spread .nil pass0 (pa_cons (pv 1) (pa_cons (pv 0) pa_nil))))
      (pss_cons (ps_if (PW.pt (pw_or (PW.pt (pw_and (pt_cmpR op_notN (pv 2) pe_non (nomark _)) (pw_and1 (pt_cmpR op_lt (pe_ix ix_tup (pv 6) pe_int (fun _ _ => rfl)) (pv 2) (nomark _))))) (pw_or1 (PW.pt (pw_and (pt_cmpR op_notN (pv 3) pe_non (nomark _)) (pw_and1 (pt_cmpR op_gt (pe_ix ix_tup (pv 6) pe_int (fun _ _ => rfl)) (pv 3) (nomark _)))))))) (pss_one (ps_ret pe_non)) pss_nil)
      (pss_one (ps_ret (pe_call g_l_box (hr.mono (by first | decide | omega)) rfl T.m_l_box T.F_l_box.kp T.b_l_box .nil pass0 (pa_cons (pv 0) pa_nil)))))) pss_nil)
      (pss_one (ps_ret (pe_call g_l_box (hr.mono (by first | decide | omega)) rfl T.m_l_box T.F_l_box.kp T.b_l_box .nil pass0 (pa_cons (pe_lc (own := [("_law_point", 7)]) (g := gName 7) rfl sc_l_cut.nd (pi_list (pv 0)) (blkOk_by (own := [("_law_point", 7)]) (N := n_l_cut) (sc := defScope s_l_cut) (by decide +kernel)) (fun _ _ _ _ _ => (pg_name (i := 7) sc_l_cut.nd rfl (Or.inl rfl))) (fun _ _ _ _ _ => (pts_one (pt_val (pe_call g_l_lets (hr.mono (by first | decide | omega)) rfl T.m_l_lets T.F_l_lets.kp T.b_l_lets .nil pass0 (pa_cons (pv 1) (pa_cons (pv 7) (pa_cons (pv 2) (pa_cons (pv 3) pa_nil)))))))) (fun _ _ _ _ _ => (pv 7))) pa_nil)))))), ?_⟩
  obtain ⟨c, hf, hc⟩ := id hF
  refine ⟨_, rfl, f, _, _, _, rfl, rfl, hf, rfl, c, rfl, ⟨_, hc⟩, fun D hD => ?_⟩
  refine lc_it (walk_tup (xs := cs.map V.int)) (fun i G => Same H G ∧ G D = some (.lst (((usedTo cs i).map fun k => cs.getD k 0).map V.int))) ⟨Same.new hD _, upd_same⟩ (fun i G _ P => Same.tup P.1 hc) ?_ ?_
  · rintro i x G G' hi2 P ⟨rfl, ex⟩
    obtain ⟨k, ek, rfl⟩ := get_int ex
    rw [List.length_map] at hi2
    have gk : cs.getD i 0 = k := by rw [List.getD_eq_getElem?_getD, ek]; rfl
    refine ⟨rfl, ?_⟩
    refine ⟨_, rfl, rfl, _, rfl, ite2 (fun h => ?_) (fun h => ?_)⟩
    · have nz : cs.getD i 0 ≠ 0 := fun z => by
        rw [gk] at z
        rw [z] at h
        exact absurd h (by decide)
      refine ⟨_, rfl, _, P.2, lt_line (by simp only [List.length_map]; have := usedTo_len (cs := cs) (i := i); omega), fun b o e => ?_, ?_⟩
      · rw [upd_ne (ne_of_none e hD)]
        exact P.1 _ _ e
      · rw [usedTo_yes nz, List.map_append, List.map_append]
        show upd _ D _ D = some (.lst (_ ++ [V.int (cs.getD i 0)]))
        rw [gk]
        exact upd_same
    · have z : cs.getD i 0 = 0 := by
        rw [gk]
        by_cases z : k = 0
        · exact z
        · exact absurd (by rw [decide_eq_false (fun e => z (V.int.inj e))]; rfl) h
      rw [usedTo_no z]
      exact P
  rintro G ⟨sG, eD⟩
  rw [List.length_map, usedTo_all] at eD
  have eD : G D = some (.lst ((numL cs).map V.int)) := eD
  have lz := usedZ_len (cs := cs)
  have ln : (numL cs).length = (usedZ cs).length := List.length_map _
  refine ⟨D, numL cs, rfl, SqL.of eD, by omega, fun ns' u pm srt hu => ?_⟩
  have lns : ns'.length = (usedZ cs).length := by rw [pm.length_eq, ln]
  have sU := sG.trans (Same.new hu (.lst (ns'.map V.int)))
  have eU : (upd G u (.lst (ns'.map V.int))) u = some (.lst (ns'.map V.int)) := upd_same
  generalize (upd G u (.lst (ns'.map V.int))) = G2 at sU eU
  obtain ⟨as, eP, hA⟩ := id tP
  refine ⟨_, rfl, u, _, rfl, .inl (SqL.of eU), _, _, rfl, rfl, _, rfl, ite2 (fun h1 => ⟨_, rfl, _, rfl, (by show 2 ≤ sizeLine; decide), fun e he => neI (ys := [-1, 1]) (SqL.of ((Same.new he _) _ _ eU)) (SqL.of upd_same) ⟨_, rfl, ite2 (fun h2 => ?A) (fun h2 => ?B)⟩⟩) (fun h1 => ifF rfl ?C)⟩
  case A =>
    have se := sU.trans (Same.new he (.lst [.int (-1), .int 1]))
    have nd : ¬ IsD cs := fun d => by
      rw [(sorted_pm pm srt).mpr d] at h2
      exact absurd h2 (by decide)
    have ns : ¬ Simple cs := fun s => by
      rcases s with z | z
      · have h1 : (1 : Int) < ((ns'.map V.int).length : Nat) := of_decide_eq_true h1
        rw [List.length_map, lns] at h1
        omega
      · exact nd z
    refine ⟨_, rfl, _, rfl, f, p, cs, lo, hi, Ps, rfl, hF.same se, cf, lc, tP.same se, ne, by omega, lr, fun t G3 L U s3 ht hLU _ => ?_⟩
    obtain ⟨rfl, rfl⟩ := hLU nd
    have s3' := se.trans s3
    have law0 : ((∃ x, l = some x ∧ spanHi (hullM cs.length Ps) cs hi < x) ∨ (∃ x, g = some x ∧ spanLo (hullM cs.length Ps) cs lo > x)) → lawL cs lo hi l g Ps = [] := fun h => by
      unfold lawL
      rw [if_neg ns, if_pos h]
    have law1 : ¬ ((∃ x, l = some x ∧ spanHi (hullM cs.length Ps) cs hi < x) ∨ (∃ x, g = some x ∧ spanLo (hullM cs.length Ps) cs lo > x)) → lawL cs lo hi l g Ps = Ps := fun h => by
      unfold lawL
      rw [if_neg ns, if_neg h]
    cases l with
    | none =>
      refine ⟨_, rfl, rfl, _, rfl, ifF (by decide) (ifF rfl ?_)⟩
      cases g with
      | none =>
        refine ⟨_, rfl, rfl, _, rfl, ifF (by decide) (ifF rfl ?_)⟩
        have e := law1 (fun z => by
          rcases z with ⟨x', e1, e2⟩ | ⟨x', e1, _⟩
          · cases e1
          · cases e1)
        exact ⟨_, rfl, p, cs.length, Ps, rfl, by omega, (tP.same s3').pts.mx, lr, by omega, fun v G4 s4 b4 => q v G4 (s3'.trans s4) (by rw [e]; exact b4)⟩
      | some y =>
        refine ⟨_, rfl, rfl, _, rfl, ifT (by rw [decide_eq_false (fun z => by cases z)]; rfl) ⟨_, rfl, t, _, _, _, rfl, rfl, SqT.of ht, rfl, _, rfl, _, _, rfl, rfl, _, rfl, ite2 (fun hy => ?_) (fun hy => ?_)⟩⟩
        · have e := law0 (.inr ⟨y, rfl, of_decide_eq_true hy⟩)
          exact q .non G3 s3' (by rw [e]; rfl)
        · have e := law1 (fun z => by
            rcases z with ⟨x', e1, e2⟩ | ⟨x', e1, e2⟩
            · cases e1
            · cases e1
              exact hy (decide_eq_true e2))
          exact ⟨_, rfl, p, cs.length, Ps, rfl, by omega, (tP.same s3').pts.mx, lr, by omega, fun v G4 s4 b4 => q v G4 (s3'.trans s4) (by rw [e]; exact b4)⟩
    | some x =>
      refine ⟨_, rfl, rfl, _, rfl, ifT (by rw [decide_eq_false (fun z => by cases z)]; rfl) ?_⟩
      refine ⟨_, rfl, t, _, _, _, rfl, rfl, SqT.of ht, rfl, _, rfl, _, _, rfl, rfl, _, rfl, ite2 (fun hx => ifT rfl ?_) (fun hx => ?_)⟩
      · have e := law0 (.inl ⟨x, rfl, of_decide_eq_true hx⟩)
        exact q .non G3 s3' (by rw [e]; rfl)
      cases g with
      | none =>
        refine ⟨_, rfl, rfl, _, rfl, ifF (by decide) (ifF rfl ?_)⟩
        have e := law1 (fun z => by
          rcases z with ⟨x', e1, e2⟩ | ⟨x', e1, _⟩
          · cases e1; exact hx (decide_eq_true e2)
          · cases e1)
        exact ⟨_, rfl, p, cs.length, Ps, rfl, by omega, (tP.same s3').pts.mx, lr, by omega, fun v G4 s4 b4 => q v G4 (s3'.trans s4) (by rw [e]; exact b4)⟩
      | some y =>
        refine ⟨_, rfl, rfl, _, rfl, ifT (by rw [decide_eq_false (fun z => by cases z)]; rfl) ⟨_, rfl, t, _, _, _, rfl, rfl, SqT.of ht, rfl, _, rfl, _, _, rfl, rfl, _, rfl, ite2 (fun hy => ?_) (fun hy => ?_)⟩⟩
        · have e := law0 (.inr ⟨y, rfl, of_decide_eq_true hy⟩)
          exact q .non G3 s3' (by rw [e]; rfl)
        · have e := law1 (fun z => by
            rcases z with ⟨x', e1, e2⟩ | ⟨x', e1, e2⟩
            · cases e1; exact hx (decide_eq_true e2)
            · cases e1
              exact hy (decide_eq_true e2))
          exact ⟨_, rfl, p, cs.length, Ps, rfl, by omega, (tP.same s3').pts.mx, lr, by omega, fun v G4 s4 b4 => q v G4 (s3'.trans s4) (by rw [e]; exact b4)⟩
  case B =>
    have sX := sU.trans (Same.new he (.lst [.int (-1), .int 1]))
    have sim : Simple cs := .inr ((sorted_pm pm srt).mp (by
      by_cases z : ns' = [-1, 1]
      · exact z
      · exact absurd (by rw [decide_eq_false z]; rfl) h2))
    have hA3 := hA.same sX
    have eP3 := sX _ _ eP
    have eLw : lawL cs lo hi l g Ps = Ps.filter (letB cs lo hi l g) := if_pos sim
    refine ⟨_, rfl, p, rfl, ⟨_, SqL.of eP3⟩, fun D2 hD2 => ?_⟩
    refine lc_it (walk_list (xs := as.map V.ref)) (fun i G => Same _ G ∧ TPts G D2 ((Ps.take i).filter (letB cs lo hi l g))) ⟨Same.new hD2 _, TPts.nil upd_same⟩ (fun i G _ P => SqL.of (P.1 _ _ eP3)) ?_ ?_
    · rintro i y F0 F hi2 ⟨sF, pF⟩ ⟨rfl, ex⟩
      rw [List.length_map, hA3.1] at hi2
      have er : Ps[i]? = some Ps[i] := List.getElem?_eq_getElem hi2
      have lq := lr _ (List.getElem_mem hi2)
      have cq := cf _ (List.getElem_mem hi2)
      generalize Ps[i] = r at er lq cq
      have ea : as[i]? = some (as[i]'(by rw [hA3.1]; exact hi2)) := List.getElem?_eq_getElem _
      generalize as[i]'(by rw [hA3.1]; exact hi2) = tq at ea
      rw [map_get ea] at ex
      obtain rfl := Option.some.inj ex
      have htq := sF _ _ (hA3.2 i tq r ea er)
      refine ⟨rfl, ?_⟩
      refine ⟨_, rfl, _, rfl, _, rfl, _, rfl, f, tq, cs, lo, hi, l, g, r, rfl, hF.same (sX.trans sF), cq, lc, SqT.of htq, lq, fun F8 s8 => ⟨_, rfl, ite2 (fun h => ?_) (fun h => ?_)⟩⟩
      · obtain ⟨bs, b1, b2⟩ := id (pF.same s8)
        refine ⟨_, rfl, _, b1, lt_line (by rw [List.length_map, b2.1]; have := List.length_filter_le (letB cs lo hi l g) (Ps.take i); rw [List.length_take] at this; omega), fun c o e => ?_, ?_⟩
        · rw [upd_ne (ne_of_none e hD2)]
          exact s8 _ _ (sF _ _ e)
        · rw [take_snoc er, List.filter_append, List.filter_cons_of_pos h, List.filter_nil]
          exact TPts.push b2 (Same.refl _) b1 (s8 _ _ htq)
      · rw [take_snoc er, List.filter_append, List.filter_cons_of_neg h, List.filter_nil, List.append_nil]
        exact ⟨sF.trans s8, pF.same s8⟩
    · rintro G4 ⟨s4, p4⟩
      rw [List.length_map, hA3.1, List.take_length] at p4
      refine ⟨D2, cs.length, _, rfl, by omega, p4.pts.mx, (fun r hr => lr r (List.mem_filter.mp hr).1), Nat.le_trans (List.length_filter_le _ _) (by omega), fun v G5 s5 b5 => q v G5 ((sX.trans s4).trans s5) (by rw [eLw]; exact b5)⟩
  case C =>
    have sX := sU
    have sim : Simple cs := .inl (by
      have h1 : ¬ (1 : Int) < ((ns'.map V.int).length : Nat) := fun z => h1 (decide_eq_true z)
      rw [List.length_map, lns] at h1
      omega)
    have hA3 := hA.same sX
    have eP3 := sX _ _ eP
    have eLw : lawL cs lo hi l g Ps = Ps.filter (letB cs lo hi l g) := if_pos sim
    refine ⟨_, rfl, p, rfl, ⟨_, SqL.of eP3⟩, fun D2 hD2 => ?_⟩
    refine lc_it (walk_list (xs := as.map V.ref)) (fun i G => Same _ G ∧ TPts G D2 ((Ps.take i).filter (letB cs lo hi l g))) ⟨Same.new hD2 _, TPts.nil upd_same⟩ (fun i G _ P => SqL.of (P.1 _ _ eP3)) ?_ ?_
    · rintro i y F0 F hi2 ⟨sF, pF⟩ ⟨rfl, ex⟩
      rw [List.length_map, hA3.1] at hi2
      have er : Ps[i]? = some Ps[i] := List.getElem?_eq_getElem hi2
      have lq := lr _ (List.getElem_mem hi2)
      have cq := cf _ (List.getElem_mem hi2)
      generalize Ps[i] = r at er lq cq
      have ea : as[i]? = some (as[i]'(by rw [hA3.1]; exact hi2)) := List.getElem?_eq_getElem _
      generalize as[i]'(by rw [hA3.1]; exact hi2) = tq at ea
      rw [map_get ea] at ex
      obtain rfl := Option.some.inj ex
      have htq := sF _ _ (hA3.2 i tq r ea er)
      refine ⟨rfl, ?_⟩
      refine ⟨_, rfl, _, rfl, _, rfl, _, rfl, f, tq, cs, lo, hi, l, g, r, rfl, hF.same (sX.trans sF), cq, lc, SqT.of htq, lq, fun F8 s8 => ⟨_, rfl, ite2 (fun h => ?_) (fun h => ?_)⟩⟩
      · obtain ⟨bs, b1, b2⟩ := id (pF.same s8)
        refine ⟨_, rfl, _, b1, lt_line (by rw [List.length_map, b2.1]; have := List.length_filter_le (letB cs lo hi l g) (Ps.take i); rw [List.length_take] at this; omega), fun c o e => ?_, ?_⟩
        · rw [upd_ne (ne_of_none e hD2)]
          exact s8 _ _ (sF _ _ e)
        · rw [take_snoc er, List.filter_append, List.filter_cons_of_pos h, List.filter_nil]
          exact TPts.push b2 (Same.refl _) b1 (s8 _ _ htq)
      · rw [take_snoc er, List.filter_append, List.filter_cons_of_neg h, List.filter_nil, List.append_nil]
        exact ⟨sF.trans s8, pF.same s8⟩
    · rintro G4 ⟨s4, p4⟩
      rw [List.length_map, hA3.1, List.take_length] at p4
      refine ⟨D2, cs.length, _, rfl, by omega, p4.pts.mx, (fun r hr => lr r (List.mem_filter.mp hr).1), Nat.le_trans (List.length_filter_le _ _) (by omega), fun v G5 s5 b5 => q v G5 ((sX.trans s4).trans s5) (by rw [eLw]; exact b5)⟩
end
/-! ### one box within another -/
def Inside (n : Nat) : Option (List (List Int)) → Option (List (List Int)) → Prop
  | none, _ => True
  | some M, some N => ∀ i < n, ∀ j < n, getM M i j ≤ getM N i j
  | some _, none => False
def spIns24 (K : PySem.W.Frag) : Sp := fun vs H Q _ => ∃ (va vb : V) (A B : Option (List (List Int))) (n : Nat), vs = [va, vb] ∧ n ≤ 900 ∧ BoxAt K H va A ∧ BoxAt K H vb B ∧ BSz n A ∧ BSz n B ∧ Inside n A B ∧ Q (.bl true) H
theorem inside_sub {n : Nat} {A B : List (List Int)} (sub : ∀ r ∈ A, r ∈ B) : Inside (n + 1) (hull n A) (hull n B) := by
  by_cases nA : A = []
  · rw [nA]
    exact trivial
  · obtain ⟨r, hr⟩ := List.exists_mem_of_ne_nil _ nA
    have nB : B ≠ [] := List.ne_nil_of_mem (sub r hr)
    rw [hull_some nA, hull_some nB]
    intro i hi j hj
    obtain ⟨s, hs, e⟩ := hull_at (n := n) nA hi hj
    rw [← e]
    exact hull_le hi hj (sub s hs)
/-! ### law k26: the join, the law's own -/
def spJnd (K : PySem.W.Frag) : Sp := fun vs H Q _ => ∃ (va vb : V) (n : Nat) (A B : List (List Int)), vs = [va, vb] ∧ n ≤ 60 ∧ BoxAt K H va (hull n A) ∧ BoxAt K H vb (hull n B) ∧ ∀ v H', Same H H' → BoxAt K H' v (hull n (A ++ B)) → Q v H'
theorem hull_max {n i j : Nat} {A B : List (List Int)} (hA : A ≠ []) (hB : B ≠ []) (hi : i < n + 1) (hj : j < n + 1) : lmax ((A ++ B).map (dif i j)) = max (getM (hullM n A) i j) (getM (hullM n B) i j) := by
  have nAB : A ++ B ≠ [] := fun z => hA (List.append_eq_nil_iff.mp z).1
  have e : getM (hullM n (A ++ B)) i j = lmax ((A ++ B).map (dif i j)) := by
    obtain ⟨r, hr, e1⟩ := hull_at (n := n) nAB hi hj
    refine (lmax_is (m := getM (hullM n (A ++ B)) i j) (List.mem_map.mpr ⟨r, hr, e1⟩) fun y hy => ?_).symm
    obtain ⟨q, hq, rfl⟩ := List.mem_map.mp hy
    exact hull_le hi hj hq
  rw [← e]
  obtain ⟨r, hr, e1⟩ := hull_at (n := n) nAB hi hj
  obtain ⟨ra, hra, ea⟩ := hull_at (n := n) hA hi hj
  obtain ⟨rb, hrb, eb⟩ := hull_at (n := n) hB hi hj
  have h1 := hull_le (n := n) hi hj (List.mem_append_left B hra)
  have h2 := hull_le (n := n) hi hj (List.mem_append_right A hrb)
  rcases List.mem_append.mp hr with h | h
  · have := hull_le (n := n) hi hj h
    omega
  · have := hull_le (n := n) hi hj h
    omega
section
variable {P : Program} {w : World} {K : PySem.W.Frag} {mg : Str → Option Value} {base : Heap}
theorem ok_l_joined (T : Txt w K mg) : FnOk P w K mg base CX0 1 T.a_l_joined T.d_l_joined p_l_joined (spJnd K) := by
  refine T.F_l_joined.ok sc_l_joined (fun vs H Q E h => ?_) (fun cdv A outer s H vs Q E hr h => ?_)
  · obtain ⟨va, vb, n, A, B, rfl, _⟩ := h
    rfl
  obtain ⟨va, vb, n, A, B, rfl, hn, hA, hB, q⟩ := h
  refine ⟨_, (pss_cons (ps_if (pt_cmpR op_isN (pv 0) pe_non (nomark _)) (pss_one (ps_ret (pv 1))) pss_nil)
      (pss_cons (ps_if (pt_cmpR op_isN (pv 1) pe_non (nomark _)) (pss_one (ps_ret (pv 0))) pss_nil)
      (pss_cons (ps_set (i := 2) sc_l_joined.nd rfl (Or.inl rfl) (pe_lst pa_nil))
      (pss_cons (ps_for PassesOwn.never rfl (pi_range1 rfl T.z_range (pa_cons (pe_callB call_len_seq rfl T.z_len PySem.boot_len (pa_cons (pv 0) pa_nil)) pa_nil)) (pg_name (i := 3) sc_l_joined.nd rfl (Or.inr rfl))
        (pss_one (ps_expr (pe_bm PySem.F.plainAttrs_list PySem.F.slot_list_append PySem.F.type_list_append mt_append (pv 2) (pa_cons (pe_callTy call_tuple_of rfl T.z_tuple bt_tuple (pa_cons (pe_lc (own := [("_law_j", 4)]) (g := gName 4) (tt := tYes) rfl sc_l_joined.nd (pi_range1 rfl T.z_range (pa_cons (pe_callB call_len_seq rfl T.z_len PySem.boot_len (pa_cons (pv 0) pa_nil)) pa_nil)) (blkOk_by (own := [("_law_j", 4)]) (N := n_l_joined) (sc := defScope s_l_joined) (by decide +kernel)) (fun _ _ _ _ _ => (pg_name (i := 4) sc_l_joined.nd rfl (Or.inl rfl))) (fun _ _ _ _ _ => pts_nil) (fun _ _ _ _ _ => (pe_callB (call_max2 rfl) rfl T.z_max bb_max (pa_cons (pe_ix (show IxR _ (rIxT K) from ix_tup) (pe_ix (show IxR _ (rIxT K) from ix_tup) (pv 0) (pv 3) (fun _ _ => rfl)) (pv 4) (fun _ _ => rfl)) (pa_cons (pe_ix (show IxR _ (rIxT K) from ix_tup) (pe_ix (show IxR _ (rIxT K) from ix_tup) (pv 1) (pv 3) (fun _ _ => rfl)) (pv 4) (fun _ _ => rfl)) pa_nil))))) pa_nil)) pa_nil)))))
      (pss_one (ps_ret (pe_callTy call_tuple_of rfl T.z_tuple bt_tuple (pa_cons (pv 2) pa_nil)))))))), ?_⟩
  by_cases nA : A = []
  · subst nA
    obtain rfl : va = .non := hA
    exact ⟨_, rfl, rfl, _, rfl, ifT (by decide) ⟨_, rfl, q vb H (Same.refl _) hB⟩⟩
  have hA0 := hA
  rw [hull_some nA] at hA
  obtain ⟨pa, rfl, mA⟩ := hA
  refine ⟨_, rfl, rfl, _, rfl, ifF (by rw [decide_eq_false (fun z => by cases z)]) ?_⟩
  by_cases nB : B = []
  · subst nB
    obtain rfl : vb = .non := hB
    rw [List.append_nil] at q
    exact ⟨_, rfl, rfl, _, rfl, ifT (by decide) ⟨_, rfl, q _ H (Same.refl _) hA0⟩⟩
  rw [hull_some nB] at hB
  obtain ⟨pb, rfl, mB⟩ := hB
  refine ⟨_, rfl, rfl, _, rfl, ifF (by rw [decide_eq_false (fun z => by cases z)]) ?_⟩
  have sA := hullM_sz n A
  have sB := hullM_sz n B
  obtain ⟨bs, hbs, lbs, _⟩ := id mA
  have lb : (bs.map V.ref).length = n + 1 := by rw [List.length_map, lbs, sA.1]
  refine ⟨by show 0 ≤ sizeLine; decide, fun pr hpr => ?_⟩
  have sp := Same.new hpr (.lst [])
  refine ⟨_, rfl, pa, _, rfl, .inr (Same.tup sp hbs), _, rfl, by omega, by rw [lb]; omega, for_range (lo := 0) (fun i σ F => (∃ x3 : Option V, σ = [some (.ref pa), some (.ref pb), some (.ref pr), x3, none]) ∧ LcP (Same H) (RRow K true (hullM n (A ++ B)) pr) pr i F)
    ⟨⟨none, rfl⟩, lcp_start hpr⟩ ?_ ?_⟩
  · rintro i σ F hi ⟨⟨x3, rfl⟩, PF⟩
    rw [lb] at hi
    obtain ⟨acc, a1, a2⟩ := PF.acc
    refine ⟨_, rfl, .inl ⟨rfl, _, SqL.of a1⟩, ?_⟩
    refine ⟨_, rfl, pa, _, rfl, .inr (Same.tup PF.1 hbs), _, rfl, by omega, by rw [lb]; omega, fun D2 hD2 => ?_⟩
    refine lc_it walk_range (LcP (Same F) (RInt ((List.range (n + 1)).map fun j => lmax ((A ++ B).map (dif i j)))) D2) (lcp_start hD2) (fun _ _ _ _ => trivial) ?_ ?_
    · rintro j x F1 F2 hj P1 ⟨rfl, rfl⟩
      rw [lb] at hj
      have hi2 : i < n + 1 := by omega
      have hj2 : j < n + 1 := by omega
      have sF := PF.1.trans P1.1
      obtain ⟨vs1, b1, r1, x1, x2, x3', x4⟩ := (mA.same sF).get3 sA hi2 hj2
      obtain ⟨vs2, b2, r2, y1, y2, y3, y4⟩ := (mB.same sF).get3 sB hi2 hj2
      refine ⟨rfl, tyes ?_⟩
      refine ⟨_, rfl, _, rfl, pa, _, _, _, rfl, rfl, x1, by rw [Int.zero_add]; exact x2, _, rfl, b1, _, _, _, rfl, rfl, x3', by rw [Int.zero_add]; exact x4, ?_⟩
      refine ⟨_, rfl, _, rfl, pb, _, _, _, rfl, rfl, y1, by rw [Int.zero_add]; exact y2, _, rfl, b2, _, _, _, rfl, rfl, y3, by rw [Int.zero_add]; exact y4, _, _, rfl, ?_⟩
      refine lcp_same P1 hD2 (Same.refl _) (lt_line (by omega)) RInt.mono ⟨_, map_get (range_get hj2), ?_⟩
      rw [hull_max nA nB hi2 hj2]
      congr 1
      split <;> omega
    · intro F1 P1
      have ei := lcp_ints (K := K) P1 (by rw [lb]; simp)
      refine ⟨D2, _, rfl, .inl ⟨SqL.of ei, fun t ht => ?_⟩⟩
      have sF := P1.1.trans (Same.new ht (.tup (((List.range (n + 1)).map fun j => lmax ((A ++ B).map (dif i j))).map V.int)))
      have tn : t ≠ pr := fun z => by
        have := P1.1 _ _ a1
        rw [← z, ht] at this
        cases this
      refine ⟨pr, acc, _, rfl, rfl, sF _ _ a1, lt_line (by omega), ⟨_, rfl⟩, ?_⟩
      exact lcp_put PF a1 hpr sF (lt_line (by omega)) RRow.mono ⟨t, _, rfl, map_get (range_get (by omega)), tn, Sq.upd_sameT⟩
  · rintro σ F ⟨⟨x3, rfl⟩, PF⟩
    obtain ⟨as, h1, h2, h3⟩ := lcp_rows PF (by rw [lb]; simp [hullM])
    refine ⟨_, rfl, pr, _, rfl, .inl ⟨h1, fun l hl => ?_⟩⟩
    refine q (.ref l) _ (PF.1.trans (Same.new hl _)) ?_
    rw [hull_some (fun z => nA (List.append_eq_nil_iff.mp z).1)]
    exact ⟨l, rfl, as, Sq.upd_sameT, h2, fun i a r e1 e2 => Sq.same (Same.new hl _) (h3 i a r e1 e2)⟩
end
/-! ### law k26: the value of a flag expression (the law's own) -/
def evF (E : Env26) (ρ : Str → Int) : Fl → Bool
  | .flag b => b
  | .var z => E.f z
  | .same r s => decide (E.rv r = E.rv s)
  | .cmp o a b => o.ap (evE ρ a) (evE ρ b)
  | .not a => !evF E ρ a
  | .and a b => evF E ρ a && evF E ρ b
  | .or a b => evF E ρ a || evF E ρ b
def RfEv (kvs : List (Key × V)) (E : Env26) : Rf → Prop
  | .null => True
  | .var z => valV kvs (Sum.inr z) = some (E.r z) ∧ Flat2 (E.r z)
def FlEv (kvs : List (Key × V)) (ρ : Str → Int) (E : Env26) : Fl → Prop
  | .flag _ => True
  | .var z => valV kvs (Sum.inr z) = some (.bl (E.f z))
  | .same r s => RfEv kvs E r ∧ RfEv kvs E s
  | .cmp _ a b => EvAt kvs ρ a ∧ EvAt kvs ρ b
  | .not a => FlEv kvs ρ E a
  | .and a b => FlEv kvs ρ E a ∧ FlEv kvs ρ E b
  | .or a b => FlEv kvs ρ E a ∧ FlEv kvs ρ E b
theorem RfEv.flat {kvs : List (Key × V)} {E : Env26} : ∀ {r : Rf}, RfEv kvs E r → Flat2 (E.rv r)
  | .null, _ => .inl rfl
  | .var _, h => h.2
theorem Ef.ok.up' {S : List Str} : ∀ {m : Nat} {e : Ef}, e.ok S m → e.ok S (m + 1)
  | 0, _, h => h.elim
  | _ + 1, .num _, h => h
  | _ + 1, .var _, h => h
  | _ + 1, .bin _ _ _, h => ⟨h.1.up', h.2.up'⟩
theorem Ef.ok.le' {S : List Str} {a b : Nat} {e : Ef} (h : e.ok S a) (l : a ≤ b) : e.ok S b := by
  induction l with
  | refl => exact h
  | step _ ih => exact ih.up'
def spV26 (K : PySem.W.Frag) (L : Nat) : Sp := fun vs H Q _ => ∃ (v : V) (d : Addr) (kvs : List (Key × V)), vs = [v, .ref d] ∧ H d = some (.dK kvs) ∧
  ((∃ (e : Ef) (S : List Str) (ρ : Str → Int), EfAt K H e v ∧ e.ok S L ∧ EvAt kvs ρ e ∧ (∀ z, Bd 40 (ρ z)) ∧ ∀ H', Same H H' → Q (.int (evE ρ e)) H') ∨
   (∃ (r : Rf) (E : Env26), RfAt K H r v ∧ 1 ≤ L ∧ RfEv kvs E r ∧ ∀ H', Same H H' → Q (E.rv r) H') ∨
   (∃ (fl : Fl) (S SF SR : List Str) (ρ : Str → Int) (E : Env26) (m : Nat), FlAt K H fl v ∧ fl.ok S SF SR m ∧ m + 3 ≤ L ∧ FlEv kvs ρ E fl ∧ (∀ z, Bd 40 (ρ z)) ∧ ∀ H', Same H H' → Q (.bl (evF E ρ fl)) H'))
section
variable {P : Program} {w : World} {K : PySem.W.Frag} {mg : Str → Option Value} {base : Heap}
theorem ok_l_valueV (T : Txt w K mg) : ∀ m : Nat, m ≤ 8 → FnOk P w K mg base CX0 m T.a_l_value T.d_l_value p_l_value (spV26 K m)
  | 0, _ => fn_vac fun vs H Q E h => by
    obtain ⟨v, d, kvs, _, _, h⟩ := h
    rcases h with ⟨e, S, ρ, _, h, _⟩ | ⟨r, E, _, h, _⟩ | ⟨fl, S, SF, SR, ρ, E, m, _, _, h, _⟩
    · exact h
    · omega
    · omega
  | m + 1, hm => by
    have g_l_value := ok_l_valueV T m (by omega)
    refine T.F_l_value.ok sc_l_value (fun vs H Q E h => ?_) (fun cdv A outer s H vs Q E hr h => ?_)
    · obtain ⟨v, d, kvs, rfl, _⟩ := h
      rfl
    obtain ⟨v, d, kvs, rfl, hd, h⟩ := h
    refine ⟨_, (pss_cons (ps_set (i := 2) sc_l_value.nd rfl (Or.inl rfl) (pe_ix ix_tup (pv 0) pe_int (fun _ _ => rfl)))
      (pss_cons (ps_if (pt_cmpR op_eq (pv 2) pe_str (nomark _)) (pss_one (ps_ret pe_non)) pss_nil)
      (pss_cons (ps_if (pt_cmpR op_eq (pv 2) pe_str (nomark _)) (pss_one (ps_ret (pe_dget (hu_of hr) (pv 1) (pe_ix ix_tup (pv 0) pe_int (fun _ _ => rfl)) (fun _ _ => rfl)))) pss_nil)
      (pss_cons (ps_if (PW.pt (pw_or (pt_cmpR op_eq (pv 2) pe_str (nomark _)) (pw_or1 (pt_cmpR op_eq (pv 2) pe_str (nomark _))))) (pss_one (ps_ret (pe_ix ix_tup (pv 0) pe_int (fun _ _ => rfl)))) pss_nil)
      (pss_cons (ps_set (i := 3) sc_l_value.nd rfl (Or.inl rfl) (pe_call g_l_value (hr.mono (by first | decide | omega)) rfl T.m_l_value T.F_l_value.kp T.b_l_value .nil pass0 (pa_cons (pe_ix ix_tup (pv 0) pe_int (fun _ _ => rfl)) (pa_cons (pv 1) pa_nil))))
      (pss_cons (ps_if (pt_cmpR op_eq (pv 2) pe_str (nomark _)) (pss_one (ps_ret (pe_not (pv 3)))) pss_nil)
      (pss_cons (ps_set (i := 4) sc_l_value.nd rfl (Or.inl rfl) (pe_call g_l_value (hr.mono (by first | decide | omega)) rfl T.m_l_value T.F_l_value.kp T.b_l_value .nil pass0 (pa_cons (pe_ix ix_tup (pv 0) pe_int (fun _ _ => rfl)) (pa_cons (pv 1) pa_nil))))
      (pss_cons (ps_if (pt_cmpR op_in_seq (pv 2) (pe_lst (pa_cons pe_str (pa_cons pe_str (pa_cons pe_str pa_nil)))) (by rfl)) (pss_one (ps_ret (pe_ix ix_list (pe_lst (pa_cons (pe_op op_add (pv 3) (pv 4)) (pa_cons (pe_op op_sub (pv 3) (pv 4)) (pa_cons (pe_op op_mulW (pv 3) (pv 4)) pa_nil)))) (pe_bm PySem.F.plainAttrs_list PySem.F.slot_list_index PySem.F.type_list_index mt_index (pe_lst (pa_cons pe_str (pa_cons pe_str (pa_cons pe_str pa_nil)))) (pa_cons (pv 2) pa_nil)) (fun _ _ => rfl)))) pss_nil)
      (pss_cons (ps_if (pt_cmpR op_in_seq (pv 2) (pe_lst (pa_cons pe_str (pa_cons pe_str pa_nil))) (by rfl)) (pss_one (ps_ret (pe_or (pe_cmpR op_lt (pv 3) (pv 4) (nomark _)) (pe_one (pe_and (pe_cmpR op_eq (pv 2) pe_str (nomark _)) (pe_one (pe_cmpR op_eq (pv 3) (pv 4) (nomark _)))))))) pss_nil)
      (pss_cons (ps_if (pt_cmpR op_eq (pv 2) pe_str (nomark _)) (pss_one (ps_ret (pe_and (pv 3) (pe_one (pv 4))))) pss_nil)
      (pss_cons (ps_if (pt_cmpR op_eq (pv 2) pe_str (nomark _)) (pss_one (ps_ret (pe_or (pv 3) (pe_one (pv 4))))) pss_nil)
      (pss_one (ps_ret (pe_cmpR op_eq (pe_cmpR op_eq (pv 3) (pv 4) (nomark _)) (pe_cmpR op_ne (pv 2) pe_str (nomark _)) (nomark _))))))))))))))), ?_⟩
    rcases h with ⟨e, S, ρ, hx, ho, hv, hρ, q⟩ | ⟨r, Ev, hx, _, hv, q⟩ | ⟨fl, S, SF, SR, ρ, Ev, k, hx, ho, hk, hv, hρ, q⟩
    · cases e with
      | num i =>
        obtain ⟨p, rfl, hp⟩ := hx
        refine ⟨_, rfl, p, _, _, _, rfl, rfl, hp, rfl, _, rfl, rfl, _, rfl, ifF (by decide +kernel) ?_⟩
        refine ⟨_, rfl, rfl, _, rfl, ifF (by decide +kernel) ?_⟩
        refine ⟨_, rfl, rfl, _, rfl, ifT (by decide +kernel) (iteT ?_)⟩
        exact ⟨_, rfl, p, _, _, _, rfl, rfl, hp, rfl, q _ (Same.refl H)⟩
      | var z =>
        obtain ⟨p, rfl, hp⟩ := hx
        refine ⟨_, rfl, p, _, _, _, rfl, rfl, hp, rfl, _, rfl, rfl, _, rfl, ifF (by decide +kernel) ?_⟩
        refine ⟨_, rfl, rfl, _, rfl, ifT (by decide +kernel) ?_⟩
        exact ⟨_, rfl, _, rfl, p, _, _, _, rfl, rfl, hp, rfl, d, _, rfl, DGet.at (k := Sum.inr z) hd hv, q _ (Same.refl H)⟩
      | bin o a b =>
        obtain ⟨p, x, y, rfl, hp, hx, hy⟩ := hx
        have n1 : ¬ (V.str o.s = V.str "null") := by cases o <;> decide +kernel
        have n2 : ¬ (V.str o.s = V.str "name") := by cases o <;> decide +kernel
        have n3 : ¬ (V.str o.s = V.str "num") := by cases o <;> decide +kernel
        have n4 : ¬ (V.str o.s = V.str "flag") := by cases o <;> decide +kernel
        have n5 : ¬ (V.str o.s = V.str "not") := by cases o <;> decide +kernel
        have ea := ev_bd hρ ho.1
        have eb := ev_bd hρ ho.2
        have el := Eb_le (m := m) (by omega)
        refine ⟨_, rfl, p, _, _, _, rfl, rfl, hp, rfl, _, rfl, rfl, _, rfl, ifF (decide_eq_false n1) ?_⟩
        refine ⟨_, rfl, rfl, _, rfl, ifF (decide_eq_false n2) ?_⟩
        refine ⟨_, rfl, rfl, _, rfl, ifF (decide_eq_false n3) ⟨_, rfl, rfl, _, rfl, ifF (decide_eq_false n4) ?_⟩⟩
        refine ⟨_, rfl, p, _, _, _, rfl, rfl, hp, rfl, _, rfl, x, d, kvs, rfl, hd, .inl ⟨a, S, ρ, hx, ho.1, hv.1, hρ, fun H1 s1 => ?_⟩⟩
        refine ⟨_, rfl, rfl, _, rfl, ifF (decide_eq_false n5) ?_⟩
        have hp1 := Same.tup s1 hp
        refine ⟨_, rfl, p, _, _, _, rfl, rfl, hp1, rfl, _, rfl, y, d, kvs, rfl, s1 _ _ hd, .inl ⟨b, S, ρ, hy.same s1, ho.2, hv.2, hρ, fun H2 s2 => ?_⟩⟩
        have s12 := s1.trans s2
        refine ⟨_, rfl, by show 3 ≤ sizeLine; decide, fun l hl => ⟨l, _, rfl, .inl (SqL.of upd_same), rfl, rfl, _, rfl, ?_⟩⟩
        have s3 := Same.new hl (.lst [.str "+", .str "-", .str "*"])
        have s13 := s12.trans s3
        refine ifT (by cases o <;> decide +kernel) ?_
        generalize ei : evE ρ a = i at *
        generalize ej : evE ρ b = j at *
        have eq1 : evE ρ (.bin o a b) = o.ap i j := by
          show o.ap (evE ρ a) (evE ρ b) = _
          rw [ei, ej]
        rw [eq1] at q
        refine ⟨_, rfl, _, rfl, i, j, rfl, rfl, _, rfl, _, rfl, i, j, rfl, rfl, _, rfl, _, rfl, i, j, rfl, rfl, mulW ea eb (by omega) (by omega), by show 3 ≤ sizeLine; decide, fun l2 hl2 => ?_⟩
        have s4 := Same.new hl2 (.lst [.int (i + j), .int (i - j), .int (i * j)])
        refine ⟨by show 3 ≤ sizeLine; decide, fun l3 hl3 => ⟨.inl ⟨rfl, _, SqL.of upd_same⟩, _, rfl, ?_⟩⟩
        have s5 := Same.new hl3 (.lst [.str "+", .str "-", .str "*"])
        have sE := s13.trans (s4.trans s5)
        have hl2' := s5 _ _ (upd_same (H := upd H2 l (.lst [.str "+", .str "-", .str "*"])) (a := l2) (o := .lst [.int (i + j), .int (i - j), .int (i * j)]))
        cases o with
        | add =>
          refine ⟨l3, _, _, 0, _, rfl, rfl, SqL.of upd_same, rfl, rfl, rfl, by decide +kernel, fun m' z' hm' _ => by omega, ?_⟩
          exact ⟨l2, _, 0, _, rfl, rfl, SqL.of hl2', rfl, q _ sE⟩
        | sub =>
          refine ⟨l3, _, _, 1, _, rfl, rfl, SqL.of upd_same, rfl, rfl, rfl, by decide +kernel, fun m' z' hm' hz => ?_, ?_⟩
          · obtain rfl : m' = 0 := by omega
            cases hz
            decide +kernel
          · exact ⟨l2, _, 1, _, rfl, rfl, SqL.of hl2', rfl, q _ sE⟩
        | mul =>
          refine ⟨l3, _, _, 2, _, rfl, rfl, SqL.of upd_same, rfl, rfl, rfl, by decide +kernel, fun m' z' hm' hz => ?_, ?_⟩
          · have hm2 : m' = 0 ∨ m' = 1 := by omega
            rcases hm2 with rfl | rfl
            · cases hz
              decide +kernel
            · cases hz
              decide +kernel
          · exact ⟨l2, _, 2, _, rfl, rfl, SqL.of hl2', rfl, q _ sE⟩
    · cases r with
      | null =>
        obtain ⟨p, rfl, hp⟩ := hx
        refine ⟨_, rfl, p, _, _, _, rfl, rfl, hp, rfl, _, rfl, rfl, _, rfl, ifT (by decide +kernel) ?_⟩
        exact q H (Same.refl _)
      | var z =>
        obtain ⟨p, rfl, hp⟩ := hx
        refine ⟨_, rfl, p, _, _, _, rfl, rfl, hp, rfl, _, rfl, rfl, _, rfl, ifF (by decide +kernel) ?_⟩
        refine ⟨_, rfl, rfl, _, rfl, ifT (by decide +kernel) ?_⟩
        exact ⟨_, rfl, _, rfl, p, _, _, _, rfl, rfl, hp, rfl, d, _, rfl, DGet.at (k := Sum.inr z) hd hv.1, q _ (Same.refl H)⟩
    · cases k with
      | zero => exact ho.elim
      | succ k =>
      cases fl with
      | flag b =>
        obtain ⟨p, rfl, hp⟩ := hx
        refine ⟨_, rfl, p, _, _, _, rfl, rfl, hp, rfl, _, rfl, rfl, _, rfl, ifF (by decide +kernel) ?_⟩
        refine ⟨_, rfl, rfl, _, rfl, ifF (by decide +kernel) ?_⟩
        refine ⟨_, rfl, rfl, _, rfl, ifF (by decide +kernel) ⟨_, rfl, rfl, _, rfl, ifT (by decide +kernel) ?_⟩⟩
        exact ⟨_, rfl, p, _, _, _, rfl, rfl, hp, rfl, q _ (Same.refl H)⟩
      | var z =>
        obtain ⟨p, rfl, hp⟩ := hx
        refine ⟨_, rfl, p, _, _, _, rfl, rfl, hp, rfl, _, rfl, rfl, _, rfl, ifF (by decide +kernel) ?_⟩
        refine ⟨_, rfl, rfl, _, rfl, ifT (by decide +kernel) ?_⟩
        exact ⟨_, rfl, _, rfl, p, _, _, _, rfl, rfl, hp, rfl, d, _, rfl, DGet.at (k := Sum.inr z) hd hv, q _ (Same.refl H)⟩
      | not a =>
        obtain ⟨p, x, rfl, hp, hx⟩ := hx
        refine ⟨_, rfl, p, _, _, _, rfl, rfl, hp, rfl, _, rfl, rfl, _, rfl, ifF (by decide +kernel) ?_⟩
        refine ⟨_, rfl, rfl, _, rfl, ifF (by decide +kernel) ?_⟩
        refine ⟨_, rfl, rfl, _, rfl, ifF (by decide +kernel) ⟨_, rfl, rfl, _, rfl, ifF (by decide +kernel) ?_⟩⟩
        refine ⟨_, rfl, p, _, _, _, rfl, rfl, hp, rfl, _, rfl, x, d, kvs, rfl, hd, .inr (.inr ⟨a, S, SF, SR, ρ, Ev, k, hx, ho, by omega, hv, hρ, fun H1 s1 => ?_⟩)⟩
        refine ⟨_, rfl, rfl, _, rfl, ifT (by decide +kernel) ?_⟩
        exact ⟨_, rfl, _, rfl, q H1 s1⟩
      | and a b =>
        obtain ⟨p, x, y, rfl, hp, ha, hb⟩ := hx
        refine ⟨_, rfl, p, _, _, _, rfl, rfl, hp, rfl, _, rfl, rfl, _, rfl, ifF (by decide +kernel) ?_⟩
        refine ⟨_, rfl, rfl, _, rfl, ifF (by decide +kernel) ?_⟩
        refine ⟨_, rfl, rfl, _, rfl, ifF (by decide +kernel) ⟨_, rfl, rfl, _, rfl, ifF (by decide +kernel) ?_⟩⟩
        refine ⟨_, rfl, p, _, _, _, rfl, rfl, hp, rfl, _, rfl, x, d, kvs, rfl, hd, .inr (.inr ⟨a, S, SF, SR, ρ, Ev, k, ha, ho.1, by omega, hv.1, hρ, fun H1 s1 => ?_⟩)⟩
        refine ⟨_, rfl, rfl, _, rfl, ifF (by decide +kernel) ?_⟩
        refine ⟨_, rfl, p, _, _, _, rfl, rfl, Same.tup s1 hp, rfl, _, rfl, y, d, kvs, rfl, s1 _ _ hd, .inr (.inr ⟨b, S, SF, SR, ρ, Ev, k, hb.same s1, ho.2, by omega, hv.2, hρ, fun H2 s2 => ?_⟩)⟩
        have s12 := s1.trans s2
        refine ⟨_, rfl, by show 3 ≤ sizeLine; decide, fun l hl => ⟨l, _, rfl, .inl (SqL.of upd_same), rfl, rfl, _, rfl, ?_⟩⟩
        have s13 := s12.trans (Same.new hl (.lst [.str "+", .str "-", .str "*"]))
        refine ifF (by decide +kernel) ?_
        refine ⟨_, rfl, by show 2 ≤ sizeLine; decide, fun l2 hl2 => ⟨l2, _, rfl, .inl (SqL.of upd_same), rfl, rfl, _, rfl, ?_⟩⟩
        have sE := s13.trans (Same.new hl2 (.lst [.str "<", .str "<="]))
        refine ifF (by decide +kernel) ⟨_, rfl, rfl, _, rfl, ifT (by decide +kernel) ⟨_, rfl, _, rfl, ?_⟩⟩
        have q2 : Q (.bl (evF Ev ρ a && evF Ev ρ b)) _ := q _ sE
        cases c : evF Ev ρ a with
        | true =>
          rw [c] at q2
          exact iteT ⟨_, rfl, q2⟩
        | false =>
          rw [c] at q2
          exact iteF q2
      | or a b =>
        obtain ⟨p, x, y, rfl, hp, ha, hb⟩ := hx
        refine ⟨_, rfl, p, _, _, _, rfl, rfl, hp, rfl, _, rfl, rfl, _, rfl, ifF (by decide +kernel) ?_⟩
        refine ⟨_, rfl, rfl, _, rfl, ifF (by decide +kernel) ?_⟩
        refine ⟨_, rfl, rfl, _, rfl, ifF (by decide +kernel) ⟨_, rfl, rfl, _, rfl, ifF (by decide +kernel) ?_⟩⟩
        refine ⟨_, rfl, p, _, _, _, rfl, rfl, hp, rfl, _, rfl, x, d, kvs, rfl, hd, .inr (.inr ⟨a, S, SF, SR, ρ, Ev, k, ha, ho.1, by omega, hv.1, hρ, fun H1 s1 => ?_⟩)⟩
        refine ⟨_, rfl, rfl, _, rfl, ifF (by decide +kernel) ?_⟩
        refine ⟨_, rfl, p, _, _, _, rfl, rfl, Same.tup s1 hp, rfl, _, rfl, y, d, kvs, rfl, s1 _ _ hd, .inr (.inr ⟨b, S, SF, SR, ρ, Ev, k, hb.same s1, ho.2, by omega, hv.2, hρ, fun H2 s2 => ?_⟩)⟩
        have s12 := s1.trans s2
        refine ⟨_, rfl, by show 3 ≤ sizeLine; decide, fun l hl => ⟨l, _, rfl, .inl (SqL.of upd_same), rfl, rfl, _, rfl, ?_⟩⟩
        have s13 := s12.trans (Same.new hl (.lst [.str "+", .str "-", .str "*"]))
        refine ifF (by decide +kernel) ?_
        refine ⟨_, rfl, by show 2 ≤ sizeLine; decide, fun l2 hl2 => ⟨l2, _, rfl, .inl (SqL.of upd_same), rfl, rfl, _, rfl, ?_⟩⟩
        have sE := s13.trans (Same.new hl2 (.lst [.str "<", .str "<="]))
        refine ifF (by decide +kernel) ⟨_, rfl, rfl, _, rfl, ifF (by decide +kernel) ⟨_, rfl, rfl, _, rfl, ifT (by decide +kernel) ⟨_, rfl, _, rfl, ?_⟩⟩⟩
        have q2 : Q (.bl (evF Ev ρ a || evF Ev ρ b)) _ := q _ sE
        cases c : evF Ev ρ a with
        | true =>
          rw [c] at q2
          exact iteT q2
        | false =>
          rw [c] at q2
          exact iteF ⟨_, rfl, q2⟩
      | same r t =>
        obtain ⟨p, x, y, rfl, hp, ha, hb⟩ := hx
        refine ⟨_, rfl, p, _, _, _, rfl, rfl, hp, rfl, _, rfl, rfl, _, rfl, ifF (by decide +kernel) ?_⟩
        refine ⟨_, rfl, rfl, _, rfl, ifF (by decide +kernel) ?_⟩
        refine ⟨_, rfl, rfl, _, rfl, ifF (by decide +kernel) ⟨_, rfl, rfl, _, rfl, ifF (by decide +kernel) ?_⟩⟩
        refine ⟨_, rfl, p, _, _, _, rfl, rfl, hp, rfl, _, rfl, x, d, kvs, rfl, hd, .inr (.inl ⟨r, Ev, ha, by omega, hv.1, fun H1 s1 => ?_⟩)⟩
        refine ⟨_, rfl, rfl, _, rfl, ifF (by decide +kernel) ?_⟩
        refine ⟨_, rfl, p, _, _, _, rfl, rfl, Same.tup s1 hp, rfl, _, rfl, y, d, kvs, rfl, s1 _ _ hd, .inr (.inl ⟨t, Ev, hb.keep fun _ _ h => Same.tup s1 h, by omega, hv.2, fun H2 s2 => ?_⟩)⟩
        have s12 := s1.trans s2
        refine ⟨_, rfl, by show 3 ≤ sizeLine; decide, fun l hl => ⟨l, _, rfl, .inl (SqL.of upd_same), rfl, rfl, _, rfl, ?_⟩⟩
        have s13 := s12.trans (Same.new hl (.lst [.str "+", .str "-", .str "*"]))
        refine ifF (by decide +kernel) ?_
        refine ⟨_, rfl, by show 2 ≤ sizeLine; decide, fun l2 hl2 => ⟨l2, _, rfl, .inl (SqL.of upd_same), rfl, rfl, _, rfl, ?_⟩⟩
        have sE := s13.trans (Same.new hl2 (.lst [.str "<", .str "<="]))
        have hf : scal (Ev.rv r) (Ev.rv t) = true := by
          rcases hv.1.flat with e1 | ⟨i, e1⟩ <;> rcases hv.2.flat with e2 | ⟨j, e2⟩ <;> rw [e1, e2] <;> rfl
        have q2 : Q (.bl (decide (Ev.rv r = Ev.rv t))) _ := q _ sE
        refine ifF (by decide +kernel) ⟨_, rfl, rfl, _, rfl, ifF (by decide +kernel) ⟨_, rfl, rfl, _, rfl, ifF (by decide +kernel) ⟨_, rfl, _, rfl, hf, _, rfl, rfl, rfl, ?_⟩⟩⟩
        by_cases e : Ev.rv r = Ev.rv t
        · rw [decide_eq_true e] at q2 ⊢
          exact q2
        · rw [decide_eq_false e] at q2 ⊢
          exact q2
      | cmp o a b =>
        obtain ⟨p, x, y, rfl, hp, ha, hb⟩ := hx
        refine ⟨_, rfl, p, _, _, _, rfl, rfl, hp, rfl, _, rfl, rfl, _, rfl, ifF (decide_eq_false (by cases o <;> decide +kernel)) ?_⟩
        refine ⟨_, rfl, rfl, _, rfl, ifF (decide_eq_false (by cases o <;> decide +kernel)) ?_⟩
        refine ⟨_, rfl, rfl, _, rfl, ifF (decide_eq_false (by cases o <;> decide +kernel)) ⟨_, rfl, rfl, _, rfl, ifF (decide_eq_false (by cases o <;> decide +kernel)) ?_⟩⟩
        refine ⟨_, rfl, p, _, _, _, rfl, rfl, hp, rfl, _, rfl, x, d, kvs, rfl, hd, .inl ⟨a, S, ρ, ha, ho.1.le' (by omega), hv.1, hρ, fun H1 s1 => ?_⟩⟩
        refine ⟨_, rfl, rfl, _, rfl, ifF (decide_eq_false (by cases o <;> decide +kernel)) ?_⟩
        refine ⟨_, rfl, p, _, _, _, rfl, rfl, Same.tup s1 hp, rfl, _, rfl, y, d, kvs, rfl, s1 _ _ hd, .inl ⟨b, S, ρ, hb.same s1, ho.2.le' (by omega), hv.2, hρ, fun H2 s2 => ?_⟩⟩
        have s12 := s1.trans s2
        refine ⟨_, rfl, by show 3 ≤ sizeLine; decide, fun l hl => ⟨l, _, rfl, .inl (SqL.of upd_same), rfl, rfl, _, rfl, ?_⟩⟩
        have s13 := s12.trans (Same.new hl (.lst [.str "+", .str "-", .str "*"]))
        refine ifF (by cases o <;> decide +kernel) ?_
        refine ⟨_, rfl, by show 2 ≤ sizeLine; decide, fun l2 hl2 => ⟨l2, _, rfl, .inl (SqL.of upd_same), rfl, rfl, _, rfl, ?_⟩⟩
        have sE := s13.trans (Same.new hl2 (.lst [.str "<", .str "<="]))
        have q2 : Q (.bl (o.ap (evE ρ a) (evE ρ b))) _ := q _ sE
        generalize evE ρ a = i at q2 ⊢
        generalize evE ρ b = j at q2 ⊢
        cases o with
        | lt =>
          refine ifT (by decide +kernel) ⟨_, rfl, _, rfl, i, j, rfl, rfl, _, rfl, ?_⟩
          have q2 : Q (.bl (decide (i < j))) _ := q2
          refine ite2 (fun h => ?_) (fun h => ⟨_, rfl, rfl, _, rfl, ifF (by decide +kernel) ?_⟩)
          · rwa [h] at q2
          · have h' : decide (i < j) = false := Bool.eq_false_iff.mpr h
            rwa [h'] at q2
        | le =>
          have q2 : Q (.bl (decide (i ≤ j))) _ := q2
          refine ifT (by decide +kernel) ⟨_, rfl, _, rfl, i, j, rfl, rfl, _, rfl, ?_⟩
          refine ite2 (fun h => ?_) (fun h => ⟨_, rfl, rfl, _, rfl, ifT (by decide +kernel) ⟨_, rfl, _, rfl, rfl, ?_⟩⟩)
          · have h' : i < j := of_decide_eq_true h
            rwa [decide_eq_true (show i ≤ j by omega)] at q2
          · have h' : ¬ i < j := of_decide_eq_false (Bool.eq_false_iff.mpr h)
            by_cases e : i = j
            · rw [decide_eq_true (show i ≤ j by omega)] at q2
              rwa [decide_eq_true (congrArg V.int e)]
            · rw [decide_eq_false (show ¬ i ≤ j by omega)] at q2
              rwa [decide_eq_false (fun z => e (V.int.inj z))]
        | eq =>
          have q2 : Q (.bl (decide (i = j))) _ := q2
          refine ifF (by decide +kernel) ⟨_, rfl, rfl, _, rfl, ifF (by decide +kernel) ⟨_, rfl, rfl, _, rfl, ifF (by decide +kernel) ⟨_, rfl, _, rfl, rfl, _, rfl, rfl, rfl, ?_⟩⟩⟩
          by_cases e : i = j
          · rw [decide_eq_true e] at q2
            rw [decide_eq_true (congrArg V.int e)]
            exact q2
          · rw [decide_eq_false e] at q2
            rw [decide_eq_false (fun z => e (V.int.inj z))]
            exact q2
        | ne =>
          have q2 : Q (.bl (decide (i ≠ j))) _ := q2
          refine ifF (by decide +kernel) ⟨_, rfl, rfl, _, rfl, ifF (by decide +kernel) ⟨_, rfl, rfl, _, rfl, ifF (by decide +kernel) ⟨_, rfl, _, rfl, rfl, _, rfl, rfl, rfl, ?_⟩⟩⟩
          by_cases e : i = j
          · rw [decide_eq_false (fun z => z e)] at q2
            rw [decide_eq_true (congrArg V.int e)]
            exact q2
          · rw [decide_eq_true e] at q2
            rw [decide_eq_false (fun z => e (V.int.inj z))]
            exact q2
end
/-! ### the law's cuts are the program's (as in Ask24.inc) -/
theorem ifc {c d : Prop} [Decidable c] [Decidable d] {α : Type} {x y : α} (h : c ↔ d) : (if c then x else y) = (if d then x else y) := by
  by_cases g : c
  · rw [if_pos g, if_pos (h.mp g)]
  · rw [if_neg g, if_neg (fun z => g (h.mpr z))]
theorem law_am {cs : List Int} {lo hi x : Int} {Ps : List (List Int)} : lawL cs lo hi none (some x) Ps = amL cs.length cs lo x Ps := by
  unfold lawL amL
  by_cases s : Simple cs
  · rw [if_pos s, if_pos s]
    unfold KeepLe
    refine List.filter_congr fun p _ => ?_
    show (decide (val cs p + lo ≤ x) && true) = _
    rw [Bool.and_true]
  · rw [if_neg s, if_neg s]
    refine ifc ⟨fun h => ?_, fun h => .inr ⟨x, rfl, h⟩⟩
    rcases h with ⟨y, e, _⟩ | ⟨y, e, h⟩
    · cases e
    · cases e
      exact h
theorem law_al {cs : List Int} {lo hi x : Int} {Ps : List (List Int)} : lawL cs lo hi (some x) none Ps = alL cs.length cs hi x Ps := by
  unfold lawL alL amL
  by_cases s : Simple cs
  · rw [if_pos s, if_pos (neg_simple.mpr s)]
    unfold KeepLe
    refine List.filter_congr fun p _ => ?_
    show (true && decide (x ≤ val cs p + hi)) = _
    rw [Bool.true_and, neg_val, decide_eq_decide]
    omega
  · rw [if_neg s, if_neg (fun z => s (neg_simple.mp z)), neg_span]
    refine ifc ⟨fun h => ?_, fun h => .inl ⟨x, rfl, by omega⟩⟩
    rcases h with ⟨y, e, h⟩ | ⟨y, e, _⟩
    · cases e
      omega
    · cases e
theorem law_eq {cs : List Int} {lo hi x : Int} {Ps : List (List Int)} : lawL cs lo hi (some x) (some x) Ps = alL cs.length cs hi x (amL cs.length cs lo x Ps) := by
  rw [← law_al (lo := lo), ← law_am (hi := hi)]
  unfold lawL
  by_cases s : Simple cs
  · rw [if_pos s, if_pos s, if_pos s, List.filter_filter]
    refine List.filter_congr fun p _ => ?_
    show (decide (val cs p + lo ≤ x) && decide (x ≤ val cs p + hi)) = ((true && decide (x ≤ val cs p + hi)) && (decide (val cs p + lo ≤ x) && true))
    rw [Bool.true_and, Bool.and_true, Bool.and_comm]
  · rw [if_neg s, if_neg s, if_neg s]
    have e0 : ∀ {c : Prop} [Decidable c], (if c then ([] : List (List Int)) else []) = [] := fun {c} _ => by split <;> rfl
    by_cases h1 : spanLo (hullM cs.length Ps) cs lo > x
    · rw [if_pos (.inr ⟨x, rfl, h1⟩), if_pos (c := (∃ y, (none : Option Int) = some y ∧ _) ∨ ∃ y, some x = some y ∧ _) (.inr ⟨x, rfl, h1⟩), e0]
    · have h3 : ¬ ((∃ y, (none : Option Int) = some y ∧ spanHi (hullM cs.length Ps) cs hi < y) ∨ ∃ y, some x = some y ∧ spanLo (hullM cs.length Ps) cs lo > y) := fun z => by
        rcases z with ⟨y, e, _⟩ | ⟨y, e, h⟩
        · cases e
        · cases e
          exact h1 h
      rw [if_neg h3]
      refine ifc ⟨fun z => ?_, fun z => ?_⟩
      · rcases z with ⟨y, e, h⟩ | ⟨y, e, h⟩
        · exact .inl ⟨y, e, h⟩
        · cases e
          exact absurd h h1
      · rcases z with ⟨y, e, h⟩ | ⟨y, e, h⟩
        · exact .inl ⟨y, e, h⟩
        · cases e
theorem am_has {cs : List Int} {lo x : Int} {Ps : List (List Int)} {r : List Int} (hr : r ∈ Ps) (h : val cs r + lo ≤ x) : r ∈ amL cs.length cs lo x Ps := by
  unfold amL
  by_cases s : Simple cs
  · rw [if_pos s]
    exact mem_keep.mpr ⟨hr, h⟩
  · rw [if_neg s]
    have := span_val (cs := cs) (lo := lo) hr
    rw [if_neg (by omega)]
    exact hr
theorem al_has {cs : List Int} {hi x : Int} {Ps : List (List Int)} {r : List Int} (hr : r ∈ Ps) (h : x ≤ val cs r + hi) : r ∈ alL cs.length cs hi x Ps := by
  unfold alL
  have := am_has (cs := cs.map fun c => -c) (lo := -hi) (x := -x) hr (by rw [neg_val]; omega)
  rwa [List.length_map] at this
/-! ### law k26: what is due -/
theorem flt_no (Ps : List (List Int)) : [] = Ps.filter fun _ => false := by
  induction Ps with
  | nil => rfl
  | cons a l ih => rw [List.filter_cons_of_neg (by decide)]; exact ih
theorem flt_all (Ps : List (List Int)) : Ps = Ps.filter fun _ => true := by
  induction Ps with
  | nil => rfl
  | cons a l ih => rw [List.filter_cons_of_pos rfl, ← ih]
theorem am_flt {n : Nat} {cs : List Int} {lo x : Int} {Ps : List (List Int)} : ∃ q : List Int → Bool, amL n cs lo x Ps = Ps.filter q := by
  unfold amL KeepLe
  split
  · exact ⟨_, rfl⟩
  · split
    · exact ⟨fun _ => false, flt_no _⟩
    · exact ⟨fun _ => true, flt_all _⟩
theorem flt_flt {Ps A : List (List Int)} (h : ∃ q : List Int → Bool, A = Ps.filter q) {B : List (List Int)} (k : ∃ q : List Int → Bool, B = A.filter q) : ∃ q : List Int → Bool, B = Ps.filter q := by
  obtain ⟨q, rfl⟩ := h
  obtain ⟨r, rfl⟩ := k
  exact ⟨_, List.filter_filter⟩
theorem fill_flt {n : Nat} {Ps A : List (List Int)} : ∃ q : List Int → Bool, fill n Ps A = Ps.filter q := by
  unfold fill
  split
  · exact ⟨fun _ => false, flt_no _⟩
  · exact ⟨_, rfl⟩
theorem cmp_flt {n : Nat} {F : Fm} {o : Co} {w : Bool} {Ps : List (List Int)} : ∃ q : List Int → Bool, cmpL n F o w Ps = Ps.filter q := by
  cases o <;> cases w
  · exact am_flt
  · exact am_flt
  · exact am_flt
  · exact am_flt
  · exact fill_flt
  · exact flt_flt am_flt am_flt
  · exact flt_flt am_flt am_flt
  · exact fill_flt
theorem asm_flt {E : Env26} {N : List Str} {κ : Str → Int} {n : Nat} (e : Fl) : ∀ {w : Bool} {Ps : List (List Int)}, ∃ q : List Int → Bool, asmL E N κ n e w Ps = Ps.filter q := by
  have ifs : ∀ (c : Prop) [Decidable c] {Ps : List (List Int)}, ∃ q : List Int → Bool, (if c then Ps else []) = Ps.filter q := fun c _ {Ps} => by
    split
    · exact ⟨fun _ => true, flt_all _⟩
    · exact ⟨fun _ => false, flt_no _⟩
  induction e with
  | flag b => intro w Ps; exact ifs _
  | var z => intro w Ps; exact ifs _
  | same r s => intro w Ps; exact ifs _
  | cmp o a b =>
    intro w Ps
    unfold asmL
    split
    · exact ⟨fun _ => false, flt_no _⟩
    · exact cmp_flt
  | not a ih => intro w Ps; exact ih
  | and a b iha ihb =>
    intro w Ps
    cases w with
    | true => exact flt_flt iha ihb
    | false => exact fill_flt
  | or a b iha ihb =>
    intro w Ps
    cases w with
    | false => exact flt_flt iha ihb
    | true => exact fill_flt
theorem in_own {n : Nat} {Ps A : List (List Int)} (hl : ∀ r ∈ Ps, r.length = n) (f : Full n A) (ne : A ≠ []) (k : ∃ q : List Int → Bool, A = Ps.filter q) : Ps.filter (inL n (hullM n A)) = A := by
  obtain ⟨q, e⟩ := k
  rw [e] at f ne ⊢
  refine List.filter_congr fun p hp => ?_
  rw [Bool.eq_iff_iff, inL_iff]
  constructor
  · intro h
    exact (List.mem_filter.mp (f.al ne p (hl p hp) h)).2
  · intro h a ha b hb
    exact hull_le ha hb (List.mem_filter.mpr ⟨hp, h⟩)
def spCpd (K : PySem.W.Frag) : Sp := fun vs H Q _ => ∃ (v : V) (w : Bool) (dk nl p : Addr) (o : Co) (a b : Ef) (kvs : List (Key × V)) (N S : List Str) (κ : Str → Int) (n : Nat) (Ps : List (List Int)), vs = [v, .bl w, .ref dk, .ref nl, .ref p] ∧ Env23 H dk nl p kvs N S κ n Ps ∧ FlAt K H (.cmp o a b) v ∧ a.ok S 3 ∧ b.ok S 3 ∧ Full n Ps ∧ Ps.length ≤ 125 ∧
  ∀ v' H', Same H H' → BoxAt K H' v' (hull n (cmpL n (dfm N κ n Ps a b) o w Ps)) → Q v' H'
section
variable {P : Program} {w : World} {K : PySem.W.Frag} {mg : Str → Option Value} {base : Heap}
theorem ok_l_compared (T : Txt w K mg) : FnOk P w K mg base CX0 30 T.a_l_compared T.d_l_compared p_l_compared (spCpd K) := by
  have g_l_add := ok_l_add (P := P) (w := w) (K := K) (base := base) T 3 (by decide)
  have g_l_cut := ok_l_cut (P := P) (w := w) (K := K) (base := base) T
  have g_l_joined := ok_l_joined (P := P) (w := w) (K := K) (base := base) T
  refine T.F_l_compared.ok sc_l_compared (fun vs H Q E h => ?_) (fun cdv A outer s H vs Q E hr h => ?_)
  · obtain ⟨v, w, dk, nl, p, o, a, b, kvs, N, S, κ, n, Ps, rfl, _⟩ := h
    rfl
  obtain ⟨v, w, dk, nl, p, o, a, b, kvs, N, S, κ, n, Ps, rfl, en, hx, oa, ob, fu, lP, q⟩ := h
  refine ⟨_, (pss_cons (ps_set (i := 5) sc_l_compared.nd rfl (Or.inl rfl) (pe_lst (pa_cons (pe_op op_rep (pe_lst (pa_cons pe_int pa_nil)) (pe_callB call_len_seq rfl T.z_len PySem.boot_len (pa_cons (pe_ix ix_list (pv 4) pe_int (fun _ _ => rfl)) pa_nil))) (pa_cons pe_int (pa_cons pe_int pa_nil)))))
      (pss_cons (ps_expr (pe_call g_l_add (hr.mono (by first | decide | omega)) rfl T.m_l_add T.F_l_add.kp T.b_l_add .nil pass0 (pa_cons (pv 5) (pa_cons (pe_ix ix_tup (pv 0) pe_int (fun _ _ => rfl)) (pa_cons pe_int (pa_cons (pv 2) (pa_cons (pv 3) (pa_cons (pv 4) pa_nil))))))))
      (pss_cons (ps_expr (pe_call g_l_add (hr.mono (by first | decide | omega)) rfl T.m_l_add T.F_l_add.kp T.b_l_add .nil pass0 (pa_cons (pv 5) (pa_cons (pe_ix ix_tup (pv 0) pe_int (fun _ _ => rfl)) (pa_cons (pe_un un_neg pe_int) (pa_cons (pv 2) (pa_cons (pv 3) (pa_cons (pv 4) pa_nil))))))))
      (pss_cons (ps_set (i := 6) sc_l_compared.nd rfl (Or.inl rfl) (pe_tup (pa_cons (pe_callTy call_tuple_of rfl T.z_tuple bt_tuple (pa_cons (pe_ix ix_list (pv 5) pe_int (fun _ _ => rfl)) pa_nil)) (pa_cons (pe_ix ix_list (pv 5) pe_int (fun _ _ => rfl)) (pa_cons (pe_ix ix_list (pv 5) pe_int (fun _ _ => rfl)) pa_nil)))))
      (pss_cons (ps_set (i := 7) sc_l_compared.nd rfl (Or.inl rfl) (pe_ix ix_tup (pv 0) pe_int (fun _ _ => rfl)))
      (pss_cons (ps_if (PW.pt (pw_or (pt_cmpR op_eq (pv 7) pe_str (nomark _)) (pw_or1 (pt_cmpR op_eq (pv 7) pe_str (nomark _))))) (pss_cons (ps_set (i := 8) sc_l_compared.nd rfl (Or.inl rfl) (pe_callTy call_int1 rfl T.z_int bt_int (pa_cons (pe_cmpR op_eq (pv 7) pe_str (nomark _)) pa_nil)))
      (pss_cons (ps_if (pt_val (pv 1)) (pss_one (ps_ret (pe_call g_l_cut (hr.mono (by first | decide | omega)) rfl T.m_l_cut T.F_l_cut.kp T.b_l_cut .nil pass0 (pa_cons (pv 4) (pa_cons (pv 6) (pa_cons pe_non (pa_cons (pe_op op_sub (pv 8) pe_int) pa_nil))))))) pss_nil)
      (pss_one (ps_ret (pe_call g_l_cut (hr.mono (by first | decide | omega)) rfl T.m_l_cut T.F_l_cut.kp T.b_l_cut .nil pass0 (pa_cons (pv 4) (pa_cons (pv 6) (pa_cons (pv 8) (pa_cons pe_non pa_nil))))))))) pss_nil)
      (pss_cons (ps_if (pt_cmpR op_eq (pe_cmpR op_eq (pv 7) pe_str (nomark _)) (pv 1) (nomark _)) (pss_one (ps_ret (pe_call g_l_cut (hr.mono (by first | decide | omega)) rfl T.m_l_cut T.F_l_cut.kp T.b_l_cut .nil pass0 (pa_cons (pv 4) (pa_cons (pv 6) (pa_cons pe_int (pa_cons pe_int pa_nil))))))) pss_nil)
      (pss_one (ps_ret (pe_call g_l_joined (hr.mono (by first | decide | omega)) rfl T.m_l_joined T.F_l_joined.kp T.b_l_joined .nil pass0 (pa_cons (pe_call g_l_cut (hr.mono (by first | decide | omega)) rfl T.m_l_cut T.F_l_cut.kp T.b_l_cut .nil pass0 (pa_cons (pv 4) (pa_cons (pv 6) (pa_cons pe_non (pa_cons (pe_un un_neg pe_int) pa_nil))))) (pa_cons (pe_call g_l_cut (hr.mono (by first | decide | omega)) rfl T.m_l_cut T.F_l_cut.kp T.b_l_cut .nil pass0 (pa_cons (pv 4) (pa_cons (pv 6) (pa_cons pe_int (pa_cons pe_non pa_nil))))) pa_nil)))))))))))), ?_⟩
  obtain ⟨as, hp, ha⟩ := en.p
  have las : 0 < as.length := by rw [ha.1]; exact List.length_pos_iff.mpr en.ne
  have f1 : as[0]? = some as[0] := List.getElem?_eq_getElem las
  have f2 : Ps[0]? = some (Ps[0]'(by rw [← ha.1]; exact las)) := List.getElem?_eq_getElem _
  have g1 := ha.2 0 _ _ f1 f2
  have lr := en.lr _ (List.mem_of_getElem? f2)
  generalize as[0] = a0 at f1 g1
  generalize (Ps[0]'(by rw [← ha.1]; exact las)) = r0 at f2 g1 lr
  have hn := en.hn
  obtain ⟨pv, x, y, rfl, hpv, hxa, hyb⟩ := hx
  refine ⟨(by show 1 ≤ sizeLine; decide), fun l0 hl0 => ?_⟩
  have s0 := Same.new hl0 (.lst [.int 0])
  have h00 : (upd H l0 (.lst [.int 0])) l0 = some (.lst [.int 0]) := upd_same
  refine ⟨_, rfl, p, _, 0, _, rfl, rfl, SqL.of (s0 _ _ hp), atI_nat (j := 0) (map_get f1), a0, _, rfl, .inr (SqT.of (s0 _ _ g1)), ?_⟩
  have ly : (r0.map V.int).length = n := by rw [List.length_map, lr]
  rw [ly]
  refine ⟨l0, n, _, rfl, rfl, h00, by omega, by omega, (by rw [sizeLine_eq]; show 1 * (n : Int).toNat ≤ _; omega), fun l1 hl1 => ?_⟩
  rw [Int.toNat_natCast, rep0]
  have s1 := Same.new hl1 (.lst ((mkR n fun _ => (0 : Int)).map V.int))
  refine ⟨by show 3 ≤ sizeLine; decide, fun t ht => ?_⟩
  have s2 := Same.new ht (.lst [.ref l1, .int 0, .int 0])
  have s02 := (s0.trans s1).trans s2
  have hl1' := s2 _ _ (show (upd (upd H l0 (.lst [.int 0])) l1 (.lst ((mkR n fun _ => (0 : Int)).map V.int))) l1 = some (.lst ((mkR n fun _ => (0 : Int)).map V.int)) from upd_same)
  have nt1 : t ≠ l1 := fun z => by
    rw [z, upd_same] at ht
    cases ht
  have tb0 : TbAt (upd (upd (upd H l0 (.lst [.int 0])) l1 (.lst ((mkR n fun _ => (0 : Int)).map V.int))) t (.lst [.ref l1, .int 0, .int 0])) t l1 n (.con 0) := ⟨nt1, upd_same, hl1'⟩
  have h1n : H l1 = none := by
    cases e1 : H l1 with
    | none => rfl
    | some o => rw [s0 _ _ e1] at hl1; cases hl1
  have htn : H t = none := by
    cases e1 : H t with
    | none => rfl
    | some o => rw [s1 _ _ (s0 _ _ e1)] at ht; cases ht
  have nr : nl ≠ l1 := fun z => by rw [← z, en.nm] at h1n; cases h1n
  refine ⟨_, rfl, _, rfl, pv, _, _, _, rfl, rfl, Same.tup s02 hpv, rfl, _, rfl, _, rfl, _, rfl, t, l1, dk, nl, p, x, 1, 1, .con 0, a, kvs, N, S, κ, n, Ps, rfl, en.same s02, tb0, nr, hxa.same s02, oa, by show (1 : Nat) < 2; decide, by decide, fun H5 k5 tb5 => ?_⟩
  have ef : tb N κ n Ps (.con 0) a 1 = fm N κ n Ps a := by
    unfold tb
    rw [times_one (fm_le a)]
    exact Fm.eq (fun k => Int.zero_add _) (Int.zero_add _) (Int.zero_add _)
  rw [ef] at tb5
  have kp5 := k5.keep (K := K) tb0
  have en5 := (en.same s02).tbk k5 tb0 nr
  refine ⟨_, rfl, _, rfl, pv, _, _, _, rfl, rfl, kp5 _ _ (Same.tup s02 hpv), rfl, _, rfl, _, rfl, _, rfl, _, rfl, t, l1, dk, nl, p, y, -1, 1, fm N κ n Ps a, b, kvs, N, S, κ, n, Ps, rfl, en5, tb5, nr, (hyb.same s02).keep kp5, ob, by show (1 : Nat) < 2; decide, by decide, fun H6 k6 tb6 => ?_⟩
  have tb6 : TbAt H6 t l1 n (dfm N κ n Ps a b) := tb6
  have kp6 := k6.keep (K := K) tb5
  have s06 : Same H H6 := fun c o eb => k6 c o (ne_of_none eb htn) (ne_of_none eb h1n) (k5 c o (ne_of_none eb htn) (ne_of_none eb h1n) (s02 _ _ eb))
  refine ⟨_, rfl, t, _, 0, _, rfl, rfl, SqL.of tb6.2.1, rfl, l1, _, rfl, .inl ⟨SqL.of tb6.2.2, fun l hl => ?_⟩⟩
  have s7 := Same.new hl (.tup ((mkR n (dfm N κ n Ps a b).c).map V.int))
  have t7 := tb6.same s7
  refine ⟨_, rfl, t, _, 1, _, rfl, rfl, SqL.of t7.2.1, rfl, _, rfl, t, _, 2, _, rfl, rfl, SqL.of t7.2.1, rfl, by show 3 ≤ sizeLine; decide, fun f hf => ?_⟩
  have s8 := Same.new hf (.tup [.ref l, .int (dfm N κ n Ps a b).lo, .int (dfm N κ n Ps a b).hi])
  have s08 := s06.trans (s7.trans s8)
  have hF : FmAt K (upd (upd H6 l (.tup ((mkR n (dfm N κ n Ps a b).c).map V.int))) f (.tup [.ref l, .int (dfm N κ n Ps a b).lo, .int (dfm N κ n Ps a b).hi])) f n (dfm N κ n Ps a b) := ⟨l, SqT.of upd_same, SqT.of (s8 _ _ upd_same)⟩
  clear s8 t7 s7 hf hl s06 kp6 tb6 k6 en5 kp5 ef tb5 k5 htn h1n tb0 nt1 nr hl1' s02 s2 ht s1 hl1 h00 s0 hl0
  generalize (upd (upd H6 l (.tup ((mkR n (dfm N κ n Ps a b).c).map V.int))) f (.tup [.ref l, .int (dfm N κ n Ps a b).lo, .int (dfm N κ n Ps a b).hi])) = H8 at s08 hF ⊢
  have ln : (mkR n (dfm N κ n Ps a b).c).length = n := mkR_len
  have en8 := en.same s08
  have cutc : ∀ (G : Hp) (l g : Option Int) (Q2 : VK), Same H8 G → (∀ v' H', Same G H' → BoxAt K H' v' (hull n (lawL (mkR n (dfm N κ n Ps a b).c) (dfm N κ n Ps a b).lo (dfm N κ n Ps a b).hi l g Ps)) → Q2 v' H') → spCut24 K [.ref p, .ref f, oV l, oV g] G Q2 E0 := fun G l g Q2 sG k => by
    refine ⟨f, p, mkR n (dfm N κ n Ps a b).c, _, _, l, g, Ps, rfl, hF.same sG, en.pb, by rw [ln]; exact hn, en8.p.same sG, en.ne, lP, fun r hr => by rw [ln]; exact en.lr r hr, fun v' H' s b => k v' H' s ?_⟩
    rw [ln] at b
    exact b
  have am : ∀ x : Int, lawL (mkR n (dfm N κ n Ps a b).c) (dfm N κ n Ps a b).lo (dfm N κ n Ps a b).hi none (some x) Ps = amL n (mkR n (dfm N κ n Ps a b).c) (dfm N κ n Ps a b).lo x Ps := fun x => by rw [law_am, ln]
  have al : ∀ x : Int, lawL (mkR n (dfm N κ n Ps a b).c) (dfm N κ n Ps a b).lo (dfm N κ n Ps a b).hi (some x) none Ps = alL n (mkR n (dfm N κ n Ps a b).c) (dfm N κ n Ps a b).hi x Ps := fun x => by rw [law_al, ln]
  have eqc : ∀ x : Int, lawL (mkR n (dfm N κ n Ps a b).c) (dfm N κ n Ps a b).lo (dfm N κ n Ps a b).hi (some x) (some x) Ps = alL n (mkR n (dfm N κ n Ps a b).c) (dfm N κ n Ps a b).hi x (amL n (mkR n (dfm N κ n Ps a b).c) (dfm N κ n Ps a b).lo x Ps) := fun x => by rw [law_eq, ln]
  have qq : ∀ v' H', Same H8 H' → BoxAt K H' v' (hull n (cmpL n (dfm N κ n Ps a b) o w Ps)) → Q v' H' := fun v' H' s b => q v' H' (s08.trans s) b
  refine ⟨_, rfl, pv, _, _, _, rfl, rfl, Same.tup s08 hpv, rfl, ?_⟩
  generalize dfm N κ n Ps a b = F at *
  cases o <;> cases w
  · have eE : (if decide (V.str Co.lt.s = V.str (Str.ofString "<=")) = true then (1 : Int) else 0) = 0 := by decide +kernel
    refine ⟨_, rfl, rfl, _, rfl, ifT (by decide +kernel) (iteT ?_)⟩
    refine ⟨_, rfl, rfl, .inr ⟨_, rfl, ?_⟩⟩
    refine ⟨_, rfl, _, rfl, ifF rfl ⟨_, rfl, _, rfl, _, rfl, cutc H8 (some _) none _ (Same.refl _) fun v' H' s b => qq v' H' s ?_⟩⟩
    rw [al, eE] at b
    exact b
  · have eE : (if decide (V.str Co.lt.s = V.str (Str.ofString "<=")) = true then (1 : Int) else 0) = 0 := by decide +kernel
    refine ⟨_, rfl, rfl, _, rfl, ifT (by decide +kernel) (iteT ?_)⟩
    refine ⟨_, rfl, rfl, .inr ⟨_, rfl, ?_⟩⟩
    refine ⟨_, rfl, _, rfl, ifT rfl ⟨_, rfl, _, rfl, _, rfl, _, _, rfl, rfl, cutc H8 none (some _) _ (Same.refl _) fun v' H' s b => qq v' H' s ?_⟩⟩
    rw [am, eE] at b
    exact b
  · have eE : (if decide (V.str Co.le.s = V.str (Str.ofString "<=")) = true then (1 : Int) else 0) = 1 := by decide +kernel
    refine ⟨_, rfl, rfl, _, rfl, ifF (by decide +kernel) ⟨_, rfl, rfl, _, rfl, ifT (by decide +kernel) ?_⟩⟩
    refine ⟨_, rfl, rfl, .inr ⟨_, rfl, ?_⟩⟩
    refine ⟨_, rfl, _, rfl, ifF rfl ⟨_, rfl, _, rfl, _, rfl, cutc H8 (some _) none _ (Same.refl _) fun v' H' s b => qq v' H' s ?_⟩⟩
    rw [al, eE] at b
    exact b
  · have eE : (if decide (V.str Co.le.s = V.str (Str.ofString "<=")) = true then (1 : Int) else 0) = 1 := by decide +kernel
    refine ⟨_, rfl, rfl, _, rfl, ifF (by decide +kernel) ⟨_, rfl, rfl, _, rfl, ifT (by decide +kernel) ?_⟩⟩
    refine ⟨_, rfl, rfl, .inr ⟨_, rfl, ?_⟩⟩
    refine ⟨_, rfl, _, rfl, ifT rfl ⟨_, rfl, _, rfl, _, rfl, _, _, rfl, rfl, cutc H8 none (some _) _ (Same.refl _) fun v' H' s b => qq v' H' s ?_⟩⟩
    rw [am, eE] at b
    exact b
  · refine ⟨_, rfl, rfl, _, rfl, ifF (by decide +kernel) ⟨_, rfl, rfl, _, rfl, ifF (by decide +kernel) ?_⟩⟩
    refine ⟨_, rfl, rfl, _, rfl, rfl, _, rfl, ifF (by decide +kernel) ?_⟩
    refine ⟨_, rfl, _, rfl, _, rfl, cutc H8 none (some (-1)) _ (Same.refl _) fun v1 G1 s1 b1 => ?_⟩
    refine ⟨_, rfl, _, rfl, cutc G1 (some 1) none _ s1 fun v2 G2 s2 b2 => ?_⟩
    rw [am] at b1
    rw [al] at b2
    refine ⟨v1, v2, n, _, _, rfl, by omega, b1.same s2, b2, fun v3 G3 s3 b3 => qq v3 G3 ((s1.trans s2).trans s3) ?_⟩
    have fe := (fill_full fu (A := amL n (mkR n F.c) F.lo (-1) Ps ++ alL n (mkR n F.c) F.hi 1 Ps) fun r hr => (List.mem_append.mp hr).elim (am_sub r) (al_sub r)).2.1
    rw [← fe] at b3
    exact b3
  · refine ⟨_, rfl, rfl, _, rfl, ifF (by decide +kernel) ⟨_, rfl, rfl, _, rfl, ifF (by decide +kernel) ?_⟩⟩
    refine ⟨_, rfl, rfl, _, rfl, rfl, _, rfl, ifT (by decide +kernel) ⟨_, rfl, _, rfl, cutc H8 (some 0) (some 0) _ (Same.refl _) fun v' H' s b => qq v' H' s ?_⟩⟩
    rw [eqc] at b
    exact b
  · refine ⟨_, rfl, rfl, _, rfl, ifF (by decide +kernel) ⟨_, rfl, rfl, _, rfl, ifF (by decide +kernel) ?_⟩⟩
    refine ⟨_, rfl, rfl, _, rfl, rfl, _, rfl, ifT (by decide +kernel) ⟨_, rfl, _, rfl, cutc H8 (some 0) (some 0) _ (Same.refl _) fun v' H' s b => qq v' H' s ?_⟩⟩
    rw [eqc] at b
    exact b
  · refine ⟨_, rfl, rfl, _, rfl, ifF (by decide +kernel) ⟨_, rfl, rfl, _, rfl, ifF (by decide +kernel) ?_⟩⟩
    refine ⟨_, rfl, rfl, _, rfl, rfl, _, rfl, ifF (by decide +kernel) ?_⟩
    refine ⟨_, rfl, _, rfl, _, rfl, cutc H8 none (some (-1)) _ (Same.refl _) fun v1 G1 s1 b1 => ?_⟩
    refine ⟨_, rfl, _, rfl, cutc G1 (some 1) none _ s1 fun v2 G2 s2 b2 => ?_⟩
    rw [am] at b1
    rw [al] at b2
    refine ⟨v1, v2, n, _, _, rfl, by omega, b1.same s2, b2, fun v3 G3 s3 b3 => qq v3 G3 ((s1.trans s2).trans s3) ?_⟩
    have fe := (fill_full fu (A := amL n (mkR n F.c) F.lo (-1) Ps ++ alL n (mkR n F.c) F.hi 1 Ps) fun r hr => (List.mem_append.mp hr).elim (am_sub r) (al_sub r)).2.1
    rw [← fe] at b3
    exact b3
end
/-! ### law k26: what is due, by recursion -/
def spDue26 (K : PySem.W.Frag) (m : Nat) : Sp := fun vs H Q _ => ∃ (v : V) (w : Bool) (dk nl p : Addr) (fl : Fl) (kvs : List (Key × V)) (N S SF SR : List Str) (κ : Str → Int) (E : Env26) (n : Nat) (Ps : List (List Int)), vs = [v, .bl w, .ref dk, .ref nl, .ref p] ∧ H dk = some (.dK kvs) ∧ Kv26 kvs N S SF SR κ E ∧ H nl = some (.lst (N.map V.str)) ∧ N.length ≤ n ∧ n ≤ 20 ∧
  TPts H p Ps ∧ PtB Ps ∧ Full n Ps ∧ Ps.length ≤ 125 ∧ FlAt K H fl v ∧ fl.ok S SF SR m ∧ ∀ v' H', Same H H' → BoxAt K H' v' (hull n (asmL E N κ n fl w Ps)) → Q v' H'
theorem rf_ev {kvs : List (Key × V)} {N S SF SR : List Str} {κ : Str → Int} {E : Env26} (hk : Kv26 kvs N S SF SR κ E) : ∀ {r : Rf}, r.ok SR → RfEv kvs E r
  | .null, _ => trivial
  | .var z, h => hk.r z h
section
variable {P : Program} {w : World} {K : PySem.W.Frag} {mg : Str → Option Value} {base : Heap}
theorem ok_l_due (T : Txt w K mg) : ∀ m : Nat, m ≤ 5 → FnOk P w K mg base CX0 (m + 31) T.a_l_due T.d_l_due p_l_due (spDue26 K m)
  | 0, _ => fn_vac fun vs H Q E h => by obtain ⟨v, w, dk, nl, p, fl, kvs, N, S, SF, SR, κ, Ev, n, Ps, _, _, _, _, _, _, _, _, _, _, _, h, _⟩ := h; exact h
  | m + 1, hm => by
    have g_l_due := ok_l_due T m (by omega)
    have g_l_joined := ok_l_joined (P := P) (w := w) (K := K) (base := base) T
    have g_l_belongs := ok_l_belongs (P := P) (w := w) (K := K) (base := base) T
    have g_l_compared := ok_l_compared (P := P) (w := w) (K := K) (base := base) T
    have g_l_value := ok_l_valueV (P := P) (w := w) (K := K) (base := base) T 4 (by decide)
    have g_l_box := ok_l_box (P := P) (w := w) (K := K) (base := base) T
    show FnOk P w K mg base CX0 (m + 31 + 1) T.a_l_due T.d_l_due p_l_due (spDue26 K (m + 1))
    refine T.F_l_due.ok sc_l_due (fun vs H Q E h => ?_) (fun cdv A outer s H vs Q E hr h => ?_)
    · obtain ⟨v, w, dk, nl, p, fl, kvs, N, S, SF, SR, κ, Ev, n, Ps, rfl, _⟩ := h
      rfl
    obtain ⟨v, w, dk, nl, p, fl, kvs, N, S, SF, SR, κ, Ev, n, Ps, rfl, hd, hk, hN, lN, hn, tP, pB, fu, lP, hx, ho, q⟩ := h
    refine ⟨_, (pss_cons (ps_if (pt_cmpR (op_eqL0 hr.units0) (pv 4) (pe_lst pa_nil) (nomark _)) (pss_one (ps_ret pe_non)) pss_nil)
      (pss_cons (ps_set (i := 5) sc_l_due.nd rfl (Or.inl rfl) (pe_ix ix_tup (pv 0) pe_int (fun _ _ => rfl)))
      (pss_cons (ps_if (pt_cmpR op_eq (pv 5) pe_str (nomark _)) (pss_one (ps_ret (pe_call g_l_due (hr.mono (by first | decide | omega)) rfl T.m_l_due T.F_l_due.kp T.b_l_due .nil pass0 (pa_cons (pe_ix ix_tup (pv 0) pe_int (fun _ _ => rfl)) (pa_cons (pe_not (pv 1)) (pa_cons (pv 2) (pa_cons (pv 3) (pa_cons (pv 4) pa_nil)))))))) pss_nil)
      (pss_cons (ps_if (PW.pt (pw_or (pt_cmpR op_eq (pv 5) pe_str (nomark _)) (pw_or1 (pt_cmpR op_eq (pv 5) pe_str (nomark _))))) (pss_cons (ps_set (i := 6) sc_l_due.nd rfl (Or.inr rfl) (pe_call g_l_due (hr.mono (by first | decide | omega)) rfl T.m_l_due T.F_l_due.kp T.b_l_due .nil pass0 (pa_cons (pe_ix ix_tup (pv 0) pe_int (fun _ _ => rfl)) (pa_cons (pv 1) (pa_cons (pv 2) (pa_cons (pv 3) (pa_cons (pv 4) pa_nil)))))))
      (pss_cons (ps_if (pt_cmpR op_ne (pe_cmpR op_eq (pv 5) pe_str (nomark _)) (pv 1) (nomark _)) (pss_one (ps_ret (pe_call g_l_joined (hr.mono (by first | decide | omega)) rfl T.m_l_joined T.F_l_joined.kp T.b_l_joined .nil pass0 (pa_cons (pv 6) (pa_cons (pe_call g_l_due (hr.mono (by first | decide | omega)) rfl T.m_l_due T.F_l_due.kp T.b_l_due .nil pass0 (pa_cons (pe_ix ix_tup (pv 0) pe_int (fun _ _ => rfl)) (pa_cons (pv 1) (pa_cons (pv 2) (pa_cons (pv 3) (pa_cons (pv 4) pa_nil)))))) pa_nil))))) pss_nil)
      (pss_cons (ps_if (pt_cmpR op_isN (pv 6) pe_non (nomark _)) (pss_one (ps_ret pe_non)) pss_nil)
      (pss_cons (ps_setLc (i := 7) (own := [("_law_point", 8)]) (g := gName 8) rfl sc_l_due.nd rfl rfl (sw_true rfl rfl rfl (by decide +kernel)) (pi_list (pv 4)) (blkOk_by (own := [("_law_point", 8)]) (N := n_l_due) (sc := defScope s_l_due) (by decide +kernel)) (fun _ _ _ _ _ => (pg_name (i := 8) sc_l_due.nd rfl (Or.inl rfl))) (fun _ _ _ _ _ => (pts_one (pt_val (pe_call g_l_belongs (hr.mono (by first | decide | omega)) rfl T.m_l_belongs T.F_l_belongs.kp T.b_l_belongs .nil pass0 (pa_cons (pv 6) (pa_cons (pv 8) pa_nil)))))) (fun _ _ _ _ _ => (pv 8)))
      (pss_one (ps_ret (pe_call g_l_due (hr.mono (by first | decide | omega)) rfl T.m_l_due T.F_l_due.kp T.b_l_due .nil pass0 (pa_cons (pe_ix ix_tup (pv 0) pe_int (fun _ _ => rfl)) (pa_cons (pv 1) (pa_cons (pv 2) (pa_cons (pv 3) (pa_cons (pv 7) pa_nil)))))))))))) pss_nil)
      (pss_cons (ps_if (pt_cmpR op_in_seq (pv 5) (pe_lst (pa_cons pe_str (pa_cons pe_str (pa_cons pe_str (pa_cons pe_str pa_nil))))) (by rfl)) (pss_one (ps_ret (pe_call g_l_compared (hr.mono (by first | decide | omega)) rfl T.m_l_compared T.F_l_compared.kp T.b_l_compared .nil pass0 (pa_cons (pv 0) (pa_cons (pv 1) (pa_cons (pv 2) (pa_cons (pv 3) (pa_cons (pv 4) pa_nil)))))))) pss_nil)
      (pss_cons (ps_if (pt_cmpR op_eq (pe_call g_l_value (hr.mono (by first | decide | omega)) rfl T.m_l_value T.F_l_value.kp T.b_l_value .nil pass0 (pa_cons (pv 0) (pa_cons (pv 2) pa_nil))) (pv 1) (nomark _)) (pss_one (ps_ret (pe_call g_l_box (hr.mono (by first | decide | omega)) rfl T.m_l_box T.F_l_box.kp T.b_l_box .nil pass0 (pa_cons (pv 4) pa_nil)))) pss_nil)
      (pss_one (ps_ret pe_non)))))))), ?_⟩
    obtain ⟨as, eP, hA⟩ := id tP
    refine ⟨_, rfl, by show 0 ≤ sizeLine; decide, fun e0 he => ?_⟩
    have se := Same.new he (.lst [])
    by_cases ne : Ps = []
    · subst ne
      have z : as = [] := List.length_eq_zero_iff.mp hA.1
      subst z
      refine ⟨p, e0, _, rfl, rfl, SqL.of (se _ _ eP), SqL.of upd_same, _, rfl, ifT rfl ?_⟩
      refine q .non _ se ?_
      rw [asm_nil]
      rfl
    have nea : as.map V.ref ≠ [] := fun z => ne (List.length_eq_zero_iff.mp (by rw [← hA.1, List.map_eq_nil_iff.mp z]; rfl))
    refine ⟨p, e0, _, rfl, rfl, SqL.of (se _ _ eP), SqL.of upd_same, _, rfl, ifF (by cases c : as.map V.ref with
      | nil => exact absurd c nea
      | cons _ _ => rfl) ?_⟩
    have hd := se _ _ hd
    have hN := se _ _ hN
    have tP := tP.same se
    have hx := hx.same se
    have q : ∀ v' H', Same (upd H e0 (.lst [])) H' → BoxAt K H' v' (hull n (asmL Ev N κ n fl w Ps)) → Q v' H' := fun v' H' s b => q v' H' (se.trans s) b
    clear nea eP hA as se
    generalize (upd H e0 (.lst [])) = H1 at hd hN tP hx q ⊢
    have hx0 := hx
    cases fl with
    | flag b =>
      obtain ⟨pv, rfl, hp⟩ := hx
      have ea : asmL Ev N κ n (.flag b) w Ps = if b = w then Ps else [] := by
        unfold asmL
        rfl
      rw [ea] at q
      refine ⟨_, rfl, pv, _, _, _, rfl, rfl, hp, rfl, ?_⟩
      refine ⟨_, rfl, rfl, _, rfl, ifF (by decide +kernel) ?_⟩
      refine ⟨_, rfl, rfl, _, rfl, ifF (by decide +kernel) ⟨_, rfl, rfl, _, rfl, ifF (by decide +kernel) ?_⟩⟩
      refine ⟨_, rfl, by show 4 ≤ sizeLine; decide, fun l hl => ⟨l, _, rfl, .inl (SqL.of upd_same), rfl, rfl, _, rfl, ifF (by decide +kernel) ?_⟩⟩
      have sl := Same.new hl (.lst [.str "<", .str "<=", .str "==", .str "!="])
      refine ⟨_, rfl, _, rfl, _, dk, kvs, rfl, sl _ _ hd, .inr (.inr ⟨_, S, SF, SR, fun _ => 0, Ev, 1, hx0.same sl, ho, by decide, trivial, fun _ => (show Bd 1 0 by show (0 : Nat) < 2; decide).mono (by decide), fun H2 s2 => ⟨_, rfl, rfl, _, rfl, ite2 (fun h => ?_) (fun h => ?_)⟩⟩)⟩
      · have e : b = w := V.bl.inj (of_decide_eq_true h)
        rw [if_pos e] at q
        have sE := sl.trans s2
        exact ⟨_, rfl, p, n, Ps, rfl, by omega, (tP.same sE).pts.mx, fu.len, by omega, fun v3 H3 s3 b3 => q v3 H3 (sE.trans s3) b3⟩
      · have e : ¬ b = w := fun e => h (decide_eq_true (congrArg V.bl e))
        rw [if_neg e] at q
        exact q _ _ (sl.trans s2) rfl
    | var z =>
      obtain ⟨pv, rfl, hp⟩ := hx
      have ea : asmL Ev N κ n (.var z) w Ps = if Ev.f z = w then Ps else [] := by
        unfold asmL
        rfl
      rw [ea] at q
      refine ⟨_, rfl, pv, _, _, _, rfl, rfl, hp, rfl, ?_⟩
      refine ⟨_, rfl, rfl, _, rfl, ifF (by decide +kernel) ?_⟩
      refine ⟨_, rfl, rfl, _, rfl, ifF (by decide +kernel) ⟨_, rfl, rfl, _, rfl, ifF (by decide +kernel) ?_⟩⟩
      refine ⟨_, rfl, by show 4 ≤ sizeLine; decide, fun l hl => ⟨l, _, rfl, .inl (SqL.of upd_same), rfl, rfl, _, rfl, ifF (by decide +kernel) ?_⟩⟩
      have sl := Same.new hl (.lst [.str "<", .str "<=", .str "==", .str "!="])
      refine ⟨_, rfl, _, rfl, _, dk, kvs, rfl, sl _ _ hd, .inr (.inr ⟨_, S, SF, SR, fun _ => 0, Ev, 1, hx0.same sl, ho, by decide, hk.f z ho, fun _ => (show Bd 1 0 by show (0 : Nat) < 2; decide).mono (by decide), fun H2 s2 => ⟨_, rfl, rfl, _, rfl, ite2 (fun h => ?_) (fun h => ?_)⟩⟩)⟩
      · have e : Ev.f z = w := V.bl.inj (of_decide_eq_true h)
        rw [if_pos e] at q
        have sE := sl.trans s2
        exact ⟨_, rfl, p, n, Ps, rfl, by omega, (tP.same sE).pts.mx, fu.len, by omega, fun v3 H3 s3 b3 => q v3 H3 (sE.trans s3) b3⟩
      · have e : ¬ Ev.f z = w := fun e => h (decide_eq_true (congrArg V.bl e))
        rw [if_neg e] at q
        exact q _ _ (sl.trans s2) rfl
    | same r t =>
      obtain ⟨pv, x, y, rfl, hp, hx, hy⟩ := hx
      have ea : asmL Ev N κ n (.same r t) w Ps = if decide (Ev.rv r = Ev.rv t) = w then Ps else [] := by
        unfold asmL
        rfl
      rw [ea] at q
      refine ⟨_, rfl, pv, _, _, _, rfl, rfl, hp, rfl, ?_⟩
      refine ⟨_, rfl, rfl, _, rfl, ifF (by decide +kernel) ?_⟩
      refine ⟨_, rfl, rfl, _, rfl, ifF (by decide +kernel) ⟨_, rfl, rfl, _, rfl, ifF (by decide +kernel) ?_⟩⟩
      refine ⟨_, rfl, by show 4 ≤ sizeLine; decide, fun l hl => ⟨l, _, rfl, .inl (SqL.of upd_same), rfl, rfl, _, rfl, ifF (by decide +kernel) ?_⟩⟩
      have sl := Same.new hl (.lst [.str "<", .str "<=", .str "==", .str "!="])
      refine ⟨_, rfl, _, rfl, _, dk, kvs, rfl, sl _ _ hd, .inr (.inr ⟨_, S, SF, SR, fun _ => 0, Ev, 1, hx0.same sl, ho, by decide, ⟨rf_ev hk ho.1, rf_ev hk ho.2⟩, fun _ => (show Bd 1 0 by show (0 : Nat) < 2; decide).mono (by decide), fun H2 s2 => ⟨_, rfl, rfl, _, rfl, ite2 (fun h => ?_) (fun h => ?_)⟩⟩)⟩
      · have e : decide (Ev.rv r = Ev.rv t) = w := V.bl.inj (of_decide_eq_true h)
        rw [if_pos e] at q
        have sE := sl.trans s2
        exact ⟨_, rfl, p, n, Ps, rfl, by omega, (tP.same sE).pts.mx, fu.len, by omega, fun v3 H3 s3 b3 => q v3 H3 (sE.trans s3) b3⟩
      · have e : ¬ decide (Ev.rv r = Ev.rv t) = w := fun e => h (decide_eq_true (congrArg V.bl e))
        rw [if_neg e] at q
        exact q _ _ (sl.trans s2) rfl
    | not a =>
      obtain ⟨pv, x, rfl, hp, hx⟩ := hx
      refine ⟨_, rfl, pv, _, _, _, rfl, rfl, hp, rfl, ?_⟩
      refine ⟨_, rfl, rfl, _, rfl, ifT (by decide +kernel) ?_⟩
      exact ⟨_, rfl, pv, _, _, _, rfl, rfl, hp, rfl, _, rfl, w, rfl, _, rfl, _, rfl, _, rfl, x, !w, dk, nl, p, a, kvs, N, S, SF, SR, κ, Ev, n, Ps, rfl, hd, hk, hN, lN, hn, tP, pB, fu, lP, hx, ho, q⟩
    | cmp o a b =>
      obtain ⟨pv, x, y, rfl, hp, hx, hy⟩ := hx
      have n1 : ¬ (V.str o.s = V.str "not") := by cases o <;> decide +kernel
      have n2 : ¬ (V.str o.s = V.str "and") := by cases o <;> decide +kernel
      have n3 : ¬ (V.str o.s = V.str "or") := by cases o <;> decide +kernel
      refine ⟨_, rfl, pv, _, _, _, rfl, rfl, hp, rfl, ?_⟩
      refine ⟨_, rfl, rfl, _, rfl, ifF (decide_eq_false n1) ?_⟩
      refine ⟨_, rfl, rfl, _, rfl, ifF (decide_eq_false n2) ⟨_, rfl, rfl, _, rfl, ifF (decide_eq_false n3) ?_⟩⟩
      refine ⟨_, rfl, by show 4 ≤ sizeLine; decide, fun l hl => ⟨l, _, rfl, .inl (SqL.of upd_same), rfl, rfl, _, rfl, ifT (by cases o <;> decide +kernel) ?_⟩⟩
      have sl := Same.new hl (.lst [.str "<", .str "<=", .str "==", .str "!="])
      have ea : asmL Ev N κ n (.cmp o a b) w Ps = cmpL n (dfm N κ n Ps a b) o w Ps := by
        rw [asmL, if_neg ne]
      rw [ea] at q
      exact ⟨_, rfl, _, rfl, _, rfl, _, rfl, _, rfl, _, w, dk, nl, p, o, a, b, kvs, N, S, κ, n, Ps, rfl, ⟨sl _ _ hd, hk.k, hk.b, sl _ _ hN, lN, tP.same sl, ne, by omega, fu.len, pB, hn⟩, hx0.same sl, ho.1, ho.2, fu, lP, fun v' H' s b => q v' H' (sl.trans s) b⟩
    | and a b =>
      obtain ⟨pv, x, y, rfl, hp, hx, hy⟩ := hx
      cases w
      · refine ⟨_, rfl, pv, _, _, _, rfl, rfl, hp, rfl, ?_⟩
        refine ⟨_, rfl, rfl, _, rfl, ifF (by decide +kernel) ?_⟩
        refine ⟨_, rfl, rfl, _, rfl, ifT (by decide +kernel) (iteT ?_)⟩
        have a1 := asm_ok (E := Ev) (N := N) (κ := κ) a (w := false) fu
        have a2 := asm_ok (E := Ev) (N := N) (κ := κ) b (w := false) fu
        refine ⟨_, rfl, pv, _, _, _, rfl, rfl, hp, rfl, _, rfl, _, rfl, _, rfl, _, rfl, x, false, dk, nl, p, a, kvs, N, S, SF, SR, κ, Ev, n, Ps, rfl, hd, hk, hN, lN, hn, tP, pB, fu, lP, hx, ho.1, fun v1 H2 s1 b1 => ?_⟩
        refine ⟨_, rfl, rfl, _, rfl, rfl, _, rfl, ifT (by decide +kernel) ?_⟩
        refine ⟨_, rfl, _, rfl, pv, _, _, _, rfl, rfl, Same.tup s1 hp, rfl, _, rfl, _, rfl, _, rfl, _, rfl, y, false, dk, nl, p, b, kvs, N, S, SF, SR, κ, Ev, n, Ps, rfl, s1 _ _ hd, hk, s1 _ _ hN, lN, hn, tP.same s1, pB, fu, lP, hy.same s1, ho.2, fun v2 H3 s2 b2 => ?_⟩
        refine ⟨v1, v2, n, _, _, rfl, by omega, b1.same s2, b2, fun v3 H4 s3 b3 => q v3 H4 ((s1.trans s2).trans s3) ?_⟩
        have fe := (fill_full fu (A := asmL Ev N κ n a false Ps ++ asmL Ev N κ n b false Ps) fun r hr => (List.mem_append.mp hr).elim (a1.2 r) (a2.2 r)).2.1
        rw [← fe] at b3
        exact b3
      · refine ⟨_, rfl, pv, _, _, _, rfl, rfl, hp, rfl, ?_⟩
        refine ⟨_, rfl, rfl, _, rfl, ifF (by decide +kernel) ?_⟩
        refine ⟨_, rfl, rfl, _, rfl, ifT (by decide +kernel) (iteT ?_)⟩
        have a1 := asm_ok (E := Ev) (N := N) (κ := κ) a (w := true) fu
        have a2 := asm_ok (E := Ev) (N := N) (κ := κ) b (w := true) fu
        refine ⟨_, rfl, pv, _, _, _, rfl, rfl, hp, rfl, _, rfl, _, rfl, _, rfl, _, rfl, x, true, dk, nl, p, a, kvs, N, S, SF, SR, κ, Ev, n, Ps, rfl, hd, hk, hN, lN, hn, tP, pB, fu, lP, hx, ho.1, fun v1 H2 s1 b1 => ?_⟩
        refine ⟨_, rfl, rfl, _, rfl, rfl, _, rfl, ifF (by decide +kernel) ?_⟩
        by_cases nA : asmL Ev N κ n a true Ps = []
        · rw [nA] at b1
          obtain rfl : v1 = .non := b1
          refine ⟨_, rfl, rfl, _, rfl, ifT (by decide) ?_⟩
          refine q .non H2 s1 ?_
          have e : asmL Ev N κ n (.and a b) true Ps = asmL Ev N κ n b true (asmL Ev N κ n a true Ps) := rfl
          rw [e, nA, asm_nil]
          rfl
        rw [hull_some nA] at b1
        obtain ⟨pA, rfl, mA⟩ := b1
        refine ⟨_, rfl, rfl, _, rfl, ifF (by rw [decide_eq_false (fun z => by cases z)]) ?_⟩
        have own := in_own fu.len a1.1 nA (asm_flt a)
        have lA : (asmL Ev N κ n a true Ps).length ≤ 125 := by
          obtain ⟨qa, ea⟩ := asm_flt (E := Ev) (N := N) (κ := κ) (n := n) a (w := true) (Ps := Ps)
          rw [ea]
          exact Nat.le_trans (List.length_filter_le _ _) lP
        have dg : ∀ i < n + 1, getM (hullM n (asmL Ev N κ n a true Ps)) i i = 0 := fun i hi => (hull_clo nA).d i hi
        obtain ⟨as, eP, hA⟩ := id tP
        have eP2 := s1 _ _ eP
        have hA2 := hA.same s1
        have hN2 := s1 _ _ hN
        have hd2 := s1 _ _ hd
        have hy2 := hy.same s1
        have hp2 := Same.tup s1 hp
        have q2 : ∀ v' H', Same H2 H' → BoxAt K H' v' (hull n (asmL Ev N κ n b true (asmL Ev N κ n a true Ps))) → Q v' H' := fun v' H' s b => q v' H' (s1.trans s) b
        generalize asmL Ev N κ n a true Ps = A at own lA dg mA a1 nA q2
        refine ⟨_, rfl, p, rfl, ⟨_, SqL.of eP2⟩, fun D hD => ?_⟩
        refine lc_it (walk_list (xs := as.map V.ref)) (fun i G => Same H2 G ∧ TPts G D ((Ps.take i).filter (inL n (hullM n A)))) ⟨Same.new hD _, TPts.nil upd_same⟩ (fun i G _ P => SqL.of (P.1 _ _ eP2)) ?_ ?_
        · rintro i y0 F0 F hi ⟨sF, pF⟩ ⟨rfl, ex⟩
          rw [List.length_map, hA2.1] at hi
          have er : Ps[i]? = some Ps[i] := List.getElem?_eq_getElem hi
          have lq := fu.len _ (List.getElem_mem hi)
          generalize Ps[i] = r at er lq
          have ea : as[i]? = some (as[i]'(by rw [hA2.1]; exact hi)) := List.getElem?_eq_getElem _
          generalize as[i]'(by rw [hA2.1]; exact hi) = tq at ea
          rw [map_get ea] at ex
          obtain rfl := Option.some.inj ex
          have htq := sF _ _ (hA2.2 i tq r ea er)
          refine ⟨rfl, ?_⟩
          refine ⟨_, rfl, _, rfl, pA, tq, hullM n A, r, rfl, by omega, mA.same sF, (by rw [lq]; exact hullM_sz n _), (by rw [lq]; exact dg), SqT.of htq, fun bb F8 s8 hb => ⟨_, rfl, ite2 (fun h => ?_) (fun h => ?_)⟩⟩
          · have hin : inL n (hullM n A) r = true := inL_iff.mpr (by
              have := hb.mp h
              rwa [lq] at this)
            obtain ⟨bs, b1, b2⟩ := id (pF.same s8)
            refine ⟨_, rfl, _, b1, lt_line (by rw [List.length_map, b2.1]; have := List.length_filter_le (inL n (hullM n A)) (Ps.take i); rw [List.length_take] at this; omega), fun c o e => ?_, ?_⟩
            · rw [upd_ne (ne_of_none e hD)]
              exact s8 _ _ (sF _ _ e)
            · rw [take_snoc er, List.filter_append, List.filter_cons_of_pos hin, List.filter_nil]
              exact TPts.push b2 (Same.refl _) b1 (s8 _ _ htq)
          · have hin : ¬ inL n (hullM n A) r = true := fun z => h (hb.mpr (by
              rw [lq]
              exact inL_iff.mp z))
            rw [take_snoc er, List.filter_append, List.filter_cons_of_neg hin, List.filter_nil, List.append_nil]
            exact ⟨sF.trans s8, pF.same s8⟩
        · rintro G ⟨sG, pG⟩
          rw [List.length_map, hA2.1, List.take_length, own] at pG
          exact ⟨_, rfl, pv, _, _, _, rfl, rfl, Same.tup sG hp2, rfl, _, rfl, _, rfl, _, rfl, _, rfl, y, true, dk, nl, D, b, kvs, N, S, SF, SR, κ, Ev, n, A, rfl, sG _ _ hd2, hk, sG _ _ hN2, lN, hn, pG, pB.sub a1.2, a1.1, lA, hy2.same sG, ho.2, fun v3 H3 s3 b3 => q2 v3 H3 (sG.trans s3) b3⟩
    | or a b =>
      obtain ⟨pv, x, y, rfl, hp, hx, hy⟩ := hx
      cases w
      · refine ⟨_, rfl, pv, _, _, _, rfl, rfl, hp, rfl, ?_⟩
        refine ⟨_, rfl, rfl, _, rfl, ifF (by decide +kernel) ?_⟩
        refine ⟨_, rfl, rfl, _, rfl, ifF (by decide +kernel) ⟨_, rfl, rfl, _, rfl, ifT (by decide +kernel) ?_⟩⟩
        have a1 := asm_ok (E := Ev) (N := N) (κ := κ) a (w := false) fu
        have a2 := asm_ok (E := Ev) (N := N) (κ := κ) b (w := false) fu
        refine ⟨_, rfl, pv, _, _, _, rfl, rfl, hp, rfl, _, rfl, _, rfl, _, rfl, _, rfl, x, false, dk, nl, p, a, kvs, N, S, SF, SR, κ, Ev, n, Ps, rfl, hd, hk, hN, lN, hn, tP, pB, fu, lP, hx, ho.1, fun v1 H2 s1 b1 => ?_⟩
        refine ⟨_, rfl, rfl, _, rfl, rfl, _, rfl, ifF (by decide +kernel) ?_⟩
        by_cases nA : asmL Ev N κ n a false Ps = []
        · rw [nA] at b1
          obtain rfl : v1 = .non := b1
          refine ⟨_, rfl, rfl, _, rfl, ifT (by decide) ?_⟩
          refine q .non H2 s1 ?_
          have e : asmL Ev N κ n (.or a b) false Ps = asmL Ev N κ n b false (asmL Ev N κ n a false Ps) := rfl
          rw [e, nA, asm_nil]
          rfl
        rw [hull_some nA] at b1
        obtain ⟨pA, rfl, mA⟩ := b1
        refine ⟨_, rfl, rfl, _, rfl, ifF (by rw [decide_eq_false (fun z => by cases z)]) ?_⟩
        have own := in_own fu.len a1.1 nA (asm_flt a)
        have lA : (asmL Ev N κ n a false Ps).length ≤ 125 := by
          obtain ⟨qa, ea⟩ := asm_flt (E := Ev) (N := N) (κ := κ) (n := n) a (w := false) (Ps := Ps)
          rw [ea]
          exact Nat.le_trans (List.length_filter_le _ _) lP
        have dg : ∀ i < n + 1, getM (hullM n (asmL Ev N κ n a false Ps)) i i = 0 := fun i hi => (hull_clo nA).d i hi
        obtain ⟨as, eP, hA⟩ := id tP
        have eP2 := s1 _ _ eP
        have hA2 := hA.same s1
        have hN2 := s1 _ _ hN
        have hd2 := s1 _ _ hd
        have hy2 := hy.same s1
        have hp2 := Same.tup s1 hp
        have q2 : ∀ v' H', Same H2 H' → BoxAt K H' v' (hull n (asmL Ev N κ n b false (asmL Ev N κ n a false Ps))) → Q v' H' := fun v' H' s b => q v' H' (s1.trans s) b
        generalize asmL Ev N κ n a false Ps = A at own lA dg mA a1 nA q2
        refine ⟨_, rfl, p, rfl, ⟨_, SqL.of eP2⟩, fun D hD => ?_⟩
        refine lc_it (walk_list (xs := as.map V.ref)) (fun i G => Same H2 G ∧ TPts G D ((Ps.take i).filter (inL n (hullM n A)))) ⟨Same.new hD _, TPts.nil upd_same⟩ (fun i G _ P => SqL.of (P.1 _ _ eP2)) ?_ ?_
        · rintro i y0 F0 F hi ⟨sF, pF⟩ ⟨rfl, ex⟩
          rw [List.length_map, hA2.1] at hi
          have er : Ps[i]? = some Ps[i] := List.getElem?_eq_getElem hi
          have lq := fu.len _ (List.getElem_mem hi)
          generalize Ps[i] = r at er lq
          have ea : as[i]? = some (as[i]'(by rw [hA2.1]; exact hi)) := List.getElem?_eq_getElem _
          generalize as[i]'(by rw [hA2.1]; exact hi) = tq at ea
          rw [map_get ea] at ex
          obtain rfl := Option.some.inj ex
          have htq := sF _ _ (hA2.2 i tq r ea er)
          refine ⟨rfl, ?_⟩
          refine ⟨_, rfl, _, rfl, pA, tq, hullM n A, r, rfl, by omega, mA.same sF, (by rw [lq]; exact hullM_sz n _), (by rw [lq]; exact dg), SqT.of htq, fun bb F8 s8 hb => ⟨_, rfl, ite2 (fun h => ?_) (fun h => ?_)⟩⟩
          · have hin : inL n (hullM n A) r = true := inL_iff.mpr (by
              have := hb.mp h
              rwa [lq] at this)
            obtain ⟨bs, b1, b2⟩ := id (pF.same s8)
            refine ⟨_, rfl, _, b1, lt_line (by rw [List.length_map, b2.1]; have := List.length_filter_le (inL n (hullM n A)) (Ps.take i); rw [List.length_take] at this; omega), fun c o e => ?_, ?_⟩
            · rw [upd_ne (ne_of_none e hD)]
              exact s8 _ _ (sF _ _ e)
            · rw [take_snoc er, List.filter_append, List.filter_cons_of_pos hin, List.filter_nil]
              exact TPts.push b2 (Same.refl _) b1 (s8 _ _ htq)
          · have hin : ¬ inL n (hullM n A) r = true := fun z => h (hb.mpr (by
              rw [lq]
              exact inL_iff.mp z))
            rw [take_snoc er, List.filter_append, List.filter_cons_of_neg hin, List.filter_nil, List.append_nil]
            exact ⟨sF.trans s8, pF.same s8⟩
        · rintro G ⟨sG, pG⟩
          rw [List.length_map, hA2.1, List.take_length, own] at pG
          exact ⟨_, rfl, pv, _, _, _, rfl, rfl, Same.tup sG hp2, rfl, _, rfl, _, rfl, _, rfl, _, rfl, y, false, dk, nl, D, b, kvs, N, S, SF, SR, κ, Ev, n, A, rfl, sG _ _ hd2, hk, sG _ _ hN2, lN, hn, pG, pB.sub a1.2, a1.1, lA, hy2.same sG, ho.2, fun v3 H3 s3 b3 => q2 v3 H3 (sG.trans s3) b3⟩
      · refine ⟨_, rfl, pv, _, _, _, rfl, rfl, hp, rfl, ?_⟩
        refine ⟨_, rfl, rfl, _, rfl, ifF (by decide +kernel) ?_⟩
        refine ⟨_, rfl, rfl, _, rfl, ifF (by decide +kernel) ⟨_, rfl, rfl, _, rfl, ifT (by decide +kernel) ?_⟩⟩
        have a1 := asm_ok (E := Ev) (N := N) (κ := κ) a (w := true) fu
        have a2 := asm_ok (E := Ev) (N := N) (κ := κ) b (w := true) fu
        refine ⟨_, rfl, pv, _, _, _, rfl, rfl, hp, rfl, _, rfl, _, rfl, _, rfl, _, rfl, x, true, dk, nl, p, a, kvs, N, S, SF, SR, κ, Ev, n, Ps, rfl, hd, hk, hN, lN, hn, tP, pB, fu, lP, hx, ho.1, fun v1 H2 s1 b1 => ?_⟩
        refine ⟨_, rfl, rfl, _, rfl, rfl, _, rfl, ifT (by decide +kernel) ?_⟩
        refine ⟨_, rfl, _, rfl, pv, _, _, _, rfl, rfl, Same.tup s1 hp, rfl, _, rfl, _, rfl, _, rfl, _, rfl, y, true, dk, nl, p, b, kvs, N, S, SF, SR, κ, Ev, n, Ps, rfl, s1 _ _ hd, hk, s1 _ _ hN, lN, hn, tP.same s1, pB, fu, lP, hy.same s1, ho.2, fun v2 H3 s2 b2 => ?_⟩
        refine ⟨v1, v2, n, _, _, rfl, by omega, b1.same s2, b2, fun v3 H4 s3 b3 => q v3 H4 ((s1.trans s2).trans s3) ?_⟩
        have fe := (fill_full fu (A := asmL Ev N κ n a true Ps ++ asmL Ev N κ n b true Ps) fun r hr => (List.mem_append.mp hr).elim (a1.2 r) (a2.2 r)).2.1
        rw [← fe] at b3
        exact b3
end
/-! ### law k26: points that hold the wanted value stay; fewer points leave no more; one point stays exactly -/
theorem dfm_eq {N : List Str} {κ : Str → Int} {n : Nat} {Ps : List (List Int)} {a b : Ef} : dfm N κ n Ps a b = fm N κ n Ps (.bin .sub a b) := fm_bin_sub.symm
theorem am_has' {n : Nat} {c : Nat → Int} {lo x : Int} {Ps : List (List Int)} {r : List Int} (hr : r ∈ Ps) (h : vsum n c r + lo ≤ x) : r ∈ amL n (mkR n c) lo x Ps := by
  have := am_has (cs := mkR n c) (lo := lo) (x := x) hr (by rw [val_mkR]; exact h)
  rwa [mkR_len] at this
theorem al_has' {n : Nat} {c : Nat → Int} {hi x : Int} {Ps : List (List Int)} {r : List Int} (hr : r ∈ Ps) (h : x ≤ vsum n c r + hi) : r ∈ alL n (mkR n c) hi x Ps := by
  have := al_has (cs := mkR n c) (hi := hi) (x := x) hr (by rw [val_mkR]; exact h)
  rwa [mkR_len] at this
theorem flt_sub {Ps A : List (List Int)} (h : ∃ q : List Int → Bool, A = Ps.filter q) : ∀ r ∈ A, r ∈ Ps := fun r hr => by
  obtain ⟨q, rfl⟩ := h
  exact (List.mem_filter.mp hr).1
theorem fill_mem {n : Nat} {Ps A : List (List Int)} {r : List Int} (sA : ∀ r ∈ A, r ∈ Ps) (hr : r ∈ A) : r ∈ fill n Ps A := by
  unfold fill
  rw [if_neg (List.ne_nil_of_mem hr)]
  exact List.mem_filter.mpr ⟨sA r hr, inL_iff.mpr fun a ha b hb => hull_le ha hb hr⟩
theorem fill_ne {n : Nat} {Ps A : List (List Int)} {r : List Int} (hr : r ∈ fill n Ps A) : A ≠ [] := fun z => by
  unfold fill at hr
  rw [if_pos z] at hr
  simp at hr
theorem fill_mono {n : Nat} {Ps Qs A B : List (List Int)} (sub : ∀ r ∈ Qs, r ∈ Ps) (ab : ∀ r ∈ A, r ∈ B) : ∀ r ∈ fill n Qs A, r ∈ fill n Ps B := fun r hr => by
  have nA := fill_ne hr
  obtain ⟨s0, h0⟩ := List.exists_mem_of_ne_nil _ nA
  have nB : B ≠ [] := List.ne_nil_of_mem (ab s0 h0)
  unfold fill at *
  rw [if_neg nA] at hr
  rw [if_neg nB]
  have h := List.mem_filter.mp hr
  refine List.mem_filter.mpr ⟨sub r h.1, inL_iff.mpr fun a ha b hb => ?_⟩
  have g := inL_iff.mp h.2 a ha b hb
  obtain ⟨s, hs, e⟩ := hull_at (n := n) nA ha hb
  rw [← e] at g
  exact Int.le_trans g (hull_le ha hb (ab s hs))
theorem two_sub {n : Nat} {c : Nat → Int} {lo hi x y : Int} {Ps : List (List Int)} : ∀ r ∈ amL n (mkR n c) lo x Ps ++ alL n (mkR n c) hi y Ps, r ∈ Ps := fun r hr => by
  rcases List.mem_append.mp hr with h | h
  · exact am_sub r h
  · exact al_sub r h
theorem cmp_sound {n : Nat} {F : Fm} {o : Co} {w : Bool} {Ps : List (List Int)} {r : List Int} {i j : Int} (hr : r ∈ Ps) (h1 : F.lo + vsum n F.c r ≤ i - j) (h2 : i - j ≤ vsum n F.c r + F.hi) (hw : o.ap i j = w) : r ∈ cmpL n F o w Ps := by
  subst hw
  cases o with
  | lt =>
    by_cases h : i < j
    · rw [show Co.ap .lt i j = true from decide_eq_true h]
      exact am_has' hr (by omega)
    · rw [show Co.ap .lt i j = false from decide_eq_false h]
      exact al_has' hr (by omega)
  | le =>
    by_cases h : i ≤ j
    · rw [show Co.ap .le i j = true from decide_eq_true h]
      exact am_has' hr (by omega)
    · rw [show Co.ap .le i j = false from decide_eq_false h]
      exact al_has' hr (by omega)
  | eq =>
    by_cases h : i = j
    · rw [show Co.ap .eq i j = true from decide_eq_true h]
      exact al_has' (am_has' hr (by omega)) (by omega)
    · rw [show Co.ap .eq i j = false from decide_eq_false h]
      refine fill_mem two_sub (List.mem_append.mpr ?_)
      by_cases g : i < j
      · exact .inl (am_has' hr (by omega))
      · exact .inr (al_has' hr (by omega))
  | ne =>
    by_cases h : i = j
    · rw [show Co.ap .ne i j = false from decide_eq_false (fun z => z h)]
      exact al_has' (am_has' hr (by omega)) (by omega)
    · rw [show Co.ap .ne i j = true from decide_eq_true h]
      refine fill_mem two_sub (List.mem_append.mpr ?_)
      by_cases g : i < j
      · exact .inl (am_has' hr (by omega))
      · exact .inr (al_has' hr (by omega))
theorem asm_sub {E : Env26} {N : List Str} {κ : Str → Int} {n : Nat} {e : Fl} {w : Bool} {Ps : List (List Int)} : ∀ r ∈ asmL E N κ n e w Ps, r ∈ Ps := flt_sub (asm_flt e)
theorem asm_pair_sub {E : Env26} {N : List Str} {κ : Str → Int} {n : Nat} {a b : Fl} {w : Bool} {Ps : List (List Int)} : ∀ r ∈ asmL E N κ n a w Ps ++ asmL E N κ n b w Ps, r ∈ Ps := fun r hr => by
  rcases List.mem_append.mp hr with h | h
  · exact asm_sub r h
  · exact asm_sub r h
theorem asm_sound {E : Env26} {N : List Str} {κ : Str → Int} {n : Nat} (ln : N.length ≤ n) {r : List Int} (e : Fl) : ∀ {w : Bool} {Ps : List (List Int)}, r ∈ Ps → evF E (rho N κ r) e = w → r ∈ asmL E N κ n e w Ps := by
  induction e with
  | flag b =>
    intro w Ps hr h
    unfold asmL
    rw [if_pos (show b = w from h)]
    exact hr
  | var z =>
    intro w Ps hr h
    unfold asmL
    rw [if_pos (show E.f z = w from h)]
    exact hr
  | same s t =>
    intro w Ps hr h
    unfold asmL
    rw [if_pos (show decide (E.rv s = E.rv t) = w from h)]
    exact hr
  | cmp o a b =>
    intro w Ps hr h
    unfold asmL
    rw [if_neg (List.ne_nil_of_mem hr)]
    have g := fm_sound (κ := κ) (Zp.pt (n := n) hr) ln (.bin .sub a b)
    rw [← dfm_eq] at g
    have g1 : (dfm N κ n Ps a b).lo + vsum n (dfm N κ n Ps a b).c r ≤ evE (rho N κ r) a - evE (rho N κ r) b := g.1
    have g2 : evE (rho N κ r) a - evE (rho N κ r) b ≤ vsum n (dfm N κ n Ps a b).c r + (dfm N κ n Ps a b).hi := g.2
    exact cmp_sound hr g1 g2 h
  | not a ih =>
    intro w Ps hr h
    have h : (!evF E (rho N κ r) a) = w := h
    exact ih hr (by rw [← h, Bool.not_not])
  | and a b iha ihb =>
    intro w Ps hr h
    have h : (evF E (rho N κ r) a && evF E (rho N κ r) b) = w := h
    cases w with
    | true =>
      have h := Bool.and_eq_true_iff.mp h
      exact ihb (iha hr h.1) h.2
    | false =>
      refine fill_mem asm_pair_sub (List.mem_append.mpr ?_)
      rcases Bool.and_eq_false_iff.mp h with g | g
      · exact .inl (iha hr g)
      · exact .inr (ihb hr g)
  | or a b iha ihb =>
    intro w Ps hr h
    have h : (evF E (rho N κ r) a || evF E (rho N κ r) b) = w := h
    cases w with
    | false =>
      have h := Bool.or_eq_false_iff.mp h
      exact ihb (iha hr h.1) h.2
    | true =>
      refine fill_mem asm_pair_sub (List.mem_append.mpr ?_)
      rcases Bool.or_eq_true_iff.mp h with g | g
      · exact .inl (iha hr g)
      · exact .inr (ihb hr g)
theorem am_mono {n : Nat} {cs : List Int} (ln : cs.length = n) {lo lo' x : Int} {Ps Qs : List (List Int)} (sub : ∀ r ∈ Qs, r ∈ Ps) (le : lo ≤ lo') : ∀ r ∈ amL n cs lo' x Qs, r ∈ amL n cs lo x Ps := fun r hr => by
  subst ln
  unfold amL at *
  by_cases s : Simple cs
  · rw [if_pos s] at *
    have := mem_keep.mp hr
    exact mem_keep.mpr ⟨sub r this.1, by omega⟩
  · rw [if_neg s] at *
    by_cases h : spanLo (hullM cs.length Qs) cs lo' > x
    · rw [if_pos h] at hr
      simp at hr
    · rw [if_neg h] at hr
      have := span_mono (cs := cs) (lo := lo) hr sub
      have e : spanLo (hullM cs.length Qs) cs lo' = spanLo (hullM cs.length Qs) cs lo + (lo' - lo) := by
        unfold spanLo
        omega
      rw [if_neg (by omega)]
      exact sub r hr
theorem al_mono {n : Nat} {cs : List Int} (ln : cs.length = n) {hi hi' x : Int} {Ps Qs : List (List Int)} (sub : ∀ r ∈ Qs, r ∈ Ps) (le : hi' ≤ hi) : ∀ r ∈ alL n cs hi' x Qs, r ∈ alL n cs hi x Ps := am_mono (by rw [List.length_map]; exact ln) sub (by omega)
theorem cmp_mono {n : Nat} {F G : Fm} (le : LeFm F G) {o : Co} {w : Bool} {Ps Qs : List (List Int)} (sub : ∀ r ∈ Qs, r ∈ Ps) : ∀ r ∈ cmpL n G o w Qs, r ∈ cmpL n F o w Ps := by
  obtain ⟨c, l, h⟩ := le
  have ln : (mkR n F.c).length = n := mkR_len
  have m1 : ∀ x, ∀ r ∈ amL n (mkR n G.c) G.lo x Qs, r ∈ amL n (mkR n F.c) F.lo x Ps := fun x => by rw [c]; exact am_mono ln sub l
  have m2 : ∀ x, ∀ r ∈ alL n (mkR n G.c) G.hi x Qs, r ∈ alL n (mkR n F.c) F.hi x Ps := fun x => by rw [c]; exact al_mono ln sub h
  have m3 : ∀ r ∈ alL n (mkR n G.c) G.hi 0 (amL n (mkR n G.c) G.lo 0 Qs), r ∈ alL n (mkR n F.c) F.hi 0 (amL n (mkR n F.c) F.lo 0 Ps) := by
    have m1 := m1 0
    rw [c] at m1 ⊢
    exact al_mono ln m1 h
  have m4 : ∀ r ∈ fill n Qs (amL n (mkR n G.c) G.lo (-1) Qs ++ alL n (mkR n G.c) G.hi 1 Qs), r ∈ fill n Ps (amL n (mkR n F.c) F.lo (-1) Ps ++ alL n (mkR n F.c) F.hi 1 Ps) := fill_mono sub fun r hr => by
    rcases List.mem_append.mp hr with g | g
    · exact List.mem_append_left _ (m1 _ r g)
    · exact List.mem_append_right _ (m2 _ r g)
  cases o <;> cases w
  · exact m2 0
  · exact m1 (-1)
  · exact m2 1
  · exact m1 0
  · exact m4
  · exact m3
  · exact m3
  · exact m4
theorem asm_mono {E : Env26} {N : List Str} {κ : Str → Int} {n : Nat} (e : Fl) : ∀ {w : Bool} {Ps Qs : List (List Int)}, (∀ r ∈ Qs, r ∈ Ps) → ∀ r ∈ asmL E N κ n e w Qs, r ∈ asmL E N κ n e w Ps := by
  have ifs : ∀ (c : Prop) [Decidable c] {Ps Qs : List (List Int)}, (∀ r ∈ Qs, r ∈ Ps) → ∀ r ∈ (if c then Qs else []), r ∈ (if c then Ps else []) := fun c _ {Ps Qs} s r hr => by
    by_cases h : c
    · rw [if_pos h] at *
      exact s r hr
    · rw [if_neg h] at hr
      simp at hr
  induction e with
  | flag b => intro w Ps Qs s; exact ifs _ s
  | var z => intro w Ps Qs s; exact ifs _ s
  | same r t => intro w Ps Qs s; exact ifs _ s
  | cmp o a b =>
    intro w Ps Qs s r hr
    unfold asmL at *
    by_cases nQ : Qs = []
    · rw [if_pos nQ] at hr
      simp at hr
    · rw [if_neg nQ] at hr
      obtain ⟨q, hq⟩ := List.exists_mem_of_ne_nil _ nQ
      rw [if_neg (List.ne_nil_of_mem (s q hq))]
      have g := fm_mono (N := N) (κ := κ) (n := n) hq s (.bin .sub a b)
      rw [← dfm_eq, ← dfm_eq] at g
      exact cmp_mono g s r hr
  | not a ih => intro w Ps Qs s; exact ih s
  | and a b iha ihb =>
    intro w Ps Qs s
    cases w with
    | true => exact ihb (iha s)
    | false =>
      refine fill_mono s fun r hr => ?_
      rcases List.mem_append.mp hr with g | g
      · exact List.mem_append_left _ (iha s r g)
      · exact List.mem_append_right _ (ihb s r g)
  | or a b iha ihb =>
    intro w Ps Qs s
    cases w with
    | false => exact ihb (iha s)
    | true =>
      refine fill_mono s fun r hr => ?_
      rcases List.mem_append.mp hr with g | g
      · exact List.mem_append_left _ (iha s r g)
      · exact List.mem_append_right _ (ihb s r g)
/-! one point -/
theorem span_one {cs r : List Int} {lo : Int} : spanLo (hullM cs.length [r]) cs lo = val cs r + lo ∧ spanHi (hullM cs.length [r]) cs lo = val cs r + lo := by
  have hr : r ∈ [r] := List.mem_singleton.mpr rfl
  unfold spanLo spanHi
  rw [val_used]
  have e1 : ((usedZ cs).map fun k => tmin (hullM cs.length [r]) (cs.getD k 0) k) = (usedZ cs).map fun k => cs.getD k 0 * r.getD k 0 := List.map_congr_left fun k hk => by
    obtain ⟨s, hs, e⟩ := (tmin_le (c := cs.getD k 0) hr (mem_usedZ.mp hk).1).2
    rw [e, List.mem_singleton.mp hs]
  have e2 : ((usedZ cs).map fun k => tmax (hullM cs.length [r]) (cs.getD k 0) k) = (usedZ cs).map fun k => cs.getD k 0 * r.getD k 0 := List.map_congr_left fun k hk => by
    obtain ⟨s, hs, e⟩ := (tmax_ge (c := cs.getD k 0) hr (mem_usedZ.mp hk).1).2
    rw [e, List.mem_singleton.mp hs]
  rw [e1, e2]
  omega
theorem low_one {cs r : List Int} {lo : Int} : lowF cs lo [r] = val cs r + lo ∧ highF cs lo [r] = val cs r + lo := by
  have hr : r ∈ [r] := List.mem_singleton.mpr rfl
  unfold lowF highF
  split
  · obtain ⟨s, hs, e⟩ := (minV_le (cs := cs) hr).2
    obtain ⟨t, ht, f⟩ := (maxV_ge (cs := cs) hr).2
    rw [e, f, List.mem_singleton.mp hs, List.mem_singleton.mp ht]
    omega
  · exact span_one
theorem fm_one {N : List Str} {κ : Str → Int} {n : Nat} {r : List Int} (e : Ef) : (fm N κ n [r] e).lo = (fm N κ n [r] e).hi := by
  have tm : ∀ (A : Fm) (v : Int), A.lo = A.hi → (A.times v).lo = (A.times v).hi := fun A v h => by
    show min (v * A.lo) (v * A.hi) = max (v * A.lo) (v * A.hi)
    rw [h]
    omega
  induction e with
  | num i => rfl
  | var y =>
    unfold fm
    split <;> rfl
  | bin o a b h1 h2 =>
    cases o with
    | add =>
      rw [fm_bin_add]
      show _ + _ = _ + _
      rw [h1, h2]
    | sub =>
      rw [fm_bin_sub]
      show _ + _ = _ + _
      rw [h1, tm _ _ h2]
    | mul =>
      by_cases oa : occ N a = false
      · rw [fm_bin_mulL oa]
        exact tm _ _ h2
      · by_cases ob : occ N b = false
        · rw [fm_bin_mulR oa ob]
          exact tm _ _ h1
        · rw [fm_bin_prod oa ob]
          show min4 _ _ _ _ = max4 _ _ _ _
          unfold Fm.low Fm.high
          rw [h1, h2, low_one.1, low_one.2, low_one.1, low_one.2]
          unfold min4 max4
          omega
theorem am_one {n : Nat} {c : Nat → Int} {lo x : Int} {r s : List Int} (h : s ∈ amL n (mkR n c) lo x [r]) : vsum n c r + lo ≤ x := by
  rw [← val_mkR]
  unfold amL at h
  by_cases sm : Simple (mkR n c)
  · rw [if_pos sm] at h
    have := mem_keep.mp h
    rw [List.mem_singleton.mp this.1] at this
    exact this.2
  · rw [if_neg sm] at h
    have e := (span_one (cs := mkR n c) (r := r) (lo := lo)).1
    rw [mkR_len] at e
    rw [e] at h
    by_cases g : val (mkR n c) r + lo > x
    · rw [if_pos g] at h
      simp at h
    · omega
theorem neg_mkR {n : Nat} {c : Nat → Int} : (mkR n c).map (fun v => -v) = mkR n fun k => -(c k) := by
  unfold mkR
  rw [List.map_map]
  rfl
theorem vsum_neg {f : Nat → Int} {x : List Int} (n : Nat) : vsum n (fun k => -(f k)) x = -(vsum n f x) := by
  have := vsum_mul (v := -1) (f := f) (x := x) n
  rw [show (fun k => -1 * f k) = fun k => -(f k) from funext fun k => by omega] at this
  omega
theorem al_one {n : Nat} {c : Nat → Int} {hi x : Int} {r s : List Int} (h : s ∈ alL n (mkR n c) hi x [r]) : x ≤ vsum n c r + hi := by
  unfold alL at h
  rw [neg_mkR] at h
  have := am_one h
  rw [vsum_neg] at this
  omega
theorem one_or {r : List Int} {A : List (List Int)} (h : ∃ q : List Int → Bool, A = [r].filter q) : A = [] ∨ A = [r] := by
  obtain ⟨q, rfl⟩ := h
  by_cases c : q r = true
  · exact .inr (List.filter_cons_of_pos c)
  · exact .inl (List.filter_cons_of_neg c)
theorem cmp_exact {n : Nat} {F : Fm} {o : Co} {w : Bool} {r : List Int} {i j : Int} (h1 : vsum n F.c r + F.lo = i - j) (h2 : F.hi = F.lo) (h : r ∈ cmpL n F o w [r]) : o.ap i j = w := by
  have m3 : r ∈ alL n (mkR n F.c) F.hi 0 (amL n (mkR n F.c) F.lo 0 [r]) → i = j := fun h => by
    have g := am_sub r h
    have e := (one_or (am_flt (n := n) (cs := mkR n F.c) (lo := F.lo) (x := 0) (Ps := [r]))).resolve_left (List.ne_nil_of_mem g)
    rw [e] at h
    have a1 := am_one g
    have a2 := al_one h
    omega
  have m4 : r ∈ fill n [r] (amL n (mkR n F.c) F.lo (-1) [r] ++ alL n (mkR n F.c) F.hi 1 [r]) → i ≠ j := fun h => by
    obtain ⟨s, hs⟩ := List.exists_mem_of_ne_nil _ (fill_ne h)
    rcases List.mem_append.mp hs with g | g
    · have := am_one g
      omega
    · have := al_one g
      omega
  cases o <;> cases w
  · have := al_one (show r ∈ alL n (mkR n F.c) F.hi 0 [r] from h)
    exact decide_eq_false (by omega)
  · have := am_one (show r ∈ amL n (mkR n F.c) F.lo (-1) [r] from h)
    exact decide_eq_true (by omega)
  · have := al_one (show r ∈ alL n (mkR n F.c) F.hi 1 [r] from h)
    exact decide_eq_false (by omega)
  · have := am_one (show r ∈ amL n (mkR n F.c) F.lo 0 [r] from h)
    exact decide_eq_true (by omega)
  · exact decide_eq_false (m4 h)
  · exact decide_eq_true (m3 h)
  · exact decide_eq_false (fun z => z (m3 h))
  · exact decide_eq_true (m4 h)
theorem asm_exact {E : Env26} {N : List Str} {κ : Str → Int} {n : Nat} (ln : N.length ≤ n) {r : List Int} (e : Fl) : ∀ {w : Bool}, r ∈ asmL E N κ n e w [r] → evF E (rho N κ r) e = w := by
  have ifs : ∀ (c : Prop) [Decidable c], r ∈ (if c then [r] else []) → c := fun c _ h => by
    by_cases g : c
    · exact g
    · rw [if_neg g] at h
      simp at h
  have seq : ∀ {a b : Fl} {w : Bool}, r ∈ asmL E N κ n b w (asmL E N κ n a w [r]) → r ∈ asmL E N κ n a w [r] ∧ r ∈ asmL E N κ n b w [r] := fun {a b w} h => by
    have g := asm_sub r h
    have e := (one_or (asm_flt (E := E) (N := N) (κ := κ) (n := n) a (w := w) (Ps := [r]))).resolve_left (List.ne_nil_of_mem g)
    rw [e] at h
    exact ⟨g, h⟩
  have par : ∀ {a b : Fl} {w : Bool}, r ∈ fill n [r] (asmL E N κ n a w [r] ++ asmL E N κ n b w [r]) → r ∈ asmL E N κ n a w [r] ∨ r ∈ asmL E N κ n b w [r] := fun {a b w} h => by
    obtain ⟨s, hs⟩ := List.exists_mem_of_ne_nil _ (fill_ne h)
    have e : s = r := List.mem_singleton.mp (asm_pair_sub s hs)
    rw [e] at hs
    exact List.mem_append.mp hs
  induction e with
  | flag b => intro w h; exact ifs _ h
  | var z => intro w h; exact ifs _ h
  | same s t => intro w h; exact ifs _ h
  | cmp o a b =>
    intro w h
    unfold asmL at h
    rw [if_neg (by simp)] at h
    have g := fm_sound (κ := κ) (Zp.pt (n := n) (List.mem_singleton.mpr (rfl : r = r))) ln (.bin .sub a b)
    have e := fm_one (N := N) (κ := κ) (n := n) (r := r) (.bin .sub a b)
    rw [← dfm_eq] at g e
    have g1 : (dfm N κ n [r] a b).lo + vsum n (dfm N κ n [r] a b).c r ≤ evE (rho N κ r) a - evE (rho N κ r) b := g.1
    have g2 : evE (rho N κ r) a - evE (rho N κ r) b ≤ vsum n (dfm N κ n [r] a b).c r + (dfm N κ n [r] a b).hi := g.2
    exact cmp_exact (by omega) e.symm h
  | not a ih =>
    intro w h
    have g := ih (w := !w) h
    show (!evF E (rho N κ r) a) = w
    rw [g, Bool.not_not]
  | and a b iha ihb =>
    intro w h
    show (evF E (rho N κ r) a && evF E (rho N κ r) b) = w
    cases w with
    | true =>
      have g := seq h
      rw [iha g.1, ihb g.2]
      rfl
    | false =>
      rcases par h with g | g
      · rw [iha g]
        rfl
      · rw [ihb g, Bool.and_false]
  | or a b iha ihb =>
    intro w h
    show (evF E (rho N κ r) a || evF E (rho N κ r) b) = w
    cases w with
    | false =>
      have g := seq h
      rw [iha g.1, ihb g.2]
      rfl
    | true =>
      rcases par h with g | g
      · rw [iha g]
        rfl
      · rw [ihb g, Bool.or_true]
theorem asm_one {E : Env26} {N : List Str} {κ : Str → Int} {n : Nat} (ln : N.length ≤ n) {r : List Int} (e : Fl) (w : Bool) : asmL E N κ n e w [r] = if w = evF E (rho N κ r) e then [r] else [] := by
  by_cases h : w = evF E (rho N κ r) e
  · rw [if_pos h]
    exact (one_or (asm_flt e)).resolve_left (List.ne_nil_of_mem (asm_sound ln e (List.mem_singleton.mpr rfl) h.symm))
  · rw [if_neg h]
    refine (one_or (asm_flt e)).resolve_right fun z => h ?_
    exact (asm_exact ln e (by rw [z]; exact List.mem_singleton.mpr rfl)).symm
theorem full_one {n : Nat} {r : List Int} (l : r.length = n) : Full n [r] := by
  refine ⟨fun s hs => by rw [List.mem_singleton.mp hs]; exact l, fun ne p lp hp => List.mem_singleton.mpr ?_⟩
  have hd : ∀ a < n + 1, ∀ b < n + 1, dif a b p ≤ dif a b r := fun a ha b hb => by
    have g := hp a ha b hb
    obtain ⟨s, hs, e⟩ := hull_at (n := n) ne ha hb
    rw [List.mem_singleton.mp hs] at e
    rw [← e] at g
    exact g
  refine xc_ext lp l fun a ha => ?_
  have h1 := hd a ha 0 (by omega)
  have h2 := hd 0 (by omega) a ha
  rw [dif_xc, dif_xc] at h1 h2
  have z : ∀ s : List Int, xc s 0 = 0 := fun s => rfl
  rw [z, z] at h1 h2
  omega
/-! ### a part of the points (as in Drw24.inc) -/
def spPart24 (K : PySem.W.Frag) : Sp := fun vs H Q _ => ∃ (a p : Addr) (n : Nat) (Ps : List (List Int)), vs = [.ref a, .ref p] ∧ Src H a ∧ TPts H p Ps ∧ Full n Ps ∧ Ps ≠ [] ∧ n ≤ 20 ∧ Ps.length ≤ 125 ∧
  ∀ q H' Qs, Stp a H H' → H q = none → TPts H' q Qs → Full n Qs → Qs ≠ [] → Qs.length ≤ 125 → (∀ r ∈ Qs, r ∈ Ps) → Q (.ref q) H'
theorem src_ne24 {H : Hp} {a p : Addr} {as : List Addr} (h : Src H a) (e : H p = some (.lst (as.map V.ref))) : p ≠ a := fun z => by
  obtain ⟨x, y, w, e2⟩ := h
  rw [z, e2] at e
  cases as with
  | nil => cases e
  | cons b bs => cases e
section
variable {P : Program} {w : World} {K : PySem.W.Frag} {mg : Str → Option Value} {base : Heap}
theorem ok_l_part (T : Txt w K mg) : FnOk P w K mg base CX0 3 T.a_l_part T.d_l_part p_l_part (spPart24 K) := by
  have g_l_one := ok_l_oneG (P := P) (w := w) (K := K) (base := base) T
  have g_l_box := ok_l_box (P := P) (w := w) (K := K) (base := base) T
  have g_l_belongs := ok_l_belongs (P := P) (w := w) (K := K) (base := base) T
  refine T.F_l_part.ok sc_l_part (fun vs H Q E h => ?_) (fun cdv A outer s H vs Q E hr h => ?_)
  · obtain ⟨a, p, n, Ps, rfl, _⟩ := h
    rfl
  obtain ⟨a, p, n, Ps, rfl, hS, tP, fu, ne, hn, lP, q⟩ := h
  refine ⟨_, (pss_cons (ps_set (i := 2) sc_l_part.nd rfl (Or.inr rfl) (pe_call g_l_box (hr.mono (by first | decide | omega)) rfl T.m_l_box T.F_l_box.kp T.b_l_box .nil pass0 (pa_cons (pe_lst (pa_cons (pe_call g_l_one (hr.mono (by first | decide | omega)) rfl T.m_l_one T.F_l_one.kp T.b_l_one .nil pass0 (pa_cons (pv 0) (pa_cons (pv 1) pa_nil))) (pa_cons (pe_call g_l_one (hr.mono (by first | decide | omega)) rfl T.m_l_one T.F_l_one.kp T.b_l_one .nil pass0 (pa_cons (pv 0) (pa_cons (pv 1) pa_nil))) pa_nil))) pa_nil)))
      (pss_one (ps_ret (pe_lc (own := [("_law_point", 3)]) (g := gName 3) rfl sc_l_part.nd (pi_list (pv 1)) (blkOk_by (own := [("_law_point", 3)]) (N := n_l_part) (sc := defScope s_l_part) (by decide +kernel)) (fun _ _ _ _ _ => (pg_name (i := 3) sc_l_part.nd rfl (Or.inl rfl))) (fun _ _ _ _ _ => (pts_one (pt_val (pe_call g_l_belongs (hr.mono (by first | decide | omega)) rfl T.m_l_belongs T.F_l_belongs.kp T.b_l_belongs .nil pass0 (pa_cons (pv 2) (pa_cons (pv 3) pa_nil)))))) (fun _ _ _ _ _ => (pv 3)))))), ?_⟩
  obtain ⟨as, eP, hA⟩ := id tP
  have npa : p ≠ a := src_ne24 hS eP
  have las : 0 < as.length := by rw [hA.1]; exact List.length_pos_iff.mpr ne
  refine ⟨_, rfl, _, rfl, a, p, _, false, rfl, hS, fun _ => npa, SqL.of eP, by rw [List.length_map]; exact las, by rw [List.length_map, hA.1]; omega, fun v1 H1 hv1 st1 => ?_⟩
  obtain ⟨a1, ha1, rfl⟩ := List.mem_map.mp hv1
  obtain ⟨k1, hk1, ek1⟩ := List.getElem_of_mem ha1
  have eP1 := st1.k _ _ npa eP
  refine ⟨_, rfl, _, rfl, a, p, _, false, rfl, st1.s, fun _ => npa, SqL.of eP1, by rw [List.length_map]; exact las, by rw [List.length_map, hA.1]; omega, fun v2 H2 hv2 st2 => ?_⟩
  obtain ⟨a2, ha2, rfl⟩ := List.mem_map.mp hv2
  obtain ⟨k2, hk2, ek2⟩ := List.getElem_of_mem ha2
  have s2 := st1.trans st2
  have hA2 := hA.stp s2 hS
  have eP2 := s2.k _ _ npa eP
  refine ⟨(by show 2 ≤ sizeLine; decide), fun l hl => ?_⟩
  have f1 : Ps[k1]? = some (Ps[k1]'(by rw [← hA.1]; exact hk1)) := List.getElem?_eq_getElem _
  have f2 : Ps[k2]? = some (Ps[k2]'(by rw [← hA.1]; exact hk2)) := List.getElem?_eq_getElem _
  have m1 := List.mem_of_getElem? f1
  have m2 := List.mem_of_getElem? f2
  generalize Ps[k1]'(by rw [← hA.1]; exact hk1) = p1 at f1 m1
  generalize Ps[k2]'(by rw [← hA.1]; exact hk2) = p2 at f2 m2
  have g1 := hA2.2 k1 a1 p1 (by rw [← ek1]; exact List.getElem?_eq_getElem hk1) f1
  have g2 := hA2.2 k2 a2 p2 (by rw [← ek2]; exact List.getElem?_eq_getElem hk2) f2
  have sl := Same.new hl (.lst [.ref a1, .ref a2])
  have mx : Mx false true K (upd H2 l (.lst [.ref a1, .ref a2])) l [p1, p2] := ⟨[a1, a2], SqL.of upd_same, rfl, fun i b r e1 e2 => by
    match i, e1, e2 with
    | 0, e1, e2 =>
      cases e1
      cases e2
      exact SqT.of (sl _ _ g1)
    | 1, e1, e2 =>
      cases e1
      cases e2
      exact SqT.of (sl _ _ g2)
    | i + 2, e1, _ => simp at e1⟩
  refine ⟨l, n, [p1, p2], rfl, by omega, mx, fun r hr => ?_, by show 2 ≤ 1000; decide, fun vb F2 s3 b3 => ?_⟩
  · simp only [List.mem_cons, List.not_mem_nil, or_false] at hr
    rcases hr with rfl | rfl
    · exact fu.len _ m1
    · exact fu.len _ m2
  rw [hull_some (by simp)] at b3
  obtain ⟨pb, rfl, mB⟩ := b3
  have pfu := part_full fu m1 m2
  have dg : ∀ i < n + 1, getM (hullM n [p1, p2]) i i = 0 := fun i hi => (hull_clo (by simp)).d i hi
  have sF2 := (s2.new (o := .lst [.ref a1, .ref a2]) hl).same s3
  have eP3 := s3 _ _ (sl _ _ eP2)
  have hA3 := (hA2.same sl).same s3
  refine ⟨_, rfl, p, rfl, ⟨_, SqL.of eP3⟩, fun D hD => ?_⟩
  refine lc_it (walk_list (xs := as.map V.ref)) (fun i G => Same F2 G ∧ TPts G D ((Ps.take i).filter (inL n (hullM n [p1, p2])))) ⟨Same.new hD _, TPts.nil upd_same⟩ (fun i G _ P => SqL.of (P.1 _ _ eP3)) ?_ ?_
  · rintro i y F0 F hi ⟨sF, pF⟩ ⟨rfl, ex⟩
    rw [List.length_map, hA3.1] at hi
    have er : Ps[i]? = some Ps[i] := List.getElem?_eq_getElem hi
    have lq := fu.len _ (List.getElem_mem hi)
    generalize Ps[i] = r at er lq
    have ea : as[i]? = some (as[i]'(by rw [hA3.1]; exact hi)) := List.getElem?_eq_getElem _
    generalize as[i]'(by rw [hA3.1]; exact hi) = tq at ea
    rw [map_get ea] at ex
    obtain rfl := Option.some.inj ex
    have htq := sF _ _ (hA3.2 i tq r ea er)
    refine ⟨rfl, ?_⟩
    refine ⟨_, rfl, _, rfl, pb, tq, hullM n [p1, p2], r, rfl, by omega, mB.same sF, (by rw [lq]; exact hullM_sz n _), (by rw [lq]; exact dg), SqT.of htq, fun b F8 s8 hb => ⟨_, rfl, ite2 (fun h => ?_) (fun h => ?_)⟩⟩
    · have hin : inL n (hullM n [p1, p2]) r = true := inL_iff.mpr (by
        have := hb.mp h
        rwa [lq] at this)
      obtain ⟨bs, b1, b2⟩ := id (pF.same s8)
      refine ⟨_, rfl, _, b1, lt_line (by rw [List.length_map, b2.1]; have := List.length_filter_le (inL n (hullM n [p1, p2])) (Ps.take i); rw [List.length_take] at this; omega), fun c o e => ?_, ?_⟩
      · rw [upd_ne (ne_of_none e hD)]
        exact s8 _ _ (sF _ _ e)
      · rw [take_snoc er, List.filter_append, List.filter_cons_of_pos hin, List.filter_nil]
        exact TPts.push b2 (Same.refl _) b1 (s8 _ _ htq)
    · have hin : ¬ inL n (hullM n [p1, p2]) r = true := fun z => h (hb.mpr (by
        rw [lq]
        exact inL_iff.mp z))
      rw [take_snoc er, List.filter_append, List.filter_cons_of_neg hin, List.filter_nil, List.append_nil]
      exact ⟨sF.trans s8, pF.same s8⟩
  · rintro G ⟨sG, pG⟩
    rw [List.length_map, hA3.1, List.take_length] at pG
    exact q D G _ (sF2.same sG) (sF2.free hD) pG pfu.1 (List.ne_nil_of_mem pfu.2) (Nat.le_trans (List.length_filter_le _ _) lP) fun r hr => (List.mem_filter.mp hr).1
end
/-! ### law k26: the known values, drawn expressions -/
structure Kn26 (NU FL RF : List Str) (kvs : List (Key × V)) : Prop where
  n : ∀ z ∈ NU, ∃ i : Int, valV kvs (Sum.inr z) = some (.int i) ∧ -990000000 ≤ i ∧ i ≤ 990000000
  f : ∀ z ∈ FL, ∃ b, valV kvs (Sum.inr z) = some (.bl b)
  r : ∀ z ∈ RF, ∃ v, valV kvs (Sum.inr z) = some v ∧ Flat2 v
  a : ∀ k v, valV kvs k = some v → (∃ z, k = Sum.inr z) ∧ (v = .non ∨ (∃ b, v = .bl b) ∨ ∃ i, v = .int i)
  len : kvs.length ≤ 9
def spKnown26 : Sp := fun vs H Q _ => ∃ (a l : Addr) (zs : List Str), vs = [.ref a, .ref l] ∧ Src H a ∧ H l = some (.lst (zs.map V.str)) ∧ zs.length = 20 ∧ zs.Nodup ∧
  ∀ p H' kvs NU FL RF pd pn pf pr, Stp a H H' → H' p = some (.lst [.ref pd, .ref pn, .ref pf, .ref pr]) → H' pd = some (.dK kvs) → H' pn = some (.lst (NU.map V.str)) → H' pf = some (.lst (FL.map V.str)) → H' pr = some (.lst (RF.map V.str)) →
    NU.length ≤ 3 → FL.length ≤ 3 → RF.length ≤ 3 → (∀ z, z ∈ NU ∨ z ∈ FL ∨ z ∈ RF → z ∈ zs.drop 4) → Kn26 NU FL RF kvs → Q (.ref p) H'
def Gd26 (NU FL : List Str) (kvs : List (Key × V)) (z : Str) : Prop := (z ∈ NU ∧ ∃ i : Int, valV kvs (Sum.inr z) = some (.int i) ∧ -990000000 ≤ i ∧ i ≤ 990000000) ∨ (z ∉ NU ∧ z ∈ FL ∧ ∃ b, valV kvs (Sum.inr z) = some (.bl b)) ∨ (z ∉ NU ∧ z ∉ FL ∧ ∃ v, valV kvs (Sum.inr z) = some v ∧ Flat2 v)
theorem Gd26.put {NU FL : List Str} {kvs : List (Key × V)} {z y : Str} {v : V} (h : Gd26 NU FL kvs z) (ne : z ≠ y) : Gd26 NU FL (putK kvs (Sum.inr y) v) z := by
  have e : valV (putK kvs (Sum.inr y) v) (Sum.inr z) = valV kvs (Sum.inr z) := by rw [valV_put, if_neg (fun e => ne (Sum.inr.inj e))]
  unfold Gd26
  rw [e]
  exact h
theorem mem_seg {zs : List Str} {a r : Nat} {z : Str} (h : z ∈ (zs.drop a).take r) : ∃ i, a ≤ i ∧ i < a + r ∧ zs[i]? = some z := by
  obtain ⟨j, hj, e⟩ := List.getElem_of_mem h
  rw [List.length_take, List.length_drop] at hj
  refine ⟨a + j, by omega, by omega, ?_⟩
  rw [List.getElem_take, List.getElem_drop] at e
  rw [← e]
  exact List.getElem?_eq_getElem _
theorem seg_ne {zs : List Str} (nd : zs.Nodup) {a r b s : Nat} (h : a + r ≤ b) {z : Str} (h1 : z ∈ (zs.drop a).take r) : z ∉ (zs.drop b).take s := fun h2 => by
  obtain ⟨i, i1, i2, ei⟩ := mem_seg h1
  obtain ⟨j, j1, j2, ej⟩ := mem_seg h2
  have := (List.getElem?_inj (List.getElem?_eq_some_iff.mp ei).1 nd).mp (ei.trans ej.symm)
  omega
theorem cut_mid {xs : List V} {i j : Nat} (h : i ≤ j) (hj : j ≤ xs.length) : cutV xs (some (i : Int)) (some (j : Int)) = (xs.drop i).take (j - i) := by
  unfold cutV
  rw [HT.sIx_nat, HT.sIx_nat, Nat.min_eq_left hj, Nat.min_eq_left (Nat.le_trans h hj)]
theorem cut_seg {zs : List Str} {a : Nat} {r : Int} (r0 : 0 ≤ r) (h : a + r.toNat ≤ zs.length) : cutV (zs.map V.str) (some (a : Int)) (some ((a : Int) + r)) = ((zs.drop a).take r.toNat).map V.str := by
  have e5 : (a : Int) + r = ((a + r.toNat : Nat) : Int) := by omega
  rw [e5, cut_mid (by omega) (by rw [List.length_map]; exact h), Nat.add_sub_cancel_left, List.map_take, List.map_drop]
def spRef26 (K : PySem.W.Frag) : Sp := fun vs H Q _ => ∃ (a l : Addr) (RF : List Str), vs = [.ref a, .ref l] ∧ Src H a ∧ H l = some (.lst (RF.map V.str)) ∧ RF.length ≤ 20 ∧ ∀ v r H', Stp a H H' → RfAt K H' r v → r.ok RF → Q v H'
def spNum26 : Sp := fun vs H Q _ => ∃ i : Int, vs = [.int i] ∧ ∀ t (j : Int) H', Same H H' → H' t = some (.tup [.str "num", .int j]) → -1000000000 ≤ j → j ≤ 1000000000 → Q (.ref t) H'
def spSide26 (K : PySem.W.Frag) : Sp := fun vs H Q _ => ∃ (a pl nl : Addr) (S N : List Str), vs = [.ref a, .ref pl, .ref nl, .int 3] ∧ Src H a ∧ H pl = some (.lst (S.map V.str)) ∧ S.length ≤ 40 ∧ H nl = some (.lst (N.map V.str)) ∧ N.length ≤ 40 ∧ (∀ z ∈ N, z ∈ S) ∧
  ∀ v e H', Stp a H H' → EfAt K H' e v → e.ok S 3 → Q v H'
section
variable {P : Program} {w : World} {K : PySem.W.Frag} {mg : Str → Option Value} {base : Heap}
theorem ok_l_known (T : Txt w K mg) : FnOk P w K mg base CX0 4 T.a_l_known T.d_l_known p_l_known spKnown26 := by
  have g_l_pick := ok_l_pick (P := P) (w := w) (base := base) T
  have g_l_far := ok_l_farB (P := P) (w := w) (base := base) T
  have g_l_order := ok_l_order (P := P) (w := w) (K := K) (base := base) T
  have g_l_one := ok_l_oneG (P := P) (w := w) (K := K) (base := base) T
  refine T.F_l_known.ok sc_l_known (fun vs H Q E h => ?_) (fun cdv A outer s H vs Q E hr h => ?_)
  · obtain ⟨a, l, zs, rfl, _⟩ := h
    rfl
  obtain ⟨a, l, zs, rfl, hS, hl, lz, nd, q⟩ := h
  refine ⟨_, (pss_cons (ps_set (i := 2) sc_l_known.nd rfl (Or.inl rfl) pe_dnewK)
      (pss_cons (ps_set (i := 3) sc_l_known.nd rfl (Or.inl rfl) (pe_slice sl_list (pv 1) (po_some pe_int) (po_some (pe_op op_add pe_int (pe_call g_l_pick (hr.mono (by first | decide | omega)) rfl T.m_l_pick T.F_l_pick.kp T.b_l_pick .nil pass0 (pa_cons (pv 0) (pa_cons pe_int pa_nil)))))))
      (pss_cons (ps_set (i := 4) sc_l_known.nd rfl (Or.inl rfl) (pe_slice sl_list (pv 1) (po_some pe_int) (po_some (pe_op op_add pe_int (pe_call g_l_pick (hr.mono (by first | decide | omega)) rfl T.m_l_pick T.F_l_pick.kp T.b_l_pick .nil pass0 (pa_cons (pv 0) (pa_cons pe_int pa_nil)))))))
      (pss_cons (ps_set (i := 5) sc_l_known.nd rfl (Or.inl rfl) (pe_slice sl_list (pv 1) (po_some pe_int) (po_some (pe_op op_add pe_int (pe_call g_l_pick (hr.mono (by first | decide | omega)) rfl T.m_l_pick T.F_l_pick.kp T.b_l_pick .nil pass0 (pa_cons (pv 0) (pa_cons pe_int pa_nil)))))))
      (pss_cons (ps_for PassesOwn.never rfl (pi_list (pe_call g_l_order (hr.mono (by first | decide | omega)) rfl T.m_l_order T.F_l_order.kp T.b_l_order .nil pass0 (pa_cons (pv 0) (pa_cons (pe_op op_cat (pe_op op_cat (pv 3) (pv 4)) (pv 5)) pa_nil)))) (pg_name (i := 6) sc_l_known.nd rfl (Or.inl rfl))
        (pss_one (ps_if (pt_cmpR op_in_seq (pv 6) (pv 3) (by rfl)) (pss_one (ps_dput (hu_of hr) (pv 2) (pv 6) (pe_call g_l_far (hr.mono (by first | decide | omega)) rfl T.m_l_far T.F_l_far.kp T.b_l_far .nil pass0 (pa_cons (pv 0) pa_nil)) rfl)) (pss_one (ps_if (pt_cmpR op_in_seq (pv 6) (pv 4) (by rfl)) (pss_one (ps_dput (hu_of hr) (pv 2) (pv 6) (pe_cmpR op_eq (pe_call g_l_pick (hr.mono (by first | decide | omega)) rfl T.m_l_pick T.F_l_pick.kp T.b_l_pick .nil pass0 (pa_cons (pv 0) (pa_cons pe_int pa_nil))) pe_int (nomark _)) rfl)) (pss_one (ps_dput (hu_of hr) (pv 2) (pv 6) (pe_call g_l_one (hr.mono (by first | decide | omega)) rfl T.m_l_one T.F_l_one.kp T.b_l_one .nil pass0 (pa_cons (pv 0) (pa_cons (pe_lst (pa_cons pe_non (pa_cons pe_int (pa_cons pe_int (pa_cons pe_int pa_nil))))) pa_nil))) rfl)))))))
      (pss_one (ps_ret (pe_lst (pa_cons (pv 2) (pa_cons (pv 3) (pa_cons (pv 4) (pa_cons (pv 5) pa_nil)))))))))))), ?_⟩
  have nla := lst_ne' hS hl
  refine fun d hd => ?_
  have sd := Same.new hd (.dK [])
  have nda : d ≠ a := (hS.ne hd).symm
  have hd0 : (upd H d (.dK [])) d = some (.dK []) := upd_same
  have st0 := Stp.of_same hS sd
  generalize (upd H d (.dK [])) = H1 at hd0 st0
  refine ⟨_, rfl, 4, rfl, _, rfl, a, 4, rfl, st0.s, by decide, fun r1 G1 st1 r10 r11 => ⟨_, _, rfl, rfl, _, rfl, l, _, rfl, SqL.of ((st0.trans st1).k _ _ nla hl), fun nu hnu => ?_⟩⟩
  rw [show cutV (zs.map V.str) (some 4) (some (4 + r1)) = ((zs.drop 4).take r1.toNat).map V.str from cut_seg (a := 4) r10 (by omega)]
  have su := ((st0.trans st1).new (o := .lst (((zs.drop 4).take r1.toNat).map V.str)) hnu)
  have eu : (upd G1 nu (.lst (((zs.drop 4).take r1.toNat).map V.str))) nu = some (.lst (((zs.drop 4).take r1.toNat).map V.str)) := upd_same
  have du := (Same.new hnu (.lst (((zs.drop 4).take r1.toNat).map V.str))) _ _ (st1.k _ _ nda hd0)
  generalize (upd G1 nu (.lst (((zs.drop 4).take r1.toNat).map V.str))) = G2 at su eu du
  have nnu := lst_ne' su.s eu
  refine ⟨_, rfl, 8, rfl, _, rfl, a, 4, rfl, su.s, by decide, fun r2 G3 st3 r20 r21 => ⟨_, _, rfl, rfl, _, rfl, l, _, rfl, SqL.of ((su.trans st3).k _ _ nla hl), fun fl hfl => ?_⟩⟩
  rw [show cutV (zs.map V.str) (some 8) (some (8 + r2)) = ((zs.drop 8).take r2.toNat).map V.str from cut_seg (a := 8) r20 (by omega)]
  have sf := ((su.trans st3).new (o := .lst (((zs.drop 8).take r2.toNat).map V.str)) hfl)
  have ef : (upd G3 fl (.lst (((zs.drop 8).take r2.toNat).map V.str))) fl = some (.lst (((zs.drop 8).take r2.toNat).map V.str)) := upd_same
  have df := (Same.new hfl (.lst (((zs.drop 8).take r2.toNat).map V.str))) _ _ (st3.k _ _ nda du)
  have uf := (Same.new hfl (.lst (((zs.drop 8).take r2.toNat).map V.str))) _ _ (st3.k _ _ nnu eu)
  generalize (upd G3 fl (.lst (((zs.drop 8).take r2.toNat).map V.str))) = G4 at sf ef df uf
  have nfl := lst_ne' sf.s ef
  refine ⟨_, rfl, 12, rfl, _, rfl, a, 4, rfl, sf.s, by decide, fun r3 G5 st5 r30 r31 => ⟨_, _, rfl, rfl, _, rfl, l, _, rfl, SqL.of ((sf.trans st5).k _ _ nla hl), fun rf hrf => ?_⟩⟩
  rw [show cutV (zs.map V.str) (some 12) (some (12 + r3)) = ((zs.drop 12).take r3.toNat).map V.str from cut_seg (a := 12) r30 (by omega)]
  have sr := ((sf.trans st5).new (o := .lst (((zs.drop 12).take r3.toNat).map V.str)) hrf)
  have er : (upd G5 rf (.lst (((zs.drop 12).take r3.toNat).map V.str))) rf = some (.lst (((zs.drop 12).take r3.toNat).map V.str)) := upd_same
  have dr := (Same.new hrf (.lst (((zs.drop 12).take r3.toNat).map V.str))) _ _ (st5.k _ _ nda df)
  have ur := (Same.new hrf (.lst (((zs.drop 12).take r3.toNat).map V.str))) _ _ (st5.k _ _ nnu uf)
  have fr := (Same.new hrf (.lst (((zs.drop 12).take r3.toNat).map V.str))) _ _ (st5.k _ _ nfl ef)
  generalize (upd G5 rf (.lst (((zs.drop 12).take r3.toNat).map V.str))) = G6 at sr er dr ur fr
  have nrf := lst_ne' sr.s er
  have nu_fl : ∀ z ∈ (zs.drop 8).take r2.toNat, z ∉ (zs.drop 4).take r1.toNat := fun z h1 h2 => seg_ne nd (by omega) h2 h1
  have nu_rf : ∀ z ∈ (zs.drop 12).take r3.toNat, z ∉ (zs.drop 4).take r1.toNat := fun z h1 h2 => seg_ne nd (by omega) h2 h1
  have fl_rf : ∀ z ∈ (zs.drop 12).take r3.toNat, z ∉ (zs.drop 8).take r2.toNat := fun z h1 h2 => seg_ne nd (by omega) h2 h1
  have in4 : ∀ z, z ∈ (zs.drop 4).take r1.toNat ∨ z ∈ (zs.drop 8).take r2.toNat ∨ z ∈ (zs.drop 12).take r3.toNat → z ∈ zs.drop 4 := fun z h => by
    rcases h with h | h | h
    · exact List.mem_of_mem_take h
    · have h := List.mem_of_mem_take h
      rw [show (8 : Nat) = 4 + 4 from rfl, ← List.drop_drop] at h
      exact List.mem_of_mem_drop h
    · have h := List.mem_of_mem_take h
      rw [show (12 : Nat) = 4 + 8 from rfl, ← List.drop_drop] at h
      exact List.mem_of_mem_drop h
  have l1 : ((zs.drop 4).take r1.toNat).length ≤ 3 := by rw [List.length_take]; omega
  have l2 : ((zs.drop 8).take r2.toNat).length ≤ 3 := by rw [List.length_take]; omega
  have l3 : ((zs.drop 12).take r3.toNat).length ≤ 3 := by rw [List.length_take]; omega
  generalize (zs.drop 4).take r1.toNat = NU at *
  generalize (zs.drop 8).take r2.toNat = FL at *
  generalize (zs.drop 12).take r3.toNat = RF at *
  clear su sf st1 st3 st5 st0 eu ef uf df du hd0
  refine ⟨_, rfl, _, rfl, _, rfl, nu, fl, _, _, rfl, rfl, ur, fr, by rw [List.length_map, List.length_map]; exact Nat.le_of_lt (small1000 (by omega)), fun c1 hc1 => ?_⟩
  have sc1 := Same.new hc1 (.lst (NU.map V.str ++ FL.map V.str))
  refine ⟨_, rfl, c1, rf, _, _, rfl, rfl, upd_same, sc1 _ _ er, by rw [List.length_append, List.length_map, List.length_map, List.length_map]; exact Nat.le_of_lt (small1000 (by omega)), fun c2 hc2 => ?_⟩
  have sc2 := sc1.trans (Same.new hc2 (.lst (NU.map V.str ++ FL.map V.str ++ RF.map V.str)))
  have e2 : (upd (upd G6 c1 (.lst (NU.map V.str ++ FL.map V.str))) c2 (.lst (NU.map V.str ++ FL.map V.str ++ RF.map V.str))) c2 = some (.lst ((NU ++ FL ++ RF).map V.str)) := by
    rw [List.map_append, List.map_append]
    exact upd_same
  refine ⟨a, c2, NU ++ FL ++ RF, rfl, (sr.same sc2).s, e2, by rw [List.length_append, List.length_append]; omega, fun O o G pm stO ho hO => ?_⟩
  have sG := (sr.same sc2).trans stO
  have noa := lst_ne' sG.s hO
  have lO : O.length ≤ 9 := by
    rw [pm.length_eq, List.length_append, List.length_append]
    omega
  have dG := stO.k _ _ nda (sc2 _ _ dr)
  have uG := stO.k _ _ nnu (sc2 _ _ ur)
  have fG := stO.k _ _ nfl (sc2 _ _ fr)
  have rG := stO.k _ _ nrf (sc2 _ _ er)
  have hdn : H d = none := hd
  have ne_d : ∀ {b : Addr} {xs : List V}, G b = some (.lst xs) → b ≠ d := fun h z => by rw [z, dG] at h; cases h
  clear sc2 e2 sc1 stO ho
  refine ⟨o, rfl, ⟨_, SqL.of hO⟩, for_list (K := K) (a := o) (xs := O.map V.str) (fun i σ F => Src F a ∧ (∀ b u, b ≠ a → b ≠ d → G b = some u → F b = some u) ∧ (∃ kvs, F d = some (.dK kvs) ∧ kvs.length ≤ i ∧ (∀ z ∈ O.take i, Gd26 NU FL kvs z) ∧ (∀ k v, valV kvs k = some v → (∃ z, k = Sum.inr z) ∧ (v = .non ∨ (∃ b, v = .bl b) ∨ ∃ i, v = .int i))) ∧ ∃ v6 : Option V, σ = [some (.ref a), some (.ref l), some (.ref d), some (.ref nu), some (.ref fl), some (.ref rf), v6])
    ⟨sG.s, fun _ _ _ _ h => h, ⟨[], dG, Nat.le_refl _, fun z hz => by simp at hz, fun k v e => nomatch (show (none : Option V) = some v from e)⟩, none, rfl⟩ (fun i σ F _ ⟨_, kp, _⟩ => SqL.of (kp _ _ noa (ne_d hO) hO)) ?_ ?_⟩
  · rintro i y σ F ey ⟨sF, kp, ⟨kvs, hk, lk, gk, ak⟩, v6, rfl⟩
    obtain ⟨w1, ew, rfl⟩ : ∃ w1, O[i]? = some w1 ∧ y = .str w1 := by
      rw [List.getElem?_map] at ey
      cases e : O[i]? with
      | none => rw [e] at ey; cases ey
      | some z => rw [e] at ey; exact ⟨z, rfl, (Option.some.inj ey).symm⟩
    have i9 : i < 9 := by
      have := (List.getElem?_eq_some_iff.mp ew).1
      omega
    have tk : O.take (i + 1) = O.take i ++ [w1] := by
      rw [List.take_add_one, ew]
      rfl
    have fin : ∀ {F' : Hp} {v : V}, Stp a F F' → (v = .non ∨ (∃ b, v = .bl b) ∨ ∃ i, v = .int i) → Gd26 NU FL (putK kvs (Sum.inr w1) v) w1 →
        Src (upd F' d (.dK (putK kvs (Sum.inr w1) v))) a ∧ (∀ b u, b ≠ a → b ≠ d → G b = some u → (upd F' d (.dK (putK kvs (Sum.inr w1) v))) b = some u) ∧ (∃ kvs', (upd F' d (.dK (putK kvs (Sum.inr w1) v))) d = some (.dK kvs') ∧ kvs'.length ≤ i + 1 ∧ (∀ z ∈ O.take (i + 1), Gd26 NU FL kvs' z) ∧ (∀ k v, valV kvs' k = some v → (∃ z, k = Sum.inr z) ∧ (v = .non ∨ (∃ b, v = .bl b) ∨ ∃ i, v = .int i))) := fun {F' v} st hv hg => by
      obtain ⟨c, m, k, hc⟩ := st.s
      refine ⟨⟨c, m, k, by rw [upd_ne nda.symm]; exact hc⟩, fun b u h1 h2 h3 => by rw [upd_ne h2]; exact st.k _ _ h1 (kp b u h1 h2 h3), _, upd_same, ?_, fun z hz => ?_, fun k v e => ?_⟩
      · have := putK_lenle (kvs := kvs) (k := Sum.inr w1) (y := v)
        omega
      · by_cases e : z = w1
        · rw [e]
          exact hg
        · rw [tk] at hz
          rcases List.mem_append.mp hz with h | h
          · exact (gk z h).put e
          · exact absurd (List.mem_singleton.mp h) e
      · rw [valV_put] at e
        by_cases c : k = Sum.inr w1
        · rw [if_pos c] at e
          cases e
          exact ⟨⟨w1, c⟩, hv⟩
        · rw [if_neg c] at e
          exact ak k v e
    have pv : ∀ v : V, valV (putK kvs (Sum.inr w1) v) (Sum.inr w1) = some v := fun v => by rw [valV_put, if_pos rfl]
    refine ⟨_, rfl, _, rfl, nu, _, rfl, .inl (SqL.of (kp _ _ nnu (ne_d uG) uG)), rfl, flatS NU, _, rfl, ?_⟩
    rw [inV_str]
    refine ite2 (fun hz => ?_) (fun hz => ⟨_, rfl, _, rfl, fl, _, rfl, .inl (SqL.of (kp _ _ nfl (ne_d fG) fG)), rfl, flatS FL, _, rfl, ?_⟩)
    · refine ⟨_, rfl, a, rfl, sF, fun r F2 st2 b1 b2 => ?_⟩
      refine ⟨_, rfl, _, rfl, d, _, rfl, DPut.k (k := Sum.inr w1) (st2.k _ _ nda hk) (small1000 (by omega)), ?_⟩
      have f := fin st2 (.inr (.inr ⟨r, rfl⟩)) (.inl ⟨of_decide_eq_true hz, r, pv _, b1, b2⟩)
      exact ⟨f.1, f.2.1, f.2.2, _, rfl⟩
    · have hz1 : w1 ∉ NU := fun z => hz (decide_eq_true z)
      rw [inV_str]
      refine ite2 (fun hz2 => ?_) (fun hz2 => ?_)
      · refine ⟨_, rfl, a, 2, rfl, sF, by decide, fun r F2 st2 _ _ => ⟨rfl, ?_⟩⟩
        refine ⟨_, rfl, _, rfl, d, _, rfl, DPut.k (k := Sum.inr w1) (st2.k _ _ nda hk) (small1000 (by omega)), ?_⟩
        have f := fin st2 (v := .bl (decide (V.int r = V.int 1))) (.inr (.inl ⟨_, rfl⟩)) (.inr (.inl ⟨hz1, of_decide_eq_true hz2, _, pv _⟩))
        exact ⟨f.1, f.2.1, f.2.2, _, rfl⟩
      · have hz3 : w1 ∉ FL := fun z => hz2 (decide_eq_true z)
        refine ⟨_, rfl, by show 4 ≤ sizeLine; decide, fun l4 hl4 => ?_⟩
        have s4 := Stp.of_same sF (Same.new hl4 (.lst [.non, .int 0, .int 1, .int 2]))
        refine ⟨a, l4, _, false, rfl, s4.s, fun _ => (sF.ne hl4).symm, SqL.of upd_same, by show 0 < 4; decide, by show 4 < 1000; decide, fun v F2 hv st2 => ?_⟩
        have st := s4.trans st2
        have hv2 : Flat2 v := by
          simp only [List.mem_cons, List.not_mem_nil, or_false] at hv
          rcases hv with rfl | rfl | rfl | rfl
          · exact .inl rfl
          · exact .inr ⟨_, rfl⟩
          · exact .inr ⟨_, rfl⟩
          · exact .inr ⟨_, rfl⟩
        refine ⟨_, rfl, _, rfl, d, _, rfl, DPut.k (k := Sum.inr w1) (st.k _ _ nda hk) (small1000 (by omega)), ?_⟩
        have f := fin st (hv2.elim .inl fun h => .inr (.inr h)) (.inr (.inr ⟨hz1, hz3, v, pv _, hv2⟩))
        exact ⟨f.1, f.2.1, f.2.2, _, rfl⟩
  · rintro σ F ⟨sF, kp, ⟨kvs, hk, lk, gk, ak⟩, v6, rfl⟩
    rw [List.length_map, List.take_length] at gk
    rw [List.length_map] at lk
    have kn : Kn26 NU FL RF kvs := by
      refine ⟨fun z hz => ?_, fun z hz => ?_, fun z hz => ?_, ak, by omega⟩
      · rcases gk z (pm.mem_iff.mpr (List.mem_append_left _ (List.mem_append_left _ hz))) with ⟨_, h⟩ | ⟨h, _⟩ | ⟨h, _⟩
        · exact h
        · exact absurd hz h
        · exact absurd hz h
      · rcases gk z (pm.mem_iff.mpr (List.mem_append_left _ (List.mem_append_right _ hz))) with ⟨h, _⟩ | ⟨_, _, h⟩ | ⟨_, h, _⟩
        · exact absurd h (nu_fl z hz)
        · exact h
        · exact absurd hz h
      · rcases gk z (pm.mem_iff.mpr (List.mem_append_right _ hz)) with ⟨h, _⟩ | ⟨_, h, _⟩ | ⟨_, _, h⟩
        · exact absurd h (nu_rf z hz)
        · exact absurd h (fl_rf z hz)
        · exact h
    refine ⟨_, rfl, _, rfl, _, rfl, _, rfl, by show 4 ≤ sizeLine; decide, fun p hp => ?_⟩
    have sp := Same.new hp (.lst [.ref d, .ref nu, .ref fl, .ref rf])
    have stF : Stp a H F := ⟨sF, fun b u hb e => kp b u hb (ne_of_none e hdn) (sG.k b u hb e)⟩
    exact q p _ kvs NU FL RF d nu fl rf (stF.same sp) upd_same (sp _ _ hk) (sp _ _ (kp _ _ nnu (ne_d uG) uG)) (sp _ _ (kp _ _ nfl (ne_d fG) fG)) (sp _ _ (kp _ _ nrf (ne_d rG) rG)) l1 l2 l3 in4 kn
theorem ok_l_reference (T : Txt w K mg) : FnOk P w K mg base CX0 3 T.a_l_reference T.d_l_reference p_l_reference (spRef26 K) := by
  have g_l_pick := ok_l_pick (P := P) (w := w) (base := base) T
  have g_l_one := ok_l_oneG (P := P) (w := w) (K := K) (base := base) T
  refine T.F_l_reference.ok sc_l_reference (fun vs H Q E h => ?_) (fun cdv A outer s H vs Q E hr h => ?_)
  · obtain ⟨a, l, RF, rfl, _⟩ := h
    rfl
  obtain ⟨a, l, RF, rfl, hS, hl, lR, q⟩ := h
  refine ⟨_, (pss_cons (ps_if (PW.pt (pw_or (pt_cmpR (op_eqL0 hr.units0) (pv 1) (pe_lst pa_nil) (nomark _)) (pw_or1 (pt_cmpR op_eq (pe_call g_l_pick (hr.mono (by first | decide | omega)) rfl T.m_l_pick T.F_l_pick.kp T.b_l_pick .nil pass0 (pa_cons (pv 0) (pa_cons pe_int pa_nil))) pe_int (nomark _))))) (pss_one (ps_ret (pe_tup (pa_cons pe_str pa_nil)))) pss_nil)
      (pss_one (ps_ret (pe_tup (pa_cons pe_str (pa_cons (pe_call g_l_one (hr.mono (by first | decide | omega)) rfl T.m_l_one T.F_l_one.kp T.b_l_one .nil pass0 (pa_cons (pv 0) (pa_cons (pv 1) pa_nil))) pa_nil)))))), ?_⟩
  have nla := lst_ne' hS hl
  have nul : ∀ {G : Hp}, Stp a H G → tRet (tTup (tCons (tC (V.str (Str.ofString "null"))) tNil)) { nx := fun x H' => Q V.non H', rt := Q } (L2.start n_l_reference [V.ref a, V.ref l]) G := fun {G} sG => by
    refine ⟨by show 1 ≤ sizeLine; decide, fun t ht => ?_⟩
    exact q (.ref t) .null _ (sG.new ht) ⟨t, rfl, SqT.of upd_same⟩ trivial
  refine ⟨_, rfl, by show 0 ≤ sizeLine; decide, fun e0 he => ?_⟩
  have se := Same.new he (.lst [])
  have stE := Stp.of_same hS se
  refine ⟨l, e0, _, rfl, rfl, SqL.of (se _ _ hl), SqL.of upd_same, _, rfl, ite2 (fun h => iteT (nul stE)) (fun h => ?_)⟩
  have ne : RF ≠ [] := fun z => by
    subst z
    exact h rfl
  refine ⟨_, rfl, a, 4, rfl, stE.s, by decide, fun r G st r0 r1 => ⟨rfl, _, rfl, ite2 (fun _ => nul (stE.trans st)) (fun _ => ?_)⟩⟩
  have hlG := st.k _ _ nla (se _ _ hl)
  have sG := stE.trans st
  refine ⟨_, rfl, _, rfl, a, l, _, false, rfl, sG.s, fun _ => nla, SqL.of hlG, by rw [List.length_map]; exact List.length_pos_iff.mpr ne, by rw [List.length_map]; omega, fun v G2 hv st2 => ⟨by show 2 ≤ sizeLine; decide, fun t ht => ?_⟩⟩
  obtain ⟨z, hz, rfl⟩ := List.mem_map.mp hv
  exact q (.ref t) (.var z) _ ((sG.trans st2).new ht) ⟨t, rfl, SqT.of upd_same⟩ hz
theorem ok_l_num (T : Txt w K mg) : FnOk P w K mg base CX0 1 T.a_l_num T.d_l_num p_l_num spNum26 := by
  refine T.F_l_num.ok sc_l_num (fun vs H Q E h => ?_) (fun cdv A outer s H vs Q E hr h => ?_)
  · obtain ⟨i, rfl, _⟩ := h
    rfl
  obtain ⟨i, rfl, q⟩ := h
  refine ⟨_, (pss_one (ps_ret (pe_tup (pa_cons pe_str (pa_cons (pe_callB (call_max2 rfl) rfl T.z_max bb_max (pa_cons (pe_callB (call_min2 rfl) rfl T.z_min bb_min (pa_cons (pv 0) (pa_cons (pe_op op_pow pe_int pe_int) pa_nil))) (pa_cons (pe_un un_neg (pe_op op_pow pe_int pe_int)) pa_nil))) pa_nil))))), ?_⟩
  have e9 : (10 : Int) ^ (9 : Int).toNat = 1000000000 := by decide
  have cp : CPow 10 9 := ⟨by decide, by decide, by decide⟩
  refine ⟨_, rfl, _, _, rfl, rfl, cp, _, _, rfl, _, _, rfl, rfl, cp, _, rfl, _, _, rfl, by show 2 ≤ sizeLine; decide, fun t ht => ?_⟩
  refine q t _ _ (Same.new ht _) upd_same ?_ ?_
  · rw [e9]
    split <;> split <;> omega
  · rw [e9]
    split <;> split <;> omega
theorem ok_l_side (T : Txt w K mg) : FnOk P w K mg base CX0 9 T.a_l_side T.d_l_side p_l_side (spSide26 K) := by
  have g_l_pick := ok_l_pick (P := P) (w := w) (base := base) T
  have g_l_one := ok_l_oneG (P := P) (w := w) (K := K) (base := base) T
  have g_l_number := ok_l_number (P := P) (w := w) (K := K) (base := base) T 3 (by decide)
  refine T.F_l_side.ok sc_l_side (fun vs H Q E h => ?_) (fun cdv A outer s H vs Q E hr h => ?_)
  · obtain ⟨a, pl, nl, S, N, rfl, _⟩ := h
    rfl
  obtain ⟨a, pl, nl, S, N, rfl, hS, hp, lS, hN, lN, sub, q⟩ := h
  refine ⟨_, (pss_cons (ps_set (i := 4) sc_l_side.nd rfl (Or.inl rfl) (pe_call g_l_pick (hr.mono (by first | decide | omega)) rfl T.m_l_pick T.F_l_pick.kp T.b_l_pick .nil pass0 (pa_cons (pv 0) (pa_cons pe_int pa_nil))))
      (pss_cons (ps_if (PW.pt (pw_or (pt_cmpR (op_eqL0 hr.units0) (pv 2) (pe_lst pa_nil) (nomark _)) (pw_or1 (pt_cmpR op_gt (pv 4) pe_int (nomark _))))) (pss_one (ps_ret (pe_call g_l_number (hr.mono (by first | decide | omega)) rfl T.m_l_number T.F_l_number.kp T.b_l_number .nil pass0 (pa_cons (pv 0) (pa_cons (pv 1) (pa_cons (pe_call g_l_pick (hr.mono (by first | decide | omega)) rfl T.m_l_pick T.F_l_pick.kp T.b_l_pick .nil pass0 (pa_cons (pv 0) (pa_cons (pv 3) pa_nil))) pa_nil)))))) pss_nil)
      (pss_cons (ps_if (pt_cmpR op_lt (pv 4) pe_int (nomark _)) (pss_one (ps_ret (pe_tup (pa_cons pe_str (pa_cons (pe_tup (pa_cons pe_str (pa_cons (pe_call g_l_one (hr.mono (by first | decide | omega)) rfl T.m_l_one T.F_l_one.kp T.b_l_one .nil pass0 (pa_cons (pv 0) (pa_cons (pv 2) pa_nil))) pa_nil))) (pa_cons (pe_tup (pa_cons pe_str (pa_cons (pe_call g_l_one (hr.mono (by first | decide | omega)) rfl T.m_l_one T.F_l_one.kp T.b_l_one .nil pass0 (pa_cons (pv 0) (pa_cons (pv 2) pa_nil))) pa_nil))) pa_nil)))))) pss_nil)
      (pss_one (ps_ret (pe_tup (pa_cons pe_str (pa_cons (pe_call g_l_one (hr.mono (by first | decide | omega)) rfl T.m_l_one T.F_l_one.kp T.b_l_one .nil pass0 (pa_cons (pv 0) (pa_cons (pv 2) pa_nil))) pa_nil)))))))), ?_⟩
  have npa := lst_ne' hS hp
  have nna := lst_ne' hS hN
  refine ⟨_, rfl, a, 8, rfl, hS, by decide, fun c H1 st1 c0 c1 => ?_⟩
  have num : ∀ {G : Hp}, Stp a H G → tRet (tCall (spNum23 K 3) [] E0 (tCons (tVar 0) (tCons (tVar 1) (tCons (tCall spPick [] E0 (tCons (tVar 0) (tCons (tVar 3) tNil))) tNil)))) { nx := fun x H' => Q V.non H', rt := Q } (List.set (L2.start n_l_side [V.ref a, V.ref pl, V.ref nl, V.int 3]) 4 (some (V.int c))) G := fun {G} sG => by
    refine ⟨_, rfl, _, rfl, _, rfl, _, rfl, a, 3, rfl, sG.s, by decide, fun r G2 st2 r0 r1 => ?_⟩
    refine ⟨a, pl, S, r.toNat, by rw [Int.toNat_of_nonneg r0]; rfl, st2.s, (sG.trans st2).k _ _ npa hp, by omega, by omega, fun v e G3 st3 hx oe => ?_⟩
    exact q v e G3 ((sG.trans st2).trans st3) hx (oe.le' (show r.toNat + 1 ≤ 3 by omega))
  have hN1 := st1.k _ _ nna hN
  refine ⟨_, rfl, by show 0 ≤ sizeLine; decide, fun e0 he => ?_⟩
  have se := Same.new he (.lst [])
  have stE := st1.same se
  refine ⟨nl, e0, _, rfl, rfl, SqL.of (se _ _ hN1), SqL.of upd_same, _, rfl, ite2 (fun h => iteT (num stE)) (fun h => ?_)⟩
  have ne : N ≠ [] := fun z => by
    subst z
    exact h rfl
  refine ⟨_, rfl, _, _, rfl, rfl, _, rfl, ite2 (fun _ => num stE) (fun _ => ?_)⟩
  have hNE := se _ _ hN1
  have oneN : ∀ {G : Hp} {Q2 : VK}, Stp a H G → (∀ (z : Str) G', z ∈ N → Stp a H G' → Stp a G G' → Q2 (.str z) G') → spOneG K [.ref a, .ref nl] G Q2 E0 := fun {G Q2} sG k => by
    refine ⟨a, nl, _, false, rfl, sG.s, fun _ => nna, SqL.of (sG.k _ _ nna hN), by rw [List.length_map]; exact List.length_pos_iff.mpr ne, by rw [List.length_map]; omega, fun v G2 hv st2 => ?_⟩
    obtain ⟨z, hz, rfl⟩ := List.mem_map.mp hv
    exact k z G2 hz (sG.trans st2) st2
  refine ⟨_, rfl, _, _, rfl, rfl, _, rfl, ite2 (fun _ => ?_) (fun _ => ?_)⟩
  · refine ⟨_, rfl, _, rfl, oneN stE fun z1 G1 hz1 sG1 _ => ⟨by show 2 ≤ sizeLine; decide, fun t1 ht1 => ?_⟩⟩
    have k1 := sG1.new (o := .tup [.str "name", .str z1]) ht1
    refine ⟨_, rfl, _, rfl, oneN k1 fun z2 G2 hz2 sG2 st2 => ⟨by show 2 ≤ sizeLine; decide, fun t2 ht2 => ⟨by show 3 ≤ sizeLine; decide, fun t3 ht3 => ?_⟩⟩⟩
    have s2 := Same.new ht2 (.tup [.str "name", .str z2])
    have s3 := Same.new ht3 (.tup [.str "-", .ref t1, .ref t2])
    have h1 : SqT K (upd G1 t1 (.tup [.str "name", .str z1])) t1 [.str "name", .str z1] := SqT.of upd_same
    have h1' := Same.tup s3 (Same.tup s2 (st2.rd h1 k1.s))
    exact q (.ref t3) (.bin .sub (.var z1) (.var z2)) _ ((sG2.new ht2).new ht3) ⟨t3, .ref t1, .ref t2, rfl, SqT.of upd_same, ⟨t1, rfl, h1'⟩, ⟨t2, rfl, SqT.of (s3 _ _ upd_same)⟩⟩ ⟨sub z1 hz1, sub z2 hz2⟩
  · refine ⟨_, rfl, _, rfl, oneN stE fun z1 G1 hz1 sG1 _ => ⟨by show 2 ≤ sizeLine; decide, fun t1 ht1 => ?_⟩⟩
    exact q (.ref t1) (.var z1) _ (sG1.new ht1) ⟨t1, rfl, SqT.of upd_same⟩ (sub z1 hz1)
end
/-! ### law k26: drawn comparisons and flag expressions -/
theorem co_of {v : V} (h : v ∈ [V.str "<", .str "<=", .str "==", .str "!="]) : ∃ o : Co, v = .str o.s := by
  simp only [List.mem_cons, List.not_mem_nil, or_false] at h
  rcases h with rfl | rfl | rfl | rfl
  · exact ⟨.lt, rfl⟩
  · exact ⟨.le, rfl⟩
  · exact ⟨.eq, rfl⟩
  · exact ⟨.ne, rfl⟩
theorem rho_bd {N : List Str} {κ : Str → Int} {x : List Int} (hb : ∀ z, -1000000000000 ≤ κ z ∧ κ z ≤ 1000000000000) (hx : ∀ k, -400000000000 ≤ x.getD k 0 ∧ x.getD k 0 ≤ 400000000000) : ∀ z, Bd 40 (rho N κ x z) := fun z => by
  unfold rho
  split
  · have := hx (N.idxOf z)
    exact bd_small (by omega)
  · exact bd_small (hb z)
theorem dk_ne {a d : Addr} {H : Hp} {kvs : List (Key × V)} (h : Src H a) (e : H d = some (.dK kvs)) : d ≠ a := fun z => by
  obtain ⟨c, m, k, hs⟩ := h
  rw [z, hs] at e
  cases e
theorem Env23.stp {a : Addr} {H H' : Hp} {dk nl p : Addr} {kvs : List (Key × V)} {N S : List Str} {κ : Str → Int} {n : Nat} {Ps : List (List Int)} (s : Stp a H H') (hS : Src H a) (h : Env23 H dk nl p kvs N S κ n Ps) : Env23 H' dk nl p kvs N S κ n Ps := by
  obtain ⟨as, e, _⟩ := id h.p
  exact ⟨s.k _ _ (dk_ne hS h.d) h.d, h.k, h.b, s.k _ _ (lst_ne' hS h.nm) h.nm, h.ln, h.p.stp s hS (src_ne24 hS e), h.ne, h.lp, h.lr, h.pb, h.hn⟩
structure Fct26 (H : Hp) (pf pd pn pl pr nl pp : Addr) (kvs : List (Key × V)) (NU FL RF N : List Str) (κ : Str → Int) (n : Nat) (Ps : List (List Int)) : Prop where
  f : H pf = some (.lst [.ref pd, .ref pn, .ref pl, .ref pr])
  u : H pn = some (.lst (NU.map V.str))
  l : H pl = some (.lst (FL.map V.str))
  r : H pr = some (.lst (RF.map V.str))
  e : Env23 H pd nl pp kvs N (N ++ NU) κ n Ps
  nd : N.Nodup
  lk : kvs.length ≤ 9
  lN : N.length ≤ 4
  lU : NU.length ≤ 3
  lF : FL.length ≤ 3
  lR : RF.length ≤ 3
  lP : Ps.length ≤ 125
theorem Fct26.stp {a : Addr} {H H' : Hp} {pf pd pn pl pr nl pp : Addr} {kvs : List (Key × V)} {NU FL RF N : List Str} {κ : Str → Int} {n : Nat} {Ps : List (List Int)} (s : Stp a H H') (hS : Src H a) (h : Fct26 H pf pd pn pl pr nl pp kvs NU FL RF N κ n Ps) : Fct26 H' pf pd pn pl pr nl pp kvs NU FL RF N κ n Ps :=
  ⟨s.k _ _ (src_ne24 (as := [pd, pn, pl, pr]) hS h.f) h.f, s.k _ _ (lst_ne' hS h.u) h.u, s.k _ _ (lst_ne' hS h.l) h.l, s.k _ _ (lst_ne' hS h.r) h.r, h.e.stp s hS, h.nd, h.lk, h.lN, h.lU, h.lF, h.lR, h.lP⟩
theorem Fct26.same {H H' : Hp} {pf pd pn pl pr nl pp : Addr} {kvs : List (Key × V)} {NU FL RF N : List Str} {κ : Str → Int} {n : Nat} {Ps : List (List Int)} (s : Same H H') (h : Fct26 H pf pd pn pl pr nl pp kvs NU FL RF N κ n Ps) : Fct26 H' pf pd pn pl pr nl pp kvs NU FL RF N κ n Ps :=
  ⟨s _ _ h.f, s _ _ h.u, s _ _ h.l, s _ _ h.r, h.e.same s, h.nd, h.lk, h.lN, h.lU, h.lF, h.lR, h.lP⟩
def spCmpL26 (K : PySem.W.Frag) : Sp := fun vs H Q _ => ∃ (a pf pd pn pl pr nl pp : Addr) (kvs : List (Key × V)) (NU FL RF N : List Str) (κ : Str → Int) (n : Nat) (Ps : List (List Int)), vs = [.ref a, .ref pf, .ref nl, .ref pp, .int 3] ∧ Src H a ∧ Fct26 H pf pd pn pl pr nl pp kvs NU FL RF N κ n Ps ∧
  ∀ v o x y H', Stp a H H' → FlAt K H' (.cmp o x y) v → x.ok (N ++ NU) 3 → y.ok (N ++ NU) 3 → Q v H'
def spCha26 (K : PySem.W.Frag) : Sp := fun vs H Q _ => ∃ (a nl pp : Addr) (N : List Str) (n : Nat) (Ps : List (List Int)), vs = [.ref a, .ref nl, .ref pp] ∧ Src H a ∧ H nl = some (.lst (N.map V.str)) ∧ N ≠ [] ∧ N.Nodup ∧ N.length ≤ 4 ∧ N.length ≤ n ∧ n ≤ 20 ∧ TPts H pp Ps ∧ Ps ≠ [] ∧ Ps.length ≤ 125 ∧ (∀ r ∈ Ps, r.length = n) ∧ PtB Ps ∧
  ∀ v fl H', Stp a H H' → FlAt K H' fl v → (∀ S SF SR : List Str, (∀ z ∈ N, z ∈ S) → fl.ok S SF SR 2) → Q v H'
def spTru26 (K : PySem.W.Frag) (m : Nat) : Sp := fun vs H Q _ => ∃ (d : Nat) (a pf pd pn pl pr nl pp : Addr) (kvs : List (Key × V)) (NU FL RF N : List Str) (κ : Str → Int) (n : Nat) (Ps : List (List Int)), vs = [.ref a, .ref pf, .ref nl, .ref pp, .int (d : Int), .int 3] ∧ d < m ∧ Src H a ∧ Fct26 H pf pd pn pl pr nl pp kvs NU FL RF N κ n Ps ∧
  ∀ v fl H', Stp a H H' → FlAt K H' fl v → fl.ok (N ++ NU) FL RF (d + 1) → Q v H'
theorem Fl.ok.up {S SF SR : List Str} : ∀ {m : Nat} {e : Fl}, e.ok S SF SR m → e.ok S SF SR (m + 1)
  | 0, _, h => h.elim
  | _ + 1, .flag _, h => h
  | _ + 1, .var _, h => h
  | _ + 1, .same _ _, h => h
  | _ + 1, .cmp _ _ _, h => h
  | m + 1, .not a, h => Fl.ok.up (m := m) (e := a) h
  | m + 1, .and a b, h => ⟨Fl.ok.up (m := m) (e := a) h.1, Fl.ok.up (m := m) (e := b) h.2⟩
  | m + 1, .or a b, h => ⟨Fl.ok.up (m := m) (e := a) h.1, Fl.ok.up (m := m) (e := b) h.2⟩
theorem Fl.ok.le {S SF SR : List Str} {a b : Nat} {e : Fl} (h : e.ok S SF SR a) (l : a ≤ b) : e.ok S SF SR b := by
  induction l with
  | refl => exact h
  | step _ ih => exact ih.up
theorem sqT_stp {K : PySem.W.Frag} {a : Addr} {H H' : Hp} (s : Stp a H H') (hS : Src H a) : KeepT K H H' := fun _ _ h => s.rd h hS
section
variable {P : Program} {w : World} {K : PySem.W.Frag} {mg : Str → Option Value} {base : Heap}
theorem ok_l_compare (T : Txt w K mg) : FnOk P w K mg base CX0 28 T.a_l_compare T.d_l_compare p_l_compare (spCmpL26 K) := by
  have g_l_pick := ok_l_pick (P := P) (w := w) (base := base) T
  have g_l_one := ok_l_oneG (P := P) (w := w) (K := K) (base := base) T
  have g_l_side := ok_l_side (P := P) (w := w) (K := K) (base := base) T
  have g_l_value := ok_l_value (P := P) (w := w) (K := K) (base := base) T 3 (by decide)
  have g_l_values_at := ok_l_values_at (P := P) (w := w) (K := K) (base := base) T
  have g_l_form := ok_l_form (P := P) (w := w) (K := K) (base := base) T (m := 3) (by decide) (ok_l_add T 3 (by decide))
  have g_l_spread := ok_l_spread (P := P) (w := w) (K := K) (base := base) T
  have g_l_num := ok_l_num (P := P) (w := w) (K := K) (base := base) T
  refine T.F_l_compare.ok sc_l_compare (fun vs H Q E h => ?_) (fun cdv A outer s H vs Q E hr h => ?_)
  · obtain ⟨a, pf, pd, pn, pl, pr, nl, pp, kvs, NU, FL, RF, N, κ, n, Ps, rfl, _⟩ := h
    rfl
  obtain ⟨a, pf, pd, pn, pl, pr, nl, pp, kvs, NU, FL, RF, N, κ, n, Ps, rfl, hS, fc, q⟩ := h
  refine ⟨_, (pss_cons (ps_set (i := 5) sc_l_compare.nd rfl (Or.inl rfl) (pe_call g_l_one (hr.mono (by first | decide | omega)) rfl T.m_l_one T.F_l_one.kp T.b_l_one .nil pass0 (pa_cons (pv 0) (pa_cons (pe_lst (pa_cons pe_str (pa_cons pe_str (pa_cons pe_str (pa_cons pe_str pa_nil))))) pa_nil))))
      (pss_cons (ps_set (i := 6) sc_l_compare.nd rfl (Or.inl rfl) (pe_call g_l_side (hr.mono (by first | decide | omega)) rfl T.m_l_side T.F_l_side.kp T.b_l_side .nil pass0 (pa_cons (pv 0) (pa_cons (pe_op op_cat (pv 2) (pe_ix ix_list (pv 1) pe_int (fun _ _ => rfl))) (pa_cons (pv 2) (pa_cons (pv 4) pa_nil))))))
      (pss_cons (ps_if (pt_cmpR op_eq (pe_call g_l_pick (hr.mono (by first | decide | omega)) rfl T.m_l_pick T.F_l_pick.kp T.b_l_pick .nil pass0 (pa_cons (pv 0) (pa_cons pe_int pa_nil))) pe_int (nomark _)) (pss_one (ps_ret (pe_tup (pa_cons (pv 5) (pa_cons (pv 6) (pa_cons (pe_call g_l_side (hr.mono (by first | decide | omega)) rfl T.m_l_side T.F_l_side.kp T.b_l_side .nil pass0 (pa_cons (pv 0) (pa_cons (pe_op op_cat (pv 2) (pe_ix ix_list (pv 1) pe_int (fun _ _ => rfl))) (pa_cons (pv 2) (pa_cons (pv 4) pa_nil))))) pa_nil)))))) pss_nil)
      (pss_cons (ps_set (i := 7) sc_l_compare.nd rfl (Or.inl rfl) (pe_call g_l_value (hr.mono (by first | decide | omega)) rfl T.m_l_value T.F_l_value.kp T.b_l_value .nil pass0 (pa_cons (pv 6) (pa_cons (pe_call g_l_values_at (hr.mono (by first | decide | omega)) rfl T.m_l_values_at T.F_l_values_at.kp T.b_l_values_at .nil pass0 (pa_cons (pe_ix ix_list (pv 1) pe_int (fun _ _ => rfl)) (pa_cons (pv 2) (pa_cons (pe_call g_l_one (hr.mono (by first | decide | omega)) rfl T.m_l_one T.F_l_one.kp T.b_l_one .nil pass0 (pa_cons (pv 0) (pa_cons (pv 3) pa_nil))) pa_nil)))) pa_nil))))
      (pss_cons (ps_set (i := 8) sc_l_compare.nd rfl (Or.inl rfl) (pe_call g_l_spread (hr.mono (by first | decide | omega)) rfl T.m_l_spread T.F_l_spread.kp T.b_l_spread .nil pass0 (pa_cons (pe_call g_l_form (hr.mono (by first | decide | omega)) rfl T.m_l_form T.F_l_form.kp T.b_l_form .nil pass0 (pa_cons (pv 6) (pa_cons (pe_ix ix_list (pv 1) pe_int (fun _ _ => rfl)) (pa_cons (pv 2) (pa_cons (pv 3) pa_nil))))) (pa_cons (pv 3) pa_nil))))
      (pss_cons (ps_set (i := 9) sc_l_compare.nd rfl (Or.inl rfl) (pe_call g_l_num (hr.mono (by first | decide | omega)) rfl T.m_l_num T.F_l_num.kp T.b_l_num .nil pass0 (pa_cons (pe_op op_sub (pe_op op_add (pe_call g_l_one (hr.mono (by first | decide | omega)) rfl T.m_l_one T.F_l_one.kp T.b_l_one .nil pass0 (pa_cons (pv 0) (pa_cons (pe_lst (pa_cons (pv 7) (pa_cons (pv 7) (pa_cons (pv 7) (pa_cons (pe_ix ix_tup (pv 8) pe_int (fun _ _ => rfl)) (pa_cons (pe_ix ix_tup (pv 8) pe_int (fun _ _ => rfl)) pa_nil)))))) pa_nil))) (pe_call g_l_pick (hr.mono (by first | decide | omega)) rfl T.m_l_pick T.F_l_pick.kp T.b_l_pick .nil pass0 (pa_cons (pv 0) (pa_cons pe_int pa_nil)))) pe_int) pa_nil)))
      (pss_cons (ps_if (pt_cmpR op_eq (pe_call g_l_pick (hr.mono (by first | decide | omega)) rfl T.m_l_pick T.F_l_pick.kp T.b_l_pick .nil pass0 (pa_cons (pv 0) (pa_cons pe_int pa_nil))) pe_int (nomark _)) (pss_one (ps_ret (pe_tup (pa_cons (pv 5) (pa_cons (pv 9) (pa_cons (pv 6) pa_nil)))))) pss_nil)
      (pss_one (ps_ret (pe_tup (pa_cons (pv 5) (pa_cons (pv 6) (pa_cons (pv 9) pa_nil))))))))))))), ?_⟩
  refine ⟨_, rfl, by show 4 ≤ sizeLine; decide, fun l0 hl0 => ?_⟩
  have s0 := Stp.of_same hS (Same.new hl0 (.lst [.str "<", .str "<=", .str "==", .str "!="]))
  refine ⟨a, l0, _, false, rfl, s0.s, fun _ => (hS.ne hl0).symm, SqL.of upd_same, by show 0 < 4; decide, by show 4 < 1000; decide, fun v0 H1 hv0 st1 => ?_⟩
  obtain ⟨o, rfl⟩ := co_of hv0
  have S1 := s0.trans st1
  clear st1 s0 hl0 hv0
  have lS : (N ++ NU).length ≤ 40 := by
    rw [List.length_append]
    have := fc.lN
    have := fc.lU
    omega
  have f1 := fc.stp S1 hS
  refine ⟨_, rfl, _, rfl, _, rfl, pf, _, 1, _, rfl, rfl, SqL.of f1.f, rfl, nl, pn, _, _, rfl, rfl, f1.e.nm, f1.u, by rw [List.length_map, List.length_map]; have := fc.lN; have := fc.lU; exact Nat.le_of_lt (small1000 (by omega)), fun c1 hc1 => ?_⟩
  have Sc1 := S1.new (o := .lst (N.map V.str ++ NU.map V.str)) hc1
  refine ⟨_, rfl, _, rfl, a, c1, nl, N ++ NU, N, rfl, Sc1.s, by rw [List.map_append]; exact upd_same, lS, (fc.stp Sc1 hS).e.nm, by have := fc.lN; omega, fun z hz => List.mem_append_left _ hz, fun v1 e1 H2 st2 hx1 oe1 => ?_⟩
  have S2 := Sc1.trans st2
  clear st2 Sc1 hc1 S1 f1
  refine ⟨_, rfl, a, 6, rfl, S2.s, by decide, fun r1 H3 st3 _ _ => ⟨rfl, _, rfl, ite2 (fun _ => ?_) (fun _ => ?_)⟩⟩
  · have S3 := S2.trans st3
    have hx3 : EfAt K H3 e1 v1 := hx1.keep fun _ _ h => st3.rd h S2.s
    have f3 := fc.stp S3 hS
    refine ⟨_, rfl, _, rfl, _, rfl, _, rfl, _, rfl, pf, _, 1, _, rfl, rfl, SqL.of f3.f, rfl, nl, pn, _, _, rfl, rfl, f3.e.nm, f3.u, by rw [List.length_map, List.length_map]; have := fc.lN; have := fc.lU; exact Nat.le_of_lt (small1000 (by omega)), fun c1 hc1 => ?_⟩
    have sc1 := Stp.of_same S3.s (Same.new hc1 (.lst (N.map V.str ++ NU.map V.str)))
    have Sc1 := S3.trans sc1
    refine ⟨_, rfl, _, rfl, a, c1, nl, N ++ NU, N, rfl, Sc1.s, by rw [List.map_append]; exact upd_same, lS, (fc.stp Sc1 hS).e.nm, by have := fc.lN; omega, fun z hz => List.mem_append_left _ hz, fun v2 e2 H4 st4 hx2 oe2 => ⟨by show 3 ≤ sizeLine; decide, fun t ht => ?_⟩⟩
    have hx4 : EfAt K H4 e1 v1 := hx3.keep fun _ _ h => (sc1.trans st4).rd h S3.s
    have kt := Same.new ht (.tup [.str o.s, v1, v2])
    exact q (.ref t) o e1 e2 _ ((Sc1.trans st4).new ht) ⟨t, v1, v2, rfl, SqT.of upd_same, hx4.same kt, hx2.same kt⟩ oe1 oe2
  have S3 := S2.trans st3
  have hx3 : EfAt K H3 e1 v1 := hx1.keep fun _ _ h => st3.rd h S2.s
  have f3 := fc.stp S3 hS
  clear st3 S2 hx1
  obtain ⟨as, epp, hA⟩ := id f3.e.p
  have npp := src_ne24 S3.s epp
  have las : as.length = Ps.length := hA.1
  have pos : 0 < Ps.length := List.length_pos_iff.mpr fc.e.ne
  have lP := fc.lP
  refine ⟨_, rfl, _, rfl, pf, _, 0, _, rfl, rfl, SqL.of f3.f, rfl, _, rfl, _, rfl, _, rfl, a, pp, _, false, rfl, S3.s, fun _ => npp, SqL.of epp, by rw [List.length_map, las]; exact pos, by rw [List.length_map, las]; omega, fun vq H4 hvq st4 => ?_⟩
  obtain ⟨tq, htq, rfl⟩ := List.mem_map.mp hvq
  obtain ⟨k, hk, ek⟩ := List.getElem_of_mem htq
  have fr : Ps[k]? = some (Ps[k]'(by rw [← las]; exact hk)) := List.getElem?_eq_getElem _
  have mr := List.mem_of_getElem? fr
  have gr := hA.2 k tq _ (by rw [← ek]; exact List.getElem?_eq_getElem hk) fr
  generalize Ps[k]'(by rw [← las]; exact hk) = r at fr mr gr
  have lr := fc.e.lr r mr
  have S4 := S3.trans st4
  have f4 := f3.stp st4 S3.s
  have hx4 : EfAt K H4 e1 v1 := hx3.keep fun _ _ h => st4.rd h S3.s
  have gr4 : SqT K H4 tq (r.map V.int) := st4.rd (SqT.of gr) S3.s
  refine ⟨pd, nl, tq, kvs, N, r, rfl, f4.e.d, by have := fc.lk; omega, f4.e.nm, gr4, fc.nd, by rw [lr]; exact fc.e.ln, by have := fc.lN; omega, fun d2 H5 kv' s5 _ hd2 w1 w2 => ?_⟩
  refine ⟨v1, d2, e1, N ++ NU, rho N κ r, kv', rfl, hx4.same s5, oe1, hd2, ev_at2 fc.e.k w1 w2 oe1, rho_bd fc.e.b (fc.e.pb r mr), fun H6 s6 => ?_⟩
  have s46 := s5.trans s6
  have S6 := S4.same s46
  have f6 := f4.same s46
  have hx6 := hx4.same s46
  clear gr4 s46 s6 s5 hx4 f4 S4 hx3 gr fr hA epp st4 hvq htq ek
  refine ⟨_, rfl, _, rfl, pf, _, 0, _, rfl, rfl, SqL.of f6.f, rfl, _, rfl, _, rfl, pd, nl, pp, v1, e1, kvs, N, N ++ NU, κ, n, Ps, rfl, f6.e, hx6, oe1, fun f H7 s7 hf => ?_⟩
  have S7 := S6.same s7
  have f7 := f6.same s7
  have lnm : (mkR n (fm N κ n Ps e1).c).length = n := mkR_len
  refine ⟨_, rfl, f, pp, mkR n (fm N κ n Ps e1).c, _, _, Ps, rfl, hf, fc.e.pb, by rw [lnm]; exact fc.e.hn, f7.e.p, fc.e.ne, fc.e.lp, fun r hr => by rw [lnm]; exact fc.e.lr r hr, fun te H8 L1 G1 s8 hte _ _ => ?_⟩
  have S8 := S7.same s8
  have hx8 := (hx6.same s7).same s8
  have qte : SqT K H8 te [.int L1, .int G1] := SqT.of hte
  clear hte hf f7 s8 s7 S7 hx6 f6 S6
  generalize evE (rho N κ r) e1 = xv
  refine ⟨_, rfl, _, rfl, _, rfl, _, rfl, _, rfl, te, _, _, _, rfl, rfl, qte, rfl, _, rfl, te, _, _, _, rfl, rfl, qte, rfl, by show 5 ≤ sizeLine; decide, fun l5 hl5 => ?_⟩
  have s5 := Same.new hl5 (.lst [.int xv, .int xv, .int xv, .int L1, .int G1])
  refine ⟨a, l5, _, false, rfl, (S8.same s5).s, fun _ => (S8.s.ne hl5).symm, SqL.of upd_same, by show 0 < 5; decide, by show 5 < 1000; decide, fun vk H9 hvk st9 => ?_⟩
  obtain ⟨kk, rfl⟩ : ∃ kk : Int, vk = .int kk := by
    simp only [List.mem_cons, List.not_mem_nil, or_false] at hvk
    rcases hvk with rfl | rfl | rfl | rfl | rfl <;> exact ⟨_, rfl⟩
  refine ⟨_, rfl, a, 3, rfl, st9.s, by decide, fun r3 H10 st10 _ _ => ⟨_, _, rfl, rfl, _, _, rfl, rfl, _, rfl, fun t3 j3 H11 s11 ht3 j30 j31 => ?_⟩⟩
  have st811 := ((Stp.of_same S8.s s5).trans (st9.trans st10)).same s11
  have S11 := S8.trans st811
  have hx11 : EfAt K H11 e1 v1 := hx8.keep fun _ _ h => st811.rd h S8.s
  have o3 : (Ef.num j3).ok (N ++ NU) 3 := ⟨by omega, by omega⟩
  have hr11 : EfAt K H11 (.num j3) (.ref t3) := ⟨t3, rfl, SqT.of ht3⟩
  refine ⟨_, rfl, a, 2, rfl, S11.s, by decide, fun r4 H12 st12 _ _ => ⟨rfl, _, rfl, ite2 (fun _ => ?_) (fun _ => ?_)⟩⟩
  · refine ⟨_, rfl, _, rfl, _, rfl, by show 3 ≤ sizeLine; decide, fun t ht => ?_⟩
    have kt := Same.new ht (.tup [.str o.s, .ref t3, v1])
    exact q (.ref t) o (.num j3) e1 _ ((S11.trans st12).new ht) ⟨t, .ref t3, v1, rfl, SqT.of upd_same, (hr11.keep fun _ _ h => st12.rd h S11.s).same kt, (hx11.keep fun _ _ h => st12.rd h S11.s).same kt⟩ o3 oe1
  · refine ⟨_, rfl, _, rfl, _, rfl, by show 3 ≤ sizeLine; decide, fun t ht => ?_⟩
    have kt := Same.new ht (.tup [.str o.s, v1, .ref t3])
    exact q (.ref t) o e1 (.num j3) _ ((S11.trans st12).new ht) ⟨t, v1, .ref t3, rfl, SqT.of upd_same, (hx11.keep fun _ _ h => st12.rd h S11.s).same kt, (hr11.keep fun _ _ h => st12.rd h S11.s).same kt⟩ oe1 o3
end
/-! ### law k26: two comparisons in a chain; flag expressions -/
theorem turn2 {x y : V} {r : Int} (r0 : 0 ≤ r) (r1 : r < 2 ∨ r = 0) : (atI [x, y] r = some x ∧ atI [x, y] (1 - r) = some y) ∨ (atI [x, y] r = some y ∧ atI [x, y] (1 - r) = some x) := by
  have h : r = 0 ∨ r = 1 := by omega
  rcases h with rfl | rfl
  · exact .inl ⟨rfl, rfl⟩
  · exact .inr ⟨rfl, rfl⟩
section
variable {P : Program} {w : World} {K : PySem.W.Frag} {mg : Str → Option Value} {base : Heap}
theorem ok_l_chain (T : Txt w K mg) : FnOk P w K mg base CX0 28 T.a_l_chain T.d_l_chain p_l_chain (spCha26 K) := by
  have g_l_pick := ok_l_pick (P := P) (w := w) (base := base) T
  have g_l_one := ok_l_oneG (P := P) (w := w) (K := K) (base := base) T
  have g_l_value := ok_l_value (P := P) (w := w) (K := K) (base := base) T 3 (by decide)
  have g_l_values_at := ok_l_values_at (P := P) (w := w) (K := K) (base := base) T
  have g_l_form := ok_l_form (P := P) (w := w) (K := K) (base := base) T (m := 3) (by decide) (ok_l_add T 3 (by decide))
  have g_l_spread := ok_l_spread (P := P) (w := w) (K := K) (base := base) T
  have g_l_num := ok_l_num (P := P) (w := w) (K := K) (base := base) T
  refine T.F_l_chain.ok sc_l_chain (fun vs H Q E h => ?_) (fun cdv A outer s H vs Q E hr h => ?_)
  · obtain ⟨a, nl, pp, N, n, Ps, rfl, _⟩ := h
    rfl
  obtain ⟨a, nl, pp, N, n, Ps, rfl, hS, hN, neN, nd, lN, ln, hn, tP, ne, lP, lr, pb, q⟩ := h
  refine ⟨_, (pss_cons (ps_set (i := 3) sc_l_chain.nd rfl (Or.inl rfl) (pe_tup (pa_cons pe_str (pa_cons (pe_call g_l_one (hr.mono (by first | decide | omega)) rfl T.m_l_one T.F_l_one.kp T.b_l_one .nil pass0 (pa_cons (pv 0) (pa_cons (pv 1) pa_nil))) pa_nil))))
      (pss_cons (ps_set (i := 4) sc_l_chain.nd rfl (Or.inl rfl) (pe_tup (pa_cons pe_str (pa_cons (pv 3) (pa_cons (pe_tup (pa_cons pe_str (pa_cons (pe_call g_l_one (hr.mono (by first | decide | omega)) rfl T.m_l_one T.F_l_one.kp T.b_l_one .nil pass0 (pa_cons (pv 0) (pa_cons (pv 1) pa_nil))) pa_nil))) pa_nil)))))
      (pss_cons (ps_set (i := 5) sc_l_chain.nd rfl (Or.inl rfl) (pe_call g_l_value (hr.mono (by first | decide | omega)) rfl T.m_l_value T.F_l_value.kp T.b_l_value .nil pass0 (pa_cons (pv 3) (pa_cons (pe_call g_l_values_at (hr.mono (by first | decide | omega)) rfl T.m_l_values_at T.F_l_values_at.kp T.b_l_values_at .nil pass0 (pa_cons pe_dnewK (pa_cons (pv 1) (pa_cons (pe_call g_l_one (hr.mono (by first | decide | omega)) rfl T.m_l_one T.F_l_one.kp T.b_l_one .nil pass0 (pa_cons (pv 0) (pa_cons (pv 2) pa_nil))) pa_nil)))) pa_nil))))
      (pss_cons (ps_set (i := 6) sc_l_chain.nd rfl (Or.inl rfl) (pe_call g_l_spread (hr.mono (by first | decide | omega)) rfl T.m_l_spread T.F_l_spread.kp T.b_l_spread .nil pass0 (pa_cons (pe_call g_l_form (hr.mono (by first | decide | omega)) rfl T.m_l_form T.F_l_form.kp T.b_l_form .nil pass0 (pa_cons (pv 4) (pa_cons pe_dnewK (pa_cons (pv 1) (pa_cons (pv 2) pa_nil))))) (pa_cons (pv 2) pa_nil))))
      (pss_cons (ps_set (i := 7) sc_l_chain.nd rfl (Or.inl rfl) (pe_lst (pa_cons (pv 3) (pa_cons (pe_call g_l_num (hr.mono (by first | decide | omega)) rfl T.m_l_num T.F_l_num.kp T.b_l_num .nil pass0 (pa_cons (pe_op op_sub (pe_op op_add (pv 5) (pe_call g_l_pick (hr.mono (by first | decide | omega)) rfl T.m_l_pick T.F_l_pick.kp T.b_l_pick .nil pass0 (pa_cons (pv 0) (pa_cons pe_int pa_nil)))) pe_int) pa_nil)) pa_nil))))
      (pss_cons (ps_set (i := 8) sc_l_chain.nd rfl (Or.inl rfl) (pe_lst (pa_cons (pv 4) (pa_cons (pe_call g_l_num (hr.mono (by first | decide | omega)) rfl T.m_l_num T.F_l_num.kp T.b_l_num .nil pass0 (pa_cons (pe_op op_sub (pe_op op_add (pe_call g_l_one (hr.mono (by first | decide | omega)) rfl T.m_l_one T.F_l_one.kp T.b_l_one .nil pass0 (pa_cons (pv 0) (pa_cons (pv 6) pa_nil))) (pe_call g_l_pick (hr.mono (by first | decide | omega)) rfl T.m_l_pick T.F_l_pick.kp T.b_l_pick .nil pass0 (pa_cons (pv 0) (pa_cons pe_int pa_nil)))) pe_int) pa_nil)) pa_nil))))
      (pss_cons (ps_set (i := 9) sc_l_chain.nd rfl (Or.inl rfl) (pe_call g_l_pick (hr.mono (by first | decide | omega)) rfl T.m_l_pick T.F_l_pick.kp T.b_l_pick .nil pass0 (pa_cons (pv 0) (pa_cons pe_int pa_nil))))
      (pss_cons (ps_set (i := 7) sc_l_chain.nd rfl (Or.inl rfl) (pe_tup (pa_cons (pe_call g_l_one (hr.mono (by first | decide | omega)) rfl T.m_l_one T.F_l_one.kp T.b_l_one .nil pass0 (pa_cons (pv 0) (pa_cons (pe_lst (pa_cons pe_str (pa_cons pe_str (pa_cons pe_str (pa_cons pe_str pa_nil))))) pa_nil))) (pa_cons (pe_ix ix_list (pv 7) (pv 9) (fun _ _ => rfl)) (pa_cons (pe_ix ix_list (pv 7) (pe_op op_sub pe_int (pv 9)) (fun _ _ => rfl)) pa_nil)))))
      (pss_cons (ps_set (i := 9) sc_l_chain.nd rfl (Or.inl rfl) (pe_call g_l_pick (hr.mono (by first | decide | omega)) rfl T.m_l_pick T.F_l_pick.kp T.b_l_pick .nil pass0 (pa_cons (pv 0) (pa_cons pe_int pa_nil))))
      (pss_cons (ps_set (i := 8) sc_l_chain.nd rfl (Or.inl rfl) (pe_tup (pa_cons (pe_call g_l_one (hr.mono (by first | decide | omega)) rfl T.m_l_one T.F_l_one.kp T.b_l_one .nil pass0 (pa_cons (pv 0) (pa_cons (pe_lst (pa_cons pe_str (pa_cons pe_str (pa_cons pe_str (pa_cons pe_str pa_nil))))) pa_nil))) (pa_cons (pe_ix ix_list (pv 8) (pv 9) (fun _ _ => rfl)) (pa_cons (pe_ix ix_list (pv 8) (pe_op op_sub pe_int (pv 9)) (fun _ _ => rfl)) pa_nil)))))
      (pss_one (ps_ret (pe_tup (pa_cons (pe_call g_l_one (hr.mono (by first | decide | omega)) rfl T.m_l_one T.F_l_one.kp T.b_l_one .nil pass0 (pa_cons (pv 0) (pa_cons (pe_lst (pa_cons pe_str (pa_cons pe_str pa_nil))) pa_nil))) (pa_cons (pv 7) (pa_cons (pv 8) pa_nil)))))))))))))))), ?_⟩
  have nna := lst_ne' hS hN
  have oneN : ∀ {G : Hp} {Q2 : VK}, Stp a H G → (∀ (z : Str) G', z ∈ N → Stp a G G' → Q2 (.str z) G') → spOneG K [.ref a, .ref nl] G Q2 E0 := fun {G Q2} sG k => by
    refine ⟨a, nl, _, false, rfl, sG.s, fun _ => nna, SqL.of (sG.k _ _ nna hN), by rw [List.length_map]; exact List.length_pos_iff.mpr neN, by rw [List.length_map]; omega, fun v G2 hv st2 => ?_⟩
    obtain ⟨z, hz, rfl⟩ := List.mem_map.mp hv
    exact k z G2 hz st2
  have env : ∀ {G : Hp} {d : Addr}, Stp a H G → G d = some (.dK []) → Env23 G d nl pp [] N N (fun _ => 0) n Ps := fun {G d} sG hd =>
    have : TPts G pp Ps := by
      obtain ⟨as, e, _⟩ := id tP
      exact tP.stp sG hS (src_ne24 hS e)
    ⟨hd, fun z h1 h2 => absurd h1 h2, fun _ => by decide, sG.k _ _ nna hN, ln, this, ne, by omega, lr, pb, hn⟩
  refine ⟨_, rfl, _, rfl, oneN (Stp.refl hS) fun z1 G1 hz1 st1 => ⟨by show 2 ≤ sizeLine; decide, fun t1 ht1 => ?_⟩⟩
  have S1 := st1.new (o := .tup [.str "name", .str z1]) ht1
  have h1 : SqT K (upd G1 t1 (.tup [.str "name", .str z1])) t1 [.str "name", .str z1] := SqT.of upd_same
  generalize (upd G1 t1 (.tup [.str "name", .str z1])) = G1' at S1 h1
  refine ⟨_, rfl, _, rfl, _, rfl, oneN S1 fun z2 G2 hz2 st2 => ⟨by show 2 ≤ sizeLine; decide, fun t2 ht2 => ⟨by show 3 ≤ sizeLine; decide, fun t3 ht3 => ?_⟩⟩⟩
  have s2 := Same.new ht2 (.tup [.str "name", .str z2])
  have s3 := Same.new ht3 (.tup [.str "*", .ref t1, .ref t2])
  have S3 := ((S1.trans st2).new (o := .tup [.str "name", .str z2]) ht2).new (o := .tup [.str "*", .ref t1, .ref t2]) ht3
  have hp1 : EfAt K (upd (upd G2 t2 (.tup [.str "name", .str z2])) t3 (.tup [.str "*", .ref t1, .ref t2])) (.var z1) (.ref t1) := ⟨t1, rfl, Same.tup s3 (Same.tup s2 (st2.rd h1 S1.s))⟩
  have hp3 : EfAt K (upd (upd G2 t2 (.tup [.str "name", .str z2])) t3 (.tup [.str "*", .ref t1, .ref t2])) (.bin .mul (.var z1) (.var z2)) (.ref t3) := ⟨t3, .ref t1, .ref t2, rfl, SqT.of upd_same, hp1, ⟨t2, rfl, SqT.of (s3 _ _ upd_same)⟩⟩
  generalize (upd (upd G2 t2 (.tup [.str "name", .str z2])) t3 (.tup [.str "*", .ref t1, .ref t2])) = G3 at S3 hp1 hp3
  clear s2 s3 h1 st2 st1 S1 ht1 ht2 ht3
  have o1 : (Ef.var z1).ok N 3 := hz1
  have o3 : (Ef.bin .mul (.var z1) (.var z2)).ok N 3 := ⟨hz1, hz2⟩
  generalize Ef.bin .mul (.var z1) (.var z2) = e3 at hp3 o3
  generalize Ef.var z1 = e1 at hp1 o1
  -- the value
  refine ⟨_, rfl, fun d1 hd1 => ?_⟩
  have sd1 := Same.new hd1 (.dK [])
  have S4 := S3.same sd1
  have hd1' : (upd G3 d1 (.dK [])) d1 = some (.dK []) := upd_same
  generalize (upd G3 d1 (.dK [])) = G4 at sd1 S4 hd1'
  have E4 := env S4 hd1'
  obtain ⟨as, epp, hA⟩ := id E4.p
  have npp := src_ne24 S4.s epp
  have las : as.length = Ps.length := hA.1
  have pos : 0 < Ps.length := List.length_pos_iff.mpr ne
  refine ⟨_, rfl, _, rfl, _, rfl, a, pp, _, false, rfl, S4.s, fun _ => npp, SqL.of epp, by rw [List.length_map, las]; exact pos, by rw [List.length_map, las]; omega, fun vq G5 hvq st5 => ?_⟩
  obtain ⟨tq, htq, rfl⟩ := List.mem_map.mp hvq
  obtain ⟨k, hk, ek⟩ := List.getElem_of_mem htq
  have fr : Ps[k]? = some (Ps[k]'(by rw [← las]; exact hk)) := List.getElem?_eq_getElem _
  have mr := List.mem_of_getElem? fr
  have gr := hA.2 k tq _ (by rw [← ek]; exact List.getElem?_eq_getElem hk) fr
  generalize Ps[k]'(by rw [← las]; exact hk) = r at fr mr gr
  have lr1 := lr r mr
  have S5 := S4.trans st5
  have E5 := E4.stp st5 S4.s
  have k35 : KeepT K G3 G5 := fun _ _ h => st5.rd (Same.tup sd1 h) S4.s
  have hx5 := hp1.keep k35
  have hy5 := hp3.keep k35
  refine ⟨d1, nl, tq, [], N, r, rfl, E5.d, Nat.zero_le _, E5.nm, st5.rd (SqT.of gr) S4.s, nd, by rw [lr1]; exact ln, by omega, fun d2 G6 kv' s6 _ hd2 w1 w2 => ?_⟩
  refine ⟨.ref t1, d2, e1, N, rho N (fun _ => 0) r, kv', rfl, hx5.same s6, o1, hd2, ev_at2 E5.k w1 w2 o1, rho_bd E5.b (pb r mr), fun G7 s7 => ?_⟩
  have S7 := (S5.same s6).same s7
  have hx7 := (hx5.same s6).same s7
  have hy7 := (hy5.same s6).same s7
  generalize evE (rho N (fun _ => 0) r) e1 = xv
  clear s7 w1 w2 hd2 s6 hx5 hy5 k35 E5 S5 gr fr mr lr1 hvq htq ek st5 hA epp E4 hd1' S4 sd1 hp1 hp3 S3
  -- the ends
  refine ⟨_, rfl, fun d3 hd3 => ?_⟩
  have sd3 := Same.new hd3 (.dK [])
  have S8 := S7.same sd3
  have hd3' : (upd G7 d3 (.dK [])) d3 = some (.dK []) := upd_same
  have hx8 := hx7.same sd3
  have hy8 := hy7.same sd3
  generalize (upd G7 d3 (.dK [])) = G8 at S8 hd3' hx8 hy8
  have E8 := env S8 hd3'
  refine ⟨_, rfl, _, rfl, d3, nl, pp, .ref t3, e3, [], N, N, _, n, Ps, rfl, E8, hy8, o3, fun f G9 s9 hf => ?_⟩
  have lnm : (mkR n (fm N (fun _ => 0) n Ps e3).c).length = n := mkR_len
  refine ⟨_, rfl, f, pp, mkR n (fm N (fun _ => 0) n Ps e3).c, _, _, Ps, rfl, hf, pb, by rw [lnm]; exact hn, (E8.same s9).p, ne, by omega, fun r hr => by rw [lnm]; exact lr r hr, fun te G10 L1 M1 s10 hte _ _ => ?_⟩
  have S10 := (S8.same s9).same s10
  have hx10 := (hx8.same s9).same s10
  have hy10 := (hy8.same s9).same s10
  have qte : SqT K G10 te [.int L1, .int M1] := SqT.of hte
  clear hte s10 hf s9 E8 hx8 hy8 hd3' S8 sd3 hx7 hy7 S7 hd3 hd1
  -- the sides
  refine ⟨_, rfl, _, rfl, _, rfl, a, 3, rfl, S10.s, by decide, fun r3 G11 st11 _ _ => ⟨_, _, rfl, rfl, _, _, rfl, rfl, _, rfl, fun t5 j5 G12 s12 ht5 j50 j51 => ⟨by show 2 ≤ sizeLine; decide, fun l1 hl1 => ?_⟩⟩⟩
  have st12 := (st11.same s12).new (o := .lst [.ref t1, .ref t5]) hl1
  have sl1 := Same.new hl1 (.lst [.ref t1, .ref t5])
  have el1 : (upd G12 l1 (.lst [.ref t1, .ref t5])) l1 = some (.lst [.ref t1, .ref t5]) := upd_same
  have ht5' := sl1 _ _ ht5
  generalize (upd G12 l1 (.lst [.ref t1, .ref t5])) = G13 at st12 el1 ht5'
  have S13 := S10.trans st12
  have nl1 := src_ne24 (as := [t1, t5]) S13.s el1
  have hx13 := hx10.keep fun _ _ h => st12.rd h S10.s
  have hy13 := hy10.keep fun _ _ h => st12.rd h S10.s
  have qte13 := st12.rd qte S10.s
  have hz13 : EfAt K G13 (.num j5) (.ref t5) := ⟨t5, rfl, SqT.of ht5'⟩
  have o5 : (Ef.num j5).ok N 3 := ⟨by omega, by omega⟩
  clear ht5' sl1 ht5 s12 st11 st12 hl1 qte hx10 hy10 S10
  refine ⟨_, rfl, _, rfl, _, rfl, a, te, _, true, rfl, S13.s, (fun z => by cases z), qte13, by show 0 < 2; decide, by show 2 < 1000; decide, fun vk G14 hvk st14 => ?_⟩
  obtain ⟨kk, rfl⟩ : ∃ kk : Int, vk = .int kk := by
    simp only [List.mem_cons, List.not_mem_nil, or_false] at hvk
    rcases hvk with rfl | rfl <;> exact ⟨_, rfl⟩
  refine ⟨_, rfl, a, 3, rfl, st14.s, by decide, fun r4 G15 st15 _ _ => ⟨_, _, rfl, rfl, _, _, rfl, rfl, _, rfl, fun t6 j6 G16 s16 ht6 j60 j61 => ⟨by show 2 ≤ sizeLine; decide, fun l2 hl2 => ?_⟩⟩⟩
  have st16 := ((st14.trans st15).same s16).new (o := .lst [.ref t3, .ref t6]) hl2
  have sl2 := Same.new hl2 (.lst [.ref t3, .ref t6])
  have el2 : (upd G16 l2 (.lst [.ref t3, .ref t6])) l2 = some (.lst [.ref t3, .ref t6]) := upd_same
  have ht6' := sl2 _ _ ht6
  generalize (upd G16 l2 (.lst [.ref t3, .ref t6])) = G17 at st16 el2 ht6'
  have S17 := S13.trans st16
  have nl2 := src_ne24 (as := [t3, t6]) S17.s el2
  have hx17 := hx13.keep fun _ _ h => st16.rd h S13.s
  have hy17 := hy13.keep fun _ _ h => st16.rd h S13.s
  have hz17 := hz13.keep fun _ _ h => st16.rd h S13.s
  have el1' := st16.k _ _ nl1 el1
  have hu17 : EfAt K G17 (.num j6) (.ref t6) := ⟨t6, rfl, SqT.of ht6'⟩
  have o6 : (Ef.num j6).ok N 3 := ⟨by omega, by omega⟩
  clear ht6' sl2 ht6 s16 st14 st15 st16 hl2 hvk qte13 hx13 hy13 hz13 el1 S13
  -- the first comparison
  refine ⟨_, rfl, a, 2, rfl, S17.s, by decide, fun r5 G18 st18 r50 r51 => ?_⟩
  have S18 := S17.trans st18
  refine ⟨_, rfl, by show 4 ≤ sizeLine; decide, fun l0 hl0 => ?_⟩
  have s0 := Stp.of_same S18.s (Same.new hl0 (.lst [.str "<", .str "<=", .str "==", .str "!="]))
  refine ⟨a, l0, _, false, rfl, s0.s, fun _ => (S18.s.ne hl0).symm, SqL.of upd_same, by show 0 < 4; decide, by show 4 < 1000; decide, fun v0 G19 hv0 st19 => ?_⟩
  obtain ⟨c1, rfl⟩ := co_of hv0
  have st1719 := st18.trans (s0.trans st19)
  have S19 := S17.trans st1719
  have el1a := st1719.k _ _ nl1 el1'
  have el2a := st1719.k _ _ nl2 el2
  have kt := sqT_stp (K := K) st1719 S17.s
  obtain ⟨x1, y1, a1, b1, at1, at2, hx1, hy1, oa1, ob1⟩ : ∃ x1 y1 a1 b1, atI [V.ref t1, .ref t5] r5 = some x1 ∧ atI [V.ref t1, .ref t5] (1 - r5) = some y1 ∧ EfAt K G19 a1 x1 ∧ EfAt K G19 b1 y1 ∧ a1.ok N 3 ∧ b1.ok N 3 := by
    rcases turn2 (x := V.ref t1) (y := .ref t5) r50 r51 with ⟨h1, h2⟩ | ⟨h1, h2⟩
    · exact ⟨_, _, _, _, h1, h2, hx17.keep kt, hz17.keep kt, o1, o5⟩
    · exact ⟨_, _, _, _, h1, h2, hz17.keep kt, hx17.keep kt, o5, o1⟩
  have hy19 := hy17.keep kt
  have hu19 := hu17.keep kt
  refine ⟨_, rfl, _, rfl, l1, _, _, _, rfl, rfl, SqL.of el1a, at1, _, rfl, _, rfl, _, _, rfl, rfl, l1, _, _, _, rfl, rfl, SqL.of el1a, at2, by show 3 ≤ sizeLine; decide, fun tc1 htc1 => ?_⟩
  have sc1 := Same.new htc1 (.tup [.str c1.s, x1, y1])
  have S20 := S19.same sc1
  have hc1 : FlAt K (upd G19 tc1 (.tup [.str c1.s, x1, y1])) (.cmp c1 a1 b1) (.ref tc1) := ⟨tc1, x1, y1, rfl, SqT.of upd_same, hx1.same sc1, hy1.same sc1⟩
  have hy20 := hy19.same sc1
  have hu20 := hu19.same sc1
  have el2b := sc1 _ _ el2a
  generalize (upd G19 tc1 (.tup [.str c1.s, x1, y1])) = G20 at S20 hc1 hy20 hu20 el2b
  clear sc1 htc1 hy19 hu19 hx1 hy1 kt el2a el1a S19 st1719 st19 hv0 s0 hl0 S18 st18 hx17 hy17 hz17 hu17 el1' el2 S17
  -- the second one
  refine ⟨_, rfl, a, 2, rfl, S20.s, by decide, fun r6 G21 st21 r60 r61 => ?_⟩
  have S21 := S20.trans st21
  refine ⟨_, rfl, by show 4 ≤ sizeLine; decide, fun l0 hl0 => ?_⟩
  have s0 := Stp.of_same S21.s (Same.new hl0 (.lst [.str "<", .str "<=", .str "==", .str "!="]))
  refine ⟨a, l0, _, false, rfl, s0.s, fun _ => (S21.s.ne hl0).symm, SqL.of upd_same, by show 0 < 4; decide, by show 4 < 1000; decide, fun v0 G22 hv0 st22 => ?_⟩
  obtain ⟨c2, rfl⟩ := co_of hv0
  have st2022 := st21.trans (s0.trans st22)
  have S22 := S20.trans st2022
  have el2c := st2022.k _ _ nl2 el2b
  have kt := sqT_stp (K := K) st2022 S20.s
  obtain ⟨x2, y2, a2, b2, at3, at4, hx2, hy2, oa2, ob2⟩ : ∃ x2 y2 a2 b2, atI [V.ref t3, .ref t6] r6 = some x2 ∧ atI [V.ref t3, .ref t6] (1 - r6) = some y2 ∧ EfAt K G22 a2 x2 ∧ EfAt K G22 b2 y2 ∧ a2.ok N 3 ∧ b2.ok N 3 := by
    rcases turn2 (x := V.ref t3) (y := .ref t6) r60 r61 with ⟨h1, h2⟩ | ⟨h1, h2⟩
    · exact ⟨_, _, _, _, h1, h2, hy20.keep kt, hu20.keep kt, o3, o6⟩
    · exact ⟨_, _, _, _, h1, h2, hu20.keep kt, hy20.keep kt, o6, o3⟩
  have hc22 := hc1.keep kt
  refine ⟨_, rfl, _, rfl, l2, _, _, _, rfl, rfl, SqL.of el2c, at3, _, rfl, _, rfl, _, _, rfl, rfl, l2, _, _, _, rfl, rfl, SqL.of el2c, at4, by show 3 ≤ sizeLine; decide, fun tc2 htc2 => ?_⟩
  have sc2 := Same.new htc2 (.tup [.str c2.s, x2, y2])
  have S23 := S22.same sc2
  have hc2 : FlAt K (upd G22 tc2 (.tup [.str c2.s, x2, y2])) (.cmp c2 a2 b2) (.ref tc2) := ⟨tc2, x2, y2, rfl, SqT.of upd_same, hx2.same sc2, hy2.same sc2⟩
  have hc23 := hc22.same sc2
  generalize (upd G22 tc2 (.tup [.str c2.s, x2, y2])) = G23 at S23 hc2 hc23
  refine ⟨_, rfl, by show 2 ≤ sizeLine; decide, fun l3 hl3 => ?_⟩
  have s3 := Stp.of_same S23.s (Same.new hl3 (.lst [.str "and", .str "or"]))
  refine ⟨a, l3, _, false, rfl, s3.s, fun _ => (S23.s.ne hl3).symm, SqL.of upd_same, by show 0 < 2; decide, by show 2 < 1000; decide, fun v3 G24 hv3 st24 => ?_⟩
  have st2324 := s3.trans st24
  have kt2 := sqT_stp (K := K) st2324 S23.s
  refine ⟨_, rfl, _, rfl, by show 3 ≤ sizeLine; decide, fun t ht => ?_⟩
  have kn := Same.new ht (.tup [v3, .ref tc1, .ref tc2])
  have up : ∀ {S : List Str}, (∀ z ∈ N, z ∈ S) → ∀ {m : Nat} {e : Ef}, e.ok N m → e.ok S m := fun {S} hs => by
    intro m
    induction m with
    | zero => intro e h; exact h.elim
    | succ m ih =>
      intro e h
      cases e with
      | num i => exact h
      | var z => exact hs z h
      | bin o a b => exact ⟨ih h.1, ih h.2⟩
  have hA : FlAt K (upd G24 t (.tup [v3, .ref tc1, .ref tc2])) (.cmp c1 a1 b1) (.ref tc1) := (hc23.keep kt2).same kn
  have hB : FlAt K (upd G24 t (.tup [v3, .ref tc1, .ref tc2])) (.cmp c2 a2 b2) (.ref tc2) := (hc2.keep kt2).same kn
  have oks : ∀ S SF SR : List Str, (∀ z ∈ N, z ∈ S) → (Fl.cmp c1 a1 b1).ok S SF SR 1 ∧ (Fl.cmp c2 a2 b2).ok S SF SR 1 := fun S SF SR hs => ⟨⟨up hs oa1, up hs ob1⟩, ⟨up hs oa2, up hs ob2⟩⟩
  have SE := (S23.trans st2324).new (o := .tup [v3, .ref tc1, .ref tc2]) ht
  have h3 : v3 = .str "and" ∨ v3 = .str "or" := by
    simp only [List.mem_cons, List.not_mem_nil, or_false] at hv3
    exact hv3
  rcases h3 with rfl | rfl
  · exact q (.ref t) (.and (.cmp c1 a1 b1) (.cmp c2 a2 b2)) _ SE ⟨t, _, _, rfl, SqT.of upd_same, hA, hB⟩ oks
  · exact q (.ref t) (.or (.cmp c1 a1 b1) (.cmp c2 a2 b2)) _ SE ⟨t, _, _, rfl, SqT.of upd_same, hA, hB⟩ oks
theorem ok_l_truth (T : Txt w K mg) : ∀ m : Nat, m ≤ 5 → FnOk P w K mg base CX0 (m + 29) T.a_l_truth T.d_l_truth p_l_truth (spTru26 K m)
  | 0, _ => fn_vac fun vs H Q E h => by obtain ⟨d, a, pf, pd, pn, pl, pr, nl, pp, kvs, NU, FL, RF, N, κ, n, Ps, _, h, _⟩ := h; exact absurd h (Nat.not_lt_zero _)
  | m + 1, hm => by
    have g_l_pick := ok_l_pick (P := P) (w := w) (base := base) T
    have g_l_one := ok_l_oneG (P := P) (w := w) (K := K) (base := base) T
    have g_l_chain := ok_l_chain (P := P) (w := w) (K := K) (base := base) T
    have g_l_compare := ok_l_compare (P := P) (w := w) (K := K) (base := base) T
    have g_l_reference := ok_l_reference (P := P) (w := w) (K := K) (base := base) T
    have g_l_truth := ok_l_truth T m (by omega)
    show FnOk P w K mg base CX0 (m + 29 + 1) T.a_l_truth T.d_l_truth p_l_truth (spTru26 K (m + 1))
    refine T.F_l_truth.ok sc_l_truth (fun vs H Q E h => ?_) (fun cdv A outer s H vs Q E hr h => ?_)
    · obtain ⟨d, a, pf, pd, pn, pl, pr, nl, pp, kvs, NU, FL, RF, N, κ, n, Ps, rfl, _⟩ := h
      rfl
    obtain ⟨d, a, pf, pd, pn, pl, pr, nl, pp, kvs, NU, FL, RF, N, κ, n, Ps, rfl, hd, hS, fc, q⟩ := h
    refine ⟨_, (pss_cons (ps_set (i := 6) sc_l_truth.nd rfl (Or.inl rfl) (pe_call g_l_pick (hr.mono (by first | decide | omega)) rfl T.m_l_pick T.F_l_pick.kp T.b_l_pick .nil pass0 (pa_cons (pv 0) (pa_cons pe_int pa_nil))))
      (pss_cons (ps_if (PW.pt (pw_and (pt_cmpR op_gt (pv 4) pe_int (nomark _)) (pw_and1 (pt_cmpR op_lt (pv 6) pe_int (nomark _))))) (pss_cons (ps_set (i := 7) sc_l_truth.nd rfl (Or.inl rfl) (pe_call g_l_truth (hr.mono (by first | decide | omega)) rfl T.m_l_truth T.F_l_truth.kp T.b_l_truth .nil pass0 (pa_cons (pv 0) (pa_cons (pv 1) (pa_cons (pv 2) (pa_cons (pv 3) (pa_cons (pe_op op_sub (pv 4) pe_int) (pa_cons (pv 5) pa_nil))))))))
      (pss_cons (ps_if (pt_cmpR op_lt (pv 6) pe_int (nomark _)) (pss_one (ps_ret (pe_tup (pa_cons pe_str (pa_cons (pv 7) pa_nil))))) pss_nil)
      (pss_one (ps_ret (pe_tup (pa_cons (pe_ix ix_list (pe_lst (pa_cons pe_str (pa_cons pe_str pa_nil))) (pe_op op_modN (pe_callTy call_int1 rfl T.z_int bt_int (pa_cons (pv 6) pa_nil)) pe_int) (fun _ _ => rfl)) (pa_cons (pv 7) (pa_cons (pe_call g_l_truth (hr.mono (by first | decide | omega)) rfl T.m_l_truth T.F_l_truth.kp T.b_l_truth .nil pass0 (pa_cons (pv 0) (pa_cons (pv 1) (pa_cons (pv 2) (pa_cons (pv 3) (pa_cons (pe_op op_sub (pv 4) pe_int) (pa_cons (pv 5) pa_nil))))))) pa_nil)))))))) pss_nil)
      (pss_cons (ps_if (PW.pt (pw_and (pt_cmpR op_gt (pv 4) pe_int (nomark _)) (pw_and (pt_cmpR op_gt (pv 6) pe_int (nomark _)) (pw_and1 (pt_cmpR (op_neL0 hr.units0) (pv 2) (pe_lst pa_nil) (nomark _)))))) (pss_one (ps_ret (pe_call g_l_chain (hr.mono (by first | decide | omega)) rfl T.m_l_chain T.F_l_chain.kp T.b_l_chain .nil pass0 (pa_cons (pv 0) (pa_cons (pv 2) (pa_cons (pv 3) pa_nil)))))) pss_nil)
      (pss_cons (ps_if (pt_cmpR op_eq (pv 6) pe_int (nomark _)) (pss_one (ps_ret (pe_tup (pa_cons pe_str (pa_cons (pe_cmpR op_eq (pe_call g_l_pick (hr.mono (by first | decide | omega)) rfl T.m_l_pick T.F_l_pick.kp T.b_l_pick .nil pass0 (pa_cons (pv 0) (pa_cons pe_int pa_nil))) pe_int (nomark _)) pa_nil))))) pss_nil)
      (pss_cons (ps_if (PW.pt (pw_and (pt_cmpR op_eq (pv 6) pe_int (nomark _)) (pw_and1 (pt_cmpR (op_neL0 hr.units0) (pe_ix ix_list (pv 1) pe_int (fun _ _ => rfl)) (pe_lst pa_nil) (nomark _))))) (pss_one (ps_ret (pe_tup (pa_cons pe_str (pa_cons (pe_call g_l_one (hr.mono (by first | decide | omega)) rfl T.m_l_one T.F_l_one.kp T.b_l_one .nil pass0 (pa_cons (pv 0) (pa_cons (pe_ix ix_list (pv 1) pe_int (fun _ _ => rfl)) pa_nil))) pa_nil))))) pss_nil)
      (pss_cons (ps_if (pt_cmpR op_eq (pv 6) pe_int (nomark _)) (pss_one (ps_ret (pe_tup (pa_cons pe_str (pa_cons (pe_call g_l_reference (hr.mono (by first | decide | omega)) rfl T.m_l_reference T.F_l_reference.kp T.b_l_reference .nil pass0 (pa_cons (pv 0) (pa_cons (pe_ix ix_list (pv 1) pe_int (fun _ _ => rfl)) pa_nil))) (pa_cons (pe_call g_l_reference (hr.mono (by first | decide | omega)) rfl T.m_l_reference T.F_l_reference.kp T.b_l_reference .nil pass0 (pa_cons (pv 0) (pa_cons (pe_ix ix_list (pv 1) pe_int (fun _ _ => rfl)) pa_nil))) pa_nil)))))) pss_nil)
      (pss_one (ps_ret (pe_call g_l_compare (hr.mono (by first | decide | omega)) rfl T.m_l_compare T.F_l_compare.kp T.b_l_compare .nil pass0 (pa_cons (pv 0) (pa_cons (pv 1) (pa_cons (pv 2) (pa_cons (pv 3) (pa_cons (pv 5) pa_nil)))))))))))))), ?_⟩
    refine ⟨_, rfl, a, 20, rfl, hS, by decide, fun c H1 st1 c0 c1 => ?_⟩
    have fc1 := fc.stp st1 hS
    have cast : 0 < d → ((d : Int) - 1) = ((d - 1 : Nat) : Int) := fun h => by omega
    have lE := fc.lP
    refine ⟨_, rfl, _, _, rfl, rfl, _, rfl, ite2 (fun hd0 => ⟨_, rfl, _, _, rfl, rfl, _, rfl, ite2 (fun hc => ?A) (fun hc => ?B)⟩) (fun hd0 => iteF ?C)⟩
    case A =>
      have d0 : 0 < d := by
        have := of_decide_eq_true hd0
        omega
      refine ⟨_, rfl, _, rfl, _, rfl, _, rfl, _, rfl, _, _, rfl, rfl, _, rfl, d - 1, a, pf, pd, pn, pl, pr, nl, pp, kvs, NU, FL, RF, N, κ, n, Ps, by rw [← cast d0]; rfl, by omega, st1.s, fc1, fun v1 e1 H2 st2 hx1 o1 => ?_⟩
      rw [Nat.sub_add_cancel d0] at o1
      have fc2 := fc1.stp st2 st1.s
      refine ⟨_, rfl, _, _, rfl, rfl, _, rfl, ite2 (fun _ => ?_) (fun _ => ?_)⟩
      · refine ⟨_, rfl, by show 2 ≤ sizeLine; decide, fun t ht => ?_⟩
        exact q (.ref t) (.not e1) _ ((st1.trans st2).new ht) ⟨t, v1, rfl, SqT.of upd_same, hx1.same (Same.new ht _)⟩ o1
      · refine ⟨by show 2 ≤ sizeLine; decide, fun l2 hl2 => ?_⟩
        have s2 := Same.new hl2 (.lst [.str "and", .str "or"])
        have stl := (st1.trans st2).same s2
        have hx2 := hx1.same s2
        have el2 : (upd H2 l2 (.lst [.str "and", .str "or"])) l2 = some (.lst [.str "and", .str "or"]) := upd_same
        have fc3 := fc2.same s2
        generalize (upd H2 l2 (.lst [.str "and", .str "or"])) = H3 at stl hx2 el2 fc3
        refine ⟨_, rfl, .inl ⟨c, rfl, _, _, rfl, rfl, (by intro z; cases z), ?_⟩⟩
        obtain ⟨vo, eo, ho⟩ : ∃ vo, atI [V.str "and", .str "or"] (c % 2) = some vo ∧ (vo = .str "and" ∨ vo = .str "or") := by
          have h : c % 2 = 0 ∨ c % 2 = 1 := by omega
          rcases h with h | h
          · rw [h]; exact ⟨_, rfl, .inl rfl⟩
          · rw [h]; exact ⟨_, rfl, .inr rfl⟩
        refine ⟨l2, _, _, vo, rfl, rfl, SqL.of el2, by rw [Int.fmod_eq_emod_of_nonneg _ (by decide)]; exact eo, _, rfl, ?_⟩
        refine ⟨_, rfl, _, rfl, _, rfl, _, rfl, _, rfl, _, _, rfl, rfl, _, rfl, d - 1, a, pf, pd, pn, pl, pr, nl, pp, kvs, NU, FL, RF, N, κ, n, Ps, by rw [← cast d0]; rfl, by omega, stl.s, fc3, fun v2 e2 H4 st4 hx3 o2 => ⟨by show 3 ≤ sizeLine; decide, fun t ht => ?_⟩⟩
        rw [Nat.sub_add_cancel d0] at o2
        have kn := Same.new ht (.tup [vo, v1, v2])
        have hx4 := (hx2.keep fun _ _ h => st4.rd h stl.s).same kn
        have SE := (stl.trans st4).new (o := .tup [vo, v1, v2]) ht
        rcases ho with rfl | rfl
        · exact q (.ref t) (.and e1 e2) _ SE ⟨t, v1, v2, rfl, SqT.of upd_same, hx4, hx3.same kn⟩ ⟨o1, o2⟩
        · exact q (.ref t) (.or e1 e2) _ SE ⟨t, v1, v2, rfl, SqT.of upd_same, hx4, hx3.same kn⟩ ⟨o1, o2⟩
    case' B =>
      have d0 : 0 < d := by
        have := of_decide_eq_true hd0
        omega
      refine ⟨_, rfl, _, _, rfl, rfl, _, rfl, ite2 (fun _ => ⟨_, rfl, _, _, rfl, rfl, _, rfl, ite2 (fun _ => ⟨_, rfl, by show 0 ≤ sizeLine; decide, fun e0 he => ⟨nl, e0, _, rfl, rfl, SqL.of ((Same.new he (.lst [])) _ _ fc1.e.nm), SqL.of upd_same, _, rfl, ite2 (fun hne => ?chain) (fun hne => ?_)⟩⟩) (fun _ => ?_)⟩) (fun h => absurd hd0 h)⟩
    case chain =>
      have neN : N ≠ [] := fun z => by
        subst z
        exact absurd hne (by decide)
      have fe := fc1.same (Same.new he (.lst []))
      have se := st1.same (Same.new he (.lst []))
      exact ⟨_, rfl, _, rfl, _, rfl, a, nl, pp, N, n, Ps, rfl, se.s, fe.e.nm, neN, fc.nd, fc.lN, fc.e.ln, fc.e.hn, fe.e.p, fc.e.ne, fc.lP, fc.e.lr, fc.e.pb, fun v fl H' st hx ok => q v fl H' (se.trans st) hx ((ok _ _ _ fun z hz => List.mem_append_left _ hz).le (by omega))⟩
    case' C =>
      refine ⟨_, rfl, _, _, rfl, rfl, _, rfl, ite2 (fun h => absurd h hd0) (fun _ => ?_)⟩
    all_goals try refine iteF ?_
    all_goals
      try
        have S1 := st1.same (Same.new he (.lst []))
        have F1 := fc1.same (Same.new he (.lst []))
        generalize (upd H1 e0 (.lst [])) = G1 at S1 F1 ⊢
        clear st1 fc1
        have st1 := S1
        have fc1 := F1
        clear S1 F1
      refine ⟨_, rfl, rfl, _, rfl, ite2 (fun _ => ?_) (fun _ => ?_)⟩
      · refine ⟨_, rfl, a, 2, rfl, st1.s, by decide, fun r G2 st2 _ _ => ⟨rfl, by show 2 ≤ sizeLine; decide, fun t ht => ?_⟩⟩
        exact q (.ref t) (.flag _) _ ((st1.trans st2).new ht) ⟨t, rfl, SqT.of upd_same⟩ trivial
      refine ⟨_, rfl, rfl, _, rfl, ite2 (fun _ => ⟨_, rfl, pf, _, 2, _, rfl, rfl, SqL.of fc1.f, rfl, by show 0 ≤ sizeLine; decide, fun e1 he1 => ⟨pl, e1, _, rfl, rfl, SqL.of ((Same.new he1 (.lst [])) _ _ fc1.l), SqL.of upd_same, _, rfl, ite2 (fun hne => ?_) (fun hne => ?_)⟩⟩) (fun _ => iteF ?_)⟩
      · have neF : FL ≠ [] := fun z => by
          subst z
          exact absurd hne (by decide)
        have fe := fc1.same (Same.new he1 (.lst []))
        have se := st1.same (Same.new he1 (.lst []))
        refine ⟨_, rfl, _, rfl, pf, _, 2, _, rfl, rfl, SqL.of fe.f, rfl, a, pl, _, false, rfl, se.s, fun _ => lst_ne' se.s fe.l, SqL.of fe.l, by rw [List.length_map]; exact List.length_pos_iff.mpr neF, by rw [List.length_map]; have := fc.lF; omega, fun v G2 hv st2 => ⟨by show 2 ≤ sizeLine; decide, fun t ht => ?_⟩⟩
        obtain ⟨z, hz, rfl⟩ := List.mem_map.mp hv
        exact q (.ref t) (.var z) _ ((se.trans st2).new ht) ⟨t, rfl, SqT.of upd_same⟩ hz
      all_goals
        try
          have S1 := st1.same (Same.new he1 (.lst []))
          have F1 := fc1.same (Same.new he1 (.lst []))
          generalize (upd _ e1 (.lst [])) = G1 at S1 F1 ⊢
          clear st1 fc1
          have st1 := S1
          have fc1 := F1
          clear S1 F1
        refine ⟨_, rfl, rfl, _, rfl, ite2 (fun _ => ?_) (fun _ => ?_)⟩
        · refine ⟨_, rfl, _, rfl, pf, _, 3, _, rfl, rfl, SqL.of fc1.f, rfl, a, pr, RF, rfl, st1.s, fc1.r, by have := fc.lR; omega, fun v1 r1 G2 st2 hx1 o1 => ?_⟩
          have fc2 := fc1.stp st2 st1.s
          have S2 := st1.trans st2
          refine ⟨_, rfl, _, rfl, pf, _, 3, _, rfl, rfl, SqL.of fc2.f, rfl, a, pr, RF, rfl, S2.s, fc2.r, by have := fc.lR; omega, fun v2 r2 G3 st3 hx2 o2 => ⟨by show 3 ≤ sizeLine; decide, fun t ht => ?_⟩⟩
          have kn := Same.new ht (.tup [.str "same", v1, v2])
          exact q (.ref t) (.same r1 r2) _ ((S2.trans st3).new ht) ⟨t, v1, v2, rfl, SqT.of upd_same, (hx1.keep fun _ _ h => st3.rd h S2.s).keep fun _ _ h => Same.tup kn h, hx2.keep fun _ _ h => Same.tup kn h⟩ ⟨o1, o2⟩
        · exact ⟨_, rfl, _, rfl, _, rfl, _, rfl, _, rfl, a, pf, pd, pn, pl, pr, nl, pp, kvs, NU, FL, RF, N, κ, n, Ps, rfl, st1.s, fc1, fun v o x y H' st hx ox oy => q v (.cmp o x y) H' (st1.trans st) hx ⟨ox, oy⟩⟩
end
/-! ### law k26: asked -/
theorem cut20 {xs : List V} {k : Nat} : cutV xs none (some (k : Int)) = xs.take k := by
  have e : HT.sIx xs.length xs.length (some (k : Int)) = min k xs.length := HT.sIx_nat _ _ k
  unfold cutV
  rw [e]
  show (xs.drop 0).take (min k xs.length - 0) = _
  rw [List.drop_zero, Nat.sub_zero, List.take_eq_take_iff]
  omega
theorem same_none {H H' : Hp} {p : Addr} (s : Same H H') (h : H' p = none) : H p = none := by
  cases e : H p with
  | none => rfl
  | some o => rw [s _ _ e] at h; cases h
theorem keepT_dk {K : PySem.W.Frag} {H : Hp} {d : Addr} {kvs : List (Key × V)} {o : HO} (h : H d = some (.dK kvs)) : KeepT K H (upd H d o) := fun p xs hp => by
  have ne : ∀ {u : HO}, H p = some u → (∀ ys, u ≠ .dK ys) → p ≠ d := fun e n z => by
    rw [z, h] at e
    exact n _ (Option.some.inj e).symm
  rcases hp with (q | ⟨o', q⟩) | q
  · exact .inl (.inl (by rw [upd_ne (ne q (fun _ z => nomatch z))]; exact q))
  · exact .inl (.inr ⟨o', by rw [upd_ne (ne q (fun _ z => nomatch z))]; exact q⟩)
  · exact .inr q
theorem BoxAt.keepT {K : PySem.W.Frag} {H H' : Hp} {v : V} {B : Option (List (List Int))} (k : KeepT K H H') (h : BoxAt K H v B) : BoxAt K H' v B := by
  cases B with
  | none => exact h
  | some M =>
    obtain ⟨p, e, as, h1, h2, h3⟩ := h
    exact ⟨p, e, as, k _ _ h1, h2, fun i b r e1 e2 => k _ _ (h3 i b r e1 e2)⟩
theorem rf_ev2 {kvs kv' : List (Key × V)} {N SR : List Str} {E : Env26} (hr : ∀ z ∈ SR, valV kvs (Sum.inr z) = some (E.r z) ∧ Flat2 (E.r z)) (v2 : ∀ z, z ∉ N → valV kv' (Sum.inr z) = valV kvs (Sum.inr z)) (dR : ∀ z ∈ SR, z ∉ N) : ∀ {r : Rf}, r.ok SR → RfEv kv' E r
  | .null, _ => trivial
  | .var z, h => by
    have g := hr z h
    exact ⟨by rw [v2 z (dR z h)]; exact g.1, g.2⟩
theorem fl_ev {kvs kv' : List (Key × V)} {N S SF SR : List Str} {κ : Str → Int} {E : Env26} {x : List Int} (hk : Kv26 kvs N S SF SR κ E) (v1 : ∀ z ∈ N, valV kv' (Sum.inr z) = some (.int (x.getD (N.idxOf z) 0))) (v2 : ∀ z, z ∉ N → valV kv' (Sum.inr z) = valV kvs (Sum.inr z)) (dF : ∀ z ∈ SF, z ∉ N) (dR : ∀ z ∈ SR, z ∉ N) (fl : Fl) : ∀ {m : Nat}, fl.ok S SF SR m → FlEv kv' (rho N κ x) E fl := by
  induction fl with
  | flag b => intro m h; exact trivial
  | var z =>
    intro m h
    cases m with
    | zero => exact h.elim
    | succ m =>
      show valV kv' (Sum.inr z) = _
      rw [v2 z (dF z h)]
      exact hk.f z h
  | same r s =>
    intro m h
    cases m with
    | zero => exact h.elim
    | succ m => exact ⟨rf_ev2 hk.r v2 dR h.1, rf_ev2 hk.r v2 dR h.2⟩
  | cmp o a b =>
    intro m h
    cases m with
    | zero => exact h.elim
    | succ m => exact ⟨ev_at2 hk.k v1 v2 h.1, ev_at2 hk.k v1 v2 h.2⟩
  | not a ih =>
    intro m h
    cases m with
    | zero => exact h.elim
    | succ m => exact ih (m := m) h
  | and a b iha ihb =>
    intro m h
    cases m with
    | zero => exact h.elim
    | succ m => exact ⟨iha (m := m) h.1, ihb (m := m) h.2⟩
  | or a b iha ihb =>
    intro m h
    cases m with
    | zero => exact h.elim
    | succ m => exact ⟨iha (m := m) h.1, ihb (m := m) h.2⟩
structure All26 (K : PySem.W.Frag) (H : Hp) (v : V) (dk nl : Addr) (fl : Fl) (kvs : List (Key × V)) (N S SF SR : List Str) (κ : Str → Int) (E : Env26) (n : Nat) : Prop where
  x : FlAt K H fl v
  o : fl.ok S SF SR 4
  d : H dk = some (.dK kvs)
  k : Kv26 kvs N S SF SR κ E
  nm : H nl = some (.lst (N.map V.str))
  nd : N.Nodup
  ln : N.length ≤ n
  hn : n ≤ 20
  lk : kvs.length ≤ 10
  hf : ∀ k v, valV kvs k = some v → (∃ z, k = Sum.inr z) ∧ (v = .non ∨ (∃ b, v = .bl b) ∨ ∃ i, v = .int i)
  dF : ∀ z ∈ SF, z ∉ N
  dR : ∀ z ∈ SR, z ∉ N
theorem All26.same {K : PySem.W.Frag} {H H' : Hp} {v : V} {dk nl : Addr} {fl : Fl} {kvs : List (Key × V)} {N S SF SR : List Str} {κ : Str → Int} {E : Env26} {n : Nat} (s : Same H H') (h : All26 K H v dk nl fl kvs N S SF SR κ E n) : All26 K H' v dk nl fl kvs N S SF SR κ E n :=
  ⟨h.x.same s, h.o, s _ _ h.d, h.k, s _ _ h.nm, h.nd, h.ln, h.hn, h.lk, h.hf, h.dF, h.dR⟩
def spAsk26 (K : PySem.W.Frag) : Sp := fun vs H Q _ => ∃ (v : V) (w : Bool) (dk nl p : Addr) (fl : Fl) (kvs : List (Key × V)) (N S SF SR : List Str) (κ : Str → Int) (E : Env26) (n : Nat) (Ps : List (List Int)), vs = [v, .bl w, .ref dk, .ref nl, .ref p] ∧ All26 K H v dk nl fl kvs N S SF SR κ E n ∧ TPts H p Ps ∧ Full n Ps ∧ PtB Ps ∧ Ps ≠ [] ∧ Ps.length ≤ 125 ∧
  ∀ l va H', Same H H' → H' l = some (.lst [va]) → BoxAt K H' va (hull n (asmL E N κ n fl w Ps)) → Q (.ref l) H'
section
variable {P : Program} {w : World} {K : PySem.W.Frag} {mg : Str → Option Value} {base : Heap}
theorem ok_l_asked (T : Txt w K mg) : FnOk P w K mg base CX0 37 T.a_l_asked T.d_l_asked p_l_asked (spAsk26 K) := by
  have g_l_box := ok_l_box (P := P) (w := w) (K := K) (base := base) T
  have g_assume := ok_assume (P := P) (w := w) (K := K) (base := base) T 4 (by decide)
  have g_l_due := ok_l_due (P := P) (w := w) (K := K) (base := base) T 4 (by decide)
  have g_l_same := ok_l_same (P := P) (w := w) (K := K) (base := base) T 3
  have g_l_kept := ok_l_kept (P := P) (w := w) (K := K) (base := base) T
  have g_l_value := ok_l_valueV (P := P) (w := w) (K := K) (base := base) T 7 (by decide)
  have g_l_values_at := ok_l_values_at (P := P) (w := w) (K := K) (base := base) T
  have g_l_belongs := ok_l_belongs (P := P) (w := w) (K := K) (base := base) T
  refine T.F_l_asked.ok sc_l_asked (fun vs H Q E h => ?_) (fun cdv A outer s H vs Q E hr h => ?_)
  · obtain ⟨v, w, dk, nl, p, fl, kvs, N, S, SF, SR, κ, Ev, n, Ps, rfl, _⟩ := h
    rfl
  obtain ⟨v, w, dk, nl, p, fl, kvs, N, S, SF, SR, κ, Ev, n, Ps, rfl, al, tP, fu, pB, ne, lP, q⟩ := h
  refine ⟨_, (pss_cons (ps_set (i := 5) sc_l_asked.nd rfl (Or.inl rfl) (pe_callTy call_dictD rfl T.z_dict bt_dict (pa_cons (pv 2) pa_nil)))
      (pss_cons (ps_set (i := 6) sc_l_asked.nd rfl (Or.inl rfl) (pe_call g_assume (hr.mono (by first | decide | omega)) rfl T.m_assume T.F_assume.kp T.b_assume .nil pass0 (pa_cons (pv 0) (pa_cons (pv 1) (pa_cons (pv 5) (pa_cons (pe_callTy TZ.call_tuple_fz rfl T.z_tuple bt_tuple (pa_cons (pv 3) pa_nil)) (pa_cons (pe_call g_l_box (hr.mono (by first | decide | omega)) rfl T.m_l_box T.F_l_box.kp T.b_l_box .nil pass0 (pa_cons (pv 4) pa_nil)) pa_nil)))))))
      (pss_cons (ps_if (PW.pt (pw_or (pt_not (pt_val (pe_call g_l_same (hr.mono (by first | decide | omega)) rfl T.m_l_same T.F_l_same.kp T.b_l_same .nil pass0 (pa_cons (pv 6) (pa_cons (pe_call g_l_due (hr.mono (by first | decide | omega)) rfl T.m_l_due T.F_l_due.kp T.b_l_due .nil pass0 (pa_cons (pv 0) (pa_cons (pv 1) (pa_cons (pv 2) (pa_cons (pv 3) (pa_cons (pv 4) pa_nil)))))) pa_nil))))) (pw_or1 (pt_not (pt_val (pe_call g_l_kept (hr.mono (by first | decide | omega)) rfl T.m_l_kept T.F_l_kept.kp T.b_l_kept .nil pass0 (pa_cons (pv 5) (pa_cons (pv 2) pa_nil)))))))) (pss_one (ps_ret (pe_lst pa_nil))) pss_nil)
      (pss_cons (ps_expr (pe_dclear (pv 5)))
      (pss_cons (ps_for PassesOwn.never rfl (pi_list (pe_slice sl_list (pv 4) po_none (po_some pe_int))) (pg_name (i := 7) sc_l_asked.nd rfl (Or.inl rfl))
        (pss_one (ps_if (pt_cmpR op_eq (pe_call g_l_value (hr.mono (by first | decide | omega)) rfl T.m_l_value T.F_l_value.kp T.b_l_value .nil pass0 (pa_cons (pv 0) (pa_cons (pe_call g_l_values_at (hr.mono (by first | decide | omega)) rfl T.m_l_values_at T.F_l_values_at.kp T.b_l_values_at .nil pass0 (pa_cons (pv 2) (pa_cons (pv 3) (pa_cons (pv 7) pa_nil)))) pa_nil))) (pv 1) (nomark _)) (pss_one (ps_if (PW.pt (pw_or (pt_cmpR op_isN (pv 6) pe_non (nomark _)) (pw_or1 (pt_not (pt_val (pe_call g_l_belongs (hr.mono (by first | decide | omega)) rfl T.m_l_belongs T.F_l_belongs.kp T.b_l_belongs .nil pass0 (pa_cons (pv 6) (pa_cons (pv 7) pa_nil)))))))) (pss_one (ps_ret (pe_lst pa_nil))) pss_nil)) pss_nil)))
      (pss_one (ps_ret (pe_lst (pa_cons (pv 6) pa_nil))))))))), ?_⟩
  have hn := al.hn
  refine ⟨_, rfl, dk, kvs, rfl, .inl al.d, fun hd hhd => ?_⟩
  have s0 := Same.new hhd (.dK kvs)
  refine ⟨_, rfl, _, rfl, _, rfl, _, rfl, nl, _, rfl, SqL.of (s0 _ _ al.nm), fun nt o hnt ho1 ho2 => ?_⟩
  have s1 := Same.new hnt (.frz o (.tup (N.map V.str)))
  have s01 := s0.trans s1
  have hkd : (upd (upd H hd (.dK kvs)) nt (.frz o (.tup (N.map V.str)))) hd = some (.dK kvs) := s1 _ _ upd_same
  have hnT : NtAt K (upd (upd H hd (.dK kvs)) nt (.frz o (.tup (N.map V.str)))) nt N := ⟨.inl (.inr ⟨o, upd_same⟩), o, _, upd_same, ho2⟩
  have nhk : hd ≠ dk := fun z => by rw [z, al.d] at hhd; cases hhd
  generalize (upd (upd H hd (.dK kvs)) nt (.frz o (.tup (N.map V.str)))) = G1 at s01 hkd hnT
  have tP1 := tP.same s01
  refine ⟨_, rfl, p, n, Ps, rfl, by omega, tP1.pts.mx, fu.len, by omega, fun vb G2 s2 hb => ?_⟩
  have s02 := s01.trans s2
  have al2 := al.same s02
  refine ⟨v, w, hd, nt, vb, fl, kvs, N, S, SF, SR, κ, Ev, n, Ps, rfl, by omega, al2.x, al.o, s2 _ _ hkd, al.k, hnT.same s2, al.ln, hb, fu, pB, fun va G3 s3 ha => ?_⟩
  have s03 := s02.trans s3
  have al3 := al.same s03
  have hkd3 := s3 _ _ (s2 _ _ hkd)
  refine ⟨_, rfl, _, rfl, _, rfl, _, rfl, _, rfl, _, rfl, v, w, dk, nl, p, fl, kvs, N, S, SF, SR, κ, Ev, n, Ps, rfl, al3.d, al.k, al3.nm, al.ln, hn, tP.same s03, pB, fu, lP, al3.x, al.o, fun vd G4 s4 hvd => ?_⟩
  have s04 := s03.trans s4
  have al4 := al.same s04
  have ha4 := ha.same s4
  have hkd4 := s4 _ _ hkd3
  clear ha hkd3 al3 al2 hb hnT tP1 hkd s0 s1 s2 s3
  generalize hR : asmL Ev N κ n fl w Ps = R at ha4 hvd q
  refine ⟨va, vd, boxD (hull n R), rfl, ha4.dp, hvd.dp, (hull_sz n R).dok (by omega), ⟨_, rfl, iteF ⟨_, rfl, _, rfl, hd, dk, kvs, rfl, hkd4, al4.d, nhk, al.lk, al.hf, ⟨_, rfl, ifF rfl ?_⟩⟩⟩⟩
  refine ⟨_, rfl, .inr (.inr (.inl ⟨rfl, .inl ⟨_, hkd4⟩⟩)), hd, kvs, rfl, rfl, hkd4, ?_⟩
  have kc := keepT_dk (K := K) (o := .dK []) hkd4
  have nhd0 : H hd = none := hhd
  have s05 : Same H (upd G4 hd (.dK [])) := fun b o e => by rw [upd_ne (ne_of_none e nhd0)]; exact s04 _ _ e
  have ha5 := ha4.keepT kc
  clear kc ha4 hvd hkd4 al4 s04 s03 s02 s01
  generalize (upd G4 hd (.dK [])) = G5 at s05 ha5 ⊢
  have al5 := al.same s05
  have tP5 := tP.same s05
  obtain ⟨as, eP, hA⟩ := id tP5
  refine ⟨_, rfl, _, rfl, p, _, rfl, SqL.of eP, fun lq hlq => ⟨lq, rfl, ⟨_, SqL.of upd_same⟩, ?_⟩⟩
  have e20 : cutV (as.map V.ref) none (some (20 : Int)) = (as.take 20).map V.ref := by
    rw [show (20 : Int) = ((20 : Nat) : Int) from rfl, cut20, List.map_take]
  have sq := Same.new hlq (.lst (cutV (as.map V.ref) none (some (20 : Int))))
  have eq0 : (upd G5 lq (.lst (cutV (as.map V.ref) none (some (20 : Int))))) lq = some (.lst ((as.take 20).map V.ref)) := by rw [e20]; exact upd_same
  generalize (upd G5 lq (.lst (cutV (as.map V.ref) none (some (20 : Int))))) = G6 at sq eq0 ⊢
  have s06 := s05.trans sq
  have ha6 := ha5.same sq
  have hA6 := hA.same sq
  have lo4 : (4 : Nat) + 3 ≤ 7 := by decide
  refine for_it (walk_list (xs := (as.take 20).map V.ref)) (fun j σ F => (∃ y7 : Option V, σ = [some v, some (.bl w), some (.ref dk), some (.ref nl), some (.ref p), some (.ref hd), some va, y7]) ∧ Same G6 F)
    ⟨⟨_, rfl⟩, Same.refl _⟩ (fun j σ F _ P => SqL.of (P.2 _ _ eq0)) ?_ ?_
  · rintro j y σ F0 F hj ⟨⟨y7, rfl⟩, sF⟩ ⟨rfl, ex⟩
    rw [List.length_map, List.length_take] at hj
    have hj2 : j < as.length := by omega
    have hj3 : j < Ps.length := by rw [← hA6.1]; exact hj2
    have er : Ps[j]? = some Ps[j] := List.getElem?_eq_getElem hj3
    have mr := List.getElem_mem hj3
    generalize Ps[j] = r at er mr
    have lq' := fu.len _ mr
    have ea : as[j]? = some as[j] := List.getElem?_eq_getElem hj2
    generalize as[j] = tq at ea
    have ea2 : (as.take 20)[j]? = some tq := by rw [List.getElem?_take, if_pos (by omega)]; exact ea
    rw [map_get ea2] at ex
    obtain rfl := Option.some.inj ex
    have s0F := s06.trans sF
    have alF := al.same s0F
    have htq := sF _ _ (hA6.2 j tq r ea er)
    refine ⟨_, rfl, _, rfl, _, rfl, _, rfl, dk, nl, tq, kvs, N, r, rfl, alF.d, al.lk, alF.nm, SqT.of htq, al.nd, by rw [lq']; exact al.ln, by have := al.ln; omega, fun d2 F2 kv' s7 _ hd2 w1 w2 => ?_⟩
    refine ⟨v, d2, kv', rfl, hd2, .inr (.inr ⟨fl, S, SF, SR, rho N κ r, Ev, 4, alF.x.same s7, al.o, lo4, fl_ev al.k w1 w2 al.dF al.dR fl al.o, rho_bd al.k.b (pB r mr), fun F3 s8 => ⟨_, rfl, rfl, _, rfl, ite2 (fun h => ?_) (fun h => ?_)⟩⟩)⟩
    · have e : evF Ev (rho N κ r) fl = w := V.bl.inj (of_decide_eq_true h)
      have mR : r ∈ R := by
        rw [← hR]
        exact asm_sound al.ln fl mr e
      have nR : R ≠ [] := List.ne_nil_of_mem mR
      have haF := ((ha6.same sF).same s7).same s8
      rw [hull_some nR] at haF
      obtain ⟨pb, rfl, mB⟩ := haF
      refine ⟨_, rfl, rfl, _, rfl, ifF (by rw [decide_eq_false (fun z => by cases z)]) ?_⟩
      refine ⟨_, rfl, _, rfl, pb, tq, hullM n R, r, rfl, by omega, mB, (by rw [lq']; exact hullM_sz _ _), (by rw [lq']; exact fun i hi => (hull_clo nR).d i hi), SqT.of (s8 _ _ (s7 _ _ htq)), fun b F9 s9 hb => ⟨_, rfl, ?_⟩⟩
      have bt : b = true := hb.mpr (by
        rw [lq']
        exact fun a ha b hb => hull_le ha hb mR)
      subst bt
      exact ifF rfl ⟨⟨_, rfl⟩, ((sF.trans s7).trans s8).trans s9⟩
    · exact ⟨⟨_, rfl⟩, (sF.trans s7).trans s8⟩
  · rintro σ F ⟨⟨y7, rfl⟩, sF⟩
    refine ⟨_, rfl, by show 1 ≤ sizeLine; decide, fun l hl => ?_⟩
    have sl := Same.new hl (.lst [va])
    exact q l va _ ((s06.trans sF).trans sl) upd_same ((ha6.same sF).same sl)
end
/-! ### one box within another (as in Cut24b.inc) -/
section
variable {P : Program} {w : World} {K : PySem.W.Frag} {mg : Str → Option Value} {base : Heap}
theorem ok_l_inside (T : Txt w K mg) : FnOk P w K mg base CX0 1 T.a_l_inside T.d_l_inside p_l_inside (spIns24 K) := by
  refine T.F_l_inside.ok sc_l_inside (fun vs H Q E h => ?_) (fun cdv A outer s H vs Q E hr h => ?_)
  · obtain ⟨va, vb, A, B, n, rfl, _⟩ := h
    rfl
  obtain ⟨va, vb, A, B, n, rfl, hn, hA, hB, zA, zB, ins, q⟩ := h
  refine ⟨_, (pss_cons (ps_if (PW.pt (pw_or (pt_cmpR op_isN (pv 0) pe_non (nomark _)) (pw_or1 (pt_cmpR op_isN (pv 1) pe_non (nomark _))))) (pss_one (ps_ret (pe_cmpR op_isN (pv 0) pe_non (nomark _)))) pss_nil)
      (pss_cons (ps_for PassesOwn.never rfl (pi_range1 rfl T.z_range (pa_cons (pe_callB call_len_seq rfl T.z_len PySem.boot_len (pa_cons (pv 1) pa_nil)) pa_nil)) (pg_name (i := 2) sc_l_inside.nd rfl (Or.inl rfl))
        (pss_one (ps_for PassesOwn.never rfl (pi_range1 rfl T.z_range (pa_cons (pe_callB call_len_seq rfl T.z_len PySem.boot_len (pa_cons (pv 1) pa_nil)) pa_nil)) (pg_name (i := 3) sc_l_inside.nd rfl (Or.inl rfl))
        (pss_one (ps_if (pt_cmpR op_gt (pe_ix ix_tup (pe_ix ix_tup (pv 0) (pv 2) (fun _ _ => rfl)) (pv 3) (fun _ _ => rfl)) (pe_ix ix_tup (pe_ix ix_tup (pv 1) (pv 2) (fun _ _ => rfl)) (pv 3) (fun _ _ => rfl)) (nomark _)) (pss_one (ps_ret pe_bl)) pss_nil)))))
      (pss_one (ps_ret pe_bl)))), ?_⟩
  cases A with
  | none =>
    obtain rfl : va = .non := hA
    refine ⟨_, rfl, rfl, _, rfl, ifT (by decide) (ifT rfl ?_)⟩
    exact ⟨_, rfl, rfl, q⟩
  | some M =>
    cases B with
    | none => exact ins.elim
    | some N =>
      obtain ⟨pa, rfl, mA⟩ := hA
      obtain ⟨pb, rfl, mB⟩ := hB
      have sA := zA M rfl
      have sB := zB N rfl
      obtain ⟨bs, hbs, lbs, _⟩ := id mB
      refine ⟨_, rfl, rfl, _, rfl, ifF (by rw [decide_eq_false (fun z => by cases z)]) ⟨_, rfl, rfl, _, rfl, ifF (by rw [decide_eq_false (fun z => by cases z)]) ?_⟩⟩
      have lb : ((bs.map V.ref).length) = n := by rw [List.length_map, lbs, sB.1]
      refine ⟨_, rfl, pb, _, rfl, .inr hbs, _, rfl, by omega, by rw [lb]; omega, for_range (lo := 0) (fun i σ G => G = H ∧ ∃ b c : Option V, σ = [some (.ref pa), some (.ref pb), b, c]) ⟨rfl, _, _, rfl⟩ ?_ ?_⟩
      · rintro i σ G hi ⟨rfl, b, c, rfl⟩
        rw [lb] at hi
        refine ⟨_, rfl, pb, _, rfl, .inr hbs, _, rfl, by omega, by rw [lb]; omega, for_range (lo := 0) (fun j σ G' => G' = G ∧ ∃ c : Option V, σ = [some (.ref pa), some (.ref pb), some (.int (0 + (i : Int))), c]) ⟨rfl, _, rfl⟩ ?_ ?_⟩
        · rintro j σ G' hj ⟨rfl, c', rfl⟩
          rw [lb] at hj
          obtain ⟨vs1, a1, r1, x1, x2, x3, x4⟩ := mA.get3 sA (i := i) (j := j) (by omega) (by omega)
          obtain ⟨vs2, a2, r2, y1, y2, y3, y4⟩ := mB.get3 sB (i := i) (j := j) (by omega) (by omega)
          refine ⟨_, rfl, _, rfl, pa, _, _, _, rfl, rfl, x1, (by rw [Int.zero_add]; exact x2), _, rfl, a1, _, _, _, rfl, rfl, x3, (by rw [Int.zero_add]; exact x4), ?_⟩
          refine ⟨_, rfl, _, rfl, pb, _, _, _, rfl, rfl, y1, (by rw [Int.zero_add]; exact y2), _, rfl, a2, _, _, _, rfl, rfl, y3, (by rw [Int.zero_add]; exact y4), _, _, rfl, rfl, _, rfl, ite2 (fun h => ?_) (fun h => ?_)⟩
          · have h' : getM M i j > getM N i j := of_decide_eq_true h
            have := ins i (by omega) j (by omega)
            omega
          · exact ⟨rfl, _, rfl⟩
        · rintro σ G' ⟨rfl, c', rfl⟩
          exact ⟨rfl, _, _, rfl⟩
      · rintro σ G ⟨rfl, b, c, rfl⟩
        exact q
end
/-! ### law k26 -/
def spLaw (K : PySem.W.Frag) : Sp := fun vs H Q _ => ∃ (a : Addr) (ns : List Int), vs = [.ref a] ∧ SqL K H a (ns.map V.int) ∧ ns.length ≤ 63 ∧ ∀ H', Q (.bl true) H'
def kOf (kvs : List (Key × V)) (z : Str) : Int := match valV kvs (Sum.inr z) with
  | some (.int i) => if -1000000000000 ≤ i ∧ i ≤ 1000000000000 then i else 0
  | _ => 0
theorem kOf_b (kvs : List (Key × V)) (z : Str) : -1000000000000 ≤ kOf kvs z ∧ kOf kvs z ≤ 1000000000000 := by
  unfold kOf
  split
  · split
    · assumption
    · decide
  · decide
def eOf (kvs : List (Key × V)) : Env26 := ⟨fun z => match valV kvs (Sum.inr z) with
  | some (.bl b) => b
  | _ => false, fun z => match valV kvs (Sum.inr z) with
  | some v => v
  | none => .non⟩
theorem Kn26.kv {N NU FL RF : List Str} {kvs : List (Key × V)} (h : Kn26 NU FL RF kvs) : Kv26 kvs N (N ++ NU) FL RF (kOf kvs) (eOf kvs) := by
  refine ⟨fun z hz hn => ?_, kOf_b kvs, fun z hz => ?_, fun z hz => ?_⟩
  · obtain ⟨i, e, b⟩ := h.n z ((List.mem_append.mp hz).resolve_left hn)
    unfold kOf
    rw [e]
    show some (V.int i) = some (V.int (if _ then _ else _))
    rw [if_pos (by omega)]
  · obtain ⟨b, e⟩ := h.f z hz
    unfold eOf
    rw [e]
    show some (V.bl b) = some (V.bl (match valV kvs (Sum.inr z) with
      | some (.bl b) => b
      | _ => false))
    rw [e]
  · obtain ⟨v, e, fl⟩ := h.r z hz
    have e2 : (eOf kvs).r z = v := by
      show (match valV kvs (Sum.inr z) with
        | some v => v
        | none => .non) = v
      rw [e]
    rw [e2]
    exact ⟨e, fl⟩
theorem inside_asm {E : Env26} {N : List Str} {κ : Str → Int} {n : Nat} {fl : Fl} {w : Bool} {Ps Qs : List (List Int)} (sub : ∀ r ∈ Qs, r ∈ Ps) : Inside (n + 1) (hull n (asmL E N κ n fl w Qs)) (hull n (asmL E N κ n fl w Ps)) := inside_sub (asm_mono fl sub)
section
variable {P : Program} {w : World} {K : PySem.W.Frag} {mg : Str → Option Value} {base : Heap}
theorem ok_law (T : Txt w K mg) : FnOk P w K mg base CX0 38 T.a_law T.d_law p_law (spLaw K) := by
  have g_l_cell := ok_l_cell (P := P) (w := w) (K := K) (base := base) T
  have g_l_source := ok_l_source (P := P) (w := w) (base := base) T
  have g_l_pick := ok_l_pick (P := P) (w := w) (base := base) T
  have g_l_one := ok_l_oneG (P := P) (w := w) (K := K) (base := base) T
  have g_l_points := ok_l_points (P := P) (w := w) (K := K) (base := base) T
  have g_l_part := ok_l_part (P := P) (w := w) (K := K) (base := base) T
  have g_l_words := ok_l_words (P := P) (w := w) (base := base) T
  have g_l_order := ok_l_order (P := P) (w := w) (K := K) (base := base) T
  have g_l_known := ok_l_known (P := P) (w := w) (K := K) (base := base) T
  have g_l_truth := ok_l_truth (P := P) (w := w) (K := K) (base := base) T 4 (by decide)
  have g_l_value := ok_l_valueV (P := P) (w := w) (K := K) (base := base) T 7 (by decide)
  have g_l_values_at := ok_l_values_at (P := P) (w := w) (K := K) (base := base) T
  have g_l_asked := ok_l_asked (P := P) (w := w) (K := K) (base := base) T
  have g_l_inside := ok_l_inside (P := P) (w := w) (K := K) (base := base) T
  have g_l_box := ok_l_box (P := P) (w := w) (K := K) (base := base) T
  have g_l_same := ok_l_same (P := P) (w := w) (K := K) (base := base) T 3
  have g_assume := ok_assume (P := P) (w := w) (K := K) (base := base) T 4 (by decide)
  refine T.F_law.ok sc_law (fun vs H Q E h => ?_) (fun cdv A outer s H vs Q E hr h => ?_)
  · obtain ⟨a, ns, rfl, _⟩ := h
    rfl
  obtain ⟨a, ns, rfl, hS, h63, q⟩ := h
  refine ⟨_, (pss_cons (ps_set (i := 1) sc_law.nd rfl (Or.inl rfl) (pe_call g_l_source (hr.mono (by first | decide | omega)) rfl T.m_l_source T.F_l_source.kp T.b_l_source .nil pass0 (pa_cons (pe_op op_add (pe_op op_add (pe_call g_l_cell (hr.mono (by first | decide | omega)) rfl T.m_l_cell T.F_l_cell.kp T.b_l_cell .nil pass0 (pa_cons (pv 0) (pa_cons pe_int pa_nil))) (pe_op op_mul pe_int (pe_call g_l_cell (hr.mono (by first | decide | omega)) rfl T.m_l_cell T.F_l_cell.kp T.b_l_cell .nil pass0 (pa_cons (pv 0) (pa_cons pe_int pa_nil))))) (pe_op op_mul pe_int (pe_call g_l_cell (hr.mono (by first | decide | omega)) rfl T.m_l_cell T.F_l_cell.kp T.b_l_cell .nil pass0 (pa_cons (pv 0) (pa_cons pe_int pa_nil))))) pa_nil)))
      (pss_cons (ps_set (i := 2) sc_law.nd rfl (Or.inl rfl) (pe_call g_l_points (hr.mono (by first | decide | omega)) rfl T.m_l_points T.F_l_points.kp T.b_l_points .nil pass0 (pa_cons (pv 1) (pa_cons pe_int (pa_cons pe_int pa_nil)))))
      (pss_cons (ps_set (i := 3) sc_law.nd rfl (Or.inl rfl) (pe_call g_l_part (hr.mono (by first | decide | omega)) rfl T.m_l_part T.F_l_part.kp T.b_l_part .nil pass0 (pa_cons (pv 1) (pa_cons (pv 2) pa_nil))))
      (pss_cons (ps_set (i := 4) sc_law.nd rfl (Or.inl rfl) (pe_call g_l_words (hr.mono (by first | decide | omega)) rfl T.m_l_words T.F_l_words.kp T.b_l_words .nil pass0 (pa_cons (pv 1) pa_nil)))
      (pss_cons (ps_set (i := 5) sc_law.nd rfl (Or.inl rfl) (pe_call g_l_order (hr.mono (by first | decide | omega)) rfl T.m_l_order T.F_l_order.kp T.b_l_order .nil pass0 (pa_cons (pv 1) (pa_cons (pe_slice sl_list (pv 4) po_none (po_some (pe_callB (call_min2 rfl) rfl T.z_min bb_min (pa_cons (pe_call g_l_one (hr.mono (by first | decide | omega)) rfl T.m_l_one T.F_l_one.kp T.b_l_one .nil pass0 (pa_cons (pv 1) (pa_cons (pe_lst (pa_cons pe_int (pa_cons pe_int (pa_cons pe_int (pa_cons pe_int (pa_cons pe_int (pa_cons pe_int (pa_cons pe_int (pa_cons pe_int pa_nil))))))))) pa_nil))) (pa_cons (pe_callB call_len_seq rfl T.z_len PySem.boot_len (pa_cons (pe_ix ix_list (pv 2) pe_int (fun _ _ => rfl)) pa_nil)) pa_nil))))) pa_nil))))
      (pss_cons (ps_set (i := 6) sc_law.nd rfl (Or.inl rfl) (pe_call g_l_known (hr.mono (by first | decide | omega)) rfl T.m_l_known T.F_l_known.kp T.b_l_known .nil pass0 (pa_cons (pv 1) (pa_cons (pv 4) pa_nil))))
      (pss_cons (ps_set (i := 7) sc_law.nd rfl (Or.inl rfl) (pe_ix ix_list (pv 6) pe_int (fun _ _ => rfl)))
      (pss_cons (ps_set (i := 8) sc_law.nd rfl (Or.inl rfl) (pe_call g_l_pick (hr.mono (by first | decide | omega)) rfl T.m_l_pick T.F_l_pick.kp T.b_l_pick .nil pass0 (pa_cons (pv 1) (pa_cons pe_int pa_nil))))
      (pss_cons (ps_set (i := 9) sc_law.nd rfl (Or.inl rfl) (pe_call g_l_truth (hr.mono (by first | decide | omega)) rfl T.m_l_truth T.F_l_truth.kp T.b_l_truth .nil pass0 (pa_cons (pv 1) (pa_cons (pv 6) (pa_cons (pv 5) (pa_cons (pv 2) (pa_cons (pv 8) (pa_cons pe_int pa_nil))))))))
      (pss_cons (ps_set (i := 10) sc_law.nd rfl (Or.inl rfl) (pe_call g_l_one (hr.mono (by first | decide | omega)) rfl T.m_l_one T.F_l_one.kp T.b_l_one .nil pass0 (pa_cons (pv 1) (pa_cons (pv 2) pa_nil))))
      (pss_cons (ps_set (i := 11) sc_law.nd rfl (Or.inl rfl) (pe_call g_l_value (hr.mono (by first | decide | omega)) rfl T.m_l_value T.F_l_value.kp T.b_l_value .nil pass0 (pa_cons (pv 9) (pa_cons (pe_call g_l_values_at (hr.mono (by first | decide | omega)) rfl T.m_l_values_at T.F_l_values_at.kp T.b_l_values_at .nil pass0 (pa_cons (pv 7) (pa_cons (pv 5) (pa_cons (pv 10) pa_nil)))) pa_nil))))
      (pss_cons (ps_for PassesOwn.never rfl (pi_list (pe_lst (pa_cons pe_bl (pa_cons pe_bl (pa_cons pe_bl pa_nil))))) (pg_name (i := 12) sc_law.nd rfl (Or.inl rfl))
        (pss_cons (ps_set (i := 13) sc_law.nd rfl (Or.inl rfl) (pe_call g_l_asked (hr.mono (by first | decide | omega)) rfl T.m_l_asked T.F_l_asked.kp T.b_l_asked .nil pass0 (pa_cons (pv 9) (pa_cons (pv 12) (pa_cons (pv 7) (pa_cons (pv 5) (pa_cons (pv 2) pa_nil)))))))
      (pss_cons (ps_set (i := 14) sc_law.nd rfl (Or.inl rfl) (pe_call g_l_asked (hr.mono (by first | decide | omega)) rfl T.m_l_asked T.F_l_asked.kp T.b_l_asked .nil pass0 (pa_cons (pv 9) (pa_cons (pv 12) (pa_cons (pv 7) (pa_cons (pv 5) (pa_cons (pv 3) pa_nil)))))))
      (pss_cons (ps_if (PW.pt (pw_or (pt_cmpR (op_eqL0 hr.units0) (pv 13) (pe_lst pa_nil) (nomark _)) (pw_or (pt_cmpR (op_eqL0 hr.units0) (pv 14) (pe_lst pa_nil) (nomark _)) (pw_or1 (pt_not (pt_val (pe_call g_l_inside (hr.mono (by first | decide | omega)) rfl T.m_l_inside T.F_l_inside.kp T.b_l_inside .nil pass0 (pa_cons (pe_ix ix_list (pv 14) pe_int (fun _ _ => rfl)) (pa_cons (pe_ix ix_list (pv 13) pe_int (fun _ _ => rfl)) pa_nil))))))))) (pss_one (ps_ret pe_bl)) pss_nil)
      (pss_cons (ps_set (i := 15) sc_law.nd rfl (Or.inl rfl) pe_non)
      (C8.pss_cut (ps_if (pt_cmpR op_eq (pv 12) (pv 11) (nomark _)) (pss_one (ps_set (i := 15) sc_law.nd rfl (Or.inl rfl) (pe_call g_l_box (hr.mono (by first | decide | omega)) rfl T.m_l_box T.F_l_box.kp T.b_l_box .nil pass0 (pa_cons (pe_lst (pa_cons (pv 10) pa_nil)) pa_nil)))) pss_nil)
      (pss_cons (ps_if (pt_not (pt_val (pe_call g_l_same (hr.mono (by first | decide | omega)) rfl T.m_l_same T.F_l_same.kp T.b_l_same .nil pass0 (pa_cons (pe_call g_assume (hr.mono (by first | decide | omega)) rfl T.m_assume T.F_assume.kp T.b_assume .nil pass0 (pa_cons (pv 9) (pa_cons (pv 12) (pa_cons (pe_callTy call_dictD rfl T.z_dict bt_dict (pa_cons (pv 7) pa_nil)) (pa_cons (pe_callTy TZ.call_tuple_fz rfl T.z_tuple bt_tuple (pa_cons (pv 5) pa_nil)) (pa_cons (pe_call g_l_box (hr.mono (by first | decide | omega)) rfl T.m_l_box T.F_l_box.kp T.b_l_box .nil pass0 (pa_cons (pe_lst (pa_cons (pv 10) pa_nil)) pa_nil)) pa_nil)))))) (pa_cons (pv 15) pa_nil))))) (pss_one (ps_ret pe_bl)) pss_nil)
      (pss_one (ps_if (pt_cmpR op_notN (pe_call g_assume (hr.mono (by first | decide | omega)) rfl T.m_assume T.F_assume.kp T.b_assume .nil pass0 (pa_cons (pv 9) (pa_cons (pv 12) (pa_cons (pe_callTy call_dictD rfl T.z_dict bt_dict (pa_cons (pv 7) pa_nil)) (pa_cons (pe_callTy TZ.call_tuple_fz rfl T.z_tuple bt_tuple (pa_cons (pv 5) pa_nil)) (pa_cons pe_non pa_nil)))))) pe_non (nomark _)) (pss_one (ps_ret pe_bl)) pss_nil)))))))))
      (pss_one (ps_ret pe_bl)))))))))))))), ?_⟩
  refine ⟨_, rfl, a, ns, 0, rfl, hS, by decide, fun c0 => ?_⟩
  refine ⟨_, rfl, a, ns, 1, rfl, hS, by decide, fun c1 => ⟨_, _, rfl, rfl, .inl ⟨by decide, by decide⟩, _, _, rfl, rfl, ?_⟩⟩
  refine ⟨_, rfl, a, ns, 2, rfl, hS, by decide, fun c2 => ⟨_, _, rfl, rfl, .inl ⟨by decide, by decide⟩, _, _, rfl, rfl, ?_⟩⟩
  refine ⟨_, rfl, fun p0 H1 hp0 s1 src => ?_⟩
  -- the points
  refine ⟨_, rfl, p0, 0, rfl, src, by decide, fun pp H2 n Ps st2 npp tP fu neP hn _ lP pB => ?_⟩
  refine ⟨_, rfl, _, rfl, p0, pp, n, Ps, rfl, st2.s, tP, fu, neP, hn, lP, fun pq H3 Qs st3 npq tQ fuQ neQ lQ sub => ?_⟩
  have pp0 : pp ≠ p0 := by
    obtain ⟨as, e, _⟩ := id tP
    exact src_ne24 st2.s e
  have pq0 : pq ≠ p0 := by
    obtain ⟨as, e, _⟩ := id tQ
    exact src_ne24 st3.s e
  have tP3 := tP.stp st3 st2.s pp0
  refine ⟨_, rfl, p0, rfl, st3.s, fun zs pw H4 nd lz st4 npw hw => ?_⟩
  have tP4 := tP3.stp st4 st3.s pp0
  have tQ4 := tQ.stp st4 st3.s pq0
  have npw0 := lst_ne' st4.s hw
  have s4 := st4.s
  clear npw st4 tQ tP3 npq st3 tP npp st2 src s1 hp0
  -- the names
  refine ⟨_, rfl, _, rfl, _, rfl, by show 8 ≤ sizeLine; decide, fun l8 hl8 => ?_⟩
  have st8 := Stp.of_same s4 (Same.new hl8 (.lst ([0, 1, 2, 3, 4, 4, 4, 4].map V.int)))
  refine ⟨p0, l8, [0, 1, 2, 3, 4, 4, 4, 4].map V.int, false, rfl, st8.s, fun _ => (s4.ne hl8).symm, SqL.of upd_same, by show 0 < 8; decide, by show 8 < 1000; decide, fun vk H5 hvk st5 => ?_⟩
  obtain ⟨kk, hkk, rfl⟩ := List.mem_map.mp hvk
  have kk4 : 0 ≤ kk ∧ kk ≤ 4 := by
    simp at hkk
    omega
  have st45 := st8.trans st5
  have tP5 := tP4.stp st45 s4 pp0
  obtain ⟨as, epp, hA⟩ := id tP5
  have las : as.length = Ps.length := hA.1
  have pos : 0 < as.length := by rw [las]; exact List.length_pos_iff.mpr neP
  have f1 : as[0]? = some as[0] := List.getElem?_eq_getElem pos
  have f2 : Ps[0]? = some (Ps[0]'(by rw [← las]; exact pos)) := List.getElem?_eq_getElem _
  have g1 := hA.2 0 _ _ f1 f2
  have lr0 := fu.len _ (List.mem_of_getElem? f2)
  generalize as[0] = a0 at f1 g1
  generalize (Ps[0]'(by rw [← las]; exact pos)) = r0 at f2 g1 lr0
  refine ⟨_, rfl, pp, _, 0, _, rfl, rfl, SqL.of epp, atI_nat (j := 0) (map_get f1), a0, _, rfl, .inr (SqT.of g1), _, _, rfl, ?_⟩
  have ly : (r0.map V.int).length = n := by rw [List.length_map, lr0]
  rw [ly]
  obtain ⟨mn, emn, mn0, mn4, mnn⟩ : ∃ m : Int, m = (if (n : Int) < kk then (n : Int) else kk) ∧ 0 ≤ m ∧ m ≤ 4 ∧ m.toNat ≤ n := by
    refine ⟨_, rfl, ?_, ?_, ?_⟩ <;> split <;> omega
  rw [← emn]
  refine ⟨mn, rfl, pw, _, rfl, SqL.of (st45.k _ _ npw0 hw), fun sl hsl => ?_⟩
  rw [cut_hi mn0 (by rw [List.length_map, lz]; omega), ← List.map_take]
  have ssl := Same.new hsl (.lst ((zs.take mn.toNat).map V.str))
  have st5l := st45.same ssl
  refine ⟨p0, sl, zs.take mn.toNat, rfl, st5l.s, upd_same, by rw [List.length_take]; omega, fun N pn H6 pmN st6 npn hN => ?_⟩
  have st46 := st5l.trans st6
  have lN : N.length ≤ 4 := by
    have := pmN.length_eq
    rw [List.length_take] at this
    omega
  have lNn : N.length ≤ n := by
    have := pmN.length_eq
    rw [List.length_take] at this
    omega
  have ndN : N.Nodup := pmN.nodup_iff.mpr ((List.take_sublist _ _).nodup nd)
  have N4 : ∀ z ∈ N, z ∉ zs.drop 4 := fun z hz h4 => by
    have h1 := pmN.mem_iff.mp hz
    have e : zs = zs.take mn.toNat ++ zs.drop mn.toNat := (List.take_append_drop _ _).symm
    have nd2 := nd
    rw [e] at nd2
    refine (List.nodup_append.mp nd2).2.2 z h1 z ?_ rfl
    rw [show 4 = mn.toNat + (4 - mn.toNat) by omega, ← List.drop_drop] at h4
    exact List.mem_of_mem_drop h4
  have tP6 := tP4.stp st46 s4 pp0
  have tQ6 := tQ4.stp st46 s4 pq0
  have hw6 := st46.k _ _ npw0 hw
  have s6 := st46.s
  have npn0 := lst_ne' s6 hN
  clear st46 st6 npn st5l ssl hsl emn g1 f1 f2 epp hA tP5 st45 hvk st5 st8 hl8 hw s4 tP4 tQ4 lr0 ly
  -- the known values
  refine ⟨_, rfl, _, rfl, p0, pw, zs, rfl, s6, hw6, lz, nd, fun pf H7 kvs NU FL RF kd pu pl pr st7 hf hd hu hl hrr l1 l2 l3 in4 kn => ?_⟩
  have tP7 := tP6.stp st7 s6 pp0
  have tQ7 := tQ6.stp st7 s6 pq0
  have hN7 := st7.k _ _ npn0 hN
  have kv := kn.kv (N := N)
  have e7 : Env23 H7 kd pn pp kvs N (N ++ NU) (kOf kvs) n Ps := ⟨hd, kv.k, kv.b, hN7, lNn, tP7, neP, by omega, fu.len, pB, hn⟩
  have fc : Fct26 H7 pf kd pu pl pr pn pp kvs NU FL RF N (kOf kvs) n Ps := ⟨hf, hu, hl, hrr, e7, ndN, kn.len, lN, l1, l2, l3, lP⟩
  refine ⟨_, rfl, pf, _, 0, _, rfl, rfl, SqL.of hf, rfl, ?_⟩
  refine ⟨_, rfl, p0, 4, rfl, st7.s, by decide, fun dd H8 st8 d0 d1 => ?_⟩
  have fc8 := fc.stp st8 st7.s
  refine ⟨_, rfl, _, rfl, _, rfl, _, rfl, _, rfl, dd.toNat, p0, pf, kd, pu, pl, pr, pn, pp, kvs, NU, FL, RF, N, kOf kvs, n, Ps, by rw [Int.toNat_of_nonneg d0]; rfl, by omega, st8.s, fc8, fun ve fl H9 st9 hx ok => ?_⟩
  have ok := ok.le (show dd.toNat + 1 ≤ 4 by omega)
  have fc9 := fc8.stp st9 st8.s
  have tQ9 := (tQ7.stp st8 st7.s pq0).stp st9 st8.s pq0
  -- one point
  obtain ⟨as, epp, hA⟩ := id fc9.e.p
  have las : as.length = Ps.length := hA.1
  have pos : 0 < as.length := by rw [las]; exact List.length_pos_iff.mpr neP
  refine ⟨_, rfl, _, rfl, p0, pp, _, false, rfl, st9.s, fun _ => pp0, SqL.of epp, by rw [List.length_map]; exact pos, by rw [List.length_map]; omega, fun vq H10 hvq st10 => ?_⟩
  obtain ⟨tq, htq, rfl⟩ := List.mem_map.mp hvq
  obtain ⟨k, hk, ek⟩ := List.getElem_of_mem htq
  have fr : Ps[k]? = some (Ps[k]'(by rw [← las]; exact hk)) := List.getElem?_eq_getElem _
  have mr := List.mem_of_getElem? fr
  have gr := hA.2 k tq _ (by rw [← ek]; exact List.getElem?_eq_getElem hk) fr
  generalize Ps[k]'(by rw [← las]; exact hk) = r at fr mr gr
  have lr := fu.len r mr
  have ntq : tq ≠ p0 := fun z => by
    obtain ⟨c, m, k, e⟩ := st9.s
    rw [z, e] at gr
    cases gr
  have gr10 := st10.k _ _ ntq gr
  have fc10 := fc9.stp st10 st9.s
  have tQ10 := tQ9.stp st10 st9.s pq0
  have al : All26 K H10 ve kd pn fl kvs N (N ++ NU) FL RF (kOf kvs) (eOf kvs) n := ⟨hx.keep fun _ _ h => st10.rd h st9.s, ok, fc10.e.d, kv, fc10.e.nm, ndN, lNn, hn, by have := kn.len; omega, kn.a, fun z hz h => N4 z h (in4 z (.inr (.inl hz))), fun z hz h => N4 z h (in4 z (.inr (.inr hz)))⟩
  have lo4 : (4 : Nat) + 3 ≤ 7 := by decide
  have tP10 := fc10.e.p
  have hf10 := fc10.f
  refine ⟨_, rfl, _, rfl, _, rfl, _, rfl, kd, pn, tq, kvs, N, r, rfl, al.d, al.lk, al.nm, SqT.of gr10, ndN, by rw [lr]; exact lNn, by omega, fun d2 H11 kv' s11 _ hd2 w1 w2 => ?_⟩
  refine ⟨ve, d2, kv', rfl, hd2, .inr (.inr ⟨fl, _, FL, RF, rho N (kOf kvs) r, eOf kvs, 4, al.x.same s11, ok, lo4, fl_ev kv w1 w2 al.dF al.dR fl ok, rho_bd kv.b (pB r mr), fun H12 s12 => ?_⟩)⟩
  have s1012 := s11.trans s12
  have al12 := al.same s1012
  have tP12 := tP10.same s1012
  have tQ12 := tQ10.same s1012
  have gr12 := s1012 _ _ gr10
  clear s1012 hf10 tP10 al tQ10 fc10 gr10 st10 ntq gr fr hvq htq ek hA epp tQ9 fc9 st9 hx fc8 st8 fc e7 tP7 tQ7 hN7 hf hd hu hl hrr st7 hw6 tP6 tQ6 hN s6 s11 s12 w1 w2 hd2
  have aone := fun w => asm_one (E := eOf kvs) (N := N) (κ := kOf kvs) (n := n) lNn (r := r) fl w
  have full1 := full_one lr
  have pB1 : PtB [r] := fun s hs => by rw [List.mem_singleton.mp hs]; exact pB r mr
  generalize evF (eOf kvs) (rho N (kOf kvs) r) fl = bv at aone
  have mone : ∀ {G : Hp} {l : Addr}, Same H12 G → G l = some (.lst [.ref tq]) → Mx false true K G l [r] := fun {G l} sG e => ⟨[tq], SqL.of e, rfl, fun i b r' e1 e2 => by
    match i, e1, e2 with
    | 0, e1, e2 =>
      cases e1
      cases e2
      exact SqT.of (sG _ _ gr12)
    | i + 1, e1, _ => simp at e1⟩
  refine ⟨by show 3 ≤ sizeLine; decide, fun l3 hl3 => ?_⟩
  have s3 := Same.new hl3 (.lst [.bl true, .bl false, .bl true])
  have e3 : (upd H12 l3 (.lst [.bl true, .bl false, .bl true])) l3 = some (.lst [.bl true, .bl false, .bl true]) := upd_same
  refine ⟨l3, rfl, ⟨_, SqL.of e3⟩, ?_⟩
  generalize (upd H12 l3 (.lst [.bl true, .bl false, .bl true])) = G0 at s3 e3
  refine for_list (K := K) (a := l3) (xs := [.bl true, .bl false, .bl true]) (fun _ σ F => Same G0 F ∧ ∃ v12 v13 v14 v15 : Option V, σ = [some (.ref a), some (.ref p0), some (.ref pp), some (.ref pq), some (.ref pw), some (.ref pn), some (.ref pf), some (.ref kd), some (.int dd), some ve, some (.ref tq), some (.bl bv), v12, v13, v14, v15])
    ⟨Same.refl _, none, none, none, none, rfl⟩ (fun _ σ F _ ⟨s, _⟩ => SqL.of (s _ _ e3)) ?_ ?_
  · rintro j y σ F ey ⟨sF, v12, v13, v14, v15, rfl⟩
    obtain ⟨w, rfl⟩ : ∃ w, y = .bl w := by
      have h := List.mem_of_getElem? ey
      simp only [List.mem_cons, List.not_mem_nil, or_false] at h
      rcases h with rfl | rfl | rfl <;> exact ⟨_, rfl⟩
    have t0 := s3.trans sF
    have al0 := al12.same t0
    refine ⟨_, rfl, _, rfl, _, rfl, _, rfl, _, rfl, ve, w, kd, pn, pp, fl, kvs, N, N ++ NU, FL, RF, kOf kvs, eOf kvs, n, Ps, rfl, al0, tP12.same t0, fu, pB, neP, lP, fun lw vw G1 s1 hlw hvw => ?_⟩
    have t1 := t0.trans s1
    refine ⟨_, rfl, _, rfl, _, rfl, _, rfl, _, rfl, ve, w, kd, pn, pq, fl, kvs, N, N ++ NU, FL, RF, kOf kvs, eOf kvs, n, Qs, rfl, al12.same t1, tQ12.same t1, fuQ, pB.sub sub, neQ, lQ, fun li vi G2 s2 hli hvi => ?_⟩
    have t2 := t1.trans s2
    have hlw2 := s2 _ _ hlw
    have hvw2 := hvw.same s2
    refine ⟨_, rfl, by show 0 ≤ sizeLine; decide, fun e0 he => ⟨lw, e0, _, rfl, rfl, SqL.of ((Same.new he (.lst [])) _ _ hlw2), SqL.of upd_same, _, rfl, ifF rfl ?_⟩⟩
    have se := Same.new he (.lst [])
    have hli3 := se _ _ hli
    have hlw3 := se _ _ hlw2
    have hvi3 := hvi.same se
    have hvw3 := hvw2.same se
    have t3 := t2.trans se
    generalize (upd G2 e0 (.lst [])) = G3 at hli3 hlw3 hvi3 hvw3 t3 se
    refine ⟨_, rfl, by show 0 ≤ sizeLine; decide, fun e1 he1 => ⟨li, e1, _, rfl, rfl, SqL.of ((Same.new he1 (.lst [])) _ _ hli3), SqL.of upd_same, _, rfl, ifF rfl ?_⟩⟩
    have se1 := Same.new he1 (.lst [])
    have hli4 := se1 _ _ hli3
    have hlw4 := se1 _ _ hlw3
    have hvi4 := hvi3.same se1
    have hvw4 := hvw3.same se1
    have t4 := t3.trans se1
    have tF4 := (((s1.trans s2).trans se).trans se1)
    generalize (upd G3 e1 (.lst [])) = G4 at hli4 hlw4 hvi4 hvw4 t4 tF4
    clear hli3 hlw3 hvi3 hvw3 t3 se1 se he1 he hvw2 hlw2 t2 hli hvi s2 hlw hvw s1 t1
    refine ⟨_, rfl, li, _, 0, _, rfl, rfl, SqL.of hli4, rfl, _, rfl, lw, _, 0, _, rfl, rfl, SqL.of hlw4, rfl, vi, vw, _, _, n + 1, rfl, by omega, hvi4, hvw4, hull_sz n _, hull_sz n _, inside_asm sub, ⟨_, rfl, ifF rfl ?_⟩⟩
    clear hli4 hlw4 hvi4 hvw4
    refine ⟨fun σ G => Same G4 G ∧ ∃ vd : V, BoxAt K G vd (hull n (asmL (eOf kvs) N (kOf kvs) n fl w [r])) ∧ σ = [some (.ref a), some (.ref p0), some (.ref pp), some (.ref pq), some (.ref pw), some (.ref pn), some (.ref pf), some (.ref kd), some (.int dd), some ve, some (.ref tq), some (.bl bv), some (.bl w), some (.ref lw), some (.ref li), some vd], ?_, ?_⟩
    · refine ⟨_, rfl, _, rfl, rfl, _, rfl, ite2 (fun h => ?_) (fun h => ?_)⟩
      · have e : w = bv := V.bl.inj (of_decide_eq_true h)
        refine ⟨_, rfl, by show 1 ≤ sizeLine; decide, fun l1 hl1 => ?_⟩
        have sl := Same.new hl1 (.lst [.ref tq])
        refine ⟨l1, n, [r], rfl, by omega, mone (t4.trans sl) upd_same, fun s hs => by rw [List.mem_singleton.mp hs]; exact lr, by show 1 ≤ 1000; decide, fun vb G5 s5 hb => ⟨sl.trans s5, vb, ?_, rfl⟩⟩
        rw [aone, if_pos e]
        exact hb
      · have e : ¬ w = bv := fun e => h (decide_eq_true (congrArg V.bl e))
        refine ⟨Same.refl _, .non, ?_, rfl⟩
        rw [aone, if_neg e]
        rfl
    rintro σ G5 ⟨s5, vd, hvd, rfl⟩
    have t5 := t4.trans s5
    have al5 := al12.same t5
    refine ⟨_, rfl, _, rfl, _, rfl, kd, kvs, rfl, .inl al5.d, fun hd hhd => ?_⟩
    have s6 := Same.new hhd (.dK kvs)
    refine ⟨_, rfl, pn, _, rfl, SqL.of (s6 _ _ al5.nm), fun nt o hnt ho1 ho2 => ?_⟩
    have s7 := Same.new hnt (.frz o (.tup (N.map V.str)))
    have hkd : (upd (upd G5 hd (.dK kvs)) nt (.frz o (.tup (N.map V.str)))) hd = some (.dK kvs) := s7 _ _ upd_same
    have hnT : NtAt K (upd (upd G5 hd (.dK kvs)) nt (.frz o (.tup (N.map V.str)))) nt N := ⟨.inl (.inr ⟨o, upd_same⟩), o, _, upd_same, ho2⟩
    have s57 := s6.trans s7
    generalize (upd (upd G5 hd (.dK kvs)) nt (.frz o (.tup (N.map V.str)))) = G7 at hkd hnT s57
    refine ⟨_, rfl, by show 1 ≤ sizeLine; decide, fun l1 hl1 => ?_⟩
    have sl := Same.new hl1 (.lst [.ref tq])
    have s58 := s57.trans sl
    refine ⟨l1, n, [r], rfl, by omega, mone (t5.trans s58) upd_same, fun s hs => by rw [List.mem_singleton.mp hs]; exact lr, by show 1 ≤ 1000; decide, fun vb G9 s9 hb => ?_⟩
    have s79 := sl.trans s9
    have s59 := s57.trans s79
    have al9 := al5.same s59
    refine ⟨ve, w, hd, nt, vb, fl, kvs, N, N ++ NU, FL, RF, kOf kvs, eOf kvs, n, [r], rfl, by omega, al9.x, ok, s79 _ _ hkd, kv, hnT.same s79, lNn, hb, full1, pB1, fun va G10 s10 ha => ?_⟩
    have s510 := s59.trans s10
    have hvd10 := hvd.same s510
    refine ⟨_, rfl, va, vd, boxD (hull n (asmL (eOf kvs) N (kOf kvs) n fl w [r])), rfl, ha.dp, hvd10.dp, (hull_sz n _).dok (by omega), ⟨_, rfl, ifF rfl ?_⟩⟩
    have t10 := t5.trans s510
    have al10 := al12.same t10
    clear ha hvd10 hb s59 s79 s58 sl hl1 hnT hkd s57 s7 hnt s6 hhd al9 al5
    refine ⟨_, rfl, _, rfl, _, rfl, kd, kvs, rfl, .inl al10.d, fun hd hhd => ?_⟩
    have s6 := Same.new hhd (.dK kvs)
    refine ⟨_, rfl, pn, _, rfl, SqL.of (s6 _ _ al10.nm), fun nt o hnt ho1 ho2 => ?_⟩
    have s7 := Same.new hnt (.frz o (.tup (N.map V.str)))
    have s17 := s6.trans s7
    refine ⟨ve, w, hd, nt, .non, fl, kvs, N, N ++ NU, FL, RF, kOf kvs, eOf kvs, n, [], rfl, by omega, (al10.same s17).x, ok, s7 _ _ upd_same, kv, ⟨.inl (.inr ⟨o, upd_same⟩), o, _, upd_same, ho2⟩, lNn, rfl, full_nil, (fun s hs => by simp at hs), fun v' G11 s11 h' => ?_⟩
    rw [asm_nil] at h'
    obtain rfl : v' = .non := h'
    refine ⟨rfl, _, rfl, ifF (by decide) ?_⟩
    exact ⟨sF.trans (((tF4.trans s5).trans s510).trans (s17.trans s11)), _, _, _, _, rfl⟩
  · rintro σ F ⟨sF, v12, v13, v14, v15, rfl⟩
    exact q F
end
theorem all_mk {l : PySem.W.OpenLaw} {w : World} {K : PySem.W.Frag} {h : Heap} {mg : Str → Option Value} {fa : Addr} (X : K.In h) (G : h.Ns mainGlobals mg) (hfa : mg "law" = some (.ref fa))
    {f_frozen : Addr} {od_frozen an_frozen : Option Addr} {sl_frozen : Array (Option Value)} {oc_frozen kV_frozen dc_frozen pm_frozen cd_frozen ct_frozen : Value}
    (A_frozen : PySem.W.nsIn K mainGlobals "frozen" = some (some (.ref f_frozen))) (L_frozen : K.lookup f_frozen = some ⟨oc_frozen, od_frozen, .func (PySem.W.fnOf "frozen" "frozen" (defArgs s_frozen) (defBody s_frozen) (defScope s_frozen) .none kV_frozen dc_frozen pm_frozen an_frozen cd_frozen ct_frozen), sl_frozen⟩) (C_frozen : PySem.W.codeIn K cd_frozen "frozen" = true) (K_frozen : PySem.W.keepIn K (.ref f_frozen) = true)
    {f_bound : Addr} {od_bound an_bound : Option Addr} {sl_bound : Array (Option Value)} {oc_bound kV_bound dc_bound pm_bound cd_bound ct_bound : Value}
    (A_bound : PySem.W.nsIn K mainGlobals "bound" = some (some (.ref f_bound))) (L_bound : K.lookup f_bound = some ⟨oc_bound, od_bound, .func (PySem.W.fnOf "bound" "bound" (defArgs s_bound) (defBody s_bound) (defScope s_bound) .none kV_bound dc_bound pm_bound an_bound cd_bound ct_bound), sl_bound⟩) (C_bound : PySem.W.codeIn K cd_bound "bound" = true) (K_bound : PySem.W.keepIn K (.ref f_bound) = true)
    {f_join_boxes : Addr} {od_join_boxes an_join_boxes : Option Addr} {sl_join_boxes : Array (Option Value)} {oc_join_boxes kV_join_boxes dc_join_boxes pm_join_boxes cd_join_boxes ct_join_boxes : Value}
    (A_join_boxes : PySem.W.nsIn K mainGlobals "join_boxes" = some (some (.ref f_join_boxes))) (L_join_boxes : K.lookup f_join_boxes = some ⟨oc_join_boxes, od_join_boxes, .func (PySem.W.fnOf "join_boxes" "join_boxes" (defArgs s_join_boxes) (defBody s_join_boxes) (defScope s_join_boxes) .none kV_join_boxes dc_join_boxes pm_join_boxes an_join_boxes cd_join_boxes ct_join_boxes), sl_join_boxes⟩) (C_join_boxes : PySem.W.codeIn K cd_join_boxes "join_boxes" = true) (K_join_boxes : PySem.W.keepIn K (.ref f_join_boxes) = true)
    {f_range_of : Addr} {od_range_of an_range_of : Option Addr} {sl_range_of : Array (Option Value)} {oc_range_of kV_range_of dc_range_of pm_range_of cd_range_of ct_range_of : Value}
    (A_range_of : PySem.W.nsIn K mainGlobals "range_of" = some (some (.ref f_range_of))) (L_range_of : K.lookup f_range_of = some ⟨oc_range_of, od_range_of, .func (PySem.W.fnOf "range_of" "range_of" (defArgs s_range_of) (defBody s_range_of) (defScope s_range_of) .none kV_range_of dc_range_of pm_range_of an_range_of cd_range_of ct_range_of), sl_range_of⟩) (C_range_of : PySem.W.codeIn K cd_range_of "range_of" = true) (K_range_of : PySem.W.keepIn K (.ref f_range_of) = true)
    {f_constant_form : Addr} {od_constant_form an_constant_form : Option Addr} {sl_constant_form : Array (Option Value)} {oc_constant_form kV_constant_form dc_constant_form pm_constant_form cd_constant_form ct_constant_form : Value}
    (A_constant_form : PySem.W.nsIn K mainGlobals "constant_form" = some (some (.ref f_constant_form))) (L_constant_form : K.lookup f_constant_form = some ⟨oc_constant_form, od_constant_form, .func (PySem.W.fnOf "constant_form" "constant_form" (defArgs s_constant_form) (defBody s_constant_form) (defScope s_constant_form) .none kV_constant_form dc_constant_form pm_constant_form an_constant_form cd_constant_form ct_constant_form), sl_constant_form⟩) (C_constant_form : PySem.W.codeIn K cd_constant_form "constant_form" = true) (K_constant_form : PySem.W.keepIn K (.ref f_constant_form) = true)
    {f_column_form : Addr} {od_column_form an_column_form : Option Addr} {sl_column_form : Array (Option Value)} {oc_column_form kV_column_form dc_column_form pm_column_form cd_column_form ct_column_form : Value}
    (A_column_form : PySem.W.nsIn K mainGlobals "column_form" = some (some (.ref f_column_form))) (L_column_form : K.lookup f_column_form = some ⟨oc_column_form, od_column_form, .func (PySem.W.fnOf "column_form" "column_form" (defArgs s_column_form) (defBody s_column_form) (defScope s_column_form) .none kV_column_form dc_column_form pm_column_form an_column_form cd_column_form ct_column_form), sl_column_form⟩) (C_column_form : PySem.W.codeIn K cd_column_form "column_form" = true) (K_column_form : PySem.W.keepIn K (.ref f_column_form) = true)
    {f_sum_of_forms : Addr} {od_sum_of_forms an_sum_of_forms : Option Addr} {sl_sum_of_forms : Array (Option Value)} {oc_sum_of_forms kV_sum_of_forms dc_sum_of_forms pm_sum_of_forms cd_sum_of_forms ct_sum_of_forms : Value}
    (A_sum_of_forms : PySem.W.nsIn K mainGlobals "sum_of_forms" = some (some (.ref f_sum_of_forms))) (L_sum_of_forms : K.lookup f_sum_of_forms = some ⟨oc_sum_of_forms, od_sum_of_forms, .func (PySem.W.fnOf "sum_of_forms" "sum_of_forms" (defArgs s_sum_of_forms) (defBody s_sum_of_forms) (defScope s_sum_of_forms) .none kV_sum_of_forms dc_sum_of_forms pm_sum_of_forms an_sum_of_forms cd_sum_of_forms ct_sum_of_forms), sl_sum_of_forms⟩) (C_sum_of_forms : PySem.W.codeIn K cd_sum_of_forms "sum_of_forms" = true) (K_sum_of_forms : PySem.W.keepIn K (.ref f_sum_of_forms) = true)
    {f_form_times : Addr} {od_form_times an_form_times : Option Addr} {sl_form_times : Array (Option Value)} {oc_form_times kV_form_times dc_form_times pm_form_times cd_form_times ct_form_times : Value}
    (A_form_times : PySem.W.nsIn K mainGlobals "form_times" = some (some (.ref f_form_times))) (L_form_times : K.lookup f_form_times = some ⟨oc_form_times, od_form_times, .func (PySem.W.fnOf "form_times" "form_times" (defArgs s_form_times) (defBody s_form_times) (defScope s_form_times) .none kV_form_times dc_form_times pm_form_times an_form_times cd_form_times ct_form_times), sl_form_times⟩) (C_form_times : PySem.W.codeIn K cd_form_times "form_times" = true) (K_form_times : PySem.W.keepIn K (.ref f_form_times) = true)
    {f_difference_of_forms : Addr} {od_difference_of_forms an_difference_of_forms : Option Addr} {sl_difference_of_forms : Array (Option Value)} {oc_difference_of_forms kV_difference_of_forms dc_difference_of_forms pm_difference_of_forms cd_difference_of_forms ct_difference_of_forms : Value}
    (A_difference_of_forms : PySem.W.nsIn K mainGlobals "difference_of_forms" = some (some (.ref f_difference_of_forms))) (L_difference_of_forms : K.lookup f_difference_of_forms = some ⟨oc_difference_of_forms, od_difference_of_forms, .func (PySem.W.fnOf "difference_of_forms" "difference_of_forms" (defArgs s_difference_of_forms) (defBody s_difference_of_forms) (defScope s_difference_of_forms) .none kV_difference_of_forms dc_difference_of_forms pm_difference_of_forms an_difference_of_forms cd_difference_of_forms ct_difference_of_forms), sl_difference_of_forms⟩) (C_difference_of_forms : PySem.W.codeIn K cd_difference_of_forms "difference_of_forms" = true) (K_difference_of_forms : PySem.W.keepIn K (.ref f_difference_of_forms) = true)
    {f_used_columns : Addr} {od_used_columns an_used_columns : Option Addr} {sl_used_columns : Array (Option Value)} {oc_used_columns kV_used_columns dc_used_columns pm_used_columns cd_used_columns ct_used_columns : Value}
    (A_used_columns : PySem.W.nsIn K mainGlobals "used_columns" = some (some (.ref f_used_columns))) (L_used_columns : K.lookup f_used_columns = some ⟨oc_used_columns, od_used_columns, .func (PySem.W.fnOf "used_columns" "used_columns" (defArgs s_used_columns) (defBody s_used_columns) (defScope s_used_columns) .none kV_used_columns dc_used_columns pm_used_columns an_used_columns cd_used_columns ct_used_columns), sl_used_columns⟩) (C_used_columns : PySem.W.codeIn K cd_used_columns "used_columns" = true) (K_used_columns : PySem.W.keepIn K (.ref f_used_columns) = true)
    {f_difference_columns : Addr} {od_difference_columns an_difference_columns : Option Addr} {sl_difference_columns : Array (Option Value)} {oc_difference_columns kV_difference_columns dc_difference_columns pm_difference_columns cd_difference_columns ct_difference_columns : Value}
    (A_difference_columns : PySem.W.nsIn K mainGlobals "difference_columns" = some (some (.ref f_difference_columns))) (L_difference_columns : K.lookup f_difference_columns = some ⟨oc_difference_columns, od_difference_columns, .func (PySem.W.fnOf "difference_columns" "difference_columns" (defArgs s_difference_columns) (defBody s_difference_columns) (defScope s_difference_columns) .none kV_difference_columns dc_difference_columns pm_difference_columns an_difference_columns cd_difference_columns ct_difference_columns), sl_difference_columns⟩) (C_difference_columns : PySem.W.codeIn K cd_difference_columns "difference_columns" = true) (K_difference_columns : PySem.W.keepIn K (.ref f_difference_columns) = true)
    {f_range_of_form : Addr} {od_range_of_form an_range_of_form : Option Addr} {sl_range_of_form : Array (Option Value)} {oc_range_of_form kV_range_of_form dc_range_of_form pm_range_of_form cd_range_of_form ct_range_of_form : Value}
    (A_range_of_form : PySem.W.nsIn K mainGlobals "range_of_form" = some (some (.ref f_range_of_form))) (L_range_of_form : K.lookup f_range_of_form = some ⟨oc_range_of_form, od_range_of_form, .func (PySem.W.fnOf "range_of_form" "range_of_form" (defArgs s_range_of_form) (defBody s_range_of_form) (defScope s_range_of_form) .none kV_range_of_form dc_range_of_form pm_range_of_form an_range_of_form cd_range_of_form ct_range_of_form), sl_range_of_form⟩) (C_range_of_form : PySem.W.codeIn K cd_range_of_form "range_of_form" = true) (K_range_of_form : PySem.W.keepIn K (.ref f_range_of_form) = true)
    {f_occurs : Addr} {od_occurs an_occurs : Option Addr} {sl_occurs : Array (Option Value)} {oc_occurs kV_occurs dc_occurs pm_occurs cd_occurs ct_occurs : Value}
    (A_occurs : PySem.W.nsIn K mainGlobals "occurs" = some (some (.ref f_occurs))) (L_occurs : K.lookup f_occurs = some ⟨oc_occurs, od_occurs, .func (PySem.W.fnOf "occurs" "occurs" (defArgs s_occurs) (defBody s_occurs) (defScope s_occurs) .none kV_occurs dc_occurs pm_occurs an_occurs cd_occurs ct_occurs), sl_occurs⟩) (C_occurs : PySem.W.codeIn K cd_occurs "occurs" = true) (K_occurs : PySem.W.keepIn K (.ref f_occurs) = true)
    {f_form_of : Addr} {od_form_of an_form_of : Option Addr} {sl_form_of : Array (Option Value)} {oc_form_of kV_form_of dc_form_of pm_form_of cd_form_of ct_form_of : Value}
    (A_form_of : PySem.W.nsIn K mainGlobals "form_of" = some (some (.ref f_form_of))) (L_form_of : K.lookup f_form_of = some ⟨oc_form_of, od_form_of, .func (PySem.W.fnOf "form_of" "form_of" (defArgs s_form_of) (defBody s_form_of) (defScope s_form_of) .none kV_form_of dc_form_of pm_form_of an_form_of cd_form_of ct_form_of), sl_form_of⟩) (C_form_of : PySem.W.codeIn K cd_form_of "form_of" = true) (K_form_of : PySem.W.keepIn K (.ref f_form_of) = true)
    {f_product_form : Addr} {od_product_form an_product_form : Option Addr} {sl_product_form : Array (Option Value)} {oc_product_form kV_product_form dc_product_form pm_product_form cd_product_form ct_product_form : Value}
    (A_product_form : PySem.W.nsIn K mainGlobals "product_form" = some (some (.ref f_product_form))) (L_product_form : K.lookup f_product_form = some ⟨oc_product_form, od_product_form, .func (PySem.W.fnOf "product_form" "product_form" (defArgs s_product_form) (defBody s_product_form) (defScope s_product_form) .none kV_product_form dc_product_form pm_product_form an_product_form cd_product_form ct_product_form), sl_product_form⟩) (C_product_form : PySem.W.codeIn K cd_product_form "product_form" = true) (K_product_form : PySem.W.keepIn K (.ref f_product_form) = true)
    {f_evaluate : Addr} {od_evaluate an_evaluate : Option Addr} {sl_evaluate : Array (Option Value)} {oc_evaluate kV_evaluate dc_evaluate pm_evaluate cd_evaluate ct_evaluate : Value}
    (A_evaluate : PySem.W.nsIn K mainGlobals "evaluate" = some (some (.ref f_evaluate))) (L_evaluate : K.lookup f_evaluate = some ⟨oc_evaluate, od_evaluate, .func (PySem.W.fnOf "evaluate" "evaluate" (defArgs s_evaluate) (defBody s_evaluate) (defScope s_evaluate) .none kV_evaluate dc_evaluate pm_evaluate an_evaluate cd_evaluate ct_evaluate), sl_evaluate⟩) (C_evaluate : PySem.W.codeIn K cd_evaluate "evaluate" = true) (K_evaluate : PySem.W.keepIn K (.ref f_evaluate) = true)
    {f_apply : Addr} {od_apply an_apply : Option Addr} {sl_apply : Array (Option Value)} {oc_apply kV_apply dc_apply pm_apply cd_apply ct_apply : Value}
    (A_apply : PySem.W.nsIn K mainGlobals "apply" = some (some (.ref f_apply))) (L_apply : K.lookup f_apply = some ⟨oc_apply, od_apply, .func (PySem.W.fnOf "apply" "apply" (defArgs s_apply) (defBody s_apply) (defScope s_apply) .none kV_apply dc_apply pm_apply an_apply cd_apply ct_apply), sl_apply⟩) (C_apply : PySem.W.codeIn K cd_apply "apply" = true) (K_apply : PySem.W.keepIn K (.ref f_apply) = true)
    {f_at_most : Addr} {od_at_most an_at_most : Option Addr} {sl_at_most : Array (Option Value)} {oc_at_most kV_at_most dc_at_most pm_at_most cd_at_most ct_at_most : Value}
    (A_at_most : PySem.W.nsIn K mainGlobals "at_most" = some (some (.ref f_at_most))) (L_at_most : K.lookup f_at_most = some ⟨oc_at_most, od_at_most, .func (PySem.W.fnOf "at_most" "at_most" (defArgs s_at_most) (defBody s_at_most) (defScope s_at_most) .none kV_at_most dc_at_most pm_at_most an_at_most cd_at_most ct_at_most), sl_at_most⟩) (C_at_most : PySem.W.codeIn K cd_at_most "at_most" = true) (K_at_most : PySem.W.keepIn K (.ref f_at_most) = true)
    {f_at_least : Addr} {od_at_least an_at_least : Option Addr} {sl_at_least : Array (Option Value)} {oc_at_least kV_at_least dc_at_least pm_at_least cd_at_least ct_at_least : Value}
    (A_at_least : PySem.W.nsIn K mainGlobals "at_least" = some (some (.ref f_at_least))) (L_at_least : K.lookup f_at_least = some ⟨oc_at_least, od_at_least, .func (PySem.W.fnOf "at_least" "at_least" (defArgs s_at_least) (defBody s_at_least) (defScope s_at_least) .none kV_at_least dc_at_least pm_at_least an_at_least cd_at_least ct_at_least), sl_at_least⟩) (C_at_least : PySem.W.codeIn K cd_at_least "at_least" = true) (K_at_least : PySem.W.keepIn K (.ref f_at_least) = true)
    {f_equal_to : Addr} {od_equal_to an_equal_to : Option Addr} {sl_equal_to : Array (Option Value)} {oc_equal_to kV_equal_to dc_equal_to pm_equal_to cd_equal_to ct_equal_to : Value}
    (A_equal_to : PySem.W.nsIn K mainGlobals "equal_to" = some (some (.ref f_equal_to))) (L_equal_to : K.lookup f_equal_to = some ⟨oc_equal_to, od_equal_to, .func (PySem.W.fnOf "equal_to" "equal_to" (defArgs s_equal_to) (defBody s_equal_to) (defScope s_equal_to) .none kV_equal_to dc_equal_to pm_equal_to an_equal_to cd_equal_to ct_equal_to), sl_equal_to⟩) (C_equal_to : PySem.W.codeIn K cd_equal_to "equal_to" = true) (K_equal_to : PySem.W.keepIn K (.ref f_equal_to) = true)
    {f_assume : Addr} {od_assume an_assume : Option Addr} {sl_assume : Array (Option Value)} {oc_assume kV_assume dc_assume pm_assume cd_assume ct_assume : Value}
    (A_assume : PySem.W.nsIn K mainGlobals "assume" = some (some (.ref f_assume))) (L_assume : K.lookup f_assume = some ⟨oc_assume, od_assume, .func (PySem.W.fnOf "assume" "assume" (defArgs s_assume) (defBody s_assume) (defScope s_assume) .none kV_assume dc_assume pm_assume an_assume cd_assume ct_assume), sl_assume⟩) (C_assume : PySem.W.codeIn K cd_assume "assume" = true) (K_assume : PySem.W.keepIn K (.ref f_assume) = true)
    {f_assume_pair : Addr} {od_assume_pair an_assume_pair : Option Addr} {sl_assume_pair : Array (Option Value)} {oc_assume_pair kV_assume_pair dc_assume_pair pm_assume_pair cd_assume_pair ct_assume_pair : Value}
    (A_assume_pair : PySem.W.nsIn K mainGlobals "assume_pair" = some (some (.ref f_assume_pair))) (L_assume_pair : K.lookup f_assume_pair = some ⟨oc_assume_pair, od_assume_pair, .func (PySem.W.fnOf "assume_pair" "assume_pair" (defArgs s_assume_pair) (defBody s_assume_pair) (defScope s_assume_pair) .none kV_assume_pair dc_assume_pair pm_assume_pair an_assume_pair cd_assume_pair ct_assume_pair), sl_assume_pair⟩) (C_assume_pair : PySem.W.codeIn K cd_assume_pair "assume_pair" = true) (K_assume_pair : PySem.W.keepIn K (.ref f_assume_pair) = true)
    {f_compare : Addr} {od_compare an_compare : Option Addr} {sl_compare : Array (Option Value)} {oc_compare kV_compare dc_compare pm_compare cd_compare ct_compare : Value}
    (A_compare : PySem.W.nsIn K mainGlobals "compare" = some (some (.ref f_compare))) (L_compare : K.lookup f_compare = some ⟨oc_compare, od_compare, .func (PySem.W.fnOf "compare" "compare" (defArgs s_compare) (defBody s_compare) (defScope s_compare) .none kV_compare dc_compare pm_compare an_compare cd_compare ct_compare), sl_compare⟩) (C_compare : PySem.W.codeIn K cd_compare "compare" = true) (K_compare : PySem.W.keepIn K (.ref f_compare) = true)
    {f_l_cell : Addr} {od_l_cell an_l_cell : Option Addr} {sl_l_cell : Array (Option Value)} {oc_l_cell kV_l_cell dc_l_cell pm_l_cell cd_l_cell ct_l_cell : Value}
    (A_l_cell : PySem.W.nsIn K mainGlobals "_law_cell" = some (some (.ref f_l_cell))) (L_l_cell : K.lookup f_l_cell = some ⟨oc_l_cell, od_l_cell, .func (PySem.W.fnOf "_law_cell" "_law_cell" (defArgs s_l_cell) (defBody s_l_cell) (defScope s_l_cell) .none kV_l_cell dc_l_cell pm_l_cell an_l_cell cd_l_cell ct_l_cell), sl_l_cell⟩) (C_l_cell : PySem.W.codeIn K cd_l_cell "_law_cell" = true) (K_l_cell : PySem.W.keepIn K (.ref f_l_cell) = true)
    {f_l_source : Addr} {od_l_source an_l_source : Option Addr} {sl_l_source : Array (Option Value)} {oc_l_source kV_l_source dc_l_source pm_l_source cd_l_source ct_l_source : Value}
    (A_l_source : PySem.W.nsIn K mainGlobals "_law_source" = some (some (.ref f_l_source))) (L_l_source : K.lookup f_l_source = some ⟨oc_l_source, od_l_source, .func (PySem.W.fnOf "_law_source" "_law_source" (defArgs s_l_source) (defBody s_l_source) (defScope s_l_source) .none kV_l_source dc_l_source pm_l_source an_l_source cd_l_source ct_l_source), sl_l_source⟩) (C_l_source : PySem.W.codeIn K cd_l_source "_law_source" = true) (K_l_source : PySem.W.keepIn K (.ref f_l_source) = true)
    {f_l_pick : Addr} {od_l_pick an_l_pick : Option Addr} {sl_l_pick : Array (Option Value)} {oc_l_pick kV_l_pick dc_l_pick pm_l_pick cd_l_pick ct_l_pick : Value}
    (A_l_pick : PySem.W.nsIn K mainGlobals "_law_pick" = some (some (.ref f_l_pick))) (L_l_pick : K.lookup f_l_pick = some ⟨oc_l_pick, od_l_pick, .func (PySem.W.fnOf "_law_pick" "_law_pick" (defArgs s_l_pick) (defBody s_l_pick) (defScope s_l_pick) .none kV_l_pick dc_l_pick pm_l_pick an_l_pick cd_l_pick ct_l_pick), sl_l_pick⟩) (C_l_pick : PySem.W.codeIn K cd_l_pick "_law_pick" = true) (K_l_pick : PySem.W.keepIn K (.ref f_l_pick) = true)
    {f_l_one : Addr} {od_l_one an_l_one : Option Addr} {sl_l_one : Array (Option Value)} {oc_l_one kV_l_one dc_l_one pm_l_one cd_l_one ct_l_one : Value}
    (A_l_one : PySem.W.nsIn K mainGlobals "_law_one" = some (some (.ref f_l_one))) (L_l_one : K.lookup f_l_one = some ⟨oc_l_one, od_l_one, .func (PySem.W.fnOf "_law_one" "_law_one" (defArgs s_l_one) (defBody s_l_one) (defScope s_l_one) .none kV_l_one dc_l_one pm_l_one an_l_one cd_l_one ct_l_one), sl_l_one⟩) (C_l_one : PySem.W.codeIn K cd_l_one "_law_one" = true) (K_l_one : PySem.W.keepIn K (.ref f_l_one) = true)
    {f_l_names : Addr} {od_l_names an_l_names : Option Addr} {sl_l_names : Array (Option Value)} {oc_l_names kV_l_names dc_l_names pm_l_names cd_l_names ct_l_names : Value}
    (A_l_names : PySem.W.nsIn K mainGlobals "_law_names" = some (some (.ref f_l_names))) (L_l_names : K.lookup f_l_names = some ⟨oc_l_names, od_l_names, .func (PySem.W.fnOf "_law_names" "_law_names" (defArgs s_l_names) (defBody s_l_names) (defScope s_l_names) .none kV_l_names dc_l_names pm_l_names an_l_names cd_l_names ct_l_names), sl_l_names⟩) (C_l_names : PySem.W.codeIn K cd_l_names "_law_names" = true) (K_l_names : PySem.W.keepIn K (.ref f_l_names) = true)
    {f_l_far : Addr} {od_l_far an_l_far : Option Addr} {sl_l_far : Array (Option Value)} {oc_l_far kV_l_far dc_l_far pm_l_far cd_l_far ct_l_far : Value}
    (A_l_far : PySem.W.nsIn K mainGlobals "_law_far" = some (some (.ref f_l_far))) (L_l_far : K.lookup f_l_far = some ⟨oc_l_far, od_l_far, .func (PySem.W.fnOf "_law_far" "_law_far" (defArgs s_l_far) (defBody s_l_far) (defScope s_l_far) .none kV_l_far dc_l_far pm_l_far an_l_far cd_l_far ct_l_far), sl_l_far⟩) (C_l_far : PySem.W.codeIn K cd_l_far "_law_far" = true) (K_l_far : PySem.W.keepIn K (.ref f_l_far) = true)
    {f_l_words : Addr} {od_l_words an_l_words : Option Addr} {sl_l_words : Array (Option Value)} {oc_l_words kV_l_words dc_l_words pm_l_words cd_l_words ct_l_words : Value}
    (A_l_words : PySem.W.nsIn K mainGlobals "_law_words" = some (some (.ref f_l_words))) (L_l_words : K.lookup f_l_words = some ⟨oc_l_words, od_l_words, .func (PySem.W.fnOf "_law_words" "_law_words" (defArgs s_l_words) (defBody s_l_words) (defScope s_l_words) .none kV_l_words dc_l_words pm_l_words an_l_words cd_l_words ct_l_words), sl_l_words⟩) (C_l_words : PySem.W.codeIn K cd_l_words "_law_words" = true) (K_l_words : PySem.W.keepIn K (.ref f_l_words) = true)
    {f_l_order : Addr} {od_l_order an_l_order : Option Addr} {sl_l_order : Array (Option Value)} {oc_l_order kV_l_order dc_l_order pm_l_order cd_l_order ct_l_order : Value}
    (A_l_order : PySem.W.nsIn K mainGlobals "_law_order" = some (some (.ref f_l_order))) (L_l_order : K.lookup f_l_order = some ⟨oc_l_order, od_l_order, .func (PySem.W.fnOf "_law_order" "_law_order" (defArgs s_l_order) (defBody s_l_order) (defScope s_l_order) .none kV_l_order dc_l_order pm_l_order an_l_order cd_l_order ct_l_order), sl_l_order⟩) (C_l_order : PySem.W.codeIn K cd_l_order "_law_order" = true) (K_l_order : PySem.W.keepIn K (.ref f_l_order) = true)
    {f_l_number : Addr} {od_l_number an_l_number : Option Addr} {sl_l_number : Array (Option Value)} {oc_l_number kV_l_number dc_l_number pm_l_number cd_l_number ct_l_number : Value}
    (A_l_number : PySem.W.nsIn K mainGlobals "_law_number" = some (some (.ref f_l_number))) (L_l_number : K.lookup f_l_number = some ⟨oc_l_number, od_l_number, .func (PySem.W.fnOf "_law_number" "_law_number" (defArgs s_l_number) (defBody s_l_number) (defScope s_l_number) .none kV_l_number dc_l_number pm_l_number an_l_number cd_l_number ct_l_number), sl_l_number⟩) (C_l_number : PySem.W.codeIn K cd_l_number "_law_number" = true) (K_l_number : PySem.W.keepIn K (.ref f_l_number) = true)
    {f_l_value : Addr} {od_l_value an_l_value : Option Addr} {sl_l_value : Array (Option Value)} {oc_l_value kV_l_value dc_l_value pm_l_value cd_l_value ct_l_value : Value}
    (A_l_value : PySem.W.nsIn K mainGlobals "_law_value" = some (some (.ref f_l_value))) (L_l_value : K.lookup f_l_value = some ⟨oc_l_value, od_l_value, .func (PySem.W.fnOf "_law_value" "_law_value" (defArgs s_l_value) (defBody s_l_value) (defScope s_l_value) .none kV_l_value dc_l_value pm_l_value an_l_value cd_l_value ct_l_value), sl_l_value⟩) (C_l_value : PySem.W.codeIn K cd_l_value "_law_value" = true) (K_l_value : PySem.W.keepIn K (.ref f_l_value) = true)
    {f_l_values_at : Addr} {od_l_values_at an_l_values_at : Option Addr} {sl_l_values_at : Array (Option Value)} {oc_l_values_at kV_l_values_at dc_l_values_at pm_l_values_at cd_l_values_at ct_l_values_at : Value}
    (A_l_values_at : PySem.W.nsIn K mainGlobals "_law_values_at" = some (some (.ref f_l_values_at))) (L_l_values_at : K.lookup f_l_values_at = some ⟨oc_l_values_at, od_l_values_at, .func (PySem.W.fnOf "_law_values_at" "_law_values_at" (defArgs s_l_values_at) (defBody s_l_values_at) (defScope s_l_values_at) .none kV_l_values_at dc_l_values_at pm_l_values_at an_l_values_at cd_l_values_at ct_l_values_at), sl_l_values_at⟩) (C_l_values_at : PySem.W.codeIn K cd_l_values_at "_law_values_at" = true) (K_l_values_at : PySem.W.keepIn K (.ref f_l_values_at) = true)
    {f_l_belongs : Addr} {od_l_belongs an_l_belongs : Option Addr} {sl_l_belongs : Array (Option Value)} {oc_l_belongs kV_l_belongs dc_l_belongs pm_l_belongs cd_l_belongs ct_l_belongs : Value}
    (A_l_belongs : PySem.W.nsIn K mainGlobals "_law_belongs" = some (some (.ref f_l_belongs))) (L_l_belongs : K.lookup f_l_belongs = some ⟨oc_l_belongs, od_l_belongs, .func (PySem.W.fnOf "_law_belongs" "_law_belongs" (defArgs s_l_belongs) (defBody s_l_belongs) (defScope s_l_belongs) .none kV_l_belongs dc_l_belongs pm_l_belongs an_l_belongs cd_l_belongs ct_l_belongs), sl_l_belongs⟩) (C_l_belongs : PySem.W.codeIn K cd_l_belongs "_law_belongs" = true) (K_l_belongs : PySem.W.keepIn K (.ref f_l_belongs) = true)
    {f_l_grid : Addr} {od_l_grid an_l_grid : Option Addr} {sl_l_grid : Array (Option Value)} {oc_l_grid kV_l_grid dc_l_grid pm_l_grid cd_l_grid ct_l_grid : Value}
    (A_l_grid : PySem.W.nsIn K mainGlobals "_law_grid" = some (some (.ref f_l_grid))) (L_l_grid : K.lookup f_l_grid = some ⟨oc_l_grid, od_l_grid, .func (PySem.W.fnOf "_law_grid" "_law_grid" (defArgs s_l_grid) (defBody s_l_grid) (defScope s_l_grid) .none kV_l_grid dc_l_grid pm_l_grid an_l_grid cd_l_grid ct_l_grid), sl_l_grid⟩) (C_l_grid : PySem.W.codeIn K cd_l_grid "_law_grid" = true) (K_l_grid : PySem.W.keepIn K (.ref f_l_grid) = true)
    {f_l_box : Addr} {od_l_box an_l_box : Option Addr} {sl_l_box : Array (Option Value)} {oc_l_box kV_l_box dc_l_box pm_l_box cd_l_box ct_l_box : Value}
    (A_l_box : PySem.W.nsIn K mainGlobals "_law_box" = some (some (.ref f_l_box))) (L_l_box : K.lookup f_l_box = some ⟨oc_l_box, od_l_box, .func (PySem.W.fnOf "_law_box" "_law_box" (defArgs s_l_box) (defBody s_l_box) (defScope s_l_box) .none kV_l_box dc_l_box pm_l_box an_l_box cd_l_box ct_l_box), sl_l_box⟩) (C_l_box : PySem.W.codeIn K cd_l_box "_law_box" = true) (K_l_box : PySem.W.keepIn K (.ref f_l_box) = true)
    {f_l_points : Addr} {od_l_points an_l_points : Option Addr} {sl_l_points : Array (Option Value)} {oc_l_points kV_l_points dc_l_points pm_l_points cd_l_points ct_l_points : Value}
    (A_l_points : PySem.W.nsIn K mainGlobals "_law_points" = some (some (.ref f_l_points))) (L_l_points : K.lookup f_l_points = some ⟨oc_l_points, od_l_points, .func (PySem.W.fnOf "_law_points" "_law_points" (defArgs s_l_points) (defBody s_l_points) (defScope s_l_points) .none kV_l_points dc_l_points pm_l_points an_l_points cd_l_points ct_l_points), sl_l_points⟩) (C_l_points : PySem.W.codeIn K cd_l_points "_law_points" = true) (K_l_points : PySem.W.keepIn K (.ref f_l_points) = true)
    {f_l_part : Addr} {od_l_part an_l_part : Option Addr} {sl_l_part : Array (Option Value)} {oc_l_part kV_l_part dc_l_part pm_l_part cd_l_part ct_l_part : Value}
    (A_l_part : PySem.W.nsIn K mainGlobals "_law_part" = some (some (.ref f_l_part))) (L_l_part : K.lookup f_l_part = some ⟨oc_l_part, od_l_part, .func (PySem.W.fnOf "_law_part" "_law_part" (defArgs s_l_part) (defBody s_l_part) (defScope s_l_part) .none kV_l_part dc_l_part pm_l_part an_l_part cd_l_part ct_l_part), sl_l_part⟩) (C_l_part : PySem.W.codeIn K cd_l_part "_law_part" = true) (K_l_part : PySem.W.keepIn K (.ref f_l_part) = true)
    {f_l_spread : Addr} {od_l_spread an_l_spread : Option Addr} {sl_l_spread : Array (Option Value)} {oc_l_spread kV_l_spread dc_l_spread pm_l_spread cd_l_spread ct_l_spread : Value}
    (A_l_spread : PySem.W.nsIn K mainGlobals "_law_spread" = some (some (.ref f_l_spread))) (L_l_spread : K.lookup f_l_spread = some ⟨oc_l_spread, od_l_spread, .func (PySem.W.fnOf "_law_spread" "_law_spread" (defArgs s_l_spread) (defBody s_l_spread) (defScope s_l_spread) .none kV_l_spread dc_l_spread pm_l_spread an_l_spread cd_l_spread ct_l_spread), sl_l_spread⟩) (C_l_spread : PySem.W.codeIn K cd_l_spread "_law_spread" = true) (K_l_spread : PySem.W.keepIn K (.ref f_l_spread) = true)
    {f_l_has : Addr} {od_l_has an_l_has : Option Addr} {sl_l_has : Array (Option Value)} {oc_l_has kV_l_has dc_l_has pm_l_has cd_l_has ct_l_has : Value}
    (A_l_has : PySem.W.nsIn K mainGlobals "_law_has" = some (some (.ref f_l_has))) (L_l_has : K.lookup f_l_has = some ⟨oc_l_has, od_l_has, .func (PySem.W.fnOf "_law_has" "_law_has" (defArgs s_l_has) (defBody s_l_has) (defScope s_l_has) .none kV_l_has dc_l_has pm_l_has an_l_has cd_l_has ct_l_has), sl_l_has⟩) (C_l_has : PySem.W.codeIn K cd_l_has "_law_has" = true) (K_l_has : PySem.W.keepIn K (.ref f_l_has) = true)
    {f_l_corners : Addr} {od_l_corners an_l_corners : Option Addr} {sl_l_corners : Array (Option Value)} {oc_l_corners kV_l_corners dc_l_corners pm_l_corners cd_l_corners ct_l_corners : Value}
    (A_l_corners : PySem.W.nsIn K mainGlobals "_law_corners" = some (some (.ref f_l_corners))) (L_l_corners : K.lookup f_l_corners = some ⟨oc_l_corners, od_l_corners, .func (PySem.W.fnOf "_law_corners" "_law_corners" (defArgs s_l_corners) (defBody s_l_corners) (defScope s_l_corners) .none kV_l_corners dc_l_corners pm_l_corners an_l_corners cd_l_corners ct_l_corners), sl_l_corners⟩) (C_l_corners : PySem.W.codeIn K cd_l_corners "_law_corners" = true) (K_l_corners : PySem.W.keepIn K (.ref f_l_corners) = true)
    {f_l_form : Addr} {od_l_form an_l_form : Option Addr} {sl_l_form : Array (Option Value)} {oc_l_form kV_l_form dc_l_form pm_l_form cd_l_form ct_l_form : Value}
    (A_l_form : PySem.W.nsIn K mainGlobals "_law_form" = some (some (.ref f_l_form))) (L_l_form : K.lookup f_l_form = some ⟨oc_l_form, od_l_form, .func (PySem.W.fnOf "_law_form" "_law_form" (defArgs s_l_form) (defBody s_l_form) (defScope s_l_form) .none kV_l_form dc_l_form pm_l_form an_l_form cd_l_form ct_l_form), sl_l_form⟩) (C_l_form : PySem.W.codeIn K cd_l_form "_law_form" = true) (K_l_form : PySem.W.keepIn K (.ref f_l_form) = true)
    {f_l_add : Addr} {od_l_add an_l_add : Option Addr} {sl_l_add : Array (Option Value)} {oc_l_add kV_l_add dc_l_add pm_l_add cd_l_add ct_l_add : Value}
    (A_l_add : PySem.W.nsIn K mainGlobals "_law_add" = some (some (.ref f_l_add))) (L_l_add : K.lookup f_l_add = some ⟨oc_l_add, od_l_add, .func (PySem.W.fnOf "_law_add" "_law_add" (defArgs s_l_add) (defBody s_l_add) (defScope s_l_add) .none kV_l_add dc_l_add pm_l_add an_l_add cd_l_add ct_l_add), sl_l_add⟩) (C_l_add : PySem.W.codeIn K cd_l_add "_law_add" = true) (K_l_add : PySem.W.keepIn K (.ref f_l_add) = true)
    {f_l_known : Addr} {od_l_known an_l_known : Option Addr} {sl_l_known : Array (Option Value)} {oc_l_known kV_l_known dc_l_known pm_l_known cd_l_known ct_l_known : Value}
    (A_l_known : PySem.W.nsIn K mainGlobals "_law_known" = some (some (.ref f_l_known))) (L_l_known : K.lookup f_l_known = some ⟨oc_l_known, od_l_known, .func (PySem.W.fnOf "_law_known" "_law_known" (defArgs s_l_known) (defBody s_l_known) (defScope s_l_known) .none kV_l_known dc_l_known pm_l_known an_l_known cd_l_known ct_l_known), sl_l_known⟩) (C_l_known : PySem.W.codeIn K cd_l_known "_law_known" = true) (K_l_known : PySem.W.keepIn K (.ref f_l_known) = true)
    {f_l_reference : Addr} {od_l_reference an_l_reference : Option Addr} {sl_l_reference : Array (Option Value)} {oc_l_reference kV_l_reference dc_l_reference pm_l_reference cd_l_reference ct_l_reference : Value}
    (A_l_reference : PySem.W.nsIn K mainGlobals "_law_reference" = some (some (.ref f_l_reference))) (L_l_reference : K.lookup f_l_reference = some ⟨oc_l_reference, od_l_reference, .func (PySem.W.fnOf "_law_reference" "_law_reference" (defArgs s_l_reference) (defBody s_l_reference) (defScope s_l_reference) .none kV_l_reference dc_l_reference pm_l_reference an_l_reference cd_l_reference ct_l_reference), sl_l_reference⟩) (C_l_reference : PySem.W.codeIn K cd_l_reference "_law_reference" = true) (K_l_reference : PySem.W.keepIn K (.ref f_l_reference) = true)
    {f_l_num : Addr} {od_l_num an_l_num : Option Addr} {sl_l_num : Array (Option Value)} {oc_l_num kV_l_num dc_l_num pm_l_num cd_l_num ct_l_num : Value}
    (A_l_num : PySem.W.nsIn K mainGlobals "_law_num" = some (some (.ref f_l_num))) (L_l_num : K.lookup f_l_num = some ⟨oc_l_num, od_l_num, .func (PySem.W.fnOf "_law_num" "_law_num" (defArgs s_l_num) (defBody s_l_num) (defScope s_l_num) .none kV_l_num dc_l_num pm_l_num an_l_num cd_l_num ct_l_num), sl_l_num⟩) (C_l_num : PySem.W.codeIn K cd_l_num "_law_num" = true) (K_l_num : PySem.W.keepIn K (.ref f_l_num) = true)
    {f_l_side : Addr} {od_l_side an_l_side : Option Addr} {sl_l_side : Array (Option Value)} {oc_l_side kV_l_side dc_l_side pm_l_side cd_l_side ct_l_side : Value}
    (A_l_side : PySem.W.nsIn K mainGlobals "_law_side" = some (some (.ref f_l_side))) (L_l_side : K.lookup f_l_side = some ⟨oc_l_side, od_l_side, .func (PySem.W.fnOf "_law_side" "_law_side" (defArgs s_l_side) (defBody s_l_side) (defScope s_l_side) .none kV_l_side dc_l_side pm_l_side an_l_side cd_l_side ct_l_side), sl_l_side⟩) (C_l_side : PySem.W.codeIn K cd_l_side "_law_side" = true) (K_l_side : PySem.W.keepIn K (.ref f_l_side) = true)
    {f_l_compare : Addr} {od_l_compare an_l_compare : Option Addr} {sl_l_compare : Array (Option Value)} {oc_l_compare kV_l_compare dc_l_compare pm_l_compare cd_l_compare ct_l_compare : Value}
    (A_l_compare : PySem.W.nsIn K mainGlobals "_law_compare" = some (some (.ref f_l_compare))) (L_l_compare : K.lookup f_l_compare = some ⟨oc_l_compare, od_l_compare, .func (PySem.W.fnOf "_law_compare" "_law_compare" (defArgs s_l_compare) (defBody s_l_compare) (defScope s_l_compare) .none kV_l_compare dc_l_compare pm_l_compare an_l_compare cd_l_compare ct_l_compare), sl_l_compare⟩) (C_l_compare : PySem.W.codeIn K cd_l_compare "_law_compare" = true) (K_l_compare : PySem.W.keepIn K (.ref f_l_compare) = true)
    {f_l_chain : Addr} {od_l_chain an_l_chain : Option Addr} {sl_l_chain : Array (Option Value)} {oc_l_chain kV_l_chain dc_l_chain pm_l_chain cd_l_chain ct_l_chain : Value}
    (A_l_chain : PySem.W.nsIn K mainGlobals "_law_chain" = some (some (.ref f_l_chain))) (L_l_chain : K.lookup f_l_chain = some ⟨oc_l_chain, od_l_chain, .func (PySem.W.fnOf "_law_chain" "_law_chain" (defArgs s_l_chain) (defBody s_l_chain) (defScope s_l_chain) .none kV_l_chain dc_l_chain pm_l_chain an_l_chain cd_l_chain ct_l_chain), sl_l_chain⟩) (C_l_chain : PySem.W.codeIn K cd_l_chain "_law_chain" = true) (K_l_chain : PySem.W.keepIn K (.ref f_l_chain) = true)
    {f_l_truth : Addr} {od_l_truth an_l_truth : Option Addr} {sl_l_truth : Array (Option Value)} {oc_l_truth kV_l_truth dc_l_truth pm_l_truth cd_l_truth ct_l_truth : Value}
    (A_l_truth : PySem.W.nsIn K mainGlobals "_law_truth" = some (some (.ref f_l_truth))) (L_l_truth : K.lookup f_l_truth = some ⟨oc_l_truth, od_l_truth, .func (PySem.W.fnOf "_law_truth" "_law_truth" (defArgs s_l_truth) (defBody s_l_truth) (defScope s_l_truth) .none kV_l_truth dc_l_truth pm_l_truth an_l_truth cd_l_truth ct_l_truth), sl_l_truth⟩) (C_l_truth : PySem.W.codeIn K cd_l_truth "_law_truth" = true) (K_l_truth : PySem.W.keepIn K (.ref f_l_truth) = true)
    {f_l_lets : Addr} {od_l_lets an_l_lets : Option Addr} {sl_l_lets : Array (Option Value)} {oc_l_lets kV_l_lets dc_l_lets pm_l_lets cd_l_lets ct_l_lets : Value}
    (A_l_lets : PySem.W.nsIn K mainGlobals "_law_lets" = some (some (.ref f_l_lets))) (L_l_lets : K.lookup f_l_lets = some ⟨oc_l_lets, od_l_lets, .func (PySem.W.fnOf "_law_lets" "_law_lets" (defArgs s_l_lets) (defBody s_l_lets) (defScope s_l_lets) .none kV_l_lets dc_l_lets pm_l_lets an_l_lets cd_l_lets ct_l_lets), sl_l_lets⟩) (C_l_lets : PySem.W.codeIn K cd_l_lets "_law_lets" = true) (K_l_lets : PySem.W.keepIn K (.ref f_l_lets) = true)
    {f_l_cut : Addr} {od_l_cut an_l_cut : Option Addr} {sl_l_cut : Array (Option Value)} {oc_l_cut kV_l_cut dc_l_cut pm_l_cut cd_l_cut ct_l_cut : Value}
    (A_l_cut : PySem.W.nsIn K mainGlobals "_law_cut" = some (some (.ref f_l_cut))) (L_l_cut : K.lookup f_l_cut = some ⟨oc_l_cut, od_l_cut, .func (PySem.W.fnOf "_law_cut" "_law_cut" (defArgs s_l_cut) (defBody s_l_cut) (defScope s_l_cut) .none kV_l_cut dc_l_cut pm_l_cut an_l_cut cd_l_cut ct_l_cut), sl_l_cut⟩) (C_l_cut : PySem.W.codeIn K cd_l_cut "_law_cut" = true) (K_l_cut : PySem.W.keepIn K (.ref f_l_cut) = true)
    {f_l_joined : Addr} {od_l_joined an_l_joined : Option Addr} {sl_l_joined : Array (Option Value)} {oc_l_joined kV_l_joined dc_l_joined pm_l_joined cd_l_joined ct_l_joined : Value}
    (A_l_joined : PySem.W.nsIn K mainGlobals "_law_joined" = some (some (.ref f_l_joined))) (L_l_joined : K.lookup f_l_joined = some ⟨oc_l_joined, od_l_joined, .func (PySem.W.fnOf "_law_joined" "_law_joined" (defArgs s_l_joined) (defBody s_l_joined) (defScope s_l_joined) .none kV_l_joined dc_l_joined pm_l_joined an_l_joined cd_l_joined ct_l_joined), sl_l_joined⟩) (C_l_joined : PySem.W.codeIn K cd_l_joined "_law_joined" = true) (K_l_joined : PySem.W.keepIn K (.ref f_l_joined) = true)
    {f_l_compared : Addr} {od_l_compared an_l_compared : Option Addr} {sl_l_compared : Array (Option Value)} {oc_l_compared kV_l_compared dc_l_compared pm_l_compared cd_l_compared ct_l_compared : Value}
    (A_l_compared : PySem.W.nsIn K mainGlobals "_law_compared" = some (some (.ref f_l_compared))) (L_l_compared : K.lookup f_l_compared = some ⟨oc_l_compared, od_l_compared, .func (PySem.W.fnOf "_law_compared" "_law_compared" (defArgs s_l_compared) (defBody s_l_compared) (defScope s_l_compared) .none kV_l_compared dc_l_compared pm_l_compared an_l_compared cd_l_compared ct_l_compared), sl_l_compared⟩) (C_l_compared : PySem.W.codeIn K cd_l_compared "_law_compared" = true) (K_l_compared : PySem.W.keepIn K (.ref f_l_compared) = true)
    {f_l_due : Addr} {od_l_due an_l_due : Option Addr} {sl_l_due : Array (Option Value)} {oc_l_due kV_l_due dc_l_due pm_l_due cd_l_due ct_l_due : Value}
    (A_l_due : PySem.W.nsIn K mainGlobals "_law_due" = some (some (.ref f_l_due))) (L_l_due : K.lookup f_l_due = some ⟨oc_l_due, od_l_due, .func (PySem.W.fnOf "_law_due" "_law_due" (defArgs s_l_due) (defBody s_l_due) (defScope s_l_due) .none kV_l_due dc_l_due pm_l_due an_l_due cd_l_due ct_l_due), sl_l_due⟩) (C_l_due : PySem.W.codeIn K cd_l_due "_law_due" = true) (K_l_due : PySem.W.keepIn K (.ref f_l_due) = true)
    {f_l_inside : Addr} {od_l_inside an_l_inside : Option Addr} {sl_l_inside : Array (Option Value)} {oc_l_inside kV_l_inside dc_l_inside pm_l_inside cd_l_inside ct_l_inside : Value}
    (A_l_inside : PySem.W.nsIn K mainGlobals "_law_inside" = some (some (.ref f_l_inside))) (L_l_inside : K.lookup f_l_inside = some ⟨oc_l_inside, od_l_inside, .func (PySem.W.fnOf "_law_inside" "_law_inside" (defArgs s_l_inside) (defBody s_l_inside) (defScope s_l_inside) .none kV_l_inside dc_l_inside pm_l_inside an_l_inside cd_l_inside ct_l_inside), sl_l_inside⟩) (C_l_inside : PySem.W.codeIn K cd_l_inside "_law_inside" = true) (K_l_inside : PySem.W.keepIn K (.ref f_l_inside) = true)
    {f_l_same : Addr} {od_l_same an_l_same : Option Addr} {sl_l_same : Array (Option Value)} {oc_l_same kV_l_same dc_l_same pm_l_same cd_l_same ct_l_same : Value}
    (A_l_same : PySem.W.nsIn K mainGlobals "_law_same" = some (some (.ref f_l_same))) (L_l_same : K.lookup f_l_same = some ⟨oc_l_same, od_l_same, .func (PySem.W.fnOf "_law_same" "_law_same" (defArgs s_l_same) (defBody s_l_same) (defScope s_l_same) .none kV_l_same dc_l_same pm_l_same an_l_same cd_l_same ct_l_same), sl_l_same⟩) (C_l_same : PySem.W.codeIn K cd_l_same "_law_same" = true) (K_l_same : PySem.W.keepIn K (.ref f_l_same) = true)
    {f_l_kept : Addr} {od_l_kept an_l_kept : Option Addr} {sl_l_kept : Array (Option Value)} {oc_l_kept kV_l_kept dc_l_kept pm_l_kept cd_l_kept ct_l_kept : Value}
    (A_l_kept : PySem.W.nsIn K mainGlobals "_law_kept" = some (some (.ref f_l_kept))) (L_l_kept : K.lookup f_l_kept = some ⟨oc_l_kept, od_l_kept, .func (PySem.W.fnOf "_law_kept" "_law_kept" (defArgs s_l_kept) (defBody s_l_kept) (defScope s_l_kept) .none kV_l_kept dc_l_kept pm_l_kept an_l_kept cd_l_kept ct_l_kept), sl_l_kept⟩) (C_l_kept : PySem.W.codeIn K cd_l_kept "_law_kept" = true) (K_l_kept : PySem.W.keepIn K (.ref f_l_kept) = true)
    {f_l_asked : Addr} {od_l_asked an_l_asked : Option Addr} {sl_l_asked : Array (Option Value)} {oc_l_asked kV_l_asked dc_l_asked pm_l_asked cd_l_asked ct_l_asked : Value}
    (A_l_asked : PySem.W.nsIn K mainGlobals "_law_asked" = some (some (.ref f_l_asked))) (L_l_asked : K.lookup f_l_asked = some ⟨oc_l_asked, od_l_asked, .func (PySem.W.fnOf "_law_asked" "_law_asked" (defArgs s_l_asked) (defBody s_l_asked) (defScope s_l_asked) .none kV_l_asked dc_l_asked pm_l_asked an_l_asked cd_l_asked ct_l_asked), sl_l_asked⟩) (C_l_asked : PySem.W.codeIn K cd_l_asked "_law_asked" = true) (K_l_asked : PySem.W.keepIn K (.ref f_l_asked) = true)
    {f_law : Addr} {od_law an_law : Option Addr} {sl_law : Array (Option Value)} {oc_law kV_law dc_law pm_law cd_law ct_law : Value}
    (A_law : PySem.W.nsIn K mainGlobals "law" = some (some (.ref f_law))) (L_law : K.lookup f_law = some ⟨oc_law, od_law, .func (PySem.W.fnOf "law" "law" (defArgs s_law) (defBody s_law) (defScope s_law) .none kV_law dc_law pm_law an_law cd_law ct_law), sl_law⟩) (C_law : PySem.W.codeIn K cd_law "law" = true) (K_law : PySem.W.keepIn K (.ref f_law) = true)
    (Z_abs : PySem.W.nsIn K mainGlobals "abs" = some none)
    (Z_any : PySem.W.nsIn K mainGlobals "any" = some none)
    (Z_bool : PySem.W.nsIn K mainGlobals "bool" = some none)
    (Z_dict : PySem.W.nsIn K mainGlobals "dict" = some none)
    (Z_enumerate : PySem.W.nsIn K mainGlobals "enumerate" = some none)
    (Z_int : PySem.W.nsIn K mainGlobals "int" = some none)
    (Z_isinstance : PySem.W.nsIn K mainGlobals "isinstance" = some none)
    (Z_len : PySem.W.nsIn K mainGlobals "len" = some none)
    (Z_list : PySem.W.nsIn K mainGlobals "list" = some none)
    (Z_max : PySem.W.nsIn K mainGlobals "max" = some none)
    (Z_min : PySem.W.nsIn K mainGlobals "min" = some none)
    (Z_range : PySem.W.nsIn K mainGlobals "range" = some none)
    (Z_sorted : PySem.W.nsIn K mainGlobals "sorted" = some none)
    (Z_str : PySem.W.nsIn K mainGlobals "str" = some none)
    (Z_sum : PySem.W.nsIn K mainGlobals "sum" = some none)
    (Z_tuple : PySem.W.nsIn K mainGlobals "tuple" = some none)
    (Z_zip : PySem.W.nsIn K mainGlobals "zip" = some none) :
    ∃ fd : FuncData, (∀ (s : Shared) (v : Value), BindsTo s fd ⟨[v], []⟩ [("_law_script", v)]) ∧ ∀ base : Heap, K.In base → base.Ns mainGlobals mg → FnOk l.prog w K mg base CX0 38 fa fd ["_law_script"] (spLaw K) := by
  have e := hfa.symm.trans (PySem.W.mg_of X G A_law)
  cases e
  let T : Txt w K mg := {
    a_frozen := f_frozen, d_frozen := _, F_frozen := fun_mk (st := s_frozen) L_frozen C_frozen K_frozen, b_frozen := (fun_mk (st := s_frozen) L_frozen C_frozen K_frozen).binds (ps := p_frozen) (fun _ _ _ _ _ _ us hl => match us, hl with | [_], _ => rfl), m_frozen := PySem.W.mg_of X G A_frozen,
    a_bound := f_bound, d_bound := _, F_bound := fun_mk (st := s_bound) L_bound C_bound K_bound, b_bound := (fun_mk (st := s_bound) L_bound C_bound K_bound).binds (ps := p_bound) (fun _ _ _ _ _ _ us hl => match us, hl with | [_, _, _, _], _ => rfl), m_bound := PySem.W.mg_of X G A_bound,
    a_join_boxes := f_join_boxes, d_join_boxes := _, F_join_boxes := fun_mk (st := s_join_boxes) L_join_boxes C_join_boxes K_join_boxes, b_join_boxes := (fun_mk (st := s_join_boxes) L_join_boxes C_join_boxes K_join_boxes).binds (ps := p_join_boxes) (fun _ _ _ _ _ _ us hl => match us, hl with | [_, _], _ => rfl), m_join_boxes := PySem.W.mg_of X G A_join_boxes,
    a_range_of := f_range_of, d_range_of := _, F_range_of := fun_mk (st := s_range_of) L_range_of C_range_of K_range_of, b_range_of := (fun_mk (st := s_range_of) L_range_of C_range_of K_range_of).binds (ps := p_range_of) (fun _ _ _ _ _ _ us hl => match us, hl with | [_, _], _ => rfl), m_range_of := PySem.W.mg_of X G A_range_of,
    a_constant_form := f_constant_form, d_constant_form := _, F_constant_form := fun_mk (st := s_constant_form) L_constant_form C_constant_form K_constant_form, b_constant_form := (fun_mk (st := s_constant_form) L_constant_form C_constant_form K_constant_form).binds (ps := p_constant_form) (fun _ _ _ _ _ _ us hl => match us, hl with | [_, _], _ => rfl), m_constant_form := PySem.W.mg_of X G A_constant_form,
    a_column_form := f_column_form, d_column_form := _, F_column_form := fun_mk (st := s_column_form) L_column_form C_column_form K_column_form, b_column_form := (fun_mk (st := s_column_form) L_column_form C_column_form K_column_form).binds (ps := p_column_form) (fun _ _ _ _ _ _ us hl => match us, hl with | [_, _], _ => rfl), m_column_form := PySem.W.mg_of X G A_column_form,
    a_sum_of_forms := f_sum_of_forms, d_sum_of_forms := _, F_sum_of_forms := fun_mk (st := s_sum_of_forms) L_sum_of_forms C_sum_of_forms K_sum_of_forms, b_sum_of_forms := (fun_mk (st := s_sum_of_forms) L_sum_of_forms C_sum_of_forms K_sum_of_forms).binds (ps := p_sum_of_forms) (fun _ _ _ _ _ _ us hl => match us, hl with | [_, _], _ => rfl), m_sum_of_forms := PySem.W.mg_of X G A_sum_of_forms,
    a_form_times := f_form_times, d_form_times := _, F_form_times := fun_mk (st := s_form_times) L_form_times C_form_times K_form_times, b_form_times := (fun_mk (st := s_form_times) L_form_times C_form_times K_form_times).binds (ps := p_form_times) (fun _ _ _ _ _ _ us hl => match us, hl with | [_, _], _ => rfl), m_form_times := PySem.W.mg_of X G A_form_times,
    a_difference_of_forms := f_difference_of_forms, d_difference_of_forms := _, F_difference_of_forms := fun_mk (st := s_difference_of_forms) L_difference_of_forms C_difference_of_forms K_difference_of_forms, b_difference_of_forms := (fun_mk (st := s_difference_of_forms) L_difference_of_forms C_difference_of_forms K_difference_of_forms).binds (ps := p_difference_of_forms) (fun _ _ _ _ _ _ us hl => match us, hl with | [_, _], _ => rfl), m_difference_of_forms := PySem.W.mg_of X G A_difference_of_forms,
    a_used_columns := f_used_columns, d_used_columns := _, F_used_columns := fun_mk (st := s_used_columns) L_used_columns C_used_columns K_used_columns, b_used_columns := (fun_mk (st := s_used_columns) L_used_columns C_used_columns K_used_columns).binds (ps := p_used_columns) (fun _ _ _ _ _ _ us hl => match us, hl with | [_], _ => rfl), m_used_columns := PySem.W.mg_of X G A_used_columns,
    a_difference_columns := f_difference_columns, d_difference_columns := _, F_difference_columns := fun_mk (st := s_difference_columns) L_difference_columns C_difference_columns K_difference_columns, b_difference_columns := (fun_mk (st := s_difference_columns) L_difference_columns C_difference_columns K_difference_columns).binds (ps := p_difference_columns) (fun _ _ _ _ _ _ us hl => match us, hl with | [_], _ => rfl), m_difference_columns := PySem.W.mg_of X G A_difference_columns,
    a_range_of_form := f_range_of_form, d_range_of_form := _, F_range_of_form := fun_mk (st := s_range_of_form) L_range_of_form C_range_of_form K_range_of_form, b_range_of_form := (fun_mk (st := s_range_of_form) L_range_of_form C_range_of_form K_range_of_form).binds (ps := p_range_of_form) (fun _ _ _ _ _ _ us hl => match us, hl with | [_, _], _ => rfl), m_range_of_form := PySem.W.mg_of X G A_range_of_form,
    a_occurs := f_occurs, d_occurs := _, F_occurs := fun_mk (st := s_occurs) L_occurs C_occurs K_occurs, b_occurs := (fun_mk (st := s_occurs) L_occurs C_occurs K_occurs).binds (ps := p_occurs) (fun _ _ _ _ _ _ us hl => match us, hl with | [_, _], _ => rfl), m_occurs := PySem.W.mg_of X G A_occurs,
    a_form_of := f_form_of, d_form_of := _, F_form_of := fun_mk (st := s_form_of) L_form_of C_form_of K_form_of, b_form_of := (fun_mk (st := s_form_of) L_form_of C_form_of K_form_of).binds (ps := p_form_of) (fun _ _ _ _ _ _ us hl => match us, hl with | [_, _, _, _], _ => rfl), m_form_of := PySem.W.mg_of X G A_form_of,
    a_product_form := f_product_form, d_product_form := _, F_product_form := fun_mk (st := s_product_form) L_product_form C_product_form K_product_form, b_product_form := (fun_mk (st := s_product_form) L_product_form C_product_form K_product_form).binds (ps := p_product_form) (fun _ _ _ _ _ _ us hl => match us, hl with | [_, _, _], _ => rfl), m_product_form := PySem.W.mg_of X G A_product_form,
    a_evaluate := f_evaluate, d_evaluate := _, F_evaluate := fun_mk (st := s_evaluate) L_evaluate C_evaluate K_evaluate, b_evaluate := (fun_mk (st := s_evaluate) L_evaluate C_evaluate K_evaluate).binds (ps := p_evaluate) (fun _ _ _ _ _ _ us hl => match us, hl with | [_, _], _ => rfl), m_evaluate := PySem.W.mg_of X G A_evaluate,
    a_apply := f_apply, d_apply := _, F_apply := fun_mk (st := s_apply) L_apply C_apply K_apply, b_apply := (fun_mk (st := s_apply) L_apply C_apply K_apply).binds (ps := p_apply) (fun _ _ _ _ _ _ us hl => match us, hl with | [_, _, _], _ => rfl), m_apply := PySem.W.mg_of X G A_apply,
    a_at_most := f_at_most, d_at_most := _, F_at_most := fun_mk (st := s_at_most) L_at_most C_at_most K_at_most, b_at_most := (fun_mk (st := s_at_most) L_at_most C_at_most K_at_most).binds (ps := p_at_most) (fun _ _ _ _ _ _ us hl => match us, hl with | [_, _, _], _ => rfl), m_at_most := PySem.W.mg_of X G A_at_most,
    a_at_least := f_at_least, d_at_least := _, F_at_least := fun_mk (st := s_at_least) L_at_least C_at_least K_at_least, b_at_least := (fun_mk (st := s_at_least) L_at_least C_at_least K_at_least).binds (ps := p_at_least) (fun _ _ _ _ _ _ us hl => match us, hl with | [_, _, _], _ => rfl), m_at_least := PySem.W.mg_of X G A_at_least,
    a_equal_to := f_equal_to, d_equal_to := _, F_equal_to := fun_mk (st := s_equal_to) L_equal_to C_equal_to K_equal_to, b_equal_to := (fun_mk (st := s_equal_to) L_equal_to C_equal_to K_equal_to).binds (ps := p_equal_to) (fun _ _ _ _ _ _ us hl => match us, hl with | [_, _, _], _ => rfl), m_equal_to := PySem.W.mg_of X G A_equal_to,
    a_assume := f_assume, d_assume := _, F_assume := fun_mk (st := s_assume) L_assume C_assume K_assume, b_assume := (fun_mk (st := s_assume) L_assume C_assume K_assume).binds (ps := p_assume) (fun _ _ _ _ _ _ us hl => match us, hl with | [_, _, _, _, _], _ => rfl), m_assume := PySem.W.mg_of X G A_assume,
    a_assume_pair := f_assume_pair, d_assume_pair := _, F_assume_pair := fun_mk (st := s_assume_pair) L_assume_pair C_assume_pair K_assume_pair, b_assume_pair := (fun_mk (st := s_assume_pair) L_assume_pair C_assume_pair K_assume_pair).binds (ps := p_assume_pair) (fun _ _ _ _ _ _ us hl => match us, hl with | [_, _, _, _, _], _ => rfl), m_assume_pair := PySem.W.mg_of X G A_assume_pair,
    a_compare := f_compare, d_compare := _, F_compare := fun_mk (st := s_compare) L_compare C_compare K_compare, b_compare := (fun_mk (st := s_compare) L_compare C_compare K_compare).binds (ps := p_compare) (fun _ _ _ _ _ _ us hl => match us, hl with | [_, _, _, _], _ => rfl), m_compare := PySem.W.mg_of X G A_compare,
    a_l_cell := f_l_cell, d_l_cell := _, F_l_cell := fun_mk (st := s_l_cell) L_l_cell C_l_cell K_l_cell, b_l_cell := (fun_mk (st := s_l_cell) L_l_cell C_l_cell K_l_cell).binds (ps := p_l_cell) (fun _ _ _ _ _ _ us hl => match us, hl with | [_, _], _ => rfl), m_l_cell := PySem.W.mg_of X G A_l_cell,
    a_l_source := f_l_source, d_l_source := _, F_l_source := fun_mk (st := s_l_source) L_l_source C_l_source K_l_source, b_l_source := (fun_mk (st := s_l_source) L_l_source C_l_source K_l_source).binds (ps := p_l_source) (fun _ _ _ _ _ _ us hl => match us, hl with | [_], _ => rfl), m_l_source := PySem.W.mg_of X G A_l_source,
    a_l_pick := f_l_pick, d_l_pick := _, F_l_pick := fun_mk (st := s_l_pick) L_l_pick C_l_pick K_l_pick, b_l_pick := (fun_mk (st := s_l_pick) L_l_pick C_l_pick K_l_pick).binds (ps := p_l_pick) (fun _ _ _ _ _ _ us hl => match us, hl with | [_, _], _ => rfl), m_l_pick := PySem.W.mg_of X G A_l_pick,
    a_l_one := f_l_one, d_l_one := _, F_l_one := fun_mk (st := s_l_one) L_l_one C_l_one K_l_one, b_l_one := (fun_mk (st := s_l_one) L_l_one C_l_one K_l_one).binds (ps := p_l_one) (fun _ _ _ _ _ _ us hl => match us, hl with | [_, _], _ => rfl), m_l_one := PySem.W.mg_of X G A_l_one,
    a_l_names := f_l_names, d_l_names := _, F_l_names := fun_mk (st := s_l_names) L_l_names C_l_names K_l_names, b_l_names := (fun_mk (st := s_l_names) L_l_names C_l_names K_l_names).binds (ps := p_l_names) (fun _ _ _ _ _ _ us hl => match us, hl with | [_], _ => rfl), m_l_names := PySem.W.mg_of X G A_l_names,
    a_l_far := f_l_far, d_l_far := _, F_l_far := fun_mk (st := s_l_far) L_l_far C_l_far K_l_far, b_l_far := (fun_mk (st := s_l_far) L_l_far C_l_far K_l_far).binds (ps := p_l_far) (fun _ _ _ _ _ _ us hl => match us, hl with | [_], _ => rfl), m_l_far := PySem.W.mg_of X G A_l_far,
    a_l_words := f_l_words, d_l_words := _, F_l_words := fun_mk (st := s_l_words) L_l_words C_l_words K_l_words, b_l_words := (fun_mk (st := s_l_words) L_l_words C_l_words K_l_words).binds (ps := p_l_words) (fun _ _ _ _ _ _ us hl => match us, hl with | [_], _ => rfl), m_l_words := PySem.W.mg_of X G A_l_words,
    a_l_order := f_l_order, d_l_order := _, F_l_order := fun_mk (st := s_l_order) L_l_order C_l_order K_l_order, b_l_order := (fun_mk (st := s_l_order) L_l_order C_l_order K_l_order).binds (ps := p_l_order) (fun _ _ _ _ _ _ us hl => match us, hl with | [_, _], _ => rfl), m_l_order := PySem.W.mg_of X G A_l_order,
    a_l_number := f_l_number, d_l_number := _, F_l_number := fun_mk (st := s_l_number) L_l_number C_l_number K_l_number, b_l_number := (fun_mk (st := s_l_number) L_l_number C_l_number K_l_number).binds (ps := p_l_number) (fun _ _ _ _ _ _ us hl => match us, hl with | [_, _, _], _ => rfl), m_l_number := PySem.W.mg_of X G A_l_number,
    a_l_value := f_l_value, d_l_value := _, F_l_value := fun_mk (st := s_l_value) L_l_value C_l_value K_l_value, b_l_value := (fun_mk (st := s_l_value) L_l_value C_l_value K_l_value).binds (ps := p_l_value) (fun _ _ _ _ _ _ us hl => match us, hl with | [_, _], _ => rfl), m_l_value := PySem.W.mg_of X G A_l_value,
    a_l_values_at := f_l_values_at, d_l_values_at := _, F_l_values_at := fun_mk (st := s_l_values_at) L_l_values_at C_l_values_at K_l_values_at, b_l_values_at := (fun_mk (st := s_l_values_at) L_l_values_at C_l_values_at K_l_values_at).binds (ps := p_l_values_at) (fun _ _ _ _ _ _ us hl => match us, hl with | [_, _, _], _ => rfl), m_l_values_at := PySem.W.mg_of X G A_l_values_at,
    a_l_belongs := f_l_belongs, d_l_belongs := _, F_l_belongs := fun_mk (st := s_l_belongs) L_l_belongs C_l_belongs K_l_belongs, b_l_belongs := (fun_mk (st := s_l_belongs) L_l_belongs C_l_belongs K_l_belongs).binds (ps := p_l_belongs) (fun _ _ _ _ _ _ us hl => match us, hl with | [_, _], _ => rfl), m_l_belongs := PySem.W.mg_of X G A_l_belongs,
    a_l_grid := f_l_grid, d_l_grid := _, F_l_grid := fun_mk (st := s_l_grid) L_l_grid C_l_grid K_l_grid, b_l_grid := (fun_mk (st := s_l_grid) L_l_grid C_l_grid K_l_grid).binds (ps := p_l_grid) (fun _ _ _ _ _ _ us hl => match us, hl with | [_], _ => rfl), m_l_grid := PySem.W.mg_of X G A_l_grid,
    a_l_box := f_l_box, d_l_box := _, F_l_box := fun_mk (st := s_l_box) L_l_box C_l_box K_l_box, b_l_box := (fun_mk (st := s_l_box) L_l_box C_l_box K_l_box).binds (ps := p_l_box) (fun _ _ _ _ _ _ us hl => match us, hl with | [_], _ => rfl), m_l_box := PySem.W.mg_of X G A_l_box,
    a_l_points := f_l_points, d_l_points := _, F_l_points := fun_mk (st := s_l_points) L_l_points C_l_points K_l_points, b_l_points := (fun_mk (st := s_l_points) L_l_points C_l_points K_l_points).binds (ps := p_l_points) (fun _ _ _ _ _ _ us hl => match us, hl with | [_, _, _], _ => rfl), m_l_points := PySem.W.mg_of X G A_l_points,
    a_l_part := f_l_part, d_l_part := _, F_l_part := fun_mk (st := s_l_part) L_l_part C_l_part K_l_part, b_l_part := (fun_mk (st := s_l_part) L_l_part C_l_part K_l_part).binds (ps := p_l_part) (fun _ _ _ _ _ _ us hl => match us, hl with | [_, _], _ => rfl), m_l_part := PySem.W.mg_of X G A_l_part,
    a_l_spread := f_l_spread, d_l_spread := _, F_l_spread := fun_mk (st := s_l_spread) L_l_spread C_l_spread K_l_spread, b_l_spread := (fun_mk (st := s_l_spread) L_l_spread C_l_spread K_l_spread).binds (ps := p_l_spread) (fun _ _ _ _ _ _ us hl => match us, hl with | [_, _], _ => rfl), m_l_spread := PySem.W.mg_of X G A_l_spread,
    a_l_has := f_l_has, d_l_has := _, F_l_has := fun_mk (st := s_l_has) L_l_has C_l_has K_l_has, b_l_has := (fun_mk (st := s_l_has) L_l_has C_l_has K_l_has).binds (ps := p_l_has) (fun _ _ _ _ _ _ us hl => match us, hl with | [_, _], _ => rfl), m_l_has := PySem.W.mg_of X G A_l_has,
    a_l_corners := f_l_corners, d_l_corners := _, F_l_corners := fun_mk (st := s_l_corners) L_l_corners C_l_corners K_l_corners, b_l_corners := (fun_mk (st := s_l_corners) L_l_corners C_l_corners K_l_corners).binds (ps := p_l_corners) (fun _ _ _ _ _ _ us hl => match us, hl with | [_, _, _, _], _ => rfl), m_l_corners := PySem.W.mg_of X G A_l_corners,
    a_l_form := f_l_form, d_l_form := _, F_l_form := fun_mk (st := s_l_form) L_l_form C_l_form K_l_form, b_l_form := (fun_mk (st := s_l_form) L_l_form C_l_form K_l_form).binds (ps := p_l_form) (fun _ _ _ _ _ _ us hl => match us, hl with | [_, _, _, _], _ => rfl), m_l_form := PySem.W.mg_of X G A_l_form,
    a_l_add := f_l_add, d_l_add := _, F_l_add := fun_mk (st := s_l_add) L_l_add C_l_add K_l_add, b_l_add := (fun_mk (st := s_l_add) L_l_add C_l_add K_l_add).binds (ps := p_l_add) (fun _ _ _ _ _ _ us hl => match us, hl with | [_, _, _, _, _, _], _ => rfl), m_l_add := PySem.W.mg_of X G A_l_add,
    a_l_known := f_l_known, d_l_known := _, F_l_known := fun_mk (st := s_l_known) L_l_known C_l_known K_l_known, b_l_known := (fun_mk (st := s_l_known) L_l_known C_l_known K_l_known).binds (ps := p_l_known) (fun _ _ _ _ _ _ us hl => match us, hl with | [_, _], _ => rfl), m_l_known := PySem.W.mg_of X G A_l_known,
    a_l_reference := f_l_reference, d_l_reference := _, F_l_reference := fun_mk (st := s_l_reference) L_l_reference C_l_reference K_l_reference, b_l_reference := (fun_mk (st := s_l_reference) L_l_reference C_l_reference K_l_reference).binds (ps := p_l_reference) (fun _ _ _ _ _ _ us hl => match us, hl with | [_, _], _ => rfl), m_l_reference := PySem.W.mg_of X G A_l_reference,
    a_l_num := f_l_num, d_l_num := _, F_l_num := fun_mk (st := s_l_num) L_l_num C_l_num K_l_num, b_l_num := (fun_mk (st := s_l_num) L_l_num C_l_num K_l_num).binds (ps := p_l_num) (fun _ _ _ _ _ _ us hl => match us, hl with | [_], _ => rfl), m_l_num := PySem.W.mg_of X G A_l_num,
    a_l_side := f_l_side, d_l_side := _, F_l_side := fun_mk (st := s_l_side) L_l_side C_l_side K_l_side, b_l_side := (fun_mk (st := s_l_side) L_l_side C_l_side K_l_side).binds (ps := p_l_side) (fun _ _ _ _ _ _ us hl => match us, hl with | [_, _, _, _], _ => rfl), m_l_side := PySem.W.mg_of X G A_l_side,
    a_l_compare := f_l_compare, d_l_compare := _, F_l_compare := fun_mk (st := s_l_compare) L_l_compare C_l_compare K_l_compare, b_l_compare := (fun_mk (st := s_l_compare) L_l_compare C_l_compare K_l_compare).binds (ps := p_l_compare) (fun _ _ _ _ _ _ us hl => match us, hl with | [_, _, _, _, _], _ => rfl), m_l_compare := PySem.W.mg_of X G A_l_compare,
    a_l_chain := f_l_chain, d_l_chain := _, F_l_chain := fun_mk (st := s_l_chain) L_l_chain C_l_chain K_l_chain, b_l_chain := (fun_mk (st := s_l_chain) L_l_chain C_l_chain K_l_chain).binds (ps := p_l_chain) (fun _ _ _ _ _ _ us hl => match us, hl with | [_, _, _], _ => rfl), m_l_chain := PySem.W.mg_of X G A_l_chain,
    a_l_truth := f_l_truth, d_l_truth := _, F_l_truth := fun_mk (st := s_l_truth) L_l_truth C_l_truth K_l_truth, b_l_truth := (fun_mk (st := s_l_truth) L_l_truth C_l_truth K_l_truth).binds (ps := p_l_truth) (fun _ _ _ _ _ _ us hl => match us, hl with | [_, _, _, _, _, _], _ => rfl), m_l_truth := PySem.W.mg_of X G A_l_truth,
    a_l_lets := f_l_lets, d_l_lets := _, F_l_lets := fun_mk (st := s_l_lets) L_l_lets C_l_lets K_l_lets, b_l_lets := (fun_mk (st := s_l_lets) L_l_lets C_l_lets K_l_lets).binds (ps := p_l_lets) (fun _ _ _ _ _ _ us hl => match us, hl with | [_, _, _, _], _ => rfl), m_l_lets := PySem.W.mg_of X G A_l_lets,
    a_l_cut := f_l_cut, d_l_cut := _, F_l_cut := fun_mk (st := s_l_cut) L_l_cut C_l_cut K_l_cut, b_l_cut := (fun_mk (st := s_l_cut) L_l_cut C_l_cut K_l_cut).binds (ps := p_l_cut) (fun _ _ _ _ _ _ us hl => match us, hl with | [_, _, _, _], _ => rfl), m_l_cut := PySem.W.mg_of X G A_l_cut,
    a_l_joined := f_l_joined, d_l_joined := _, F_l_joined := fun_mk (st := s_l_joined) L_l_joined C_l_joined K_l_joined, b_l_joined := (fun_mk (st := s_l_joined) L_l_joined C_l_joined K_l_joined).binds (ps := p_l_joined) (fun _ _ _ _ _ _ us hl => match us, hl with | [_, _], _ => rfl), m_l_joined := PySem.W.mg_of X G A_l_joined,
    a_l_compared := f_l_compared, d_l_compared := _, F_l_compared := fun_mk (st := s_l_compared) L_l_compared C_l_compared K_l_compared, b_l_compared := (fun_mk (st := s_l_compared) L_l_compared C_l_compared K_l_compared).binds (ps := p_l_compared) (fun _ _ _ _ _ _ us hl => match us, hl with | [_, _, _, _, _], _ => rfl), m_l_compared := PySem.W.mg_of X G A_l_compared,
    a_l_due := f_l_due, d_l_due := _, F_l_due := fun_mk (st := s_l_due) L_l_due C_l_due K_l_due, b_l_due := (fun_mk (st := s_l_due) L_l_due C_l_due K_l_due).binds (ps := p_l_due) (fun _ _ _ _ _ _ us hl => match us, hl with | [_, _, _, _, _], _ => rfl), m_l_due := PySem.W.mg_of X G A_l_due,
    a_l_inside := f_l_inside, d_l_inside := _, F_l_inside := fun_mk (st := s_l_inside) L_l_inside C_l_inside K_l_inside, b_l_inside := (fun_mk (st := s_l_inside) L_l_inside C_l_inside K_l_inside).binds (ps := p_l_inside) (fun _ _ _ _ _ _ us hl => match us, hl with | [_, _], _ => rfl), m_l_inside := PySem.W.mg_of X G A_l_inside,
    a_l_same := f_l_same, d_l_same := _, F_l_same := fun_mk (st := s_l_same) L_l_same C_l_same K_l_same, b_l_same := (fun_mk (st := s_l_same) L_l_same C_l_same K_l_same).binds (ps := p_l_same) (fun _ _ _ _ _ _ us hl => match us, hl with | [_, _], _ => rfl), m_l_same := PySem.W.mg_of X G A_l_same,
    a_l_kept := f_l_kept, d_l_kept := _, F_l_kept := fun_mk (st := s_l_kept) L_l_kept C_l_kept K_l_kept, b_l_kept := (fun_mk (st := s_l_kept) L_l_kept C_l_kept K_l_kept).binds (ps := p_l_kept) (fun _ _ _ _ _ _ us hl => match us, hl with | [_, _], _ => rfl), m_l_kept := PySem.W.mg_of X G A_l_kept,
    a_l_asked := f_l_asked, d_l_asked := _, F_l_asked := fun_mk (st := s_l_asked) L_l_asked C_l_asked K_l_asked, b_l_asked := (fun_mk (st := s_l_asked) L_l_asked C_l_asked K_l_asked).binds (ps := p_l_asked) (fun _ _ _ _ _ _ us hl => match us, hl with | [_, _, _, _, _], _ => rfl), m_l_asked := PySem.W.mg_of X G A_l_asked,
    a_law := fa, d_law := _, F_law := fun_mk (st := s_law) L_law C_law K_law, b_law := (fun_mk (st := s_law) L_law C_law K_law).binds (ps := p_law) (fun _ _ _ _ _ _ us hl => match us, hl with | [_], _ => rfl), m_law := PySem.W.mg_of X G A_law,
    z_abs := PySem.W.mg_none_of X G Z_abs,
    z_any := PySem.W.mg_none_of X G Z_any,
    z_bool := PySem.W.mg_none_of X G Z_bool,
    z_dict := PySem.W.mg_none_of X G Z_dict,
    z_enumerate := PySem.W.mg_none_of X G Z_enumerate,
    z_int := PySem.W.mg_none_of X G Z_int,
    z_isinstance := PySem.W.mg_none_of X G Z_isinstance,
    z_len := PySem.W.mg_none_of X G Z_len,
    z_list := PySem.W.mg_none_of X G Z_list,
    z_max := PySem.W.mg_none_of X G Z_max,
    z_min := PySem.W.mg_none_of X G Z_min,
    z_range := PySem.W.mg_none_of X G Z_range,
    z_sorted := PySem.W.mg_none_of X G Z_sorted,
    z_str := PySem.W.mg_none_of X G Z_str,
    z_sum := PySem.W.mg_none_of X G Z_sum,
    z_tuple := PySem.W.mg_none_of X G Z_tuple,
    z_zip := PySem.W.mg_none_of X G Z_zip }
  refine ⟨PySem.W.fnOf "law" "law" (defArgs s_law) (defBody s_law) (defScope s_law) .none kV_law dc_law pm_law an_law cd_law ct_law, fun s v => .of_eq rfl, fun base _ _ => ok_law T⟩
theorem walk {l : PySem.W.OpenLaw} {q : Program} {loose : List Str} {XP : (Str → Option Value) → Heap → Prop} {YP : World → Heap → Prop} {d : DefRec} {K : Params → PySem.W.Frag} (hn : l.most = some 63) (hdf : d.params.defaults = [])
    (hY : ∀ (w : World) (h : Heap), YP w h → (K w.params).In h)
    (F : ∀ (w : World) (mg : Str → Option Value) (fa : Addr) (h : Heap), (K w.params).In h → h.Ns mainGlobals mg → mg d.name = some (.ref fa) →
      ∃ fd : FuncData, (∀ (s : Shared) (u : Value), BindsTo s fd ⟨[u], []⟩ [("_law_script", u)]) ∧ ∀ base : Heap, (K w.params).In base → base.Ns mainGlobals mg → FnOk l.prog w (K w.params) mg base CX0 38 fa fd ["_law_script"] (spLaw (K w.params))) :
    PySem.W.WalkO q loose XP YP l.row.toRowW d [] (fun f vs => PySem.call f vs) :=
  L2.walk_of (n := 63) (k := 38) (x := "_law_script") (CX := fun _ => CX0) (sp := fun w => spLaw (K w.params)) hn (by decide) hdf ⟨rfl, by decide, by decide⟩ hY F (fun _ _ a ns hl _ hS => ⟨a, ns, rfl, hS, hl, fun _ => rfl⟩) fun _ _ _ _ _ z => z
end Mine
open PySem PySem.W PyProof.Rows
set_option maxRecDepth 100000 in
set_option maxHeartbeats 0 in
theorem PySem.Challenge.cw_neverhappens_k26_whole_assume_holds : PySem.Challenge.rw_neverhappens_k26_whole_assume.Holds := by
  w_on; o_law; k_head; (case hw => w_witness2)
  k_fill
  refine Mine.walk (l := PySem.Challenge.rw_neverhappens_k26_whole_assume) rfl rfl (fun w h Y => PySem.W.kIn_of Y) ?F
  case F =>
    intro w mg fa h KX G hmg
    refine' Mine.all_mk KX G hmg ?A_frozen ?L_frozen ?C_frozen ?K_frozen ?A_bound ?L_bound ?C_bound ?K_bound ?A_join_boxes ?L_join_boxes ?C_join_boxes ?K_join_boxes ?A_range_of ?L_range_of ?C_range_of ?K_range_of ?A_constant_form ?L_constant_form ?C_constant_form ?K_constant_form ?A_column_form ?L_column_form ?C_column_form ?K_column_form ?A_sum_of_forms ?L_sum_of_forms ?C_sum_of_forms ?K_sum_of_forms ?A_form_times ?L_form_times ?C_form_times ?K_form_times ?A_difference_of_forms ?L_difference_of_forms ?C_difference_of_forms ?K_difference_of_forms ?A_used_columns ?L_used_columns ?C_used_columns ?K_used_columns ?A_difference_columns ?L_difference_columns ?C_difference_columns ?K_difference_columns ?A_range_of_form ?L_range_of_form ?C_range_of_form ?K_range_of_form ?A_occurs ?L_occurs ?C_occurs ?K_occurs ?A_form_of ?L_form_of ?C_form_of ?K_form_of ?A_product_form ?L_product_form ?C_product_form ?K_product_form ?A_evaluate ?L_evaluate ?C_evaluate ?K_evaluate ?A_apply ?L_apply ?C_apply ?K_apply ?A_at_most ?L_at_most ?C_at_most ?K_at_most ?A_at_least ?L_at_least ?C_at_least ?K_at_least ?A_equal_to ?L_equal_to ?C_equal_to ?K_equal_to ?A_assume ?L_assume ?C_assume ?K_assume ?A_assume_pair ?L_assume_pair ?C_assume_pair ?K_assume_pair ?A_compare ?L_compare ?C_compare ?K_compare ?A_l_cell ?L_l_cell ?C_l_cell ?K_l_cell ?A_l_source ?L_l_source ?C_l_source ?K_l_source ?A_l_pick ?L_l_pick ?C_l_pick ?K_l_pick ?A_l_one ?L_l_one ?C_l_one ?K_l_one ?A_l_names ?L_l_names ?C_l_names ?K_l_names ?A_l_far ?L_l_far ?C_l_far ?K_l_far ?A_l_words ?L_l_words ?C_l_words ?K_l_words ?A_l_order ?L_l_order ?C_l_order ?K_l_order ?A_l_number ?L_l_number ?C_l_number ?K_l_number ?A_l_value ?L_l_value ?C_l_value ?K_l_value ?A_l_values_at ?L_l_values_at ?C_l_values_at ?K_l_values_at ?A_l_belongs ?L_l_belongs ?C_l_belongs ?K_l_belongs ?A_l_grid ?L_l_grid ?C_l_grid ?K_l_grid ?A_l_box ?L_l_box ?C_l_box ?K_l_box ?A_l_points ?L_l_points ?C_l_points ?K_l_points ?A_l_part ?L_l_part ?C_l_part ?K_l_part ?A_l_spread ?L_l_spread ?C_l_spread ?K_l_spread ?A_l_has ?L_l_has ?C_l_has ?K_l_has ?A_l_corners ?L_l_corners ?C_l_corners ?K_l_corners ?A_l_form ?L_l_form ?C_l_form ?K_l_form ?A_l_add ?L_l_add ?C_l_add ?K_l_add ?A_l_known ?L_l_known ?C_l_known ?K_l_known ?A_l_reference ?L_l_reference ?C_l_reference ?K_l_reference ?A_l_num ?L_l_num ?C_l_num ?K_l_num ?A_l_side ?L_l_side ?C_l_side ?K_l_side ?A_l_compare ?L_l_compare ?C_l_compare ?K_l_compare ?A_l_chain ?L_l_chain ?C_l_chain ?K_l_chain ?A_l_truth ?L_l_truth ?C_l_truth ?K_l_truth ?A_l_lets ?L_l_lets ?C_l_lets ?K_l_lets ?A_l_cut ?L_l_cut ?C_l_cut ?K_l_cut ?A_l_joined ?L_l_joined ?C_l_joined ?K_l_joined ?A_l_compared ?L_l_compared ?C_l_compared ?K_l_compared ?A_l_due ?L_l_due ?C_l_due ?K_l_due ?A_l_inside ?L_l_inside ?C_l_inside ?K_l_inside ?A_l_same ?L_l_same ?C_l_same ?K_l_same ?A_l_kept ?L_l_kept ?C_l_kept ?K_l_kept ?A_l_asked ?L_l_asked ?C_l_asked ?K_l_asked ?A_law ?L_law ?C_law ?K_law ?Z_abs ?Z_any ?Z_bool ?Z_dict ?Z_enumerate ?Z_int ?Z_isinstance ?Z_len ?Z_list ?Z_max ?Z_min ?Z_range ?Z_sorted ?Z_str ?Z_sum ?Z_tuple ?Z_zip
    (case A_frozen => k_is)
    (case L_frozen => k_is)
    (case C_frozen => k_is)
    (case K_frozen => k_is)
    (case A_bound => k_is)
    (case L_bound => k_is)
    (case C_bound => k_is)
    (case K_bound => k_is)
    (case A_join_boxes => k_is)
    (case L_join_boxes => k_is)
    (case C_join_boxes => k_is)
    (case K_join_boxes => k_is)
    (case A_range_of => k_is)
    (case L_range_of => k_is)
    (case C_range_of => k_is)
    (case K_range_of => k_is)
    (case A_constant_form => k_is)
    (case L_constant_form => k_is)
    (case C_constant_form => k_is)
    (case K_constant_form => k_is)
    (case A_column_form => k_is)
    (case L_column_form => k_is)
    (case C_column_form => k_is)
    (case K_column_form => k_is)
    (case A_sum_of_forms => k_is)
    (case L_sum_of_forms => k_is)
    (case C_sum_of_forms => k_is)
    (case K_sum_of_forms => k_is)
    (case A_form_times => k_is)
    (case L_form_times => k_is)
    (case C_form_times => k_is)
    (case K_form_times => k_is)
    (case A_difference_of_forms => k_is)
    (case L_difference_of_forms => k_is)
    (case C_difference_of_forms => k_is)
    (case K_difference_of_forms => k_is)
    (case A_used_columns => k_is)
    (case L_used_columns => k_is)
    (case C_used_columns => k_is)
    (case K_used_columns => k_is)
    (case A_difference_columns => k_is)
    (case L_difference_columns => k_is)
    (case C_difference_columns => k_is)
    (case K_difference_columns => k_is)
    (case A_range_of_form => k_is)
    (case L_range_of_form => k_is)
    (case C_range_of_form => k_is)
    (case K_range_of_form => k_is)
    (case A_occurs => k_is)
    (case L_occurs => k_is)
    (case C_occurs => k_is)
    (case K_occurs => k_is)
    (case A_form_of => k_is)
    (case L_form_of => k_is)
    (case C_form_of => k_is)
    (case K_form_of => k_is)
    (case A_product_form => k_is)
    (case L_product_form => k_is)
    (case C_product_form => k_is)
    (case K_product_form => k_is)
    (case A_evaluate => k_is)
    (case L_evaluate => k_is)
    (case C_evaluate => k_is)
    (case K_evaluate => k_is)
    (case A_apply => k_is)
    (case L_apply => k_is)
    (case C_apply => k_is)
    (case K_apply => k_is)
    (case A_at_most => k_is)
    (case L_at_most => k_is)
    (case C_at_most => k_is)
    (case K_at_most => k_is)
    (case A_at_least => k_is)
    (case L_at_least => k_is)
    (case C_at_least => k_is)
    (case K_at_least => k_is)
    (case A_equal_to => k_is)
    (case L_equal_to => k_is)
    (case C_equal_to => k_is)
    (case K_equal_to => k_is)
    (case A_assume => k_is)
    (case L_assume => k_is)
    (case C_assume => k_is)
    (case K_assume => k_is)
    (case A_assume_pair => k_is)
    (case L_assume_pair => k_is)
    (case C_assume_pair => k_is)
    (case K_assume_pair => k_is)
    (case A_compare => k_is)
    (case L_compare => k_is)
    (case C_compare => k_is)
    (case K_compare => k_is)
    (case A_l_cell => k_is)
    (case L_l_cell => k_is)
    (case C_l_cell => k_is)
    (case K_l_cell => k_is)
    (case A_l_source => k_is)
    (case L_l_source => k_is)
    (case C_l_source => k_is)
    (case K_l_source => k_is)
    (case A_l_pick => k_is)
    (case L_l_pick => k_is)
    (case C_l_pick => k_is)
    (case K_l_pick => k_is)
    (case A_l_one => k_is)
    (case L_l_one => k_is)
    (case C_l_one => k_is)
    (case K_l_one => k_is)
    (case A_l_names => k_is)
    (case L_l_names => k_is)
    (case C_l_names => k_is)
    (case K_l_names => k_is)
    (case A_l_far => k_is)
    (case L_l_far => k_is)
    (case C_l_far => k_is)
    (case K_l_far => k_is)
    (case A_l_words => k_is)
    (case L_l_words => k_is)
    (case C_l_words => k_is)
    (case K_l_words => k_is)
    (case A_l_order => k_is)
    (case L_l_order => k_is)
    (case C_l_order => k_is)
    (case K_l_order => k_is)
    (case A_l_number => k_is)
    (case L_l_number => k_is)
    (case C_l_number => k_is)
    (case K_l_number => k_is)
    (case A_l_value => k_is)
    (case L_l_value => k_is)
    (case C_l_value => k_is)
    (case K_l_value => k_is)
    (case A_l_values_at => k_is)
    (case L_l_values_at => k_is)
    (case C_l_values_at => k_is)
    (case K_l_values_at => k_is)
    (case A_l_belongs => k_is)
    (case L_l_belongs => k_is)
    (case C_l_belongs => k_is)
    (case K_l_belongs => k_is)
    (case A_l_grid => k_is)
    (case L_l_grid => k_is)
    (case C_l_grid => k_is)
    (case K_l_grid => k_is)
    (case A_l_box => k_is)
    (case L_l_box => k_is)
    (case C_l_box => k_is)
    (case K_l_box => k_is)
    (case A_l_points => k_is)
    (case L_l_points => k_is)
    (case C_l_points => k_is)
    (case K_l_points => k_is)
    (case A_l_part => k_is)
    (case L_l_part => k_is)
    (case C_l_part => k_is)
    (case K_l_part => k_is)
    (case A_l_spread => k_is)
    (case L_l_spread => k_is)
    (case C_l_spread => k_is)
    (case K_l_spread => k_is)
    (case A_l_has => k_is)
    (case L_l_has => k_is)
    (case C_l_has => k_is)
    (case K_l_has => k_is)
    (case A_l_corners => k_is)
    (case L_l_corners => k_is)
    (case C_l_corners => k_is)
    (case K_l_corners => k_is)
    (case A_l_form => k_is)
    (case L_l_form => k_is)
    (case C_l_form => k_is)
    (case K_l_form => k_is)
    (case A_l_add => k_is)
    (case L_l_add => k_is)
    (case C_l_add => k_is)
    (case K_l_add => k_is)
    (case A_l_known => k_is)
    (case L_l_known => k_is)
    (case C_l_known => k_is)
    (case K_l_known => k_is)
    (case A_l_reference => k_is)
    (case L_l_reference => k_is)
    (case C_l_reference => k_is)
    (case K_l_reference => k_is)
    (case A_l_num => k_is)
    (case L_l_num => k_is)
    (case C_l_num => k_is)
    (case K_l_num => k_is)
    (case A_l_side => k_is)
    (case L_l_side => k_is)
    (case C_l_side => k_is)
    (case K_l_side => k_is)
    (case A_l_compare => k_is)
    (case L_l_compare => k_is)
    (case C_l_compare => k_is)
    (case K_l_compare => k_is)
    (case A_l_chain => k_is)
    (case L_l_chain => k_is)
    (case C_l_chain => k_is)
    (case K_l_chain => k_is)
    (case A_l_truth => k_is)
    (case L_l_truth => k_is)
    (case C_l_truth => k_is)
    (case K_l_truth => k_is)
    (case A_l_lets => k_is)
    (case L_l_lets => k_is)
    (case C_l_lets => k_is)
    (case K_l_lets => k_is)
    (case A_l_cut => k_is)
    (case L_l_cut => k_is)
    (case C_l_cut => k_is)
    (case K_l_cut => k_is)
    (case A_l_joined => k_is)
    (case L_l_joined => k_is)
    (case C_l_joined => k_is)
    (case K_l_joined => k_is)
    (case A_l_compared => k_is)
    (case L_l_compared => k_is)
    (case C_l_compared => k_is)
    (case K_l_compared => k_is)
    (case A_l_due => k_is)
    (case L_l_due => k_is)
    (case C_l_due => k_is)
    (case K_l_due => k_is)
    (case A_l_inside => k_is)
    (case L_l_inside => k_is)
    (case C_l_inside => k_is)
    (case K_l_inside => k_is)
    (case A_l_same => k_is)
    (case L_l_same => k_is)
    (case C_l_same => k_is)
    (case K_l_same => k_is)
    (case A_l_kept => k_is)
    (case L_l_kept => k_is)
    (case C_l_kept => k_is)
    (case K_l_kept => k_is)
    (case A_l_asked => k_is)
    (case L_l_asked => k_is)
    (case C_l_asked => k_is)
    (case K_l_asked => k_is)
    (case A_law => k_is)
    (case L_law => k_is)
    (case C_law => k_is)
    (case K_law => k_is)
    (case Z_abs => k_is)
    (case Z_any => k_is)
    (case Z_bool => k_is)
    (case Z_dict => k_is)
    (case Z_enumerate => k_is)
    (case Z_int => k_is)
    (case Z_isinstance => k_is)
    (case Z_len => k_is)
    (case Z_list => k_is)
    (case Z_max => k_is)
    (case Z_min => k_is)
    (case Z_range => k_is)
    (case Z_sorted => k_is)
    (case Z_str => k_is)
    (case Z_sum => k_is)
    (case Z_tuple => k_is)
    (case Z_zip => k_is)
#print axioms PySem.Challenge.cw_neverhappens_k26_whole_assume_holds
