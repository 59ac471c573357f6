import PyProof.Rows.All
import Wide.All
import OpenK.AllK
import Wide.FinOn
import HandS.ForMost
import HandS.IsInst
import HandS.FStr
import HandS.Codes
import HandS.Star
import HandS.Zip
import HandS.More
import HandS.Defaults
import HandS.Rev
import HandS.Walk
import HandS.TupAny
import HandS.Style
import HandS.Iter
import HandS.Conv
import KE.KTurns
import PySem.Challenge.RW_neverhappens_k20_inside_and_points
set_option Elab.async false
set_option linter.all false
set_option maxRecDepth 100000
set_option maxHeartbeats 4000000
namespace ZG
open PySem PySem.Spec PyProof.Rows L2
/-! ### zip of two rows, each a list or a tuple; the target any -/
def ItAt (t : Bool) (h : Heap) (i l : Addr) (k : Nat) : Prop := match t with
  | true => h.IsTupleIter i l k
  | false => h.IsListIter i l k
def SeqIs (t : Bool) (h : Heap) (l : Addr) (xs : Array Value) : Prop := match t with
  | true => h.IsTuple l xs
  | false => h.IsList l xs
def Sq (t : Bool) (K : PySem.W.Frag) (H : Hp) (a : Addr) (xs : List V) : Prop := match t with
  | true => SqT K H a xs
  | false => SqL K H a xs
theorem ItAt.on {t : Bool} {h h' : Heap} {i l : Addr} {k : Nat} (x : ItAt t h i l k) (e : ∀ o, h.get? i = some o → h'.get? i = some o) : ItAt t h' i l k := by
  cases t
  · exact Heap.IsListIter.at x e
  · exact Heap.IsTupleIter.at x e
theorem ItAt.get {t : Bool} {h : Heap} {i l : Addr} {k : Nat} (x : ItAt t h i l k) : ∃ o fs, h.get? i = some o ∧ o.data = .fields fs := by
  cases t <;> (obtain ⟨o, e, _, d⟩ := x; exact ⟨o, _, e, d⟩)
theorem SeqIs.on {t : Bool} {h h' : Heap} {b l : Addr} {xs : Array Value} (x : SeqIs t h l xs) (hs : Heap.ExtBut b h h') (ne : l ≠ b) : SeqIs t h' l xs := by
  cases t
  · exact Heap.IsList.extBut x hs ne
  · exact Heap.IsTuple.extBut x hs ne
theorem SeqIs.push {t : Bool} {h : Heap} {l : Addr} {xs : Array Value} (x : SeqIs t h l xs) (o : Obj) : SeqIs t (h.push o) l xs := by
  cases t
  · exact Heap.IsList.push x o
  · exact Heap.IsTuple.push x o
theorem SeqIs.lt {t : Bool} {h : Heap} {l : Addr} {xs : Array Value} (x : SeqIs t h l xs) : l < h.objs.size := by
  cases t <;> (obtain ⟨o, e, _⟩ := x; exact Heap.lt_size e)
abbrev itObj (t : Bool) (l : Addr) : Obj := { cls := .type (if t then "tuple_iterator" else "list_iterator"), data := .fields #[.ref l, .int 0 0] }
theorem itAt_new (t : Bool) {h : Heap} {i l : Addr} (e : h.get? i = some (itObj t l)) : ItAt t h i l 0 := by
  cases t <;> exact ⟨_, e, rfl, rfl⟩
section
variable {prog : Program} {w : World} {A : Around} {E : Value → Shared → Prop} {s : Shared}
theorem nextIn_item {t : Bool} {i l : Addr} {k : Nat} {xs : Array Value} {x : Value} {Q : Value → Shared → Prop} (h1 : ItAt t s.heap i l k) (h2 : SeqIs t s.heap l xs) (hx : xs[k]? = some x)
    (q : ∀ h', ItAt t h' i l (k + 1) → Heap.SameBut i s.heap h' → Q x { s with heap := h' }) : wpAny (model prog w) A (Builtin.SmallTypes.nextOf (.ref i)) Q E s := by
  cases t
  · exact wpAny_nextOf_list_item h1 h2 hx q
  · exact RZ.nextOf_tuple_item h1 h2 hx q
theorem nextIn_end {t : Bool} {i l : Addr} {k : Nat} {xs : Array Value} {Q : Value → Shared → Prop} (hh : A.handled = none) (h1 : ItAt t s.heap i l k) (h2 : SeqIs t s.heap l xs) (hx : xs[k]? = none)
    (q : ∀ h' e, Heap.ExtBut i s.heap h' → (∃ o, h'.get? e = some o ∧ o.cls = .type "StopIteration") → E (.ref e) { s with heap := h' }) : wpAny (model prog w) A (Builtin.SmallTypes.nextOf (.ref i)) Q E s := by
  cases t
  · exact wpAny_nextOf_list_end hh h1 h2 hx q
  · exact RZ.nextOf_tuple_end hh h1 h2 hx q
/-- the zip at z: f0 tells which tuple it gave out -/
abbrev ZipSt (h : Heap) (z TI TO : Addr) (f0 : Value) (f : Bool) : Prop :=
  h.get? z = some { cls := .type "zip", dict := none, data := .fields #[f0, .bool f, .bool false, .ref TI, .ref TO], slots := #[] }
def Gave (f0 : Value) : Prop := f0 = .none ∨ ∃ T : Addr, f0 = rawInt T
theorem gave_free {z TI TO : Addr} {f0 : Value} {f : Bool} {Q : Bool → Shared → Prop} (hz : ZipSt s.heap z TI TO f0 f) (g : Gave f0) (q1 : Q true s)
    (q2 : ∀ h', ZipSt h' z TI TO f0 true → Heap.SameBut z s.heap h' → Q false { s with heap := h' }) : wpAny (model prog w) A (Builtin.SmallTypes.ownedTupleIsFree (.ref z)) Q E s := by
  unfold Builtin.SmallTypes.ownedTupleIsFree
  rcases g with rfl | ⟨T, rfl⟩
  · exact wpAny_bind (wpAny_field hz rfl (x := .none) rfl (wpAny_pure q1))
  refine wpAny_bind (wpAny_field hz rfl (x := rawInt T) rfl ?_)
  show wpAny _ _ (loadIfAlive ((T : Int).toNat) >>= _) _ _ _
  rw [Int.toNat_natCast]
  have k : ∀ {Q' : Option Obj → Shared → Prop}, Q' (s.heap.get? T) s → wpAny (model prog w) A (loadIfAlive T) Q' E s := fun h => fun _ _ _ => h
  refine wpAny_bind (k ?_)
  cases s.heap.get? T with
  | none =>
    simp only [Option.isNone_none, if_true]
    exact wpAny_pure q1
  | some oT =>
    simp only [Option.isNone_some, Bool.false_eq_true, if_false]
    refine wpAny_bind (wpAny_field hz rfl (x := .bool f) rfl ?_)
    cases f with
    | true =>
      rw [if_neg (show ¬ ((Value.bool true != Value.bool true) = true) from Bool.false_ne_true)]
      exact wpAny_pure (q2 s.heap hz (Heap.SameBut.refl _ _))
    | false =>
      rw [if_pos (show (Value.bool false != Value.bool true) = true from rfl)]
      exact wpAny_bind (wpAny_setField_rec hz (by simp) fun h₁ z1 s1 => wpAny_pure (q2 h₁ z1 s1))
/-- a zip that has an item left -/
theorem zipG_item {t1 t2 : Bool} {z TI TO i1 i2 l1 l2 : Addr} {f0 : Value} {f : Bool} {k1 k2 : Nat} {xs ys : Array Value} {x y a b : Value} {Q : Option Value → Shared → Prop} (D : ZipApart z TI TO i1 i2 l1 l2)
    (hz : ZipSt s.heap z TI TO f0 f) (g : Gave f0) (hTI : IsPair s.heap TI (.ref i1) (.ref i2)) (hTO : IsPair s.heap TO a b)
    (h1 : ItAt t1 s.heap i1 l1 k1) (h2 : ItAt t2 s.heap i2 l2 k2) (hl1 : SeqIs t1 s.heap l1 xs) (hl2 : SeqIs t2 s.heap l2 ys) (hx : xs[k1]? = some x) (hy : ys[k2]? = some y)
    (hQ : ∀ h' f0' f', ZipSt h' z TI TO f0' f' → Gave f0' → (∃ a b, IsPair h' TO a b) → ItAt t1 h' i1 l1 (k1 + 1) → ItAt t2 h' i2 l2 (k2 + 1) → IsPair h' s.heap.objs.size x y → h'.objs.size = s.heap.objs.size + 1 →
      (∀ c o, c ≠ z → c ≠ TO → c ≠ i1 → c ≠ i2 → s.heap.get? c = some o → h'.get? c = some o) → Q (some (.ref s.heap.objs.size)) { s with heap := h' }) :
    wpAny (model prog w) A (pyNext (.ref z)) Q E s := by
  have hT : s.TypeIs (.ref z) "zip" := ⟨_, hz, rfl⟩
  unfold pyNext
  refine wpAny_bind (wpAny_attempt (wpAny_callSpecial?_slot (name := Str.ofString "__next__") hT F.slot_zip_next (wpAny_call_entry F.slot_zip_next hT F.entry_zip_next ?_ (F.args_zip_next_1 _))))
  show wpAny _ _ (field (.ref z) 2 >>= _) _ _ _
  refine wpAny_bind (wpAny_field hz rfl (x := .bool false) rfl ?_)
  show wpAny _ _ (field (.ref z) 3 >>= _) _ _ _
  refine wpAny_bind (wpAny_field hz rfl (x := .ref TI) rfl ?_)
  refine wpAny_bind (wpAny_seqItems hTI rfl ?_)
  refine wpAny_bind (gave_free (z := z) hz g ?free fun u1 z1 s1 => ?held)
  case free =>
    simp only [if_true]
    refine wpAny_bind (wpAny_rule ?_)
    refine wpAny_bind (wpAny_field hz rfl (x := .ref TO) rfl ?_)
    refine wpAny_bind (wpAny_setField_rec hz (by simp) fun u1 z1 s1 => ?_)
    replace z1 : ZipSt u1 z TI TO .ellipsis f := z1
    refine wpAny_bind ?_
    simp only [List.zipIdx_cons, List.zipIdx_nil, List.forIn_cons, List.forIn_nil]
    refine wpAny_bind (wpAny_bind (wpAny_onRaise ?_))
    show wpAny _ _ (Builtin.SmallTypes.nextOf (.ref i1) >>= _) _ _ _
    refine wpAny_bind (nextIn_item (h1.on fun o e => s1.extBut _ _ D.i1z e) (hl1.on s1.extBut D.l1z) hx fun u2 a2 s2 => wpAny_pure ?_)
    have p2 : IsPair u2 TO a b := s2.extBut _ _ D.TOi1 (s1.extBut _ _ D.TOz hTO)
    refine wpAny_bind (wpAny_seqItems p2 rfl ?_)
    refine wpAny_bind (wpAny_updateSeq_pair p2 fun u3 p3 s3 => ?_)
    replace p3 : IsPair u3 TO x b := p3
    refine wpAny_bind (wpAny_letGo (wpAny_pure ?_))
    refine wpAny_bind (wpAny_bind (wpAny_onRaise ?_))
    show wpAny _ _ (Builtin.SmallTypes.nextOf (.ref i2) >>= _) _ _ _
    refine wpAny_bind (nextIn_item (h2.on fun o e => s3.extBut _ _ D.TOi2.symm (s2.extBut _ _ D.i12.symm (s1.extBut _ _ D.i2z e)))
      (((hl2.on s1.extBut D.l2z).on s2.extBut D.l2i1).on s3.extBut D.l2TO) hy fun u4 a4 s4 => wpAny_pure ?_)
    have p4 : IsPair u4 TO x b := s4.extBut _ _ D.TOi2 p3
    refine wpAny_bind (wpAny_seqItems p4 rfl ?_)
    refine wpAny_bind (wpAny_updateSeq_pair p4 fun u5 p5 s5 => ?_)
    replace p5 : IsPair u5 TO x y := p5
    refine wpAny_bind (wpAny_letGo (wpAny_pure (wpAny_pure ?_)))
    refine wpAny_bind (wpAny_seqItems p5 rfl ?_)
    refine wpAny_bind (wpAny_newTuple ?_)
    have sz : u5.objs.size = s.heap.objs.size := by rw [s5.1, s4.1, s3.1, s2.1, s1.1]
    have z5 : ZipSt u5 z TI TO .ellipsis f := s5.extBut _ _ D.TOz.symm (s4.extBut _ _ D.i2z.symm (s3.extBut _ _ D.TOz.symm (s2.extBut _ _ D.i1z.symm z1)))
    have k5 : ∀ c o, c ≠ z → c ≠ TO → c ≠ i1 → c ≠ i2 → s.heap.get? c = some o → u5.get? c = some o := fun c o c1 c2 c3 c4 e =>
      s5.extBut _ _ c2 (s4.extBut _ _ c4 (s3.extBut _ _ c2 (s2.extBut _ _ c3 (s1.extBut _ _ c1 e))))
    have b1 : ItAt t1 u5 i1 l1 (k1 + 1) := a2.on fun o e => s5.extBut _ _ D.TOi1.symm (s4.extBut _ _ D.i12 (s3.extBut _ _ D.TOi1.symm e))
    have b2 : ItAt t2 u5 i2 l2 (k2 + 1) := a4.on fun o e => s5.extBut _ _ D.TOi2.symm e
    have zl : z < u5.objs.size := Heap.lt_size z5
    show wpAny _ _ (Builtin.SmallTypes.ownedTupleHandOut (.ref z) (.ref u5.objs.size) >>= _) _ _ _
    refine wpAny_bind ?_
    unfold Builtin.SmallTypes.ownedTupleHandOut
    have z6 : ZipSt (u5.push { cls := .type "tuple", data := .seq #[x, y] }) z TI TO .ellipsis f := Heap.get?_push_of_some _ z5
    refine wpAny_bind (wpAny_setField_rec z6 (by simp) fun u7 z7 s7 => ?_)
    replace z7 : ZipSt u7 z TI TO (rawInt u5.objs.size) f := z7
    refine wpAny_setField_rec z7 (by simp) fun u8 z8 s8 => ?_
    replace z8 : ZipSt u8 z TI TO (rawInt u5.objs.size) false := z8
    have up : ∀ c o, c ≠ z → u5.get? c = some o → u8.get? c = some o := fun c o c1 e => s8.extBut _ _ c1 (s7.extBut _ _ c1 (Heap.get?_push_of_some _ e))
    have t8 : IsPair u8 u5.objs.size x y := s8.extBut _ _ (Nat.ne_of_gt zl) (s7.extBut _ _ (Nat.ne_of_gt zl) (Heap.get?_push_size _ rfl))
    have n8 : u8.objs.size = u5.objs.size + 1 := by rw [s8.1, s7.1, Heap.size_push]
    rw [sz] at z8 t8 n8
    refine wpAny_pure ⟨_, rfl, wpAny_pure ?_⟩
    show Q (some (.ref u5.objs.size)) _
    rw [sz]
    exact hQ u8 _ _ z8 (.inr ⟨_, rfl⟩) ⟨_, _, up _ _ D.TOz p5⟩ (b1.on fun o e => up _ o D.i1z e) (b2.on fun o e => up _ o D.i2z e) t8 n8 fun c o c1 c2 c3 c4 e => up c o c1 (k5 c o c1 c2 c3 c4 e)
  case held =>
    simp only [Bool.false_eq_true, if_false]
    refine wpAny_bind ?_
    rw [← Array.forIn_toList]
    simp only [List.forIn_cons, List.forIn_nil]
    refine wpAny_bind (wpAny_bind (wpAny_holding ?_))
    show wpAny _ _ (Builtin.SmallTypes.nextOf (.ref i1) >>= _) _ _ _
    refine wpAny_bind (nextIn_item (s := { s with heap := u1 }) (h1.on fun o e => s1.extBut _ _ D.i1z e) (hl1.on s1.extBut D.l1z) hx fun u2 a2 s2 => wpAny_pure ?_)
    refine wpAny_pure ?_
    refine wpAny_bind (wpAny_bind (wpAny_holding ?_))
    show wpAny _ _ (Builtin.SmallTypes.nextOf (.ref i2) >>= _) _ _ _
    refine wpAny_bind (nextIn_item (s := { s with heap := u2 }) (h2.on fun o e => s2.extBut _ _ D.i12.symm (s1.extBut _ _ D.i2z e)) ((hl2.on s1.extBut D.l2z).on s2.extBut D.l2i1) hy fun u3 a3 s3 => wpAny_pure ?_)
    refine wpAny_pure (wpAny_pure ?_)
    show wpAny _ _ (newTuple [x, y] >>= _) _ _ _
    refine wpAny_bind (wpAny_newTuple ?_)
    have sz : u3.objs.size = s.heap.objs.size := by rw [s3.1, s2.1, s1.1]
    have z3 : ZipSt u3 z TI TO f0 true := s3.extBut _ _ D.i2z.symm (s2.extBut _ _ D.i1z.symm z1)
    have k3 : ∀ c o, c ≠ z → c ≠ TO → c ≠ i1 → c ≠ i2 → s.heap.get? c = some o → u3.get? c = some o := fun c o c1 _ c2 c3 e => s3.extBut _ _ c3 (s2.extBut _ _ c2 (s1.extBut _ _ c1 e))
    have b1 : ItAt t1 u3 i1 l1 (k1 + 1) := a2.on fun o e => s3.extBut _ _ D.i12 e
    refine wpAny_pure ⟨_, rfl, wpAny_pure ?_⟩
    show Q (some (.ref u3.objs.size)) _
    have hp : IsPair (u3.push { cls := .type "tuple", data := .seq #[x, y] }) u3.objs.size x y := Heap.get?_push_size _ rfl
    have n4 : (u3.push { cls := .type "tuple", data := .seq #[x, y] }).objs.size = u3.objs.size + 1 := Heap.size_push ..
    have pTO : IsPair u3 TO a b := s3.extBut _ _ D.TOi2 (s2.extBut _ _ D.TOi1 (s1.extBut _ _ D.TOz hTO))
    rw [sz] at hp n4 ⊢
    exact hQ _ _ _ (Heap.get?_push_of_some _ z3) g ⟨a, b, Heap.get?_push_of_some _ pTO⟩ (b1.on fun o e => Heap.get?_push_of_some _ e) (a3.on fun o e => Heap.get?_push_of_some _ e) hp n4 fun c o c1 c2 c3 c4 e => Heap.get?_push_of_some _ (k3 c o c1 c2 c3 c4 e)
/-- a zip that is through -/
theorem zipG_end {t1 t2 : Bool} {z TI TO i1 i2 l1 l2 : Addr} {f0 : Value} {f : Bool} {k1 k2 : Nat} {xs ys : Array Value} {a b : Value} {Q : Option Value → Shared → Prop} (hh : A.handled = none) (D : ZipApart z TI TO i1 i2 l1 l2)
    (hz : ZipSt s.heap z TI TO f0 f) (g : Gave f0) (hTI : IsPair s.heap TI (.ref i1) (.ref i2)) (hTO : IsPair s.heap TO a b)
    (h1 : ItAt t1 s.heap i1 l1 k1) (h2 : ItAt t2 s.heap i2 l2 k2) (hl1 : SeqIs t1 s.heap l1 xs) (hl2 : SeqIs t2 s.heap l2 ys) (hend : xs[k1]? = none ∨ ys[k2]? = none)
    (hQ : ∀ h', (∀ c o, c ≠ z → c ≠ TO → c ≠ i1 → c ≠ i2 → s.heap.get? c = some o → h'.get? c = some o) → Q none { s with heap := h' }) :
    wpAny (model prog w) A (pyNext (.ref z)) Q E s := by
  have hT : s.TypeIs (.ref z) "zip" := ⟨_, hz, rfl⟩
  have fin : ∀ (h' : Heap) (e : Addr), (∀ c o, c ≠ z → c ≠ TO → c ≠ i1 → c ≠ i2 → s.heap.get? c = some o → h'.get? c = some o) → (∃ o, h'.get? e = some o ∧ o.cls = .type "StopIteration") →
      wpAny (model prog w) A (isInstance (.ref e) (.type "StopIteration")) (fun v s' => v = true ∧ s' = { s with heap := h' }) E { s with heap := h' } := fun h' e _ he => by
    obtain ⟨o, ho, hc⟩ := he
    exact wpAny_isInstance (T := "StopIteration") (b := true) ⟨o, ho, hc⟩ isSubtype_stop ⟨rfl, rfl⟩
  unfold pyNext
  refine wpAny_bind (wpAny_attempt (wpAny_callSpecial?_slot (name := Str.ofString "__next__") hT F.slot_zip_next (wpAny_call_entry F.slot_zip_next hT F.entry_zip_next ?_ (F.args_zip_next_1 _))))
  show wpAny _ _ (field (.ref z) 2 >>= _) _ _ _
  refine wpAny_bind (wpAny_field hz rfl (x := .bool false) rfl ?_)
  show wpAny _ _ (field (.ref z) 3 >>= _) _ _ _
  refine wpAny_bind (wpAny_field hz rfl (x := .ref TI) rfl ?_)
  refine wpAny_bind (wpAny_seqItems hTI rfl ?_)
  refine wpAny_bind (gave_free (z := z) hz g ?free fun u1 z1 s1 => ?held)
  case free =>
    simp only [if_true]
    refine wpAny_bind (wpAny_rule ?_)
    refine wpAny_bind (wpAny_field hz rfl (x := .ref TO) rfl ?_)
    refine wpAny_bind (wpAny_setField_rec hz (by simp) fun u1 z1 s1 => ?_)
    replace z1 : ZipSt u1 z TI TO .ellipsis f := z1
    refine wpAny_bind ?_
    simp only [List.zipIdx_cons, List.zipIdx_nil, List.forIn_cons, List.forIn_nil]
    refine wpAny_bind (wpAny_bind (wpAny_onRaise ?_))
    show wpAny _ _ (Builtin.SmallTypes.nextOf (.ref i1) >>= _) _ _ _
    cases hx : xs[k1]? with
    | none =>
      refine wpAny_bind (nextIn_end hh (h1.on fun o e => s1.extBut _ _ D.i1z e) (hl1.on s1.extBut D.l1z) hx fun u2 e s2 he => ?_)
      obtain ⟨oe, hoe, hce⟩ := he
      have z2 : ZipSt u2 z TI TO .ellipsis f := s2 _ _ D.i1z.symm z1
      have hez : e ≠ z := fun x => by subst x; rw [z2] at hoe; cases hoe; simp at hce
      refine wpAny_setField_rec z2 (by simp) fun u3 _ s3 => ?_
      refine wpAny_bind (wpAny_isInstance (T := "StopIteration") (b := true) ⟨oe, s3.extBut _ _ hez hoe, hce⟩ isSubtype_stop ?_)
      exact wpAny_pure (hQ u3 fun c o c1 _ c3 _ x => s3.extBut _ _ c1 (s2 _ _ c3 (s1.extBut _ _ c1 x)))
    | some x =>
      have hy : ys[k2]? = none := by rcases hend with h | h; rw [hx] at h; cases h; exact h
      refine wpAny_bind (nextIn_item (h1.on fun o e => s1.extBut _ _ D.i1z e) (hl1.on s1.extBut D.l1z) hx fun u2 a2 s2 => wpAny_pure ?_)
      have p2 : IsPair u2 TO a b := s2.extBut _ _ D.TOi1 (s1.extBut _ _ D.TOz hTO)
      refine wpAny_bind (wpAny_seqItems p2 rfl ?_)
      refine wpAny_bind (wpAny_updateSeq_pair p2 fun u3 p3 s3 => ?_)
      refine wpAny_bind (wpAny_letGo (wpAny_pure ?_))
      refine wpAny_bind (wpAny_bind (wpAny_onRaise ?_))
      show wpAny _ _ (Builtin.SmallTypes.nextOf (.ref i2) >>= _) _ _ _
      refine wpAny_bind (nextIn_end hh (h2.on fun o e => s3.extBut _ _ D.TOi2.symm (s2.extBut _ _ D.i12.symm (s1.extBut _ _ D.i2z e)))
        (((hl2.on s1.extBut D.l2z).on s2.extBut D.l2i1).on s3.extBut D.l2TO) hy fun u4 e s4 he => ?_)
      obtain ⟨oe, hoe, hce⟩ := he
      have z4 : ZipSt u4 z TI TO .ellipsis f := s4 _ _ D.i2z.symm (s3.extBut _ _ D.TOz.symm (s2.extBut _ _ D.i1z.symm z1))
      have hez : e ≠ z := fun x => by subst x; rw [z4] at hoe; cases hoe; simp at hce
      refine wpAny_setField_rec z4 (by simp) fun u5 _ s5 => ?_
      refine wpAny_bind (wpAny_isInstance (T := "StopIteration") (b := true) ⟨oe, s5.extBut _ _ hez hoe, hce⟩ isSubtype_stop ?_)
      exact wpAny_pure (hQ u5 fun c o c1 c2 c3 c4 x => s5.extBut _ _ c1 (s4 _ _ c4 (s3.extBut _ _ c2 (s2.extBut _ _ c3 (s1.extBut _ _ c1 x)))))
  case held =>
    simp only [Bool.false_eq_true, if_false]
    refine wpAny_bind ?_
    rw [← Array.forIn_toList]
    simp only [List.forIn_cons, List.forIn_nil]
    refine wpAny_bind (wpAny_bind (wpAny_holding ?_))
    show wpAny _ _ (Builtin.SmallTypes.nextOf (.ref i1) >>= _) _ _ _
    cases hx : xs[k1]? with
    | none =>
      refine wpAny_bind (nextIn_end (s := { s with heap := u1 }) hh (h1.on fun o e => s1.extBut _ _ D.i1z e) (hl1.on s1.extBut D.l1z) hx fun u2 e s2 he => ?_)
      obtain ⟨oe, hoe, hce⟩ := he
      refine wpAny_bind (wpAny_isInstance (T := "StopIteration") (b := true) ⟨oe, hoe, hce⟩ isSubtype_stop ?_)
      exact wpAny_pure (hQ u2 fun c o c1 _ c3 _ x => s2 _ _ c3 (s1.extBut _ _ c1 x))
    | some x =>
      have hy : ys[k2]? = none := by rcases hend with h | h; rw [hx] at h; cases h; exact h
      refine wpAny_bind (nextIn_item (s := { s with heap := u1 }) (h1.on fun o e => s1.extBut _ _ D.i1z e) (hl1.on s1.extBut D.l1z) hx fun u2 a2 s2 => wpAny_pure ?_)
      refine wpAny_pure ?_
      refine wpAny_bind (wpAny_bind (wpAny_holding ?_))
      show wpAny _ _ (Builtin.SmallTypes.nextOf (.ref i2) >>= _) _ _ _
      refine wpAny_bind (nextIn_end (s := { s with heap := u2 }) hh (h2.on fun o e => s2.extBut _ _ D.i12.symm (s1.extBut _ _ D.i2z e)) ((hl2.on s1.extBut D.l2z).on s2.extBut D.l2i1) hy fun u3 e s3 he => ?_)
      obtain ⟨oe, hoe, hce⟩ := he
      refine wpAny_bind (wpAny_isInstance (T := "StopIteration") (b := true) ⟨oe, hoe, hce⟩ isSubtype_stop ?_)
      exact wpAny_pure (hQ u3 fun c o c1 _ c3 c4 x => s3 _ _ c4 (s2.extBut _ _ c3 (s1.extBut _ _ c1 x)))
/-- what is done with the tuple that it gave out ahead of a target -/
theorem goG {tg : Expr} {z TI TO T : Addr} {f0 : Value} {f : Bool} {Q : Unit → Shared → Prop} (hz : ZipSt s.heap z TI TO f0 f) (g : Gave f0)
    (hQ : ∀ h' f0', ZipSt h' z TI TO f0' f → Gave f0' → Heap.SameBut z s.heap h' → Q () { s with heap := h' }) : wpAny (model prog w) A (letOwnedTupleGo tg (.ref z) (.ref T)) Q E s := by
  have q0 : Q () s := hQ s.heap f0 hz g (Heap.SameBut.refl _ _)
  unfold letOwnedTupleGo
  cases tg <;> first
    | exact wpAny_pure q0
    | (refine wpAny_bind (wpAny_load hz ?_)
       show wpAny _ _ (if (["enumerate", "zip", "dict_itemiterator", "dict_reverseitemiterator", "odict_iterator", "itertools.zip_longest", "itertools.pairwise"].contains "zip" && (#[f0, .bool f, .bool false, .ref TI, .ref TO] : Array Value)[0]? == some (rawInt T)) = true then _ else _) Q E s
       split
       · refine wpAny_bind (wpAny_rule ?_)
         show wpAny _ _ (setField (.ref z) 0 .none) Q E s
         exact wpAny_setField_rec hz (by simp) fun h' z' s' => hQ h' .none z' (.inl rfl) s'
       · exact wpAny_pure q0)
abbrev zG1 (t : Bool) (h : Heap) (l1 : Addr) : Heap := h.push (itObj t l1)
abbrev zG2 (t1 t2 : Bool) (h : Heap) (l1 l2 : Addr) : Heap := (zG1 t1 h l1).push (itObj t2 l2)
abbrev zG3 (t1 t2 : Bool) (h : Heap) (l1 l2 : Addr) : Heap := (zG2 t1 t2 h l1 l2).push { cls := .type "tuple", data := .seq #[.ref h.objs.size, .ref (zG1 t1 h l1).objs.size] }
abbrev zG4 (t1 t2 : Bool) (h : Heap) (l1 l2 : Addr) : Heap := (zG3 t1 t2 h l1 l2).push { cls := .type "tuple", data := .seq #[.none, .none] }
abbrev zG5 (t1 t2 : Bool) (h : Heap) (l1 l2 : Addr) : Heap := (zG4 t1 t2 h l1 l2).push { cls := .type "zip", data := .fields #[.none, .bool false, .bool false, .ref (zG2 t1 t2 h l1 l2).objs.size, .ref (zG3 t1 t2 h l1 l2).objs.size] }
theorem iterG {t : Bool} {l : Addr} {xs : Array Value} {Q : Value → Shared → Prop} (hl : SeqIs t s.heap l xs) (q : Q (.ref s.heap.objs.size) { s with heap := s.heap.push (itObj t l) }) : wpAny (model prog w) A (pyIter (.ref l)) Q E s := by
  cases t
  · exact wpAny_pyIter_list hl q
  · exact wpAny_pyIter_tuple hl q
end
theorem meets_zipG (t1 t2 : Bool) (l1 l2 : Addr) (xs ys : Array Value) :
    Meets (Builtin.«zip.__new__» ⟨[.type "zip", .ref l1, .ref l2], []⟩) (fun _ R s => SeqIs t1 s.heap l1 xs ∧ SeqIs t2 s.heap l2 ys ∧
      R (.ok (.ret (.ref (zG4 t1 t2 s.heap l1 l2).objs.size))) { s with heap := zG5 t1 t2 s.heap l1 l2 }) :=
  .of_wp fun prog w A R s h => by
    obtain ⟨hp, g, d, tk, os⟩ := s
    obtain ⟨hl1, hl2, h⟩ := h
    have hsub := sub_zip
    have q1 : SeqIs t1 (Shared.heap ⟨hp, g, d, tk, os⟩) l1 xs := hl1
    have q2 : SeqIs t2 (Shared.heap ⟨hp.push (itObj t1 l1), g, d, tk, os⟩) l2 ys := SeqIs.push hl2 _
    wp_walk using iterG q1, iterG q2
    exact ⟨_, rfl, h⟩
theorem call_zipG {prog : Program} {w : World} {A : Around} {E : Value → Shared → Prop} {s : Shared} {t1 t2 : Bool} {l1 l2 : Addr} {xs ys : Array Value} {Q : Value → Shared → Prop} (hl1 : SeqIs t1 s.heap l1 xs) (hl2 : SeqIs t2 s.heap l2 ys)
    (h : ∀ h', ZipSt h' (s.heap.objs.size + 4) (s.heap.objs.size + 2) (s.heap.objs.size + 3) .none false → IsPair h' (s.heap.objs.size + 2) (.ref s.heap.objs.size) (.ref (s.heap.objs.size + 1)) →
      IsPair h' (s.heap.objs.size + 3) .none .none → ItAt t1 h' s.heap.objs.size l1 0 → ItAt t2 h' (s.heap.objs.size + 1) l2 0 →
      (∀ c o, s.heap.get? c = some o → h'.get? c = some o) → Q (.ref (s.heap.objs.size + 4)) { s with heap := h' }) :
    wpAny (model prog w) A (call (.type "zip") [.ref l1, .ref l2]) Q E s := by
  refine callType_new F.called_zip (by decide) (F.typeCall_zip_2 _ _) (F.newCall_zip_2 _ _) (fun obj => F.args_object_init_3 obj _ _) F.entry_zip_new (meets_zipG t1 t2 l1 l2 xs ys) ⟨hl1, hl2, ?_⟩
  have z1 : (zG1 t1 s.heap l1).objs.size = s.heap.objs.size + 1 := Heap.size_push ..
  have z2 : (zG2 t1 t2 s.heap l1 l2).objs.size = s.heap.objs.size + 2 := by rw [Heap.size_push, z1]
  have z3 : (zG3 t1 t2 s.heap l1 l2).objs.size = s.heap.objs.size + 3 := by rw [Heap.size_push, z2]
  have z4 : (zG4 t1 t2 s.heap l1 l2).objs.size = s.heap.objs.size + 4 := by rw [Heap.size_push, z3]
  have g5 : (zG5 t1 t2 s.heap l1 l2).get? (zG4 t1 t2 s.heap l1 l2).objs.size = some _ := Heap.get?_push_size _ rfl
  have g4 : (zG5 t1 t2 s.heap l1 l2).get? (zG3 t1 t2 s.heap l1 l2).objs.size = some _ := Heap.get?_push_of_some _ (Heap.get?_push_size _ rfl)
  have g3 : (zG5 t1 t2 s.heap l1 l2).get? (zG2 t1 t2 s.heap l1 l2).objs.size = some _ := Heap.get?_push_of_some _ (Heap.get?_push_of_some _ (Heap.get?_push_size _ rfl))
  have g2 : (zG5 t1 t2 s.heap l1 l2).get? (zG1 t1 s.heap l1).objs.size = some (itObj t2 l2) := Heap.get?_push_of_some _ (Heap.get?_push_of_some _ (Heap.get?_push_of_some _ (Heap.get?_push_size _ (by cases t2 <;> rfl))))
  have g1 : (zG5 t1 t2 s.heap l1 l2).get? s.heap.objs.size = some (itObj t1 l1) := Heap.get?_push_of_some _ (Heap.get?_push_of_some _ (Heap.get?_push_of_some _ (Heap.get?_push_of_some _ (Heap.get?_push_size _ (by cases t1 <;> rfl)))))
  show _ ∧ _
  rw [z2, z3, z4] at g5
  rw [z1, z2] at g3
  rw [z3] at g4
  rw [z1] at g2
  rw [z4]
  exact ⟨⟨_, g5, rfl⟩, h _ g5 g3 g4 (itAt_new t1 g1) (itAt_new t2 g2) fun c o x =>
    Heap.get?_push_of_some _ (Heap.get?_push_of_some _ (Heap.get?_push_of_some _ (Heap.get?_push_of_some _ (Heap.get?_push_of_some _ x))))⟩
theorem Sq.at {X : Cx} {pins : List (Addr × Obj)} {σ : L2.St} {H : Hp} {s : Shared} {t : Bool} {a : Addr} {xs : List V} (I : Inv X pins σ H s) (h : Sq t X.K H a xs) : ∃ its : List Value, Vals xs its ∧ SeqIs t s.heap a its.toArray := by
  cases t
  · obtain ⟨its, r, p, _⟩ := I.list h
    exact ⟨its, r, p.isList⟩
  · obtain ⟨its, r, p, _⟩ := I.tuple h
    exact ⟨its, r, p⟩
theorem Sq.inj {X : Cx} {pins : List (Addr × Obj)} {σ : L2.St} {H : Hp} {s : Shared} {t : Bool} {a : Addr} {xs ys : List V} (I : Inv X pins σ H s) (h : Sq t X.K H a xs) (h' : Sq t X.K H a ys) : xs = ys := by
  cases t
  · exact I.list_inj h h'
  · exact I.tuple_inj h h'
/-- the rows at a and b as they stand at each turn, the items in new pairs -/
def ItzG (K : PySem.W.Frag) (t1 t2 : Bool) (a b : Addr) : It :=
  ⟨fun i H => ∃ (xs ys : List V) (x y : V), Sq t1 K H a xs ∧ Sq t2 K H b ys ∧ xs[i]? = some x ∧ ys[i]? = some y,
    fun i H v H' => ∃ T x y, v = .ref T ∧ H T = none ∧ H' = upd H T (.tup [x, y]) ∧ (∀ xs, Sq t1 K H a xs → xs[i]? = some x) ∧ ∀ ys, Sq t2 K H b ys → ys[i]? = some y,
    fun i H => ∃ xs ys : List V, Sq t1 K H a xs ∧ Sq t2 K H b ys ∧ (xs.length ≤ i ∨ ys.length ≤ i)⟩
theorem turn_zipG {P : Program} {w : World} {K : PySem.W.Frag} {tg : Expr} {t1 t2 : Bool} {a b z TI TO i1 i2 : Addr} (D : ZipApart z TI TO i1 i2 a b) :
    Turn P w K tg (ItzG K t1 t2 a b) [z, TI, TO, i1, i2] z (fun i h => (∃ f0 f, ZipSt h z TI TO f0 f ∧ Gave f0) ∧ IsPair h TI (.ref i1) (.ref i2) ∧ (∃ x y, IsPair h TO x y) ∧ ItAt t1 h i1 a i ∧ ItAt t2 h i2 b i) where
  mem := by simp
  obj := fun i h st c hc => by
    obtain ⟨⟨f0, f, hz, _⟩, hTI, ⟨x, y, hTO⟩, h1, h2⟩ := st
    obtain ⟨o1, fs1, e1, d1⟩ := h1.get
    obtain ⟨o2, fs2, e2, d2⟩ := h2.get
    have e' : c = z ∨ c = TI ∨ c = TO ∨ c = i1 ∨ c = i2 := by simpa using hc
    rcases e' with q | q | q | q | q
    · rw [q]; exact ⟨_, hz, fun v q => nomatch q⟩
    · rw [q]; exact ⟨_, hTI, fun v q => nomatch q⟩
    · rw [q]; exact ⟨_, hTO, fun v q => nomatch q⟩
    · rw [q]; exact ⟨o1, e1, fun v q => by rw [d1] at q; cases q⟩
    · rw [q]; exact ⟨o2, e2, fun v q => by rw [d2] at q; cases q⟩
  keep := fun i h h' st k => by
    obtain ⟨⟨f0, f, hz, g⟩, hTI, ⟨x, y, hTO⟩, h1, h2⟩ := st
    exact ⟨⟨f0, f, k z (by simp) _ hz, g⟩, k TI (by simp) _ hTI, ⟨x, y, k TO (by simp) _ hTO⟩, h1.on fun o q => k i1 (by simp) o q, h2.on fun o q => k i2 (by simp) o q⟩
  item := by
    intro X hP hw hK hc i pins s σ H E I hf st hg
    subst hP hw hK
    obtain ⟨⟨f0, f, hz, g⟩, hTI, ⟨x0, y0, hTO⟩, h1, h2⟩ := st
    obtain ⟨xs, ys, x, y, hqx, hqy, hx, hy⟩ := hg
    obtain ⟨its, rv, p⟩ := hqx.at I
    obtain ⟨its2, rv2, p2⟩ := hqy.at I
    obtain ⟨u, hu, ru⟩ := rv.get hx
    obtain ⟨u2, hu2, ru2⟩ := rv2.get hy
    have hzl : z < s.heap.objs.size := Heap.lt_size hz
    refine zipG_item D hz g hTI hTO h1 h2 p p2 (x := u) (y := u2) (by simpa using hu) (by simpa using hu2) fun h' f0' f' z' g' TO' h1' h2' hT hsz hk => ?_
    refine ⟨_, rfl, goG (s := { s with heap := h' }) z' g' fun h'' f0'' z'' g'' sb => ?_⟩
    have hT2 : h''.get? s.heap.objs.size = some { cls := .type "tuple", data := .seq #[u, u2] } := (sb.2 _ (Nat.ne_of_gt hzl)).trans hT
    have new : ObjOk X.prog X.w (upd H s.heap.objs.size (.tup [x, y])) h'' s.heap.objs.size (.tup [x, y]) :=
      ⟨by show 2 ≤ sizeLine; decide, [u, u2], .cons ru (.cons ru2 .nil), ⟨_, hT2, rfl, _, rfl⟩⟩
    have I1 : Inv X pins σ (upd H s.heap.objs.size (.tup [x, y])) { s with heap := h'' } :=
      I.turnedNew (t' := s.toks) (ch := [z, TI, TO, i1, i2]) (fun c o hb q => (sb.2 c (fun q' => hb (by simp [q']))).trans (hk c o (fun q' => hb (by simp [q'])) (fun q' => hb (by simp [q'])) (fun q' => hb (by simp [q'])) (fun q' => hb (by simp [q'])) q)) hf (Nat.le_refl _) new
    have TI' : IsPair h' TI (.ref i1) (.ref i2) := hk _ _ D.TIz D.TITO D.TIi1 D.TIi2 hTI
    obtain ⟨x1, y1, TO'⟩ := TO'
    refine ⟨.ref s.heap.objs.size, _, I1, rfl, ⟨_, x, y, rfl, I.hok.fresh (Nat.le_refl _), rfl, fun l hl => by rw [hl.inj I hqx]; exact hx, fun l hl => by rw [hl.inj I hqy]; exact hy⟩, ⟨⟨_, _, z'', g''⟩, ?_, ⟨x1, y1, ?_⟩, ?_, ?_⟩, fun c hcm => ?_⟩
    · exact (sb.2 _ D.TIz).trans TI'
    · exact (sb.2 _ D.TOz).trans TO'
    · exact h1'.on fun o q => (sb.2 _ D.i1z).trans q
    · exact h2'.on fun o q => (sb.2 _ D.i2z).trans q
    · have hlt : c < s.heap.objs.size := by
        obtain ⟨o1, _, e1, _⟩ := h1.get
        obtain ⟨o2, _, e2, _⟩ := h2.get
        have e' : c = z ∨ c = TI ∨ c = TO ∨ c = i1 ∨ c = i2 := by simpa using hcm
        rcases e' with q | q | q | q | q
        · rw [q]; exact hzl
        · rw [q]; exact Heap.lt_size hTI
        · rw [q]; exact Heap.lt_size hTO
        · rw [q]; exact Heap.lt_size e1
        · rw [q]; exact Heap.lt_size e2
      rw [upd_ne (Nat.ne_of_lt hlt)]
      exact (hf c hcm).1
  done := by
    intro X hP hw hK hc i pins s σ H E I hf st hg
    subst hP hw hK
    obtain ⟨⟨f0, f, hz, g⟩, hTI, ⟨x0, y0, hTO⟩, h1, h2⟩ := st
    obtain ⟨xs, ys, hqx, hqy, hend⟩ := hg
    obtain ⟨its, rv, p⟩ := hqx.at I
    obtain ⟨its2, rv2, p2⟩ := hqy.at I
    have l1 := rv.length
    have l2 := rv2.length
    have he : its.toArray[i]? = none ∨ its2.toArray[i]? = none := by
      rcases hend with q | q
      · exact .inl (by simp; omega)
      · exact .inr (by simp; omega)
    exact zipG_end (I.ok.hd hc) D hz g hTI hTO h1 h2 p p2 he fun h' hk => ⟨rfl, I.turnedL (t' := s.toks) (ch := [z, TI, TO, i1, i2]) (fun c o hb q =>
      hk c o (fun q' => hb (by simp [q'])) (fun q' => hb (by simp [q'])) (fun q' => hb (by simp [q'])) (fun q' => hb (by simp [q'])) q) hf⟩
  self := fun A i s Q E st h => by
    obtain ⟨⟨f0, f, hz, g⟩, _⟩ := st
    have hT : s.TypeIs (.ref z) "zip" := ⟨_, hz, rfl⟩
    refine wpAny_pyIter_slot hT F.slot_zip_iter (wpAny_call_entry F.slot_zip_iter hT F.entry_zip_iter ?_ (F.args_zip_iter_1 _))
    show wpAny _ _ (ret (.ref z)) _ _ s
    exact wpAny_pure ⟨_, rfl, "zip", _, hT, F.slot_zip_next.lookup, h⟩
def iZipG (K : PySem.W.Frag) (ta : TA) : TI := fun σ H R => ta σ H fun vs H1 => ∃ (t1 t2 : Bool) (a b : Addr) (xs ys : List V), vs = [.ref a, .ref b] ∧ Sq t1 K H1 a xs ∧ Sq t2 K H1 b ys ∧ R (ItzG K t1 t2 a b) H1
theorem pi_zipG {X : Cx} {tg e e2 : Expr} {ta : TA} {p pos : Pos} (hg : Gl X "zip") (hm : X.mg "zip" = none) (ha : PA X [e, e2] ta)
    (hs : starEach [e, e2] X.env = (false, eval e X.env) :: starEach [e2] X.env := by rfl) (hpl : (backTo pos (starEach [e2] X.env)).any (·.1) = false := by rfl) :
    PI X tg (.Call (.Name "zip" p) [e, e2] [] pos) (iZipG X.K ta) := by
  refine ⟨fun pins s σ H R I h => ?_⟩
  refine Call_ (ld_blt I hg hm PyProof.Rows.boot_zip (PyProof.Rows.callWith_type1 (thn (ha.run pos pins s σ H _ I h) fun us s1 ⟨vs, H1, I1, r1, q1⟩ => ?_) hs hpl))
  obtain ⟨t1, t2, a, b, xs, ys, ex, hqx, hqy, q⟩ := q1
  subst ex
  cases r1 with
  | cons r rr =>
    cases rr with
    | cons r' rr =>
      cases rr
      cases r
      cases r'
      obtain ⟨its, rv, p1⟩ := hqx.at I1
      obtain ⟨its2, rv2, p2⟩ := hqy.at I1
      refine call_zipG p1 p2 fun h' hz hTI hTO h1 h2 hk => ?_
      have hT : Shared.TypeIs { s1 with heap := h' } (.ref (s1.heap.objs.size + 4)) "zip" := ⟨_, hz, rfl⟩
      refine wpAny_pyIter_slot hT F.slot_zip_iter (wpAny_call_entry F.slot_zip_iter hT F.entry_zip_iter ?_ (F.args_zip_iter_1 _))
      show wpAny _ _ (ret (.ref _)) _ _ _
      refine wpAny_pure ⟨_, rfl, "zip", _, hT, F.slot_zip_next.lookup, ?_⟩
      have I2 : Inv X pins σ H1 { s1 with heap := h' } := I1.kept (t' := s1.toks) hk
      refine ⟨s1.heap.objs.size + 4, [s1.heap.objs.size + 4, s1.heap.objs.size + 2, s1.heap.objs.size + 3, s1.heap.objs.size, s1.heap.objs.size + 1], _, _, H1, rfl, I2, turn_zipG (PySem.W.ktu_apart s1.heap.objs.size a b p1.lt p2.lt), ⟨⟨_, _, hz, .inl rfl⟩, hTI, ⟨_, _, hTO⟩, h1, h2⟩, fun c hcm => ?_, q⟩
      have e' : c = s1.heap.objs.size + 4 ∨ c = s1.heap.objs.size + 2 ∨ c = s1.heap.objs.size + 3 ∨ c = s1.heap.objs.size ∨ c = s1.heap.objs.size + 1 := by simpa using hcm
      have hle : s1.heap.objs.size ≤ c := by
        rcases e' with z | z | z | z | z <;> (rw [z]; omega)
      exact I1.fpOk hle (I1.hok.fresh hle)
theorem walk_zipG {K : PySem.W.Frag} {t1 t2 : Bool} {a b : Addr} {xs ys : List V} {n : Nat} (hn : n = min xs.length ys.length) : Walk (ItzG K t1 t2 a b) n (fun H => Sq t1 K H a xs ∧ Sq t2 K H b ys) (YPair (fun i => xs[i]?) (fun i => ys[i]?)) := by
  subst hn
  refine ⟨fun i _ hi q => ?_, fun _ q => ⟨xs, ys, q.1, q.2, by omega⟩, fun i H v H' _ q y => ?_⟩
  · have h1 : i < xs.length := by omega
    have h2 : i < ys.length := by omega
    exact ⟨xs, ys, xs[i], ys[i], q.1, q.2, by simp [h1], by simp [h2]⟩
  · obtain ⟨T, x, z, h1, h2, h3, h4, h5⟩ := y
    exact ⟨T, x, z, h1, h2, h3, h4 xs q.1, h5 ys q.2⟩
end ZG
namespace MxT
open PySem PySem.Spec PyProof.Rows L2
/-! ### max and min of a tuple of whole numbers -/
section
variable {prog : Program} {w : World} {A : Around} {E : Value → Shared → Prop} {s : Shared} {l : Addr} {its : List Value} {ns : List Int} {Q : Value → Shared → Prop}
theorem old_keptT {h' : Heap} (hk : ∀ b o, b ∉ [s.heap.objs.size] → (s.heap.push { cls := .type "tuple_iterator", data := .fields #[.ref l, .int 0 0] }).get? b = some o → h'.get? b = some o) :
    ∀ b o, s.heap.get? b = some o → h'.get? b = some o := fun b o e =>
  hk b o (fun z => absurd (Heap.lt_size e) ((List.mem_singleton.mp z) ▸ Nat.lt_irrefl _)) (Heap.get?_push_of_some _ e)
theorem maxT_raw (hh : A.handled = none) (hl : s.heap.IsTuple l its.toArray) (hi : IntsAre its ns) (hne : 0 < ns.length)
    (h : ∀ h' tk M t', (∀ b o, s.heap.get? b = some o → h'.get? b = some o) → M ∈ ns → (∀ a, a ∈ ns → a ≤ M) → Q (.int M t') { s with heap := h', toks := tk }) : wpAny (model prog w) A (call (.builtin "max") [.ref l]) Q E s := by
  obtain ⟨xs, e⟩ := hi.allInts.items
  have hn : numsOf (intItems xs).toList = ns := by rw [← e]; exact hi.numsOf
  rw [nums_intItems] at hn
  subst hn
  rw [e] at hl
  have hsz : 0 < xs.size := by simpa using hne
  have hlt : l < s.heap.objs.size := by
    obtain ⟨_, e, _⟩ := hl
    exact Heap.lt_size e
  refine PySem.call_max_walk (wpAny_pyIter_tuple hl ?_)
  refine ⟨_, _, _, _, _, _, _, rfl, Walks.tuple (A := A.in1) hh _ l (Nat.ne_of_lt hlt) (intItems xs), ⟨⟨_, Heap.get?_push_size _ rfl, rfl, rfl⟩, hl.push _⟩, fun b hb => ?_, by simpa [intItems] using hsz, CmpOf.ints_gt (numAt xs) (fun _ _ => intItems_at), fun v h' tk hv hk => ?_⟩
  · show b < (s.heap.push _).objs.size
    rw [Heap.size_push]
    have hb' : b = s.heap.objs.size ∨ b = l := by simpa using hb
    rcases hb' with z | z
    · rw [z]; exact Nat.lt_succ_self _
    · rw [z]; exact Nat.lt_succ_of_lt hlt
  · have hv' : (intItems xs)[argBest (fun i j => decide (numAt xs i > numAt xs j)) (xs.size - 1)]? = some v := by simpa [intItems] using hv
    obtain ⟨t, rfl⟩ := intItems_at hv'
    obtain ⟨h1, h2⟩ := argBest_gt (numAt xs) (xs.size - 1)
    refine h h' tk _ t (old_keptT hk) ?_ fun a ha => ?_
    · rw [numAt_eq]; exact PySem.getD_mem (by rw [List.length_map, Array.length_toList]; omega)
    · obtain ⟨j, hj, rfl⟩ := mem_getD ha
      have hj2 : j < xs.size := by simpa using hj
      rw [← numAt_eq]; exact h2 j (by omega)
theorem minT_raw (hh : A.handled = none) (hl : s.heap.IsTuple l its.toArray) (hi : IntsAre its ns) (hne : 0 < ns.length)
    (h : ∀ h' tk M t', (∀ b o, s.heap.get? b = some o → h'.get? b = some o) → M ∈ ns → (∀ a, a ∈ ns → M ≤ a) → Q (.int M t') { s with heap := h', toks := tk }) : wpAny (model prog w) A (call (.builtin "min") [.ref l]) Q E s := by
  obtain ⟨xs, e⟩ := hi.allInts.items
  have hn : numsOf (intItems xs).toList = ns := by rw [← e]; exact hi.numsOf
  rw [nums_intItems] at hn
  subst hn
  rw [e] at hl
  have hsz : 0 < xs.size := by simpa using hne
  have hlt : l < s.heap.objs.size := by
    obtain ⟨_, e, _⟩ := hl
    exact Heap.lt_size e
  refine PySem.call_min_walk (wpAny_pyIter_tuple hl ?_)
  refine ⟨_, _, _, _, _, _, _, rfl, Walks.tuple (A := A.in1) hh _ l (Nat.ne_of_lt hlt) (intItems xs), ⟨⟨_, Heap.get?_push_size _ rfl, rfl, rfl⟩, hl.push _⟩, fun b hb => ?_, by simpa [intItems] using hsz, CmpOf.ints_lt (numAt xs) (fun _ _ => intItems_at), fun v h' tk hv hk => ?_⟩
  · show b < (s.heap.push _).objs.size
    rw [Heap.size_push]
    have hb' : b = s.heap.objs.size ∨ b = l := by simpa using hb
    rcases hb' with z | z
    · rw [z]; exact Nat.lt_succ_self _
    · rw [z]; exact Nat.lt_succ_of_lt hlt
  · have hv' : (intItems xs)[argBest (fun i j => decide (numAt xs i < numAt xs j)) (xs.size - 1)]? = some v := by simpa [intItems] using hv
    obtain ⟨t, rfl⟩ := intItems_at hv'
    obtain ⟨h1, h2⟩ := argBest_lt (numAt xs) (xs.size - 1)
    refine h h' tk _ t (old_keptT hk) ?_ fun a ha => ?_
    · rw [numAt_eq]; exact PySem.getD_mem (by rw [List.length_map, Array.length_toList]; omega)
    · obtain ⟨j, hj, rfl⟩ := mem_getD ha
      have hj2 : j < xs.size := by simpa using hj
      rw [← numAt_eq]; exact h2 j (by omega)
end
section
variable {X : Cx}
def rMaxT (K : PySem.W.Frag) : List V → Hp → VK → Prop := fun vs H Q => ∃ (a : Addr) (ns : List Int), vs = [V.ref a] ∧ SqT K H a (ns.map V.int) ∧ 0 < ns.length ∧ ∀ m, m ∈ ns → (∀ y, y ∈ ns → y ≤ m) → Q (.int m) H
def rMinT (K : PySem.W.Frag) : List V → Hp → VK → Prop := fun vs H Q => ∃ (a : Addr) (ns : List Int), vs = [V.ref a] ∧ SqT K H a (ns.map V.int) ∧ 0 < ns.length ∧ ∀ m, m ∈ ns → (∀ y, y ∈ ns → m ≤ y) → Q (.int m) H
theorem call_maxT (hc : X.calm = true) : CallR X (.builtin "max") (rMaxT X.K) := by
  intro pins s σ H vs us Q I r h
  obtain ⟨a, ns, rfl, hs, hne, q⟩ := h
  obtain ⟨its, rv, hl, _⟩ := I.tuple hs
  rw [Vals.ref1 r]
  exact maxT_raw (I.ok.hd hc) hl rv.ints hne fun h' tk m t' hk h1 h2 => ⟨.int _, H, I.kept hk, ⟨_, rfl⟩, q m h1 h2⟩
theorem call_minT (hc : X.calm = true) : CallR X (.builtin "min") (rMinT X.K) := by
  intro pins s σ H vs us Q I r h
  obtain ⟨a, ns, rfl, hs, hne, q⟩ := h
  obtain ⟨its, rv, hl, _⟩ := I.tuple hs
  rw [Vals.ref1 r]
  exact minT_raw (I.ok.hd hc) hl rv.ints hne fun h' tk m t' hk h1 h2 => ⟨.int _, H, I.kept hk, ⟨_, rfl⟩, q m h1 h2⟩
end
end MxT
namespace Mine
open PySem L2
def top (i : Nat) : Stmt := PySem.Challenge.pw_neverhappens_k20_inside_and_points.main.body.getD i (.Pass ⟨0, 0, 0, 0⟩)
abbrev s_is_inside : Stmt := top 1
abbrev s_has_point : Stmt := top 2
abbrev s_range_of : Stmt := top 3
abbrev s_least_point : Stmt := top 4
abbrev s_greatest_point : Stmt := top 5
abbrev s_l_cell : Stmt := top 7
abbrev s_l_source : Stmt := top 8
abbrev s_l_pick : Stmt := top 9
abbrev s_l_hull : Stmt := top 10
abbrev s_l_belongs : Stmt := top 11
abbrev s_l_same : Stmt := top 12
abbrev s_l_number : Stmt := top 13
abbrev s_l_size : Stmt := top 14
abbrev s_l_seeds : Stmt := top 15
abbrev s_l_second : Stmt := top 16
abbrev s_l_all_inside : Stmt := top 17
abbrev s_l_near : Stmt := top 18
abbrev s_l_asks_points : Stmt := top 19
abbrev s_l_values : Stmt := top 20
abbrev s_l_asks_ends : Stmt := top 21
abbrev s_law : Stmt := top 22
abbrev p_is_inside : List Str := ["a", "b"]
abbrev p_has_point : List Str := ["box", "point"]
abbrev p_range_of : List Str := ["box", "i"]
abbrev p_least_point : List Str := ["box"]
abbrev p_greatest_point : List Str := ["box"]
abbrev p_l_cell : List Str := ["_law_script", "_law_at"]
abbrev p_l_source : List Str := ["_law_cell_here"]
abbrev p_l_pick : List Str := ["_law_source_here", "_law_size_here"]
abbrev p_l_hull : List Str := ["_law_points", "_law_size_here"]
abbrev p_l_belongs : List Str := ["_law_matrix", "_law_point"]
abbrev p_l_same : List Str := ["_law_actual", "_law_due"]
abbrev p_l_number : List Str := ["_law_source_here"]
abbrev p_l_size : List Str := ["_law_source_here"]
abbrev p_l_seeds : List Str := ["_law_source_here", "_law_size_here"]
abbrev p_l_second : List Str := ["_law_source_here", "_law_points", "_law_size_here"]
abbrev p_l_all_inside : List Str := ["_law_points", "_law_box"]
abbrev p_l_near : List Str := ["_law_source_here", "_law_points", "_law_size_here"]
abbrev p_l_asks_points : List Str := ["_law_source_here", "_law_points", "_law_size_here"]
abbrev p_l_values : List Str := ["_law_points", "_law_k"]
abbrev p_l_asks_ends : List Str := ["_law_points", "_law_size_here"]
abbrev p_law : List Str := ["_law_script"]
/-- what the program's top leaves: where each def stands -/
structure Txt (w : World) (K : PySem.W.Frag) (mg : Str → Option Value) where
  a_is_inside : Addr
  d_is_inside : FuncData
  F_is_inside : Fun K "is_inside" "is_inside" s_is_inside a_is_inside d_is_inside
  b_is_inside : Binds K d_is_inside p_is_inside []
  m_is_inside : mg "is_inside" = some (.ref a_is_inside)
  a_has_point : Addr
  d_has_point : FuncData
  F_has_point : Fun K "has_point" "has_point" s_has_point a_has_point d_has_point
  b_has_point : Binds K d_has_point p_has_point []
  m_has_point : mg "has_point" = some (.ref a_has_point)
  a_range_of : Addr
  d_range_of : FuncData
  F_range_of : Fun K "range_of" "range_of" s_range_of a_range_of d_range_of
  b_range_of : Binds K d_range_of p_range_of []
  m_range_of : mg "range_of" = some (.ref a_range_of)
  a_least_point : Addr
  d_least_point : FuncData
  F_least_point : Fun K "least_point" "least_point" s_least_point a_least_point d_least_point
  b_least_point : Binds K d_least_point p_least_point []
  m_least_point : mg "least_point" = some (.ref a_least_point)
  a_greatest_point : Addr
  d_greatest_point : FuncData
  F_greatest_point : Fun K "greatest_point" "greatest_point" s_greatest_point a_greatest_point d_greatest_point
  b_greatest_point : Binds K d_greatest_point p_greatest_point []
  m_greatest_point : mg "greatest_point" = some (.ref a_greatest_point)
  a_l_cell : Addr
  d_l_cell : FuncData
  F_l_cell : Fun K "_law_cell" "_law_cell" s_l_cell a_l_cell d_l_cell
  b_l_cell : Binds K d_l_cell p_l_cell []
  m_l_cell : mg "_law_cell" = some (.ref a_l_cell)
  a_l_source : Addr
  d_l_source : FuncData
  F_l_source : Fun K "_law_source" "_law_source" s_l_source a_l_source d_l_source
  b_l_source : Binds K d_l_source p_l_source []
  m_l_source : mg "_law_source" = some (.ref a_l_source)
  a_l_pick : Addr
  d_l_pick : FuncData
  F_l_pick : Fun K "_law_pick" "_law_pick" s_l_pick a_l_pick d_l_pick
  b_l_pick : Binds K d_l_pick p_l_pick []
  m_l_pick : mg "_law_pick" = some (.ref a_l_pick)
  a_l_hull : Addr
  d_l_hull : FuncData
  F_l_hull : Fun K "_law_hull" "_law_hull" s_l_hull a_l_hull d_l_hull
  b_l_hull : Binds K d_l_hull p_l_hull []
  m_l_hull : mg "_law_hull" = some (.ref a_l_hull)
  a_l_belongs : Addr
  d_l_belongs : FuncData
  F_l_belongs : Fun K "_law_belongs" "_law_belongs" s_l_belongs a_l_belongs d_l_belongs
  b_l_belongs : Binds K d_l_belongs p_l_belongs []
  m_l_belongs : mg "_law_belongs" = some (.ref a_l_belongs)
  a_l_same : Addr
  d_l_same : FuncData
  F_l_same : Fun K "_law_same" "_law_same" s_l_same a_l_same d_l_same
  b_l_same : Binds K d_l_same p_l_same []
  m_l_same : mg "_law_same" = some (.ref a_l_same)
  a_l_number : Addr
  d_l_number : FuncData
  F_l_number : Fun K "_law_number" "_law_number" s_l_number a_l_number d_l_number
  b_l_number : Binds K d_l_number p_l_number []
  m_l_number : mg "_law_number" = some (.ref a_l_number)
  a_l_size : Addr
  d_l_size : FuncData
  F_l_size : Fun K "_law_size" "_law_size" s_l_size a_l_size d_l_size
  b_l_size : Binds K d_l_size p_l_size []
  m_l_size : mg "_law_size" = some (.ref a_l_size)
  a_l_seeds : Addr
  d_l_seeds : FuncData
  F_l_seeds : Fun K "_law_seeds" "_law_seeds" s_l_seeds a_l_seeds d_l_seeds
  b_l_seeds : Binds K d_l_seeds p_l_seeds []
  m_l_seeds : mg "_law_seeds" = some (.ref a_l_seeds)
  a_l_second : Addr
  d_l_second : FuncData
  F_l_second : Fun K "_law_second" "_law_second" s_l_second a_l_second d_l_second
  b_l_second : Binds K d_l_second p_l_second []
  m_l_second : mg "_law_second" = some (.ref a_l_second)
  a_l_all_inside : Addr
  d_l_all_inside : FuncData
  F_l_all_inside : Fun K "_law_all_inside" "_law_all_inside" s_l_all_inside a_l_all_inside d_l_all_inside
  b_l_all_inside : Binds K d_l_all_inside p_l_all_inside []
  m_l_all_inside : mg "_law_all_inside" = some (.ref a_l_all_inside)
  a_l_near : Addr
  d_l_near : FuncData
  F_l_near : Fun K "_law_near" "_law_near" s_l_near a_l_near d_l_near
  b_l_near : Binds K d_l_near p_l_near []
  m_l_near : mg "_law_near" = some (.ref a_l_near)
  a_l_asks_points : Addr
  d_l_asks_points : FuncData
  F_l_asks_points : Fun K "_law_asks_points" "_law_asks_points" s_l_asks_points a_l_asks_points d_l_asks_points
  b_l_asks_points : Binds K d_l_asks_points p_l_asks_points []
  m_l_asks_points : mg "_law_asks_points" = some (.ref a_l_asks_points)
  a_l_values : Addr
  d_l_values : FuncData
  F_l_values : Fun K "_law_values" "_law_values" s_l_values a_l_values d_l_values
  b_l_values : Binds K d_l_values p_l_values []
  m_l_values : mg "_law_values" = some (.ref a_l_values)
  a_l_asks_ends : Addr
  d_l_asks_ends : FuncData
  F_l_asks_ends : Fun K "_law_asks_ends" "_law_asks_ends" s_l_asks_ends a_l_asks_ends d_l_asks_ends
  b_l_asks_ends : Binds K d_l_asks_ends p_l_asks_ends []
  m_l_asks_ends : mg "_law_asks_ends" = some (.ref a_l_asks_ends)
  a_law : Addr
  d_law : FuncData
  F_law : Fun K "law" "law" s_law a_law d_law
  b_law : Binds K d_law p_law []
  m_law : mg "law" = some (.ref a_law)
  z_all : mg "all" = none
  z_bool : mg "bool" = none
  z_int : mg "int" = none
  z_isinstance : mg "isinstance" = none
  z_len : mg "len" = none
  z_list : mg "list" = none
  z_max : mg "max" = none
  z_min : mg "min" = none
  z_range : mg "range" = none
  z_str : mg "str" = none
  z_tuple : mg "tuple" = none
  z_zip : mg "zip" = none
abbrev n_is_inside : List Str := ["a", "b", "row", "others", "most", "other"]
theorem sc_is_inside : FnScope n_is_inside p_is_inside (defScope s_is_inside) := ⟨rfl, rfl, rfl, by decide +kernel, rfl, by decide +kernel, by decide +kernel⟩
abbrev n_has_point : List Str := ["box", "point", "values", "left", "row", "right", "most"]
theorem sc_has_point : FnScope n_has_point p_has_point (defScope s_has_point) := ⟨rfl, rfl, rfl, by decide +kernel, rfl, by decide +kernel, by decide +kernel⟩
abbrev n_range_of : List Str := ["box", "i"]
theorem sc_range_of : FnScope n_range_of p_range_of (defScope s_range_of) := ⟨rfl, rfl, rfl, by decide +kernel, rfl, by decide +kernel, by decide +kernel⟩
abbrev n_least_point : List Str := ["box", "most"]
theorem sc_least_point : FnScope n_least_point p_least_point (defScope s_least_point) := ⟨rfl, rfl, rfl, by decide +kernel, rfl, by decide +kernel, by decide +kernel⟩
abbrev n_greatest_point : List Str := ["box", "row"]
theorem sc_greatest_point : FnScope n_greatest_point p_greatest_point (defScope s_greatest_point) := ⟨rfl, rfl, rfl, by decide +kernel, rfl, by decide +kernel, by decide +kernel⟩
abbrev n_l_cell : List Str := ["_law_script", "_law_at"]
theorem sc_l_cell : FnScope n_l_cell p_l_cell (defScope s_l_cell) := ⟨rfl, rfl, rfl, by decide +kernel, rfl, by decide +kernel, by decide +kernel⟩
abbrev n_l_source : List Str := ["_law_cell_here"]
theorem sc_l_source : FnScope n_l_source p_l_source (defScope s_l_source) := ⟨rfl, rfl, rfl, by decide +kernel, rfl, by decide +kernel, by decide +kernel⟩
abbrev n_l_pick : List Str := ["_law_source_here", "_law_size_here", "_law_k", "_law_digit", "_law_mixed"]
theorem sc_l_pick : FnScope n_l_pick p_l_pick (defScope s_l_pick) := ⟨rfl, rfl, rfl, by decide +kernel, rfl, by decide +kernel, by decide +kernel⟩
abbrev n_l_hull : List Str := ["_law_points", "_law_size_here", "_law_rows", "_law_i", "_law_row", "_law_j", "_law_point"]
theorem sc_l_hull : FnScope n_l_hull p_l_hull (defScope s_l_hull) := ⟨rfl, rfl, rfl, by decide +kernel, rfl, by decide +kernel, by decide +kernel⟩
abbrev n_l_belongs : List Str := ["_law_matrix", "_law_point", "_law_full", "_law_i", "_law_j"]
theorem sc_l_belongs : FnScope n_l_belongs p_l_belongs (defScope s_l_belongs) := ⟨rfl, rfl, rfl, by decide +kernel, rfl, by decide +kernel, by decide +kernel⟩
abbrev n_l_same : List Str := ["_law_actual", "_law_due", "_law_k"]
theorem sc_l_same : FnScope n_l_same p_l_same (defScope s_l_same) := ⟨rfl, rfl, rfl, by decide +kernel, rfl, by decide +kernel, by decide +kernel⟩
abbrev n_l_number : List Str := ["_law_source_here", "_law_unit"]
theorem sc_l_number : FnScope n_l_number p_l_number (defScope s_l_number) := ⟨rfl, rfl, rfl, by decide +kernel, rfl, by decide +kernel, by decide +kernel⟩
abbrev n_l_size : List Str := ["_law_source_here", "_law_size_here"]
theorem sc_l_size : FnScope n_l_size p_l_size (defScope s_l_size) := ⟨rfl, rfl, rfl, by decide +kernel, rfl, by decide +kernel, by decide +kernel⟩
abbrev n_l_seeds : List Str := ["_law_source_here", "_law_size_here", "_law_points", "_law_k", "_law_c"]
theorem sc_l_seeds : FnScope n_l_seeds p_l_seeds (defScope s_l_seeds) := ⟨rfl, rfl, rfl, by decide +kernel, rfl, by decide +kernel, by decide +kernel⟩
abbrev n_l_second : List Str := ["_law_source_here", "_law_points", "_law_size_here", "_law_choice", "_law_at", "_law_row", "_law_column"]
theorem sc_l_second : FnScope n_l_second p_l_second (defScope s_l_second) := ⟨rfl, rfl, rfl, by decide +kernel, rfl, by decide +kernel, by decide +kernel⟩
abbrev n_l_all_inside : List Str := ["_law_points", "_law_box", "_law_point"]
theorem sc_l_all_inside : FnScope n_l_all_inside p_l_all_inside (defScope s_l_all_inside) := ⟨rfl, rfl, rfl, by decide +kernel, rfl, by decide +kernel, by decide +kernel⟩
abbrev n_l_near : List Str := ["_law_source_here", "_law_points", "_law_size_here", "_law_row", "_law_k", "_law_column"]
theorem sc_l_near : FnScope n_l_near p_l_near (defScope s_l_near) := ⟨rfl, rfl, rfl, by decide +kernel, rfl, by decide +kernel, by decide +kernel⟩
abbrev n_l_asks_points : List Str := ["_law_source_here", "_law_points", "_law_size_here", "_law_box", "_law_drawn", "_law_k", "_law_point"]
theorem sc_l_asks_points : FnScope n_l_asks_points p_l_asks_points (defScope s_l_asks_points) := ⟨rfl, rfl, rfl, by decide +kernel, rfl, by decide +kernel, by decide +kernel⟩
abbrev n_l_values : List Str := ["_law_points", "_law_k", "_law_point"]
theorem sc_l_values : FnScope n_l_values p_l_values (defScope s_l_values) := ⟨rfl, rfl, rfl, by decide +kernel, rfl, by decide +kernel, by decide +kernel⟩
abbrev n_l_asks_ends : List Str := ["_law_points", "_law_size_here", "_law_box", "_law_least", "_law_k", "_law_greatest"]
theorem sc_l_asks_ends : FnScope n_l_asks_ends p_l_asks_ends (defScope s_l_asks_ends) := ⟨rfl, rfl, rfl, by decide +kernel, rfl, by decide +kernel, by decide +kernel⟩
abbrev n_law : List Str := ["_law_script", "_law_source_here", "_law_size_here", "_law_first", "_law_second_here", "_law_one", "_law_other"]
theorem sc_law : FnScope n_law p_law (defScope s_law) := ⟨rfl, rfl, rfl, by decide +kernel, rfl, by decide +kernel, by decide +kernel⟩
/-! ### a list against the empty one -/
def rEqL0 (K : PySem.W.Frag) (neg : Bool) : R2 := fun x y H Q => ∃ (a b : Addr) (xs : List V), x = .ref a ∧ y = .ref b ∧ SqL K H a xs ∧ SqL K H b [] ∧ Q (.bl (if neg then !xs.isEmpty else xs.isEmpty)) H
theorem op_neL0 {X : Cx} (hu : X.A.units < cLine) : OpR X (compareOp .NotEq) (rEqL0 X.K true) := by
  intro pins s σ H x y v u Q I rx ry h
  obtain ⟨a, b, xs, rfl, rfl, ha, hb, q⟩ := h
  obtain rfl : v = Value.ref a := rx
  obtain rfl : u = Value.ref b := ry
  obtain ⟨its, r1, t1, _⟩ := I.list ha
  obtain ⟨its2, r2, t2, _⟩ := I.list hb
  cases r2
  cases r1 with
  | nil => exact SeqAt.RcNeAt.lists (e := fun _ => true) t1.isList t2.isList rfl hu (fun j h1 h2 => absurd h2 (by simp)) _ _ _ _ ⟨.bl _, H, I, rfl, q⟩
  | cons _ _ => exact SeqAt.RcNeAt.lists_lengths t1.isList t2.isList (by simp) hu _ _ _ _ ⟨.bl _, H, I, rfl, q⟩
theorem op_eqL0 {X : Cx} (hu : X.A.units < cLine) : OpR X (compareOp .Eq) (rEqL0 X.K false) := by
  intro pins s σ H x y v u Q I rx ry h
  obtain ⟨a, b, xs, rfl, rfl, ha, hb, q⟩ := h
  obtain rfl : v = Value.ref a := rx
  obtain rfl : u = Value.ref b := ry
  obtain ⟨its, r1, t1, _⟩ := I.list ha
  obtain ⟨its2, r2, t2, _⟩ := I.list hb
  cases r2
  cases r1 with
  | nil => exact SeqAt.eq_listAt (e := fun _ => true) t1.isList t2.isList rfl hu (fun j h1 h2 => absurd h2 (by simp)) ⟨.bl _, H, I, rfl, q⟩
  | cons _ _ => exact SeqAt.eq_list_lengthsAt t1.isList t2.isList (by simp) hu ⟨.bl _, H, I, rfl, q⟩
/-! ### built-in names -/
theorem bt_int : bootBuiltins "int" = some (.type "int") := by decide +kernel
theorem bt_str : bootBuiltins "str" = some (.type "str") := by decide +kernel
theorem bt_bool : bootBuiltins "bool" = some (.type "bool") := by decide +kernel
theorem bt_tuple : bootBuiltins "tuple" = some (.type "tuple") := by decide +kernel
theorem bt_list : bootBuiltins "list" = some (.type "list") := by decide +kernel
theorem bt_dict : bootBuiltins "dict" = some (.type "dict") := by decide +kernel
theorem bb_max : bootBuiltins "max" = some (.builtin "max") := by decide +kernel
theorem bb_min : bootBuiltins "min" = some (.builtin "min") := by decide +kernel
theorem bb_isinstance : bootBuiltins "isinstance" = some (.builtin "isinstance") := by decide +kernel
/-! ### a source of draws: a list of three ints, which draws alone change -/
def Src (H : Hp) (a : Addr) : Prop := ∃ c m k : Int, H a = some (.lst [.int c, .int m, .int k])
/-- a source stands at a, and nothing else that was tracked has changed -/
structure Stp (a : Addr) (H H' : Hp) : Prop where
  s : Src H' a
  k : ∀ b o, b ≠ a → H b = some o → H' b = some o
theorem Stp.refl {a : Addr} {H : Hp} (h : Src H a) : Stp a H H := ⟨h, fun _ _ _ e => e⟩
theorem Stp.trans {a : Addr} {H H1 H2 : Hp} (x : Stp a H H1) (y : Stp a H1 H2) : Stp a H H2 := ⟨y.s, fun b o hb e => y.k b o hb (x.k b o hb e)⟩
theorem Src.ne {a p : Addr} {H : Hp} (h : Src H a) (n : H p = none) : a ≠ p := by
  obtain ⟨c, m, k, h⟩ := h
  exact ne_of_none h n
theorem Stp.free {a p : Addr} {H H' : Hp} (x : Stp a H H') (n : H' p = none) : H p = none := by
  cases q : H p with
  | none => rfl
  | some o =>
    have ne : p ≠ a := fun z => x.s.ne n z.symm
    rw [x.k p o ne q] at n
    cases n
/-- a new object beside the source -/
theorem Stp.new {a p : Addr} {H H' : Hp} {o : HO} (x : Stp a H H') (n : H' p = none) : Stp a H (upd H' p o) := by
  have ne := x.s.ne n
  obtain ⟨c, m, k, h⟩ := x.s
  refine ⟨⟨c, m, k, by rw [upd_ne ne]; exact h⟩, fun b u hb e => ?_⟩
  have e' := x.k b u hb e
  rw [upd_ne (ne_of_none e' n)]
  exact e'
theorem Stp.same {a : Addr} {H H' H2 : Hp} (x : Stp a H H') (s : Same H' H2) : Stp a H H2 := by
  obtain ⟨c, m, k, h⟩ := x.s
  exact ⟨⟨c, m, k, s _ _ h⟩, fun b o hb e => s b o (x.k b o hb e)⟩
theorem Stp.of_same {a : Addr} {H H' : Hp} (h : Src H a) (s : Same H H') : Stp a H H' := (Stp.refl h).same s
theorem Same.new {H : Hp} {p : Addr} (h : H p = none) (o : HO) : Same H (upd H p o) := fun b u q => by rw [upd_ne (ne_of_none q h)]; exact q
/-- a source that is new ahead of its draws: all that was tracked stands -/
theorem Stp.fresh {a : Addr} {H H1 H2 : Hp} (s : Same H H1) (n : H a = none) (x : Stp a H1 H2) : Same H H2 := fun b o e => x.k b o (ne_of_none e n) (s b o e)
theorem Stp.rd {K : PySem.W.Frag} {a p : Addr} {H H' : Hp} {xs : List V} (x : Stp a H H') (h : SqT K H p xs) (hs : Src H a) : SqT K H' p xs := by
  obtain ⟨c, m, k, hs⟩ := hs
  rcases h with (h | ⟨o, h⟩) | h
  · exact .inl (.inl (x.k _ _ (ne_of h hs (by intro z; cases z)) h))
  · exact .inl (.inr ⟨o, x.k _ _ (ne_of h hs (by intro z; cases z)) h⟩)
  · exact .inr h
theorem Stp.rdL {K : PySem.W.Frag} {a p : Addr} {H H' : Hp} {xs : List V} (x : Stp a H H') (h : SqL K H p xs) (ne : p ≠ a) : SqL K H' p xs := by
  rcases h with (h | ⟨o, h⟩) | h
  · exact .inl (.inl (x.k _ _ ne h))
  · exact .inl (.inr ⟨o, x.k _ _ ne h⟩)
  · exact .inr h
theorem Same.tup {K : PySem.W.Frag} {p : Addr} {H H' : Hp} {xs : List V} (x : Same H H') (h : SqT K H p xs) : SqT K H' p xs := by
  rcases h with (h | ⟨o, h⟩) | h
  · exact .inl (.inl (x _ _ h))
  · exact .inl (.inr ⟨o, x _ _ h⟩)
  · exact .inr h
/-! ### numbers -/
theorem ifT {c : Bool} {A B : Prop} (h : c = true) (a : A) : if c = true then A else B := by rw [if_pos h]; exact a
theorem ifF {c : Bool} {A B : Prop} (h : c = false) (b : B) : if c = true then A else B := by rw [h]; exact iteF b
theorem fmod_bd {x m : Int} (h : 0 < m) : 0 ≤ x.fmod m ∧ x.fmod m < m := ⟨Int.fmod_nonneg_of_pos x h, Int.fmod_lt_of_pos x h⟩
theorem fm64 {x m : Int} (h : 0 < m) (h2 : m ≤ 2 ^ 64) : -(2 ^ 64) < x.fmod m ∧ x.fmod m < 2 ^ 64 :=
  ⟨Int.lt_of_lt_of_le (by decide) (fmod_bd h).1, Int.lt_of_lt_of_le (fmod_bd h).2 h2⟩
theorem atI_int {α : Type} {xs : List α} {r : Int} (h0 : 0 ≤ r) (h : r.toNat < xs.length) : atI xs r = some xs[r.toNat] := by
  have e := atI_nat (xs := xs) (j := r.toNat) (List.getElem?_eq_getElem h)
  rwa [Int.toNat_of_nonneg h0] at e
/-! ### the promises of the draws -/
def spCell (K : PySem.W.Frag) : Sp := fun vs H Q _ => ∃ (l : Addr) (ns : List Int) (j : Int), vs = [.ref l, .int j] ∧ SqL K H l (ns.map V.int) ∧ 0 ≤ j ∧ ∀ i : Int, Q (.int i) H
def spSource : Sp := fun vs H Q _ => ∃ c : Int, vs = [.int c] ∧ ∀ p H', H p = none → Same H H' → Src H' p → Q (.ref p) H'
def spPick : Sp := fun vs H Q _ => ∃ (a : Addr) (n : Int), vs = [.ref a, .int n] ∧ Src H a ∧ n < 1073741824 ∧ ∀ (r : Int) (H' : Hp), Stp a H H' → 0 ≤ r → (r < n ∨ r = 0) → Q (.int r) H'
def spOne (K : PySem.W.Frag) : Sp := fun vs H Q _ => ∃ (a : Addr) (row : V), vs = [.ref a, row] ∧ Src H a ∧
  ((∃ (p : Addr) (xs : List V), row = .ref p ∧ p ≠ a ∧ SqL K H p xs ∧ 0 < xs.length ∧ xs.length < 1000 ∧ ∀ v H', v ∈ xs → Stp a H H' → Q v H') ∨
   (∃ z : Str, row = .str z ∧ 0 < z.length ∧ z.length < 1000 ∧ ∀ (c : Nat) H', c ∈ z.cps.toList → Stp a H H' → Q (.str ⟨#[c]⟩) H'))
section
variable {P : Program} {w : World} {K : PySem.W.Frag} {mg : Str → Option Value} {base : Heap}
theorem ok_l_cell (T : Txt w K mg) : FnOk P w K mg base CX0 1 T.a_l_cell T.d_l_cell p_l_cell (spCell K) := by
  refine T.F_l_cell.ok sc_l_cell (fun vs H Q E h => ?_) (fun cdv A outer s H vs Q E hr h => ?_)
  · obtain ⟨l, ns, j, rfl, _⟩ := h
    rfl
  obtain ⟨l, ns, j, rfl, hS, h0, q⟩ := h
  refine ⟨_, (pss_cons (ps_if (pt_cmpR op_lt (pv 1) (pe_callB call_len_seq rfl T.z_len PySem.boot_len (pa_cons (pv 0) pa_nil)) (nomark _)) (pss_one (ps_ret (pe_ix ix_list (pv 0) (pv 1) (fun _ _ => rfl)))) pss_nil)
      (pss_one (ps_ret pe_int))), ?_⟩
  have hl : (ns.map V.int).length = ns.length := List.length_map _
  refine ⟨_, rfl, _, rfl, l, _, rfl, .inl hS, _, _, rfl, rfl, _, rfl, ?_⟩
  refine ite2 (fun c => ?_) (fun c => ?_)
  · have c' : j < (((ns.map V.int).length : Nat) : Int) := of_decide_eq_true c
    rw [hl] at c'
    have hk : j.toNat < ns.length := by omega
    have e := atI_int (xs := ns.map V.int) h0 (by omega)
    rw [List.getElem_map] at e
    exact ⟨_, rfl, _, rfl, l, _, _, _, rfl, rfl, hS, e, q _⟩
  · exact q 0
theorem ok_l_source (T : Txt w K mg) : FnOk P w K mg base CX0 1 T.a_l_source T.d_l_source p_l_source spSource := by
  refine T.F_l_source.ok sc_l_source (fun vs H Q E h => ?_) (fun cdv A outer s H vs Q E hr h => ?_)
  · obtain ⟨c, rfl, _⟩ := h
    rfl
  obtain ⟨c, rfl, q⟩ := h
  refine ⟨_, (pss_one (ps_ret (pe_lst (pa_cons (pv 0) (pa_cons (pv 0) (pa_cons pe_int pa_nil)))))), ?_⟩
  refine ⟨_, rfl, _, rfl, (by show 3 ≤ sizeLine; decide), fun p hp => ?_⟩
  exact q p _ hp (Same.new hp _) ⟨c, c, 0, upd_same⟩
theorem ok_l_pick (T : Txt w K mg) : FnOk P w K mg base CX0 1 T.a_l_pick T.d_l_pick p_l_pick spPick := by
  refine T.F_l_pick.ok sc_l_pick (fun vs H Q E h => ?_) (fun cdv A outer s H vs Q E hr h => ?_)
  · obtain ⟨a, n, rfl, _⟩ := h
    rfl
  obtain ⟨a, n, rfl, ⟨c, m, k, hS⟩, hn, q⟩ := h
  refine ⟨_, (pss_cons (ps_set (i := 2) sc_l_pick.nd rfl (Or.inl rfl) (pe_ix ix_list (pv 0) pe_int (fun _ _ => rfl)))
      (pss_cons (ps_asg (pe_op op_add (pv 2) pe_int) (pg_sub (pv 0) pe_int set_list))
      (pss_cons (ps_if (pt_cmpR op_lt (pv 1) pe_int (nomark _)) (pss_one (ps_ret pe_int)) pss_nil)
      (pss_cons (ps_if (PW.pt (pw_and (pt_cmpR op_ge (pe_ix ix_list (pv 0) pe_int (fun _ _ => rfl)) (pe_op op_pow pe_int pe_int) (nomark _)) (pw_and1 (pt_cmpR op_gt (pe_ix ix_list (pv 0) pe_int (fun _ _ => rfl)) pe_int (nomark _))))) (pss_cons (ps_set (i := 3) sc_l_pick.nd rfl (Or.inl rfl) (pe_op op_modN (pe_callTy call_int1 rfl T.z_int bt_int (pa_cons (pe_ix ix_list (pv 0) pe_int (fun _ _ => rfl)) pa_nil)) (pv 1)))
      (pss_cons (ps_asg (pe_op op_fdivN (pe_ix ix_list (pv 0) pe_int (fun _ _ => rfl)) (pv 1)) (pg_sub (pv 0) pe_int set_list))
      (pss_one (ps_ret (pv 3))))) pss_nil)
      (pss_cons (ps_set (i := 4) sc_l_pick.nd rfl (Or.inl rfl) (pe_op op_modN (pe_callTy call_int1 rfl T.z_int bt_int (pa_cons (pe_op op_add (pe_op op_add (pe_ix ix_list (pv 0) pe_int (fun _ _ => rfl)) (pe_op op_mul pe_int (pv 2))) pe_int) pa_nil)) pe_int))
      (pss_cons (ps_set (i := 4) sc_l_pick.nd rfl (Or.inl rfl) (pe_op op_modN (pe_callTy call_int1 rfl T.z_int bt_int (pa_cons (pe_op op_mul (pv 4) (pe_op op_add (pv 4) pe_int)) pa_nil)) pe_int))
      (pss_cons (ps_set (i := 4) sc_l_pick.nd rfl (Or.inl rfl) (pe_op op_modN (pe_callTy call_int1 rfl T.z_int bt_int (pa_cons (pe_op op_add (pe_op op_mul (pv 4) (pe_op op_add (pv 4) pe_int)) (pe_op op_mul pe_int (pv 2))) pa_nil)) pe_int))
      (pss_one (ps_ret (pe_op op_modN (pe_callTy call_int1 rfl T.z_int bt_int (pa_cons (pe_op op_fdivN (pv 4) pe_int) pa_nil)) (pv 1))))))))))), ?_⟩
  refine ⟨_, rfl, a, _, 2, _, rfl, rfl, SqL.of hS, rfl, ?_⟩
  refine ⟨_, rfl, k, 1, rfl, rfl, _, rfl, a, _, 2, 2, rfl, rfl, hS, rfl, ?_⟩
  have h1 : (upd H a (.lst [.int c, .int m, .int (k + 1)])) a = some (.lst [.int c, .int m, .int (k + 1)]) := upd_same
  have st : Stp a H (upd H a (.lst [.int c, .int m, .int (k + 1)])) := ⟨⟨c, m, k + 1, upd_same⟩, fun b o hb e => by rw [upd_ne hb]; exact e⟩
  refine ⟨_, rfl, n, 2, rfl, rfl, _, rfl, ?_⟩
  refine ite2 (fun _ => ?_) (fun c2 => ?_)
  · exact q 0 _ st (Int.le_refl 0) (.inr rfl)
  have hn2 : ¬ n < 2 := of_decide_eq_false (Bool.eq_false_iff.mpr c2)
  refine ⟨_, rfl, a, _, 0, _, rfl, rfl, SqL.of h1, rfl, 10, 18, rfl, rfl, ⟨by decide, by decide, by decide⟩, _, _, rfl, rfl, _, rfl, ?_⟩
  refine ite2 (fun _ => ⟨_, rfl, a, _, 1, _, rfl, rfl, SqL.of h1, rfl, _, _, rfl, rfl, _, rfl, ite2 (fun _ => ?first) (fun _ => ?second)⟩) (fun _ => iteF ?third)
  case first =>
    refine ⟨_, rfl, a, _, 1, _, rfl, rfl, SqL.of h1, rfl, .inl ⟨_, rfl, ?_⟩⟩
    refine ⟨_, rfl, _, _, rfl, rfl, by omega, ?_⟩
    refine ⟨_, rfl, a, _, 1, _, rfl, rfl, SqL.of h1, rfl, _, rfl, m, n, rfl, rfl, ⟨by omega, by omega⟩, _, rfl, a, _, 1, 1, rfl, rfl, h1, rfl, ?_⟩
    refine ⟨_, rfl, ?_⟩
    have b := fmod_bd (x := m) (m := n) (by omega)
    refine q _ _ ⟨⟨c, m.fdiv n, k + 1, upd_same⟩, fun b o hb e => ?_⟩ b.1 (.inl b.2)
    rw [upd_ne hb]
    exact st.k b o hb e
  all_goals
    refine ⟨_, rfl, a, _, 0, _, rfl, rfl, SqL.of h1, rfl, _, rfl, 7919, k, rfl, rfl, .inl ⟨by decide, by decide⟩, _, _, rfl, rfl, _, _, rfl, rfl, .inl ⟨_, rfl, ?_⟩⟩
    refine ⟨_, _, rfl, rfl, (by intro z; cases z), ?_⟩
    refine ⟨_, rfl, _, rfl, _, _, rfl, rfl, _, _, rfl, rfl, .inl (fm64 (by decide) (by decide)), .inl ⟨_, rfl, ?_⟩⟩
    refine ⟨_, _, rfl, rfl, (by intro z; cases z), ?_⟩
    refine ⟨_, rfl, _, rfl, _, _, rfl, rfl, _, _, rfl, rfl, .inl (fm64 (by decide) (by decide)), _, rfl, 31, k, rfl, rfl, .inl ⟨by decide, by decide⟩, _, _, rfl, rfl, .inl ⟨_, rfl, ?_⟩⟩
    refine ⟨_, _, rfl, rfl, (by intro z; cases z), ?_⟩
    refine ⟨_, rfl, _, _, rfl, rfl, ⟨by decide, by decide⟩, .inl ⟨_, rfl, ?_⟩⟩
    refine ⟨_, rfl, _, _, rfl, rfl, (by omega), ?_⟩
    exact q _ _ st (fmod_bd (by omega)).1 (.inl (fmod_bd (by omega)).2)
end
/-! ### data: equal data are the same to _law_same -/
def Dok : Nat → PyData → Prop
  | 0, _ => False
  | _ + 1, .none => True
  | _ + 1, .bool _ => True
  | _ + 1, .int _ => True
  | _ + 1, .str _ => True
  | n + 1, .tuple ds => ds.length ≤ 100000 ∧ ∀ d ∈ ds, Dok n d
  | n + 1, .list ds => ds.length ≤ 100000 ∧ ∀ d ∈ ds, Dok n d
  | _ + 1, .dict _ => False
theorem dpAll_len {K : PySem.W.Frag} {H : Hp} : ∀ {vs : List V} {ds : List PyData}, DpAll K H vs ds → vs.length = ds.length
  | _, _, .nil => rfl
  | _, _, .cons _ r => congrArg (· + 1) (dpAll_len r)
theorem dpAll_get {K : PySem.W.Frag} {H : Hp} : ∀ {vs : List V} {ds : List PyData} {i : Nat} {d : PyData}, DpAll K H vs ds → ds[i]? = some d → ∃ v, vs[i]? = some v ∧ Dp K H v d
  | _, _, _, _, .nil, e => by simp at e
  | _, _, 0, d, .cons h _, e => by
    simp at e
    subst e
    exact ⟨_, rfl, h⟩
  | _, _, i + 1, d, .cons _ r, e => by
    obtain ⟨v, h1, h2⟩ := dpAll_get (i := i) r (by simpa using e)
    exact ⟨v, by simpa using h1, h2⟩
theorem tyL {K : PySem.W.Frag} {H : Hp} {a : Addr} {xs : List V} (h : SqL K H a xs) : TyX K H (.ref a) (.type "list") := by
  rcases h with (h | ⟨o, h⟩) | ⟨o, its, n, h, c, _⟩
  · exact .base (.lst h)
  · exact .base (.frz h)
  · exact .kList h c
theorem tyT {K : PySem.W.Frag} {H : Hp} {a : Addr} {xs : List V} (h : SqT K H a xs) : TyX K H (.ref a) (.type "tuple") := by
  rcases h with (h | ⟨o, h⟩) | ⟨o, its, n, h, c, _⟩
  · exact .base (.tup h)
  · exact .fTuple h
  · exact .kTuple h c
theorem isi {K : PySem.W.Frag} {H : Hp} {Q : VK} {x : V} {t c : String} (b : Bool) (ty : TyX K H x (.type t)) (kb : kitB t c = some b) (q : Q (.bl b) H) : rIsi K [x, .ty c] H Q := ⟨x, .ty c, _, _, b, rfl, .ty c, ty, kit_ty kb, q⟩
theorem kb_nt : kitB "NoneType" "tuple" = some false := by decide +kernel
theorem kb_nl : kitB "NoneType" "list" = some false := by decide +kernel
theorem kb_bt : kitB "bool" "tuple" = some false := by decide +kernel
theorem kb_bl : kitB "bool" "list" = some false := by decide +kernel
theorem kb_bb : kitB "bool" "bool" = some true := by decide +kernel
theorem kb_it : kitB "int" "tuple" = some false := by decide +kernel
theorem kb_il : kitB "int" "list" = some false := by decide +kernel
theorem kb_ib : kitB "int" "bool" = some false := by decide +kernel
theorem kb_ii : kitB "int" "int" = some true := by decide +kernel
theorem kb_st : kitB "str" "tuple" = some false := by decide +kernel
theorem kb_sl : kitB "str" "list" = some false := by decide +kernel
theorem kb_sb : kitB "str" "bool" = some false := by decide +kernel
theorem kb_si : kitB "str" "int" = some false := by decide +kernel
theorem kb_ss : kitB "str" "str" = some true := by decide +kernel
theorem kb_tt : kitB "tuple" "tuple" = some true := by decide +kernel
theorem kb_tl : kitB "tuple" "list" = some false := by decide +kernel
theorem kb_lt : kitB "list" "tuple" = some false := by decide +kernel
theorem kb_ll : kitB "list" "list" = some true := by decide +kernel
def spSame (K : PySem.W.Frag) (n : Nat) : Sp := fun vs H Q _ => ∃ (x y : V) (d : PyData), vs = [x, y] ∧ Dp K H x d ∧ Dp K H y d ∧ Dok n d ∧ Q (.bl true) H
section
variable {P : Program} {w : World} {K : PySem.W.Frag} {mg : Str → Option Value} {base : Heap}
theorem ok_l_same0 (T : Txt w K mg) : FnOk P w K mg base CX0 0 T.a_l_same T.d_l_same p_l_same (spSame K 0) := by
  have no : ∀ vs H Q E, ¬ spSame K 0 vs H Q E := fun vs H Q E h => by
    obtain ⟨x, y, d, _, _, _, h, _⟩ := h
    exact h
  exact ⟨fun vs H Q E h => absurd h (no vs H Q E), fun A outer s H args us vs Q E _ _ _ _ h => absurd h (no vs H Q E)⟩
/-- the part for two lists or two tuples -/
theorem same_seq {n : Nat} {H : Hp} {p r : Addr} {xs ys : List V} {ds : List PyData} (h1 : SqL K H p xs ∨ SqT K H p xs) (h2 : SqL K H r ys ∨ SqT K H r ys) (d1 : DpAll K H xs ds) (d2 : DpAll K H ys ds)
    (hd : ∀ d ∈ ds, Dok n d) {i : Nat} (hi : i < ds.length) {R : V → Hp → Prop} (q : R (.bl true) H) :
    tCall (spSame K n) [] E0 (tCons (tOp (rIx K) (tVar 0) (tVar 2)) (tCons (tOp (rIx K) (tVar 1) (tVar 2)) tNil)) [some (.ref p), some (.ref r), some (.int (0 + (i : Int)))] H R := by
  obtain ⟨x, e1, q1⟩ := dpAll_get (i := i) d1 (List.getElem?_eq_getElem hi)
  obtain ⟨y, e2, q2⟩ := dpAll_get (i := i) d2 (List.getElem?_eq_getElem hi)
  have a1 : atI xs (0 + (i : Int)) = some x := by rw [Int.zero_add]; exact atI_nat e1
  have a2 : atI ys (0 + (i : Int)) = some y := by rw [Int.zero_add]; exact atI_nat e2
  have k2 : tOp (rIx K) (tVar 1) (tVar 2) [some (.ref p), some (.ref r), some (.int (0 + (i : Int)))] H (fun v H' => tNil [some (.ref p), some (.ref r), some (.int (0 + (i : Int)))] H' fun vs H'' => spSame K n ((x :: v :: vs) ++ []) H'' R E0) := by
    refine ⟨_, rfl, _, rfl, ?_⟩
    have z : spSame K n [x, y] H R E0 := ⟨x, y, _, rfl, q1, q2, hd _ (List.getElem_mem hi), q⟩
    rcases h2 with h2 | h2
    · exact .inl ⟨r, _, _, _, rfl, rfl, h2, a2, z⟩
    · exact .inr (.inl ⟨r, _, _, _, rfl, rfl, h2, a2, z⟩)
  refine ⟨_, rfl, _, rfl, ?_⟩
  rcases h1 with h1 | h1
  · exact .inl ⟨p, _, _, _, rfl, rfl, h1, a1, k2⟩
  · exact .inr (.inl ⟨p, _, _, _, rfl, rfl, h1, a1, k2⟩)
theorem ok_l_same (T : Txt w K mg) : ∀ n : Nat, FnOk P w K mg base CX0 n T.a_l_same T.d_l_same p_l_same (spSame K n)
  | 0 => ok_l_same0 T
  | n + 1 => by
    have g_l_same := ok_l_same T n
    refine T.F_l_same.ok sc_l_same (fun vs H Q E h => ?_) (fun cdv A outer s H vs Q E hr h => ?_)
    · obtain ⟨x, y, d, rfl, _⟩ := h
      rfl
    obtain ⟨x, y, d, rfl, hx, hy, hd, q⟩ := h
    refine ⟨_, (pss_cons (ps_if (PW.pt (pw_or (pt_val (pe_callB call_isi rfl T.z_isinstance bb_isinstance (pa_cons (pv 1) (pa_cons (pe_bltn (v := .ty "tuple") rfl T.z_tuple bt_tuple rfl) pa_nil)))) (pw_or1 (pt_val (pe_callB call_isi rfl T.z_isinstance bb_isinstance (pa_cons (pv 1) (pa_cons (pe_bltn (v := .ty "list") rfl T.z_list bt_list rfl) pa_nil))))))) (pss_cons (ps_if (PW.pt (pw_or (pt_cmpR op_ne (pe_callB call_isi rfl T.z_isinstance bb_isinstance (pa_cons (pv 1) (pa_cons (pe_bltn (v := .ty "tuple") rfl T.z_tuple bt_tuple rfl) pa_nil))) (pe_callB call_isi rfl T.z_isinstance bb_isinstance (pa_cons (pv 0) (pa_cons (pe_bltn (v := .ty "tuple") rfl T.z_tuple bt_tuple rfl) pa_nil))) (nomark _)) (pw_or1 (pt_cmpR op_ne (pe_callB call_isi rfl T.z_isinstance bb_isinstance (pa_cons (pv 1) (pa_cons (pe_bltn (v := .ty "list") rfl T.z_list bt_list rfl) pa_nil))) (pe_callB call_isi rfl T.z_isinstance bb_isinstance (pa_cons (pv 0) (pa_cons (pe_bltn (v := .ty "list") rfl T.z_list bt_list rfl) pa_nil))) (nomark _))))) (pss_one (ps_ret pe_bl)) pss_nil)
      (pss_cons (ps_if (pt_cmpR op_ne (pe_callB call_len_seq rfl T.z_len PySem.boot_len (pa_cons (pv 0) pa_nil)) (pe_callB call_len_seq rfl T.z_len PySem.boot_len (pa_cons (pv 1) pa_nil)) (nomark _)) (pss_one (ps_ret pe_bl)) pss_nil)
      (pss_cons (ps_for PassesOwn.never rfl (pi_range1 rfl T.z_range (pa_cons (pe_callB call_len_seq rfl T.z_len PySem.boot_len (pa_cons (pv 1) pa_nil)) pa_nil)) (pg_name (i := 2) sc_l_same.nd rfl (Or.inl rfl))
        (pss_one (ps_if (pt_not (pt_val (pe_call g_l_same (hr.mono (by first | decide | omega)) rfl T.m_l_same T.F_l_same.kp T.b_l_same .nil pass0 (pa_cons (pe_ix ix_seq (pv 0) (pv 2) (fun _ _ => rfl)) (pa_cons (pe_ix ix_seq (pv 1) (pv 2) (fun _ _ => rfl)) pa_nil))))) (pss_one (ps_ret pe_bl)) pss_nil)))
      (pss_one (ps_ret pe_bl))))) pss_nil)
      (pss_cons (ps_if (pt_cmpR op_isN (pv 1) pe_non (nomark _)) (pss_one (ps_ret (pe_cmpR op_isN (pv 0) pe_non (nomark _)))) pss_nil)
      (pss_cons (ps_if (pt_val (pe_callB call_isi rfl T.z_isinstance bb_isinstance (pa_cons (pv 1) (pa_cons (pe_bltn (v := .ty "bool") rfl T.z_bool bt_bool rfl) pa_nil)))) (pss_one (ps_ret (pe_and (pe_callB call_isi rfl T.z_isinstance bb_isinstance (pa_cons (pv 0) (pa_cons (pe_bltn (v := .ty "bool") rfl T.z_bool bt_bool rfl) pa_nil))) (pe_one (pe_cmpR op_eq (pv 0) (pv 1) (nomark _)))))) pss_nil)
      (pss_cons (ps_if (pt_val (pe_callB call_isi rfl T.z_isinstance bb_isinstance (pa_cons (pv 1) (pa_cons (pe_bltn (v := .ty "int") rfl T.z_int bt_int rfl) pa_nil)))) (pss_one (ps_ret (pe_and (pe_callB call_isi rfl T.z_isinstance bb_isinstance (pa_cons (pv 0) (pa_cons (pe_bltn (v := .ty "int") rfl T.z_int bt_int rfl) pa_nil))) (pe_and (pe_not (pe_callB call_isi rfl T.z_isinstance bb_isinstance (pa_cons (pv 0) (pa_cons (pe_bltn (v := .ty "bool") rfl T.z_bool bt_bool rfl) pa_nil)))) (pe_one (pe_cmpR op_eq (pv 0) (pv 1) (nomark _))))))) pss_nil)
      (pss_one (ps_ret (pe_and (pe_callB call_isi rfl T.z_isinstance bb_isinstance (pa_cons (pv 0) (pa_cons (pe_bltn (v := .ty "str") rfl T.z_str bt_str rfl) pa_nil))) (pe_one (pe_cmpR op_eq (pv 0) (pv 1) (nomark _)))))))))), ?_⟩
    cases hx with
    | non =>
      cases hy
      refine ⟨_, rfl, _, _, _, _, false, rfl, .ty _, (.base .non), kit_ty kb_nt, ⟨_, rfl, iteF ⟨_, rfl, _, _, _, _, false, rfl, .ty _, (.base .non), kit_ty kb_nl, ⟨_, rfl, iteF ?_⟩⟩⟩⟩
      refine ⟨_, rfl, rfl, _, rfl, iteT ?_⟩
      exact ⟨_, rfl, rfl, q⟩
    | bl b =>
      cases hy
      refine ⟨_, rfl, _, _, _, _, false, rfl, .ty _, (.base (.bl _)), kit_ty kb_bt, ⟨_, rfl, iteF ⟨_, rfl, _, _, _, _, false, rfl, .ty _, (.base (.bl _)), kit_ty kb_bl, ⟨_, rfl, iteF ?_⟩⟩⟩⟩
      refine ⟨_, rfl, rfl, _, rfl, iteF ?_⟩
      refine ⟨_, rfl, _, _, _, _, true, rfl, .ty _, (.base (.bl _)), kit_ty kb_bb, ⟨_, rfl, iteT ?_⟩⟩
      refine ⟨_, rfl, _, _, _, _, true, rfl, .ty _, (.base (.bl _)), kit_ty kb_bb, ⟨_, rfl, iteT ?_⟩⟩
      refine ⟨_, rfl, _, rfl, rfl, ?_⟩
      rw [decide_eq_true rfl]
      exact q
    | int b =>
      cases hy
      refine ⟨_, rfl, _, _, _, _, false, rfl, .ty _, (.base (.int _)), kit_ty kb_it, ⟨_, rfl, iteF ⟨_, rfl, _, _, _, _, false, rfl, .ty _, (.base (.int _)), kit_ty kb_il, ⟨_, rfl, iteF ?_⟩⟩⟩⟩
      refine ⟨_, rfl, rfl, _, rfl, iteF ?_⟩
      refine ⟨_, rfl, _, _, _, _, false, rfl, .ty _, (.base (.int _)), kit_ty kb_ib, ⟨_, rfl, iteF ?_⟩⟩
      refine ⟨_, rfl, _, _, _, _, true, rfl, .ty _, (.base (.int _)), kit_ty kb_ii, ⟨_, rfl, iteT ?_⟩⟩
      refine ⟨_, rfl, _, _, _, _, true, rfl, .ty _, (.base (.int _)), kit_ty kb_ii, ⟨_, rfl, iteT ?_⟩⟩
      refine ⟨_, rfl, _, _, _, _, false, rfl, .ty _, (.base (.int _)), kit_ty kb_ib, ⟨_, rfl, _, rfl, iteT ?_⟩⟩
      refine ⟨_, rfl, _, rfl, rfl, ?_⟩
      rw [decide_eq_true rfl]
      exact q
    | str b =>
      cases hy
      refine ⟨_, rfl, _, _, _, _, false, rfl, .ty _, (.base (.str _)), kit_ty kb_st, ⟨_, rfl, iteF ⟨_, rfl, _, _, _, _, false, rfl, .ty _, (.base (.str _)), kit_ty kb_sl, ⟨_, rfl, iteF ?_⟩⟩⟩⟩
      refine ⟨_, rfl, rfl, _, rfl, iteF ?_⟩
      refine ⟨_, rfl, _, _, _, _, false, rfl, .ty _, (.base (.str _)), kit_ty kb_sb, ⟨_, rfl, iteF ?_⟩⟩
      refine ⟨_, rfl, _, _, _, _, false, rfl, .ty _, (.base (.str _)), kit_ty kb_si, ⟨_, rfl, iteF ?_⟩⟩
      refine ⟨_, rfl, _, _, _, _, true, rfl, .ty _, (.base (.str _)), kit_ty kb_ss, ⟨_, rfl, iteT ?_⟩⟩
      refine ⟨_, rfl, _, rfl, rfl, ?_⟩
      rw [decide_eq_true rfl]
      exact q
    | @lst p xs ds h1 d1 =>
      cases hy with
      | @lst r ys _ h2 d2 =>
      have l1 := dpAll_len d1
      have l2 := dpAll_len d2
      obtain ⟨hlen, hd⟩ := hd
      refine ⟨_, rfl, _, _, _, _, false, rfl, .ty _, (tyL h2), kit_ty kb_lt, ⟨_, rfl, iteF ⟨_, rfl, _, _, _, _, true, rfl, .ty _, (tyL h2), kit_ty kb_ll, ⟨_, rfl, iteT ?_⟩⟩⟩⟩
      refine ⟨_, rfl, _, _, _, _, false, rfl, .ty _, (tyL h2), kit_ty kb_lt, ⟨_, rfl, _, _, _, _, false, rfl, .ty _, (tyL h1), kit_ty kb_lt, ⟨rfl, _, rfl, iteF ?_⟩⟩⟩
      refine ⟨_, rfl, _, _, _, _, true, rfl, .ty _, (tyL h2), kit_ty kb_ll, ⟨_, rfl, _, _, _, _, true, rfl, .ty _, (tyL h1), kit_ty kb_ll, ⟨rfl, _, rfl, iteF ?_⟩⟩⟩
      refine ⟨_, rfl, p, _, rfl, .inl h1, _, rfl, r, _, rfl, .inl h2, rfl, _, rfl, ?_⟩
      refine iteNS (congrArg V.int (by omega)) ?_
      refine ⟨_, rfl, r, _, rfl, .inl h2, _, rfl, by omega, by omega, for_range (lo := 0) (fun i σ H' => H' = H ∧ ∃ v : Option V, σ = [some (.ref p), some (.ref r), v]) ⟨rfl, none, rfl⟩ ?_ ?_⟩
      · rintro i σ H' hi ⟨rfl, v, rfl⟩
        refine same_seq (.inl h1) (.inl h2) d1 d2 hd (by omega) ⟨_, rfl, iteF ?_⟩
        exact ⟨rfl, _, rfl⟩
      · rintro σ H' ⟨rfl, v, rfl⟩
        exact q
    | @tup p xs ds h1 d1 =>
      cases hy with
      | @tup r ys _ h2 d2 =>
      have l1 := dpAll_len d1
      have l2 := dpAll_len d2
      obtain ⟨hlen, hd⟩ := hd
      refine ⟨_, rfl, _, _, _, _, true, rfl, .ty _, (tyT h2), kit_ty kb_tt, ⟨_, rfl, iteT ?_⟩⟩
      refine ⟨_, rfl, _, _, _, _, true, rfl, .ty _, (tyT h2), kit_ty kb_tt, ⟨_, rfl, _, _, _, _, true, rfl, .ty _, (tyT h1), kit_ty kb_tt, ⟨rfl, _, rfl, iteF ?_⟩⟩⟩
      refine ⟨_, rfl, _, _, _, _, false, rfl, .ty _, (tyT h2), kit_ty kb_tl, ⟨_, rfl, _, _, _, _, false, rfl, .ty _, (tyT h1), kit_ty kb_tl, ⟨rfl, _, rfl, iteF ?_⟩⟩⟩
      refine ⟨_, rfl, p, _, rfl, .inr h1, _, rfl, r, _, rfl, .inr h2, rfl, _, rfl, ?_⟩
      refine iteNS (congrArg V.int (by omega)) ?_
      refine ⟨_, rfl, r, _, rfl, .inr h2, _, rfl, by omega, by omega, for_range (lo := 0) (fun i σ H' => H' = H ∧ ∃ v : Option V, σ = [some (.ref p), some (.ref r), v]) ⟨rfl, none, rfl⟩ ?_ ?_⟩
      · rintro i σ H' hi ⟨rfl, v, rfl⟩
        refine same_seq (.inr h1) (.inr h2) d1 d2 hd (by omega) ⟨_, rfl, iteF ?_⟩
        exact ⟨rfl, _, rfl⟩
      · rintro σ H' ⟨rfl, v, rfl⟩
        exact q
end
/-! ### rows and matrices of whole numbers -/
open ZG (Sq ItzG walk_zipG)
theorem Sq.same {K : PySem.W.Frag} {t : Bool} {p : Addr} {H H' : Hp} {xs : List V} (s : Same H H') (h : Sq t K H p xs) : Sq t K H' p xs := by
  cases t
  · exact s.seq h
  · exact Same.tup s h
theorem Sq.upd_same {K : PySem.W.Frag} {p : Addr} {H : Hp} {xs : List V} : Sq false K (upd H p (.lst xs)) p xs := SqL.of L2.upd_same
theorem Sq.upd_sameT {K : PySem.W.Frag} {p : Addr} {H : Hp} {xs : List V} : Sq true K (upd H p (.tup xs)) p xs := SqT.of L2.upd_same
/-- what stood stands but at D -/
def But (D : Addr) (H H' : Hp) : Prop := ∀ b o, b ≠ D → H b = some o → H' b = some o
theorem But.of_same {D : Addr} {H H' : Hp} (s : Same H H') : But D H H' := fun b o _ e => s b o e
theorem But.upd {D : Addr} {H : Hp} (o : HO) : But D H (upd H D o) := fun b u ne e => by rw [upd_ne ne]; exact e
theorem But.trans {D : Addr} {H H1 H2 : Hp} (a : But D H H1) (b : But D H1 H2) : But D H H2 := fun c o ne e => b c o ne (a c o ne e)
theorem Sq.but {K : PySem.W.Frag} {t : Bool} {p D : Addr} {H H' : Hp} {xs : List V} (s : But D H H') (ne : p ≠ D) (h : Sq t K H p xs) : Sq t K H' p xs := by
  cases t
  · rcases h with (h | ⟨o, h⟩) | h
    · exact .inl (.inl (s _ _ ne h))
    · exact .inl (.inr ⟨o, s _ _ ne h⟩)
    · exact .inr h
  · rcases h with (h | ⟨o, h⟩) | h
    · exact .inl (.inl (s _ _ ne h))
    · exact .inl (.inr ⟨o, s _ _ ne h⟩)
    · exact .inr h
/-- a matrix at p: rows of kind t2 in a row of kind t1 -/
def Mx (t1 t2 : Bool) (K : PySem.W.Frag) (H : Hp) (p : Addr) (M : List (List Int)) : Prop :=
  ∃ as : List Addr, Sq t1 K H p (as.map V.ref) ∧ as.length = M.length ∧ ∀ (i : Nat) (a : Addr) (r : List Int), as[i]? = some a → M[i]? = some r → Sq t2 K H a (r.map V.int)
theorem Mx.same {t1 t2 : Bool} {K : PySem.W.Frag} {H H' : Hp} {p : Addr} {M : List (List Int)} (s : Same H H') (h : Mx t1 t2 K H p M) : Mx t1 t2 K H' p M := by
  obtain ⟨as, h1, h2, h3⟩ := h
  exact ⟨as, Sq.same s h1, h2, fun i a r e1 e2 => Sq.same s (h3 i a r e1 e2)⟩
/-- its i-th row -/
theorem Mx.row {t1 t2 : Bool} {K : PySem.W.Frag} {H : Hp} {p : Addr} {M : List (List Int)} (h : Mx t1 t2 K H p M) : ∃ vs : List V, Sq t1 K H p vs ∧ vs.length = M.length ∧ ∀ (i : Nat) (v : V), vs[i]? = some v → ∃ (a : Addr) (r : List Int), v = .ref a ∧ M[i]? = some r ∧ Sq t2 K H a (r.map V.int) := by
  obtain ⟨as, h1, h2, h3⟩ := h
  refine ⟨as.map V.ref, h1, by rw [List.length_map]; exact h2, fun i v e => ?_⟩
  rw [List.getElem?_map] at e
  cases ea : as[i]? with
  | none => rw [ea] at e; cases e
  | some a =>
    rw [ea] at e
    cases e
    have hi : i < M.length := by
      have := (List.getElem?_eq_some_iff.mp ea).1
      omega
    exact ⟨a, M[i], rfl, List.getElem?_eq_getElem hi, h3 i a _ ea (List.getElem?_eq_getElem hi)⟩
theorem refs_of {K : PySem.W.Frag} {t2 : Bool} {H : Hp} : ∀ {ys : List V} {M : List (List Int)}, ys.length = M.length → (∀ (j : Nat) (y : V), ys[j]? = some y → ∃ (a : Addr) (r : List Int), y = .ref a ∧ M[j]? = some r ∧ Sq t2 K H a (r.map V.int)) →
    ∃ as : List Addr, ys = as.map V.ref ∧ as.length = M.length ∧ ∀ (i : Nat) (a : Addr) (r : List Int), as[i]? = some a → M[i]? = some r → Sq t2 K H a (r.map V.int)
  | [], [], _, _ => ⟨[], rfl, rfl, fun i a r e => by simp at e⟩
  | [], _ :: _, h, _ => by simp at h
  | _ :: _, [], h, _ => by simp at h
  | y :: ys, r :: M, h, k => by
    obtain ⟨as, e1, e2, e3⟩ := refs_of (ys := ys) (M := M) (by simpa using h) (fun j z e => by
      obtain ⟨a, r', h1, h2, h3⟩ := k (j + 1) z (by simpa using e)
      exact ⟨a, r', h1, by simpa using h2, h3⟩)
    obtain ⟨a, r', h1, h2, h3⟩ := k 0 y rfl
    have er : r = r' := by simpa using h2
    subst er
    subst h1 e1
    refine ⟨a :: as, rfl, by simp [e2], fun i b q e4 e5 => ?_⟩
    cases i with
    | zero =>
      cases e4
      cases e5
      exact h3
    | succ i => exact e3 i b q (by simpa using e4) (by simpa using e5)
theorem Mx.of {t1 t2 : Bool} {K : PySem.W.Frag} {H : Hp} {p : Addr} {ys : List V} {M : List (List Int)} (h : Sq t1 K H p ys) (l : ys.length = M.length) (k : ∀ (j : Nat) (y : V), ys[j]? = some y → ∃ (a : Addr) (r : List Int), y = .ref a ∧ M[j]? = some r ∧ Sq t2 K H a (r.map V.int)) : Mx t1 t2 K H p M := by
  obtain ⟨as, rfl, e2, e3⟩ := refs_of l k
  exact ⟨as, h, e2, e3⟩
theorem ys_ints {ns : List Int} : ∀ {ys : List V}, ys.length = ns.length → (∀ (j : Nat) (y : V), ys[j]? = some y → ∃ c, ns[j]? = some c ∧ y = .int c) → ys = ns.map V.int := by
  induction ns with
  | nil =>
    intro ys l _
    cases ys with
    | nil => rfl
    | cons _ _ => simp at l
  | cons n ns ih =>
    intro ys l k
    cases ys with
    | nil => simp at l
    | cons y ys =>
      obtain ⟨c, h1, h2⟩ := k 0 y rfl
      have e : n = c := by simpa using h1
      subst e h2
      rw [ih (ys := ys) (by simpa using l) (fun j z e => by
        obtain ⟨c, h1, h2⟩ := k (j + 1) z (by simpa using e)
        exact ⟨c, by simpa using h1, h2⟩)]
      rfl
/-- tuple(..) of a list or a tuple -/
def rTupOf (K : PySem.W.Frag) : List V → Hp → VK → Prop := fun xs H Q => ∃ p ys, xs = [.ref p] ∧ ((SqL K H p ys ∧ ∀ l, H l = none → Q (.ref l) (upd H l (.tup ys))) ∨ (SqT K H p ys ∧ Q (.ref p) H))
def rLenOf (K : PySem.W.Frag) : List V → Hp → VK → Prop := fun xs H Q => ∃ p ys, xs = [.ref p] ∧ (SqL K H p ys ∨ SqT K H p ys) ∧ Q (.int ys.length) H
/-- as data -/
def rowD (r : List Int) : PyData := .tuple (r.map PyData.int)
def matD (M : List (List Int)) : PyData := .tuple (M.map rowD)
theorem dp_ints {K : PySem.W.Frag} {H : Hp} : ∀ r : List Int, DpAll K H (r.map V.int) (r.map PyData.int)
  | [] => .nil
  | _ :: r => .cons (.int _) (dp_ints r)
theorem dp_rows {K : PySem.W.Frag} {H : Hp} : ∀ {as : List Addr} {M : List (List Int)}, as.length = M.length → (∀ (i : Nat) (a : Addr) (r : List Int), as[i]? = some a → M[i]? = some r → Sq true K H a (r.map V.int)) → DpAll K H (as.map V.ref) (M.map rowD)
  | [], [], _, _ => .nil
  | [], _ :: _, h, _ => by simp at h
  | _ :: _, [], h, _ => by simp at h
  | a :: as, r :: M, h, k => .cons (.tup (k 0 a r rfl rfl) (dp_ints r)) (dp_rows (by simpa using h) fun i b q e1 e2 => k (i + 1) b q (by simpa using e1) (by simpa using e2))
theorem Mx.dp {K : PySem.W.Frag} {H : Hp} {p : Addr} {M : List (List Int)} (h : Mx true true K H p M) : Dp K H (.ref p) (matD M) := by
  obtain ⟨as, h1, h2, h3⟩ := h
  exact .tup h1 (dp_rows h2 h3)
/-- all its rows have n numbers, n of them -/
def Sz (n : Nat) (M : List (List Int)) : Prop := M.length = n ∧ ∀ r ∈ M, r.length = n
theorem Sz.dok {n : Nat} {M : List (List Int)} (h : Sz n M) (hn : n ≤ 1000) : Dok 3 (matD M) := by
  refine ⟨by rw [List.length_map, h.1]; omega, fun d hd => ?_⟩
  obtain ⟨r, hr, rfl⟩ := List.mem_map.mp hd
  refine ⟨by rw [List.length_map, h.2 r hr]; omega, fun d hd => ?_⟩
  obtain ⟨c, _, rfl⟩ := List.mem_map.mp hd
  trivial
/-- a box: None, or a matrix -/
def BoxAt (K : PySem.W.Frag) (H : Hp) (v : V) : Option (List (List Int)) → Prop
  | none => v = .non
  | some M => ∃ p, v = .ref p ∧ Mx true true K H p M
def boxD : Option (List (List Int)) → PyData
  | none => .none
  | some M => matD M
theorem BoxAt.same {K : PySem.W.Frag} {H H' : Hp} {v : V} {B : Option (List (List Int))} (s : Same H H') (h : BoxAt K H v B) : BoxAt K H' v B := by
  cases B with
  | none => exact h
  | some M =>
    obtain ⟨p, e, h⟩ := h
    exact ⟨p, e, h.same s⟩
theorem BoxAt.dp {K : PySem.W.Frag} {H : Hp} {v : V} {B : Option (List (List Int))} (h : BoxAt K H v B) : Dp K H v (boxD B) := by
  cases B with
  | none =>
    obtain rfl : v = .non := h
    exact .non
  | some M =>
    obtain ⟨p, rfl, h⟩ := h
    exact h.dp
def BSz (n : Nat) (B : Option (List (List Int))) : Prop := ∀ M, B = some M → Sz n M
theorem BSz.dok {n : Nat} {B : Option (List (List Int))} (h : BSz n B) (hn : n ≤ 1000) : Dok 3 (boxD B) := by
  cases B with
  | none => trivial
  | some M => exact (h M rfl).dok hn
/-! ### comprehensions that leave what stood -/
def LcP (S : Hp → Prop) (R : Nat → V → Hp → Prop) (D : Addr) (i : Nat) (H : Hp) : Prop := S H ∧ ∃ acc : List V, H D = some (.lst acc) ∧ acc.length = i ∧ ∀ (j : Nat) (y : V), acc[j]? = some y → R j y H
theorem lcp_step {S : Hp → Prop} {R : Nat → V → Hp → Prop} {D : Addr} {i : Nat} {H H4 : Hp} {y : V} (P : LcP S R D i H) (e : ∀ o, H D = some o → H4 D = some o) (hi : i < sizeLine) (s : ∀ o, S (upd H4 D o)) (m : ∀ (j : Nat) (z : V) (o : HO), R j z H → R j z (upd H4 D o)) (r : ∀ o, R i y (upd H4 D o)) :
    ∃ acc, H4 D = some (.lst acc) ∧ acc.length < sizeLine ∧ LcP S R D (i + 1) (upd H4 D (.lst (acc ++ [y]))) := by
  obtain ⟨_, acc, h1, h2, h3⟩ := P
  refine ⟨acc, e _ h1, by omega, s _, _, upd_same, by simp [h2], fun j z ez => ?_⟩
  by_cases hj : j < i
  · rw [List.getElem?_append_left (by omega)] at ez
    exact m j z _ (h3 j z ez)
  · rw [List.getElem?_append_right (by omega)] at ez
    have ej : j = i := by
      have := (List.getElem?_eq_some_iff.mp ez).1
      simp at this
      omega
    subst ej
    rw [h2, Nat.sub_self] at ez
    have ez' : y = z := by simpa using ez
    rw [← ez']
    exact r _
/-- what the step of a comprehension that only makes new objects is to reach -/
theorem lcp_same {R : Nat → V → Hp → Prop} {D : Addr} {i : Nat} {H1 H H4 : Hp} {y : V} (P : LcP (Same H1) R D i H) (hD : H1 D = none) (s : Same H H4) (hi : i < sizeLine) (mono : ∀ (j : Nat) (z : V) (G G' : Hp), R j z G → But D G G' → R j z G') (r : R i y H4) :
    ∃ acc, H4 D = some (.lst acc) ∧ acc.length < sizeLine ∧ LcP (Same H1) R D (i + 1) (upd H4 D (.lst (acc ++ [y]))) :=
  lcp_step P (fun o e => s _ _ e) hi (fun o b u e => by rw [upd_ne (ne_of_none e hD)]; exact s _ _ (P.1 _ _ e)) (fun j z o q => mono j z _ _ q ((But.of_same s).trans (But.upd o))) fun o => mono i y _ _ r (But.upd o)
theorem lcp_start {R : Nat → V → Hp → Prop} {D : Addr} {H1 : Hp} (hD : H1 D = none) : LcP (Same H1) R D 0 (upd H1 D (.lst [])) :=
  ⟨fun b u e => by rw [upd_ne (ne_of_none e hD)]; exact e, [], upd_same, rfl, fun j y e => by simp at e⟩
/-- its numbers -/
def RInt (ns : List Int) : Nat → V → Hp → Prop := fun j y _ => ∃ c, ns[j]? = some c ∧ y = .int c
theorem RInt.mono {ns : List Int} {D : Addr} : ∀ (j : Nat) (z : V) (G G' : Hp), RInt ns j z G → But D G G' → RInt ns j z G' := fun _ _ _ _ h _ => h
/-- its rows -/
def RRow (K : PySem.W.Frag) (t : Bool) (M : List (List Int)) (D : Addr) : Nat → V → Hp → Prop := fun j y H => ∃ (a : Addr) (r : List Int), y = .ref a ∧ M[j]? = some r ∧ a ≠ D ∧ Sq t K H a (r.map V.int)
theorem RRow.mono {K : PySem.W.Frag} {t : Bool} {M : List (List Int)} {D : Addr} : ∀ (j : Nat) (z : V) (G G' : Hp), RRow K t M D j z G → But D G G' → RRow K t M D j z G' := by
  rintro j z G G' ⟨a, r, h1, h2, h3, h4⟩ b
  exact ⟨a, r, h1, h2, h3, Sq.but b h3 h4⟩
theorem lcp_ints {K : PySem.W.Frag} {S : Hp → Prop} {ns : List Int} {D : Addr} {n : Nat} {H : Hp} (P : LcP S (RInt ns) D n H) (hn : n = ns.length) : H D = some (.lst (ns.map V.int)) := by
  obtain ⟨_, acc, h1, h2, h3⟩ := P
  rw [h1, ys_ints (ns := ns) (by omega) h3]
theorem lcp_rows {K : PySem.W.Frag} {S : Hp → Prop} {t : Bool} {M : List (List Int)} {D : Addr} {n : Nat} {H : Hp} (P : LcP S (RRow K t M D) D n H) (hn : n = M.length) : Mx false t K H D M := by
  obtain ⟨_, acc, h1, h2, h3⟩ := P
  exact Mx.of (t1 := false) (SqL.of h1) (by omega) fun j y e => by
    obtain ⟨a, r, q1, q2, _, q3⟩ := h3 j y e
    exact ⟨a, r, q1, q2, q3⟩
theorem LcP.ne {S : Hp → Prop} {R : Nat → V → Hp → Prop} {D l : Addr} {i : Nat} {H : Hp} (P : LcP S R D i H) (hl : H l = none) : l ≠ D := by
  obtain ⟨_, acc, h, _⟩ := P
  exact fun z => absurd (z ▸ hl) (by rw [h]; intro z; cases z)
theorem lt_line {n : Nat} (h : n ≤ 1000) : n < sizeLine := by rw [sizeLine_eq]; omega
/-- a comprehension without a test -/
theorem tyes {σ : L2.St} {H : Hp} {A B : Hp → Prop} (h : A H) : tYes σ H (fun b H3 => if b = true then A H3 else B H3) := by
  show if true = true then A H else B H
  rw [if_pos rfl]
  exact h
theorem get_int {r : List Int} {j : Nat} {v : V} (e : (r.map V.int)[j]? = some v) : ∃ k, r[j]? = some k ∧ v = .int k := by
  rw [List.getElem?_map] at e
  cases h : r[j]? with
  | none => rw [h] at e; cases e
  | some k => rw [h] at e; cases e; exact ⟨k, rfl, rfl⟩
theorem Sz.get {n i : Nat} {M : List (List Int)} {r : List Int} (h : Sz n M) (e : M[i]? = some r) : r.length = n := h.2 r (List.mem_of_getElem? e)
theorem zw_get {α β γ : Type} {f : α → β → γ} {xs : List α} {ys : List β} {i : Nat} {x : α} {y : β} (e1 : xs[i]? = some x) (e2 : ys[i]? = some y) : (List.zipWith f xs ys)[i]? = some (f x y) := by
  rw [List.getElem?_zipWith, e1, e2]
theorem lcp_put {R : Nat → V → Hp → Prop} {D : Addr} {i : Nat} {H1 H H4 : Hp} {y : V} {acc : List V} (P : LcP (Same H1) R D i H) (e : H D = some (.lst acc)) (hD : H1 D = none) (s : Same H H4) (hi : i < sizeLine) (mono : ∀ (j : Nat) (z : V) (G G' : Hp), R j z G → But D G G' → R j z G') (r : R i y H4) :
    LcP (Same H1) R D (i + 1) (upd H4 D (.lst (acc ++ [y]))) := by
  obtain ⟨acc', h1, _, h3⟩ := lcp_same P hD s hi mono r
  have := s _ _ e
  rw [this] at h1
  cases h1
  exact h3
/-- (0,) and the numbers of a row -/
theorem cat0 {K : PySem.W.Frag} {H : Hp} {t a : Addr} {r : List Int} {Q : VK} (h1 : SqT K H t [.int 0]) (h2 : SqT K H a (r.map V.int)) (hz : r.length ≤ 1000) (q : ∀ z H', Same H H' → SqT K H' z ((0 :: r).map V.int) → Q (.ref z) H') : rCatT K (.ref t) (.ref a) H Q := by
  refine ⟨t, a, _, _, rfl, rfl, h1, h2, by simp, ?_, fun e => ?_, fun ne p hp => ?_⟩
  · rw [List.length_map, sizeLine_eq]
    simp
    omega
  · have e' : r = [] := List.map_eq_nil_iff.mp e
    subst e'
    exact q t H (Same.refl H) h1
  · exact q p _ (Same.new hp _) (SqT.of upd_same)
theorem atI_row {r : List Int} {i : Nat} (h : i < r.length) : atI (r.map V.int) (0 + (i : Int)) = some (.int (r.getD i 0)) := by
  rw [Int.zero_add]
  refine atI_nat ?_
  rw [List.getElem?_map, List.getElem?_eq_getElem h]
  simp [List.getD, h]
theorem LcP.acc {S : Hp → Prop} {R : Nat → V → Hp → Prop} {D : Addr} {i : Nat} {H : Hp} (P : LcP S R D i H) : ∃ acc : List V, H D = some (.lst acc) ∧ acc.length = i := by
  obtain ⟨_, acc, h1, h2, _⟩ := P
  exact ⟨acc, h1, h2⟩
theorem map_get {α β : Type} {f : α → β} {xs : List α} {i : Nat} {x : α} (e : xs[i]? = some x) : (xs.map f)[i]? = some (f x) := by rw [List.getElem?_map, e]; rfl
/-! ### zones: the rows frozen, the join -/
/-- the matrix frozen -/
def spFrozen (K : PySem.W.Frag) : Sp := fun vs H Q _ => ∃ (p : Addr) (M : List (List Int)), vs = [.ref p] ∧ Mx false false K H p M ∧ M.length ≤ 1000 ∧ ∀ q H', Same H H' → Mx true true K H' q M → Q (.ref q) H'
def joinM (M N : List (List Int)) : List (List Int) := List.zipWith (List.zipWith max) M N
def joinB : Option (List (List Int)) → Option (List (List Int)) → Option (List (List Int))
  | none, b => b
  | a, none => a
  | some M, some N => some (joinM M N)
def Alike (A B : Option (List (List Int))) : Prop := ∀ M N, A = some M → B = some N → ∃ n, n ≤ 1000 ∧ Sz n M ∧ Sz n N
def spJoin (K : PySem.W.Frag) : Sp := fun vs H Q _ => ∃ (va vb : V) (A B : Option (List (List Int))), vs = [va, vb] ∧ BoxAt K H va A ∧ BoxAt K H vb B ∧ Alike A B ∧ ∀ v H', Same H H' → BoxAt K H' v (joinB A B) → Q v H'
section
variable {P : Program} {w : World} {K : PySem.W.Frag} {mg : Str → Option Value} {base : Heap}
end
/-! ### drawn numbers and points -/
def spNumber : Sp := fun vs H Q _ => ∃ a : Addr, vs = [.ref a] ∧ Src H a ∧ ∀ (r : Int) H', Stp a H H' → Q (.int r) H'
def spSize : Sp := fun vs H Q _ => ∃ a : Addr, vs = [.ref a] ∧ Src H a ∧ ∀ (n : Nat) H', Stp a H H' → n ≤ 20 → Q (.int n) H'
theorem ixInt {ns : List Int} {r : Int} (h0 : 0 ≤ r) (h : r < (ns.length : Int)) : ∃ u : Int, atI (ns.map V.int) r = some (.int u) := by
  have e := atI_int (xs := ns.map V.int) h0 (by rw [List.length_map]; omega)
  rw [List.getElem_map] at e
  exact ⟨_, e⟩
theorem Src.new {a p : Addr} {H : Hp} {o : HO} (h : Src H a) (n : H p = none) : Src (upd H p o) a := (Stp.refl h).new n |>.s
/-- points: a list of tuples, the list a tracked one -/
def Pts (K : PySem.W.Frag) (H : Hp) (p : Addr) (Ps : List (List Int)) : Prop :=
  ∃ as : List Addr, H p = some (.lst (as.map V.ref)) ∧ as.length = Ps.length ∧ ∀ (i : Nat) (a : Addr) (r : List Int), as[i]? = some a → Ps[i]? = some r → SqT K H a (r.map V.int)
theorem Pts.mx {K : PySem.W.Frag} {H : Hp} {p : Addr} {Ps : List (List Int)} (h : Pts K H p Ps) : Mx false true K H p Ps := by
  obtain ⟨as, h1, h2, h3⟩ := h
  exact ⟨as, SqL.of h1, h2, h3⟩
theorem Pts.same {K : PySem.W.Frag} {H H' : Hp} {p : Addr} {Ps : List (List Int)} (s : Same H H') (h : Pts K H p Ps) : Pts K H' p Ps := by
  obtain ⟨as, h1, h2, h3⟩ := h
  exact ⟨as, s _ _ h1, h2, fun i a r e1 e2 => Same.tup s (h3 i a r e1 e2)⟩
theorem Stp.put {a D : Addr} {G F : Hp} {o : HO} (x : Stp a G F) (hs : Src G a) (hD : G D = none) : Stp a G (upd F D o) := by
  have ne := hs.ne hD
  obtain ⟨c, m, k, h⟩ := x.s
  exact ⟨⟨c, m, k, by rw [upd_ne ne]; exact h⟩, fun b u hb e => by rw [upd_ne (ne_of_none e hD)]; exact x.k b u hb e⟩
/-- the points so far, none of them at p -/
def PtsN (K : PySem.W.Frag) (H : Hp) (p : Addr) (Ps : List (List Int)) : Prop :=
  ∃ as : List Addr, H p = some (.lst (as.map V.ref)) ∧ as.length = Ps.length ∧ ∀ (i : Nat) (a : Addr) (r : List Int), as[i]? = some a → Ps[i]? = some r → a ≠ p ∧ SqT K H a (r.map V.int)
theorem PtsN.pts {K : PySem.W.Frag} {H : Hp} {p : Addr} {Ps : List (List Int)} (h : PtsN K H p Ps) : Pts K H p Ps := by
  obtain ⟨as, h1, h2, h3⟩ := h
  exact ⟨as, h1, h2, fun i a r e1 e2 => (h3 i a r e1 e2).2⟩
theorem ints_of {acc : List V} (h : ∀ (j : Nat) (y : V), acc[j]? = some y → ∃ k : Int, y = .int k) : ∃ ns : List Int, acc = ns.map V.int := by
  induction acc with
  | nil => exact ⟨[], rfl⟩
  | cons y acc ih =>
    obtain ⟨k, rfl⟩ := h 0 y rfl
    obtain ⟨ns, rfl⟩ := ih fun j y e => h (j + 1) y (by simpa using e)
    exact ⟨k :: ns, rfl⟩
/-- one point more -/
theorem PtsN.push {K : PySem.W.Frag} {G F : Hp} {p t : Addr} {Ps : List (List Int)} {as : List Addr} {ns : List Int} (e2 : as.length = Ps.length) (e3 : ∀ (i : Nat) (a : Addr) (r : List Int), as[i]? = some a → Ps[i]? = some r → a ≠ p ∧ SqT K G a (r.map V.int))
    (k : ∀ (x : Addr) (xs : List V), SqT K G x xs → SqT K F x xs) (ht : SqT K F t (ns.map V.int)) (ne : t ≠ p) : PtsN K (upd F p (.lst (as.map V.ref ++ [.ref t]))) p (Ps ++ [ns]) := by
  refine ⟨as ++ [t], by rw [List.map_append]; exact upd_same, by simp [e2], fun i a r h1 h2 => ?_⟩
  have put : ∀ {x : Addr} {xs : List V}, x ≠ p → SqT K F x xs → SqT K (upd F p (.lst (as.map V.ref ++ [.ref t]))) x xs := fun nx h => Sq.but (t := true) (But.upd _) nx h
  by_cases hi : i < as.length
  · rw [List.getElem?_append_left hi] at h1
    rw [List.getElem?_append_left (by omega)] at h2
    obtain ⟨q1, q2⟩ := e3 i a r h1 h2
    exact ⟨q1, put q1 (k _ _ q2)⟩
  · rw [List.getElem?_append_right (by omega)] at h1
    rw [List.getElem?_append_right (by omega)] at h2
    have ei : i = as.length := by
      have := (List.getElem?_eq_some_iff.mp h1).1
      simp at this
      omega
    subst ei
    rw [Nat.sub_self] at h1
    rw [e2, Nat.sub_self] at h2
    have h1' : t = a := by simpa using h1
    have h2' : ns = r := by simpa using h2
    subst h1' h2'
    exact ⟨ne, put ne ht⟩
/-- all have n numbers, and there are few -/
def Few (n : Nat) (Ps : List (List Int)) : Prop := Ps.length ≤ 20 ∧ ∀ r ∈ Ps, r.length = n
def spSeeds (K : PySem.W.Frag) : Sp := fun vs H Q _ => ∃ (a : Addr) (n : Nat), vs = [.ref a, .int n] ∧ Src H a ∧ n ≤ 20 ∧ ∀ p H' Ps, Stp a H H' → H p = none → Pts K H' p Ps → Few n Ps → Q (.ref p) H'
section
variable {P : Program} {w : World} {K : PySem.W.Frag} {mg : Str → Option Value} {base : Heap}
theorem ok_l_number (T : Txt w K mg) : FnOk P w K mg base CX0 2 T.a_l_number T.d_l_number p_l_number spNumber := by
  have g_l_pick := ok_l_pick (P := P) (w := w) (base := base) T
  refine T.F_l_number.ok sc_l_number (fun vs H Q E h => ?_) (fun cdv A outer s H vs Q E hr h => ?_)
  · obtain ⟨a, rfl, _⟩ := h
    rfl
  obtain ⟨a, rfl, hS, q⟩ := h
  refine ⟨_, (pss_cons (ps_set (i := 1) sc_l_number.nd rfl (Or.inl rfl) (pe_ix ix_list (pe_lst (pa_cons pe_int (pa_cons pe_int (pa_cons pe_int (pa_cons (pe_op op_pow pe_int pe_int) (pa_cons (pe_op op_pow pe_int pe_int) pa_nil)))))) (pe_call g_l_pick (hr.mono (by first | decide | omega)) rfl T.m_l_pick T.F_l_pick.kp T.b_l_pick .nil pass0 (pa_cons (pv 0) (pa_cons pe_int pa_nil))) (fun _ _ => rfl)))
      (pss_one (ps_ret (pe_op op_sub (pe_op op_add (pe_op op_mul (pe_op op_sub (pe_call g_l_pick (hr.mono (by first | decide | omega)) rfl T.m_l_pick T.F_l_pick.kp T.b_l_pick .nil pass0 (pa_cons (pv 0) (pa_cons pe_int pa_nil))) pe_int) (pv 1)) (pe_call g_l_pick (hr.mono (by first | decide | omega)) rfl T.m_l_pick T.F_l_pick.kp T.b_l_pick .nil pass0 (pa_cons (pv 0) (pa_cons pe_int pa_nil)))) pe_int)))), ?_⟩
  refine ⟨10, 8, rfl, rfl, ⟨by decide, by decide, by decide⟩, 10, 17, rfl, rfl, ⟨by decide, by decide, by decide⟩, (by show 5 ≤ sizeLine; decide), fun l hl => ?_⟩
  refine ⟨_, rfl, a, 5, rfl, hS.new hl, by decide, fun r H1 st r0 r1 => ?_⟩
  have hl1 : H1 l = some (.lst ([1, 1, 1000, 10 ^ 8, 10 ^ 17].map V.int)) := st.k _ _ (hS.ne hl).symm upd_same
  obtain ⟨u, eu⟩ := ixInt (ns := [1, 1, 1000, 10 ^ 8, 10 ^ 17]) (r := r) r0 (by show r < 5; omega)
  refine ⟨l, _, r, _, rfl, rfl, SqL.of hl1, eu, ?_⟩
  have s1 : Stp a H H1 := ((Stp.refl hS).new hl).trans st
  refine ⟨_, rfl, a, 19, rfl, s1.s, by decide, fun r2 H2 st2 r20 r21 => ?_⟩
  refine ⟨_, _, rfl, rfl, _, rfl, _, _, rfl, rfl, .inl ⟨by omega, by omega⟩, ?_⟩
  refine ⟨_, rfl, a, 7, rfl, (s1.trans st2).s, by decide, fun r3 H3 st3 r30 r31 => ?_⟩
  refine ⟨_, _, rfl, rfl, _, _, rfl, rfl, ?_⟩
  exact q _ _ ((s1.trans st2).trans st3)
theorem ok_l_size (T : Txt w K mg) : FnOk P w K mg base CX0 2 T.a_l_size T.d_l_size p_l_size spSize := by
  have g_l_pick := ok_l_pick (P := P) (w := w) (base := base) T
  refine T.F_l_size.ok sc_l_size (fun vs H Q E h => ?_) (fun cdv A outer s H vs Q E hr h => ?_)
  · obtain ⟨a, rfl, _⟩ := h
    rfl
  obtain ⟨a, rfl, hS, q⟩ := h
  refine ⟨_, (pss_cons (ps_set (i := 1) sc_l_size.nd rfl (Or.inl rfl) (pe_call g_l_pick (hr.mono (by first | decide | omega)) rfl T.m_l_pick T.F_l_pick.kp T.b_l_pick .nil pass0 (pa_cons (pv 0) (pa_cons pe_int pa_nil))))
      (C8.pss_cut (ps_if (pt_cmpR op_eq (pe_call g_l_pick (hr.mono (by first | decide | omega)) rfl T.m_l_pick T.F_l_pick.kp T.b_l_pick .nil pass0 (pa_cons (pv 0) (pa_cons pe_int pa_nil))) pe_int (nomark _)) (pss_one (ps_set (i := 1) sc_l_size.nd rfl (Or.inl rfl) (pe_op op_add pe_int (pe_call g_l_pick (hr.mono (by first | decide | omega)) rfl T.m_l_pick T.F_l_pick.kp T.b_l_pick .nil pass0 (pa_cons (pv 0) (pa_cons pe_int pa_nil)))))) pss_nil)
      (pss_one (ps_ret (pv 1))))), ?_⟩
  refine ⟨_, rfl, a, 5, rfl, hS, by decide, fun r H1 st r0 r1 => ?_⟩
  refine ⟨fun σ H' => ∃ n : Nat, σ = [some (.ref a), some (.int n)] ∧ Stp a H H' ∧ n ≤ 20, ?_, ?_⟩
  · refine ⟨_, rfl, a, 8, rfl, st.s, by decide, fun r2 H2 st2 r20 r21 => ⟨rfl, _, rfl, ite2 (fun _ => ?_) (fun _ => ?_)⟩⟩
    · refine ⟨_, rfl, a, 16, rfl, (st.trans st2).s, by decide, fun r3 H3 st3 r30 r31 => ⟨_, _, rfl, rfl, ?_⟩⟩
      refine ⟨(5 + r3).toNat, ?_, (st.trans st2).trans st3, by omega⟩
      have e : ((5 + r3).toNat : Int) = 5 + r3 := by omega
      rw [e]
      rfl
    · refine ⟨r.toNat, ?_, st.trans st2, by omega⟩
      have e : (r.toNat : Int) = r := by omega
      rw [e]
      rfl
  · rintro σ H' ⟨n, rfl, st', hn⟩
    exact ⟨_, rfl, q _ _ st' hn⟩
theorem ok_l_seeds (T : Txt w K mg) : FnOk P w K mg base CX0 3 T.a_l_seeds T.d_l_seeds p_l_seeds (spSeeds K) := by
  have g_l_pick := ok_l_pick (P := P) (w := w) (base := base) T
  have g_l_number := ok_l_number (P := P) (w := w) (base := base) T
  refine T.F_l_seeds.ok sc_l_seeds (fun vs H Q E h => ?_) (fun cdv A outer s H vs Q E hr h => ?_)
  · obtain ⟨a, n, rfl, _⟩ := h
    rfl
  obtain ⟨a, n, rfl, hS, hn, q⟩ := h
  refine ⟨_, (pss_cons (ps_if (pt_cmpR op_eq (pe_call g_l_pick (hr.mono (by first | decide | omega)) rfl T.m_l_pick T.F_l_pick.kp T.b_l_pick .nil pass0 (pa_cons (pv 0) (pa_cons pe_int pa_nil))) pe_int (nomark _)) (pss_one (ps_ret (pe_lst pa_nil))) pss_nil)
      (pss_cons (ps_set (i := 2) sc_l_seeds.nd rfl (Or.inl rfl) (pe_lst pa_nil))
      (pss_cons (ps_for PassesOwn.never rfl (pi_range1 rfl T.z_range (pa_cons (pe_op op_add pe_int (pe_call g_l_pick (hr.mono (by first | decide | omega)) rfl T.m_l_pick T.F_l_pick.kp T.b_l_pick .nil pass0 (pa_cons (pv 0) (pa_cons (pe_callB (call_min2 rfl) rfl T.z_min bb_min (pa_cons (pe_op op_add (pv 1) pe_int) (pa_cons pe_int pa_nil))) pa_nil)))) pa_nil)) (pg_name (i := 3) sc_l_seeds.nd rfl (Or.inl rfl))
        (pss_one (ps_expr (pe_bm PySem.F.plainAttrs_list PySem.F.slot_list_append PySem.F.type_list_append mt_append (pv 2) (pa_cons (pe_callTy call_tuple_of rfl T.z_tuple bt_tuple (pa_cons (pe_lc (own := [("_law_c", 4)]) (g := gName 4) (tt := tYes) rfl sc_l_seeds.nd (pi_range1 rfl T.z_range (pa_cons (pv 1) pa_nil)) (blkOk_by (own := [("_law_c", 4)]) (N := n_l_seeds) (sc := defScope s_l_seeds) (by decide +kernel)) (fun _ _ _ _ _ => (pg_name (i := 4) sc_l_seeds.nd rfl (Or.inl rfl))) (fun _ _ _ _ _ => pts_nil) (fun _ _ _ _ _ => (pe_call g_l_number (hr.mono (by first | decide | omega)) rfl T.m_l_number T.F_l_number.kp T.b_l_number .nil pass0 (pa_cons (pv 0) pa_nil)))) pa_nil)) pa_nil)))))
      (pss_one (ps_ret (pv 2)))))), ?_⟩
  refine ⟨_, rfl, a, 8, rfl, hS, by decide, fun r H1 st r0 r1 => ⟨rfl, _, rfl, ite2 (fun _ => ?_) (fun _ => ?_)⟩⟩
  · refine ⟨(by show 0 ≤ sizeLine; decide), fun p hp => ?_⟩
    exact q p _ [] (st.new hp) (st.free hp) ⟨[], upd_same, rfl, fun i a r e => by simp at e⟩ ⟨by simp, fun r hr => by simp at hr⟩
  refine ⟨(by show 0 ≤ sizeLine; decide), fun p hp => ?_⟩
  have s1 : Stp a H1 (upd H1 p (.lst [])) := (Stp.refl st.s).new hp
  have nap : a ≠ p := st.s.ne hp
  refine ⟨_, rfl, _, rfl, _, _, rfl, rfl, _, _, rfl, a, _, rfl, s1.s, ?_, fun r2 H2 st2 r20 r21 => ?_⟩
  · split <;> omega
  have s2 : Stp a H1 H2 := s1.trans st2
  have hp2 : H2 p = some (.lst []) := st2.k _ _ nap.symm upd_same
  have r22 : r2 ≤ 5 := by
    rcases r21 with h | h
    · split at h <;> omega
    · omega
  refine ⟨_, _, rfl, rfl, _, rfl, by omega, by omega, for_range (lo := 0) (fun i σ G => ∃ (b c : Option V) (Ps : List (List Int)), σ = [some (.ref a), some (.int n), some (.ref p), b, c] ∧ Stp a H1 G ∧ Ps.length = i ∧ (∀ r ∈ Ps, r.length = n) ∧ PtsN K G p Ps)
    ⟨none, none, [], rfl, s2, rfl, fun r hr => by simp at hr, [], hp2, rfl, fun i a r e => by simp at e⟩ ?_ ?_⟩
  · rintro i σ G hi ⟨b, c, Ps, rfl, sG, lP, hr', hP⟩
    obtain ⟨as, e1, e2, e3⟩ := hP
    refine ⟨_, rfl, .inl ⟨rfl, _, SqL.of e1⟩, ?_⟩
    refine ⟨_, rfl, _, rfl, by omega, by omega, fun D hD => ?_⟩
    refine lc_it walk_range (LcP (fun F => Stp a G F) (fun _ y _ => ∃ k : Int, y = .int k) D) ⟨(Stp.refl sG.s).new hD, [], upd_same, rfl, fun j y e => by simp at e⟩ (fun _ _ _ _ => trivial) ?_ ?_
    · rintro j x F F' hj PF ⟨rfl, rfl⟩
      refine ⟨rfl, tyes ?_⟩
      refine ⟨_, rfl, a, rfl, PF.1.s, fun k F2 st3 => ?_⟩
      exact lcp_step PF (fun o e => st3.k _ _ (sG.s.ne hD).symm e) (lt_line (by omega)) (fun o => (PF.1.trans st3).put sG.s hD) (fun _ _ _ h => h) fun _ => ⟨_, rfl⟩
    · intro F PF
      obtain ⟨sF, acc, h1, h2, h3⟩ := PF
      obtain ⟨ns, rfl⟩ := ints_of h3
      rw [List.length_map] at h2
      refine ⟨D, _, rfl, .inl ⟨SqL.of h1, fun t ht => ?_⟩⟩
      have tp : t ≠ p := fun z => by
        have := sF.k _ _ nap.symm e1
        rw [← z, ht] at this
        cases this
      refine ⟨p, _, _, rfl, rfl, by rw [upd_ne tp.symm]; exact sF.k _ _ nap.symm e1, lt_line (by rw [List.length_map]; omega), ?_⟩
      refine ⟨_, c, Ps ++ [ns], rfl, ?_, by simp [lP], fun r hr => ?_, PtsN.push e2 e3 (fun x xs h => Same.tup (Same.new ht _) (sF.rd h sG.s)) (SqT.of upd_same) tp⟩
      · exact ((sG.trans sF).new ht).put st.s hp
      · rcases List.mem_append.mp hr with h | h
        · exact hr' r h
        · have e : r = ns := by simpa using h
          rw [e]
          omega
  · rintro σ G ⟨b, c, Ps, rfl, sG, lP, hr', hP⟩
    exact ⟨_, rfl, q p G Ps (st.trans sG) (st.free hp) hP.pts ⟨by omega, hr'⟩⟩
end
/-! ### the least box of some points -/
def lmax : List Int → Int
  | [] => 0
  | [x] => x
  | x :: y :: r => max x (lmax (y :: r))
theorem lmax_mem : ∀ {xs : List Int}, xs ≠ [] → lmax xs ∈ xs
  | [], h => absurd rfl h
  | [x], _ => by simp [lmax]
  | x :: y :: r, _ => by
    have ih := lmax_mem (xs := y :: r) (by simp)
    unfold lmax
    by_cases h : x ≤ lmax (y :: r)
    · rw [Int.max_eq_right h]
      exact List.mem_cons_of_mem _ ih
    · rw [Int.max_eq_left (by omega)]
      exact List.mem_cons_self
theorem lmax_le : ∀ {xs : List Int} {x : Int}, x ∈ xs → x ≤ lmax xs
  | [], _, h => by simp at h
  | [z], x, h => by
    have e : x = z := by simpa using h
    rw [e]
    exact Int.le_refl _
  | z :: y :: r, x, h => by
    unfold lmax
    rcases List.mem_cons.mp h with rfl | h
    · omega
    · have := lmax_le (xs := y :: r) h
      omega
theorem lmax_eq {xs : List Int} {m : Int} (h1 : m ∈ xs) (h2 : ∀ y ∈ xs, y ≤ m) : m = lmax xs := by
  have ne : xs ≠ [] := fun z => by rw [z] at h1; simp at h1
  have a := h2 _ (lmax_mem ne)
  have b := lmax_le h1
  omega
theorem lmax_append {xs ys : List Int} (h1 : xs ≠ []) (h2 : ys ≠ []) : lmax (xs ++ ys) = max (lmax xs) (lmax ys) := by
  symm
  refine lmax_eq ?_ fun y hy => ?_
  · by_cases h : lmax xs ≤ lmax ys
    · rw [Int.max_eq_right h]
      exact List.mem_append.mpr (.inr (lmax_mem h2))
    · rw [Int.max_eq_left (by omega)]
      exact List.mem_append.mpr (.inl (lmax_mem h1))
  · rcases List.mem_append.mp hy with h | h
    · have := lmax_le h
      omega
    · have := lmax_le h
      omega
/-- column i minus column j of a point -/
def dif (i j : Nat) (r : List Int) : Int := (0 :: r).getD i 0 - (0 :: r).getD j 0
def hullM (n : Nat) (Ps : List (List Int)) : List (List Int) := (List.range (n + 1)).map fun i => (List.range (n + 1)).map fun j => lmax (Ps.map (dif i j))
def hull (n : Nat) (Ps : List (List Int)) : Option (List (List Int)) := if Ps = [] then none else some (hullM n Ps)
theorem hullM_sz (n : Nat) (Ps : List (List Int)) : Sz (n + 1) (hullM n Ps) := by
  refine ⟨by simp [hullM], fun r hr => ?_⟩
  obtain ⟨i, _, rfl⟩ := List.mem_map.mp hr
  simp
theorem hull_sz (n : Nat) (Ps : List (List Int)) : BSz (n + 1) (hull n Ps) := by
  intro M e
  unfold hull at e
  split at e
  · cases e
  · cases e
    exact hullM_sz n Ps
theorem range_get {n i : Nat} (h : i < n) : (List.range n)[i]? = some i := by simp [h]
def spHull (K : PySem.W.Frag) : Sp := fun vs H Q _ => ∃ (p : Addr) (n : Nat) (Ps : List (List Int)), vs = [.ref p, .int n] ∧ n ≤ 900 ∧ Mx false true K H p Ps ∧ (∀ r ∈ Ps, r.length = n) ∧ Ps.length ≤ 1000 ∧ ∀ v H', Same H H' → BoxAt K H' v (hull n Ps) → Q v H'
section
variable {P : Program} {w : World} {K : PySem.W.Frag} {mg : Str → Option Value} {base : Heap}
theorem ok_l_hull (T : Txt w K mg) : FnOk P w K mg base CX0 1 T.a_l_hull T.d_l_hull p_l_hull (spHull K) := by
  refine T.F_l_hull.ok sc_l_hull (fun vs H Q E h => ?_) (fun cdv A outer s H vs Q E hr h => ?_)
  · obtain ⟨p, n, Ps, rfl, _⟩ := h
    rfl
  obtain ⟨p, n, Ps, rfl, hn, hM, hl, hz, q⟩ := h
  refine ⟨_, (pss_cons (ps_if (pt_cmpR (op_eqL0 hr.units0) (pv 0) (pe_lst pa_nil) (nomark _)) (pss_one (ps_ret pe_non)) pss_nil)
      (pss_cons (ps_set (i := 2) sc_l_hull.nd rfl (Or.inl rfl) (pe_lst pa_nil))
      (pss_cons (ps_for PassesOwn.never rfl (pi_range1 rfl T.z_range (pa_cons (pe_op op_add (pv 1) pe_int) pa_nil)) (pg_name (i := 3) sc_l_hull.nd rfl (Or.inr rfl))
        (pss_cons (ps_set (i := 4) sc_l_hull.nd rfl (Or.inl rfl) (pe_lst pa_nil))
      (pss_cons (ps_for PassesOwn.never rfl (pi_range1 rfl T.z_range (pa_cons (pe_op op_add (pv 1) pe_int) pa_nil)) (pg_name (i := 5) sc_l_hull.nd rfl (Or.inr rfl))
        (pss_one (ps_expr (pe_bm PySem.F.plainAttrs_list PySem.F.slot_list_append PySem.F.type_list_append mt_append (pv 4) (pa_cons (pe_callB (cr_max rfl) rfl T.z_max bb_max (pa_cons (pe_lc (own := [("_law_point", 6)]) (g := gName 6) (tt := tYes) rfl sc_l_hull.nd (pi_list (pv 0)) (blkOk_by (own := [("_law_point", 6)]) (N := n_l_hull) (sc := defScope s_l_hull) (by decide +kernel)) (fun _ _ _ _ _ => (pg_name (i := 6) sc_l_hull.nd rfl (Or.inl rfl))) (fun _ _ _ _ _ => pts_nil) (fun _ _ _ _ _ => (pe_op op_sub (pe_ix (show IxR _ (rIxT K) from ix_tup) (pe_op (show OpR _ _ (rCatT K) from op_catT) (pe_tup (pa_cons pe_int pa_nil)) (pv 6)) (pv 3) (fun _ _ => rfl)) (pe_ix (show IxR _ (rIxT K) from ix_tup) (pe_op (show OpR _ _ (rCatT K) from op_catT) (pe_tup (pa_cons pe_int pa_nil)) (pv 6)) (pv 5) (fun _ _ => rfl))))) pa_nil)) pa_nil)))))
      (pss_one (ps_expr (pe_bm PySem.F.plainAttrs_list PySem.F.slot_list_append PySem.F.type_list_append mt_append (pv 2) (pa_cons (pe_callTy call_tuple_of rfl T.z_tuple bt_tuple (pa_cons (pv 4) pa_nil)) pa_nil)))))))
      (pss_one (ps_ret (pe_callTy call_tuple_of rfl T.z_tuple bt_tuple (pa_cons (pv 2) pa_nil))))))), ?_⟩
  obtain ⟨vs, hv, lv, hrow⟩ := hM.row
  refine ⟨_, rfl, (by show 0 ≤ sizeLine; decide), fun e he => ?_⟩
  have s0 : Same H (upd H e (.lst [])) := Same.new he _
  refine ⟨p, e, vs, rfl, rfl, s0.seq hv, SqL.of upd_same, _, rfl, ?_⟩
  by_cases hPs : Ps = []
  · subst hPs
    have ev : vs = [] := List.length_eq_zero_iff.mp (by simpa using lv)
    subst ev
    exact ifT rfl (q .non _ s0 rfl)
  have nev : vs ≠ [] := fun z => by
    subst z
    exact hPs (List.length_eq_zero_iff.mp (by simpa using lv.symm))
  refine ifF (by cases vs with
    | nil => exact absurd rfl nev
    | cons _ _ => rfl) ?_
  refine ⟨(by show 0 ≤ sizeLine; decide), fun pr hpr => ?_⟩
  refine ⟨_, rfl, _, _, rfl, rfl, _, rfl, by omega, by omega, for_range (lo := 0) (fun i σ G => (∃ b c d f : Option V, σ = [some (.ref p), some (.int n), some (.ref pr), b, c, d, f]) ∧ LcP (Same (upd H e (.lst []))) (RRow K true (hullM n Ps) pr) pr i G)
    ⟨⟨none, none, none, none, rfl⟩, lcp_start hpr⟩ ?_ ?_⟩
  · rintro i σ G hi ⟨⟨b, c, d, f, rfl⟩, P⟩
    refine ⟨(by show 0 ≤ sizeLine; decide), fun pw hpw => ?_⟩
    refine ⟨_, rfl, _, _, rfl, rfl, _, rfl, by omega, by omega, for_range (lo := 0) (fun j σ F => (∃ d f : Option V, σ = [some (.ref p), some (.int n), some (.ref pr), some (.int (0 + (i : Int))), some (.ref pw), d, f]) ∧ LcP (Same G) (RInt ((List.range (n + 1)).map fun j => lmax (Ps.map (dif i j)))) pw j F)
      ⟨⟨d, f, rfl⟩, lcp_start hpw⟩ ?_ ?_⟩
    · rintro j σ F hj ⟨⟨d', f', rfl⟩, PF⟩
      obtain ⟨acc, a1, a2⟩ := PF.acc
      have sF : Same H F := (s0.trans P.1).trans PF.1
      have hvF := sF.seq hv
      refine ⟨_, rfl, .inl ⟨rfl, _, SqL.of a1⟩, ?_⟩
      refine ⟨_, rfl, p, rfl, ⟨vs, hvF⟩, fun D hD => ?_⟩
      refine lc_it (walk_list (xs := vs)) (LcP (Same F) (RInt (Ps.map (dif i j))) D) (lcp_start hD) (fun _ F1 _ PD => PD.1.seq hvF) ?_ ?_
      · rintro k x F1 F2 hk PD ⟨rfl, ex⟩
        obtain ⟨a, r, rfl, er, ha⟩ := hrow k x ex
        have lr := hl r (List.mem_of_getElem? er)
        refine ⟨rfl, tyes ?_⟩
        have ha1 := Sq.same (sF.trans PD.1) ha
        refine ⟨(by show 1 ≤ sizeLine; decide), fun t1 ht1 => ?_⟩
        refine ⟨_, rfl, cat0 (SqT.of upd_same) (Same.tup (Same.new ht1 _) ha1) (by omega) fun z1 Fa sa hz1 => ?_⟩
        refine ⟨_, rfl, z1, _, _, _, rfl, rfl, hz1, atI_row (by simp; omega), ?_⟩
        have s1 := (Same.new ht1 (.tup [.int 0])).trans sa
        refine ⟨(by show 1 ≤ sizeLine; decide), fun t2 ht2 => ?_⟩
        refine ⟨_, rfl, cat0 (SqT.of upd_same) (Same.tup (s1.trans (Same.new ht2 _)) ha1) (by omega) fun z2 Fb sb hz2 => ?_⟩
        refine ⟨_, rfl, z2, _, _, _, rfl, rfl, hz2, atI_row (by simp; omega), ?_⟩
        refine ⟨_, _, rfl, rfl, ?_⟩
        exact lcp_same PD hD (s1.trans ((Same.new ht2 _).trans sb)) (lt_line (by omega)) RInt.mono ⟨dif i j r, map_get er, rfl⟩
      · intro F1 PD
        have ne : Ps.map (dif i j) ≠ [] := fun z => hPs (List.map_eq_nil_iff.mp z)
        refine ⟨D, _, rfl, SqL.of (lcp_ints (K := K) PD (by rw [List.length_map]; exact lv)), List.length_pos_iff.mpr ne, fun m hm hx => ?_⟩
        have em := lmax_eq hm hx
        refine ⟨pw, acc, _, rfl, rfl, PD.1 _ _ a1, lt_line (by omega), ⟨_, _, rfl⟩, ?_⟩
        exact lcp_put PF a1 hpw PD.1 (lt_line (by omega)) RInt.mono ⟨m, by rw [em]; exact map_get (range_get (by omega)), rfl⟩
    · rintro σ F ⟨⟨d', f', rfl⟩, PF⟩
      obtain ⟨acc, a1, a2⟩ := P.acc
      have a1F := PF.1 _ _ a1
      refine ⟨_, rfl, .inl ⟨rfl, _, SqL.of a1F⟩, ?_⟩
      refine ⟨_, rfl, pw, _, rfl, .inl ⟨SqL.of (lcp_ints (K := K) PF (by simp)), fun t ht => ?_⟩⟩
      have tn : t ≠ pr := fun z => by
        rw [← z, ht] at a1F
        cases a1F
      refine ⟨pr, acc, _, rfl, rfl, by rw [upd_ne tn.symm]; exact a1F, lt_line (by omega), ⟨_, _, _, _, rfl⟩, ?_⟩
      exact lcp_put P a1 hpr (PF.1.trans (Same.new ht _)) (lt_line (by omega)) RRow.mono ⟨t, _, rfl, map_get (range_get (by omega)), tn, Sq.upd_sameT⟩
  · rintro σ G ⟨⟨b, c, d, f, rfl⟩, P⟩
    obtain ⟨as, h1, h2, h3⟩ := lcp_rows P (by simp [hullM])
    refine ⟨_, rfl, pr, _, rfl, .inl ⟨h1, fun l hl => ?_⟩⟩
    refine q (.ref l) _ ((s0.trans P.1).trans (Same.new hl _)) ?_
    unfold hull
    rw [if_neg hPs]
    exact ⟨l, rfl, as, Sq.upd_sameT, h2, fun i a r e1 e2 => Sq.same (Same.new hl _) (h3 i a r e1 e2)⟩
end
/-! ### comprehensions with two sources -/
theorem bb_all : bootBuiltins "all" = some (.builtin "all") := by decide +kernel
theorem bb_any : bootBuiltins "any" = some (.builtin "any") := by decide +kernel
/-- the inner source's loop -/
theorem lc2_in {J1 : It} {n1 : Nat} {G1 : Hp → Prop} {Y1 : Nat → Hp → V → Hp → Prop} (w : Walk J1 n1 G1 Y1) {g1 : TG} {tt1 : TT} {te : TE} {vs1 : List Nat} {σ2 : L2.St} {H4 : Hp} {D : Addr} {Nx : Hp → Prop} (Pw : Nat → Hp → Prop) (h0 : Pw 0 H4) (hG : ∀ j H, j ≤ n1 → Pw j H → G1 H)
    (hs : ∀ j x H H', j < n1 → Pw j H → Y1 j H x H' → g1 x (wipe σ2 vs1) H' fun σ3 H5 => wipe σ3 vs1 = wipe σ2 vs1 ∧ tt1 σ3 H5 fun b H6 =>
      if b = true then te σ3 H6 fun y H7 => ∃ acc, H7 D = some (.lst acc) ∧ acc.length < sizeLine ∧ Pw (j + 1) (upd H7 D (.lst (acc ++ [y]))) else Pw (j + 1) H6) (hd : ∀ H, Pw n1 H → Nx H) :
    ∃ W1 : Nat → Nat → Hp → Prop, (∃ m, W1 0 m H4) ∧ ∀ j k H, W1 j k H →
      (J1.stop j H ∧ Nx H) ∨ (J1.go j H ∧ ∃ Nx1 : Hp → Prop, (∀ H', Nx1 H' → ∃ k', k' < k ∧ W1 (j + 1) k' H') ∧ ∀ x H', J1.yld j H x H' → g1 x (wipe σ2 vs1) H' fun σ3 H5 => wipe σ3 vs1 = wipe σ2 vs1 ∧ tt1 σ3 H5 fun b H6 =>
        if b = true then te σ3 H6 fun y H7 => ∃ acc, H7 D = some (.lst acc) ∧ acc.length < sizeLine ∧ Nx1 (upd H7 D (.lst (acc ++ [y]))) else Nx1 H6) := by
  refine ⟨fun j k H => k = n1 - j ∧ j ≤ n1 ∧ Pw j H, ⟨n1, by simp, Nat.zero_le _, h0⟩, ?_⟩
  rintro j k H ⟨rfl, hj, p⟩
  have q := hG j H hj p
  by_cases hlt : j < n1
  · exact .inr ⟨w.goes j H hlt q, Pw (j + 1), fun H' p' => ⟨n1 - (j + 1), by omega, rfl, hlt, p'⟩, fun x H' y => hs j x H H' hlt p (w.yields j H x H' hlt q y)⟩
  · have e : j = n1 := by omega
    subst e
    exact .inl ⟨w.stops H q, hd H p⟩
/-- the outer source's loop -/
theorem lc2_out {J : It} {n : Nat} {G : Hp → Prop} {Y : Nat → Hp → V → Hp → Prop} (w : Walk J n G Y) {g g1 : TG} {tt tt1 : TT} {wi1 : TI} {te : TE} {vs vs1 : List Nat} {σ : L2.St} {H1 : Hp} {D : Addr} {Qd : Hp → Prop} (Pv : Nat → Hp → Prop) (h0 : Pv 0 (upd H1 D (.lst []))) (hG : ∀ i H, i ≤ n → Pv i H → G H)
    (hs : ∀ i x H H', i < n → Pv i H → Y i H x H' → g x (wipe σ vs) H' fun σ2 H2 => wipe σ2 vs = wipe σ vs ∧ tt σ2 H2 fun b H3 =>
      if b = true then wi1 σ2 H3 fun J1 H4 => ∃ W1 : Nat → Nat → Hp → Prop, (∃ m, W1 0 m H4) ∧ ∀ j k H, W1 j k H →
        (J1.stop j H ∧ Pv (i + 1) H) ∨ (J1.go j H ∧ ∃ Nx1 : Hp → Prop, (∀ H', Nx1 H' → ∃ k', k' < k ∧ W1 (j + 1) k' H') ∧ ∀ x H', J1.yld j H x H' → g1 x (wipe σ2 vs1) H' fun σ3 H5 => wipe σ3 vs1 = wipe σ2 vs1 ∧ tt1 σ3 H5 fun b H6 =>
          if b = true then te σ3 H6 fun y H7 => ∃ acc, H7 D = some (.lst acc) ∧ acc.length < sizeLine ∧ Nx1 (upd H7 D (.lst (acc ++ [y]))) else Nx1 H6)
      else Pv (i + 1) H3) (hd : ∀ H, Pv n H → Qd H) :
    ∃ W : Nat → Nat → Hp → Prop, (∃ m, W 0 m (upd H1 D (.lst []))) ∧ ∀ i m H, W i m H →
      (J.stop i H ∧ Qd H) ∨ (J.go i H ∧ ∃ Nx : Hp → Prop, (∀ H', Nx H' → ∃ m', m' < m ∧ W (i + 1) m' H') ∧ ∀ x H', J.yld i H x H' → g x (wipe σ vs) H' fun σ2 H2 => wipe σ2 vs = wipe σ vs ∧ tt σ2 H2 fun b H3 =>
        if b = true then wi1 σ2 H3 fun J1 H4 => ∃ W1 : Nat → Nat → Hp → Prop, (∃ m, W1 0 m H4) ∧ ∀ j k H, W1 j k H →
          (J1.stop j H ∧ Nx H) ∨ (J1.go j H ∧ ∃ Nx1 : Hp → Prop, (∀ H', Nx1 H' → ∃ k', k' < k ∧ W1 (j + 1) k' H') ∧ ∀ x H', J1.yld j H x H' → g1 x (wipe σ2 vs1) H' fun σ3 H5 => wipe σ3 vs1 = wipe σ2 vs1 ∧ tt1 σ3 H5 fun b H6 =>
            if b = true then te σ3 H6 fun y H7 => ∃ acc, H7 D = some (.lst acc) ∧ acc.length < sizeLine ∧ Nx1 (upd H7 D (.lst (acc ++ [y]))) else Nx1 H6)
        else Nx H3) := by
  refine ⟨fun i m H => m = n - i ∧ i ≤ n ∧ Pv i H, ⟨n, by simp, Nat.zero_le _, h0⟩, ?_⟩
  rintro i m H ⟨rfl, hi, p⟩
  have q := hG i H hi p
  by_cases hlt : i < n
  · exact .inr ⟨w.goes i H hlt q, Pv (i + 1), fun H' p' => ⟨n - (i + 1), by omega, rfl, hlt, p'⟩, fun x H' y => hs i x H H' hlt p (w.yields i H x H' hlt q y)⟩
  · have e : i = n := by omega
    subst e
    exact .inl ⟨w.stops H q, hd H p⟩
/-- a list of truth values at D: k of them, and all hold if and only if A -/
def AllP (H1 : Hp) (D : Addr) (k : Nat) (A : Prop) (H : Hp) : Prop := Same H1 H ∧ ∃ bs : List Bool, H D = some (.lst (bs.map V.bl)) ∧ bs.length = k ∧ (bs.all id = true ↔ A)
theorem AllP.start {H1 : Hp} {D : Addr} {A : Prop} (hD : H1 D = none) (a : A) : AllP H1 D 0 A (upd H1 D (.lst [])) :=
  ⟨Same.new hD _, [], upd_same, rfl, ⟨fun _ => a, fun _ => rfl⟩⟩
theorem AllP.imp {H1 H : Hp} {D : Addr} {k k' : Nat} {A A' : Prop} (h : AllP H1 D k A H) (ek : k = k') (e : A ↔ A') : AllP H1 D k' A' H := by
  obtain ⟨s, bs, h1, h2, h3⟩ := h
  exact ⟨s, bs, h1, by omega, h3.trans e⟩
theorem AllP.push {H1 H H4 : Hp} {D : Addr} {k : Nat} {A : Prop} {b : Bool} (h : AllP H1 D k A H) (hD : H1 D = none) (s : Same H H4) (hk : k < sizeLine) :
    ∃ acc, H4 D = some (.lst acc) ∧ acc.length < sizeLine ∧ AllP H1 D (k + 1) (A ∧ b = true) (upd H4 D (.lst (acc ++ [.bl b]))) := by
  obtain ⟨s1, bs, h1, h2, h3⟩ := h
  refine ⟨_, s _ _ h1, by rw [List.length_map]; omega, fun c u e => by rw [upd_ne (ne_of_none e hD)]; exact s _ _ (s1 _ _ e), bs ++ [b], by rw [List.map_append]; exact upd_same, by simp [h2], ?_⟩
  rw [List.all_append, Bool.and_eq_true, h3]
  simp
/-! ### inside, points of a box -/
def getM (M : List (List Int)) (i j : Nat) : Int := (M.getD i []).getD j 0
/-- A is inside B -/
def InsB (n : Nat) : Option (List (List Int)) → Option (List (List Int)) → Prop
  | none, _ => True
  | some _, none => False
  | some M, some N => ∀ i < n, ∀ j < n, getM M i j ≤ getM N i j
def InM (n : Nat) (M : List (List Int)) (r : List Int) : Prop := ∀ i < n + 1, ∀ j < n + 1, dif i j r ≤ getM M i j
def InB (n : Nat) : Option (List (List Int)) → List Int → Prop
  | none, _ => False
  | some M, r => InM n M r
theorem getM_of {M : List (List Int)} {i j : Nat} {r : List Int} {k : Int} (h1 : M[i]? = some r) (h2 : r[j]? = some k) : getM M i j = k := by
  simp [getM, List.getD_eq_getElem?_getD, h1, h2]
theorem getM_hull {n : Nat} {Ps : List (List Int)} {i j : Nat} (hi : i < n + 1) (hj : j < n + 1) : getM (hullM n Ps) i j = lmax (Ps.map (dif i j)) := getM_of (map_get (range_get hi)) (map_get (range_get hj))
def spInside (K : PySem.W.Frag) : Sp := fun vs H Q _ => ∃ (va vb : V) (A B : Option (List (List Int))) (n : Nat), vs = [va, vb] ∧ n ≤ 900 ∧ BoxAt K H va A ∧ BoxAt K H vb B ∧ BSz n A ∧ BSz n B ∧ ∀ b H', Same H H' → (b = true ↔ InsB n A B) → Q (.bl b) H'
def spHas (K : PySem.W.Frag) : Sp := fun vs H Q _ => ∃ (va : V) (p : Addr) (A : Option (List (List Int))) (r : List Int), vs = [va, .ref p] ∧ r.length ≤ 900 ∧ BoxAt K H va A ∧ BSz (r.length + 1) A ∧ SqT K H p (r.map V.int) ∧ ∀ b H', Same H H' → (b = true ↔ InB r.length A r) → Q (.bl b) H'
theorem split_lt {n : Nat} {c : Nat → Prop} : (∀ i < n + 1, c i) ↔ (∀ i < n, c i) ∧ c n := by
  constructor
  · exact fun h => ⟨fun i hi => h i (by omega), h n (by omega)⟩
  · rintro ⟨h1, h2⟩ i hi
    by_cases e : i = n
    · rw [e]; exact h2
    · exact h1 i (by omega)
section
variable {P : Program} {w : World} {K : PySem.W.Frag} {mg : Str → Option Value} {base : Heap}
theorem ok_is_inside (T : Txt w K mg) : FnOk P w K mg base CX0 1 T.a_is_inside T.d_is_inside p_is_inside (spInside K) := by
  refine T.F_is_inside.ok sc_is_inside (fun vs H Q E h => ?_) (fun cdv A outer s H vs Q E hr h => ?_)
  · obtain ⟨va, vb, BA, BB, n, rfl, _⟩ := h
    rfl
  obtain ⟨va, vb, BA, BB, n, rfl, hn, hA, hB, zA, zB, q⟩ := h
  refine ⟨_, (pss_cons (ps_if (PW.pt (pw_or (pt_cmpR op_isN (pv 0) pe_non (nomark _)) (pw_or1 (pt_cmpR op_isN (pv 1) pe_non (nomark _))))) (pss_one (ps_ret (pe_cmpR op_isN (pv 0) pe_non (nomark _)))) pss_nil)
      (pss_one (ps_ret (pe_callB (cr_all rfl) rfl T.z_all bb_all (pa_cons (pe_lc2 (own := [("row", 2), ("others", 3), ("most", 4), ("other", 5)]) (vs1 := [4, 5]) (g := gTup K 2 (gCons (gName 2) (gCons (gName 3) gNil))) (g1 := gTup K 2 (gCons (gName 4) (gCons (gName 5) gNil))) (tt := tYes) (tt1 := tYes) rfl sc_is_inside.nd (ZG.pi_zipG (by rfl) T.z_zip (pa_cons (pv 0) (pa_cons (pv 1) pa_nil))) (blkOk_by (own := [("row", 2), ("others", 3), ("most", 4), ("other", 5)]) (N := n_is_inside) (sc := defScope s_is_inside) (by decide +kernel)) (by decide) (fun _ _ _ _ _ => (pg_tup rfl (pgs_cons (pg_name (i := 2) sc_is_inside.nd rfl (Or.inl rfl)) (pgs_cons (pg_name (i := 3) sc_is_inside.nd rfl (Or.inl rfl)) pgs_nil)))) (fun _ _ _ _ _ => pts_nil) (fun _ _ _ _ _ => (show PI _ _ _ (ZG.iZipG K _) from (ZG.pi_zipG (by rfl) T.z_zip (pa_cons (pv 2) (pa_cons (pv 3) pa_nil))))) (fun _ _ _ _ _ => (pg_tup rfl (pgs_cons (pg_name (i := 4) sc_is_inside.nd rfl (Or.inl rfl)) (pgs_cons (pg_name (i := 5) sc_is_inside.nd rfl (Or.inl rfl)) pgs_nil)))) (fun _ _ _ _ _ => pts_nil) (fun _ _ _ _ _ => (pe_cmpR op_le (pv 4) (pv 5) (nomark _)))) pa_nil))))), ?_⟩
  cases BA with
  | none =>
    obtain rfl : va = .non := hA
    refine ⟨_, rfl, rfl, _, rfl, ifT rfl (ifT rfl ?_)⟩
    refine ⟨_, rfl, rfl, ?_⟩
    exact q _ _ (Same.refl _) ⟨fun _ => trivial, fun _ => rfl⟩
  | some M =>
    obtain ⟨pa, rfl, hMa⟩ := hA
    refine ⟨_, rfl, rfl, _, rfl, ifF rfl ?_⟩
    cases BB with
    | none =>
      obtain rfl : vb = .non := hB
      refine ⟨_, rfl, rfl, _, rfl, ifT rfl ?_⟩
      refine ⟨_, rfl, rfl, ?_⟩
      exact q _ _ (Same.refl _) ⟨fun z => Bool.noConfusion z, fun z => z.elim⟩
    | some N =>
      obtain ⟨pb, rfl, hNb⟩ := hB
      refine ⟨_, rfl, rfl, _, rfl, ifF rfl ?_⟩
      have sM := zA M rfl
      have sN := zB N rfl
      have lM := sM.1
      have lN := sN.1
      obtain ⟨vsA, hvA, hlA, hrA⟩ := hMa.row
      obtain ⟨vsB, hvB, hlB, hrB⟩ := hNb.row
      refine ⟨_, rfl, _, rfl, true, true, pa, pb, _, _, rfl, hvA, hvB, fun D hD => ?_⟩
      refine lc2_out (walk_zipG (n := n) (by omega)) (fun i G => AllP H D (i * n) (∀ i' < i, ∀ j < n, getM M i' j ≤ getM N i' j) G) ((AllP.start hD trivial).imp (by simp) ⟨fun _ i' h => by omega, fun _ => trivial⟩) (fun i G _ P => ⟨Sq.same P.1 hvA, Sq.same P.1 hvB⟩) ?_ ?_
      · rintro i x G G' hi P ⟨t, u, v, rfl, ht, rfl, eu, ev⟩
        obtain ⟨a, r, rfl, er, ha⟩ := hrA i u eu
        obtain ⟨b, r', rfl, er', hb⟩ := hrB i v ev
        have lr := sM.get er
        have lr' := sN.get er'
        have s1 : Same G (upd G t (.tup [.ref a, .ref b])) := Same.new ht _
        refine ⟨t, _, rfl, SqT.of upd_same, rfl, _, _, rfl, _, _, rfl, rfl, ?_⟩
        refine ⟨rfl, tyes ?_⟩
        have ha2 := Sq.same (P.1.trans s1) ha
        have hb2 := Sq.same (P.1.trans s1) hb
        have P1 : AllP H D (i * n) (∀ i' < i, ∀ j < n, getM M i' j ≤ getM N i' j) (upd G t (.tup [.ref a, .ref b])) := by
          obtain ⟨s2, bs, h1, h2, h3⟩ := P
          exact ⟨s2.trans s1, bs, s1 _ _ h1, h2, h3⟩
        have bd : i * n + n ≤ 900 * 900 := by
          have h1 : i * n + n = (i + 1) * n := by rw [Nat.add_mul]; omega
          rw [h1]
          exact Nat.mul_le_mul (by omega) hn
        refine ⟨_, rfl, _, rfl, true, true, a, b, _, _, rfl, ha2, hb2, ?_⟩
        refine lc2_in (walk_zipG (n := n) (by rw [List.length_map, List.length_map]; omega)) (fun j F => AllP H D (i * n + j) ((∀ i' < i, ∀ j < n, getM M i' j ≤ getM N i' j) ∧ ∀ j' < j, getM M i j' ≤ getM N i j') F)
          (P1.imp (by simp) ⟨fun h => ⟨h, fun j h => by omega⟩, fun h => h.1⟩) (fun i F _ P2 => ⟨Sq.same P2.1 ha, Sq.same P2.1 hb⟩) ?_ ?_
        · rintro j y F F' hj P2 ⟨t2, c1, c2, rfl, ht2, rfl, e1, e2⟩
          obtain ⟨k1, f1, rfl⟩ := get_int e1
          obtain ⟨k2, f2, rfl⟩ := get_int e2
          refine ⟨t2, _, rfl, SqT.of upd_same, rfl, _, _, rfl, _, _, rfl, rfl, ?_⟩
          refine ⟨rfl, tyes ?_⟩
          refine ⟨_, rfl, _, rfl, _, _, rfl, rfl, ?_⟩
          obtain ⟨acc, z1, z2, z3⟩ := P2.push (b := decide (k1 ≤ k2)) hD (Same.new ht2 (.tup [.int k1, .int k2])) (by rw [sizeLine_eq]; omega)
          refine ⟨acc, z1, z2, z3.imp (by omega) ?_⟩
          rw [and_assoc]
          refine and_congr Iff.rfl ?_
          rw [split_lt, getM_of er f1, getM_of er' f2, decide_eq_true_eq]
        · intro F P2
          refine P2.imp (by rw [Nat.add_mul]; omega) ?_
          exact split_lt.symm
      · rintro G ⟨sG, bs, h1, h2, h3⟩
        exact ⟨D, bs, rfl, SqL.of h1, q _ _ sG h3⟩
end
theorem cut_lo {xs : List V} {r : Int} (h0 : 0 ≤ r) (h : r.toNat ≤ xs.length) : cutV xs (some r) none = xs.drop r.toNat := by
  have e : HT.sIx xs.length 0 (some r) = r.toNat := by
    show (if r < 0 then (r + (xs.length : Int)).toNat else min r.toNat xs.length) = r.toNat
    rw [if_neg (by omega), Nat.min_eq_left h]
  unfold cutV
  rw [e]
  show (xs.drop r.toNat).take (xs.length - r.toNat) = _
  exact List.take_of_length_le (by rw [List.length_drop]; omega)
theorem cut_hi {xs : List V} {r : Int} (h0 : 0 ≤ r) (h : r.toNat ≤ xs.length) : cutV xs none (some r) = xs.take r.toNat := by
  have e : HT.sIx xs.length xs.length (some r) = r.toNat := by
    show (if r < 0 then (r + (xs.length : Int)).toNat else min r.toNat xs.length) = r.toNat
    rw [if_neg (by omega), Nat.min_eq_left h]
  unfold cutV
  rw [e]
  show (xs.drop 0).take (r.toNat - 0) = _
  rw [List.drop_zero, Nat.sub_zero]
/-! ### has_point, range_of, least_point, greatest_point -/
theorem Mx.get {K : PySem.W.Frag} {H : Hp} {p : Addr} {M : List (List Int)} {i : Nat} {r : List Int} (h : Mx true true K H p M) (e : M[i]? = some r) : ∃ (vs : List V) (a : Addr), SqT K H p vs ∧ atI vs (i : Int) = some (.ref a) ∧ SqT K H a (r.map V.int) := by
  obtain ⟨as, h1, h2, h3⟩ := h
  have hi : i < M.length := (List.getElem?_eq_some_iff.mp e).1
  have ea : as[i]? = some (as[i]'(by omega)) := List.getElem?_eq_getElem _
  exact ⟨_, _, h1, atI_nat (map_get ea), h3 i _ r ea e⟩
theorem Sz.at {n i : Nat} {M : List (List Int)} (h : Sz n M) (hi : i < n) : ∃ r, M[i]? = some r ∧ r.length = n := by
  have hi' : i < M.length := by rw [h.1]; exact hi
  exact ⟨M[i], List.getElem?_eq_getElem hi', h.2 _ (List.getElem_mem hi')⟩
theorem Sz.at2 {n i j : Nat} {M : List (List Int)} (h : Sz n M) (hi : i < n) (hj : j < n) : ∃ r, M[i]? = some r ∧ r.length = n ∧ r[j]? = some (getM M i j) := by
  obtain ⟨r, e, l⟩ := h.at hi
  have hj' : j < r.length := by omega
  refine ⟨r, e, l, ?_⟩
  rw [getM_of e (List.getElem?_eq_getElem hj')]
  exact List.getElem?_eq_getElem hj'
def spRange (K : PySem.W.Frag) : Sp := fun vs H Q _ => ∃ (p : Addr) (M : List (List Int)) (n i : Nat), vs = [.ref p, .int i] ∧ n ≤ 900 ∧ Mx true true K H p M ∧ Sz (n + 1) M ∧ i ≤ n ∧ ∀ t H', Same H H' → SqT K H' t ([-(getM M 0 i), getM M i 0].map V.int) → Q (.ref t) H'
/-- a row, or None -/
def RowAt (K : PySem.W.Frag) (H : Hp) (v : V) : Option (List Int) → Prop
  | none => v = .non
  | some r => ∃ p, v = .ref p ∧ SqT K H p (r.map V.int)
def leastM (n : Nat) (M : List (List Int)) : List Int := (List.range n).map fun k => -(getM M 0 (k + 1))
def greatM (n : Nat) (M : List (List Int)) : List Int := (List.range n).map fun k => getM M (k + 1) 0
def spEnd (K : PySem.W.Frag) (f : Nat → List (List Int) → List Int) : Sp := fun vs H Q _ => ∃ (va : V) (A : Option (List (List Int))) (n : Nat), vs = [va] ∧ n ≤ 900 ∧ BoxAt K H va A ∧ BSz (n + 1) A ∧ ∀ v H', Same H H' → RowAt K H' v (A.map (f n)) → Q v H'
section
variable {P : Program} {w : World} {K : PySem.W.Frag} {mg : Str → Option Value} {base : Heap}
theorem ok_has_point (T : Txt w K mg) : FnOk P w K mg base CX0 1 T.a_has_point T.d_has_point p_has_point (spHas K) := by
  refine T.F_has_point.ok sc_has_point (fun vs H Q E h => ?_) (fun cdv A outer s H vs Q E hr h => ?_)
  · obtain ⟨va, p, BA, r, rfl, _⟩ := h
    rfl
  obtain ⟨va, p, BA, r, rfl, hn, hA, zA, hp, q⟩ := h
  refine ⟨_, (pss_cons (ps_if (pt_cmpR op_isN (pv 0) pe_non (nomark _)) (pss_one (ps_ret pe_bl)) pss_nil)
      (pss_cons (ps_set (i := 2) sc_has_point.nd rfl (Or.inr rfl) (pe_tup (pa_cons pe_int (StX.pa_star (pv 1) pa_nil))))
      (pss_one (ps_ret (pe_callB (cr_all rfl) rfl T.z_all bb_all (pa_cons (pe_lc2 (own := [("left", 3), ("row", 4), ("right", 5), ("most", 6)]) (vs1 := [5, 6]) (g := gTup K 2 (gCons (gName 3) (gCons (gName 4) gNil))) (g1 := gTup K 2 (gCons (gName 5) (gCons (gName 6) gNil))) (tt := tYes) (tt1 := tYes) rfl sc_has_point.nd (ZG.pi_zipG (by rfl) T.z_zip (pa_cons (pv 2) (pa_cons (pv 0) pa_nil))) (blkOk_by (own := [("left", 3), ("row", 4), ("right", 5), ("most", 6)]) (N := n_has_point) (sc := defScope s_has_point) (by decide +kernel)) (by decide) (fun _ _ _ _ _ => (pg_tup rfl (pgs_cons (pg_name (i := 3) sc_has_point.nd rfl (Or.inl rfl)) (pgs_cons (pg_name (i := 4) sc_has_point.nd rfl (Or.inl rfl)) pgs_nil)))) (fun _ _ _ _ _ => pts_nil) (fun _ _ _ _ _ => (show PI _ _ _ (ZG.iZipG K _) from (ZG.pi_zipG (by rfl) T.z_zip (pa_cons (pv 2) (pa_cons (pv 4) pa_nil))))) (fun _ _ _ _ _ => (pg_tup rfl (pgs_cons (pg_name (i := 5) sc_has_point.nd rfl (Or.inl rfl)) (pgs_cons (pg_name (i := 6) sc_has_point.nd rfl (Or.inl rfl)) pgs_nil)))) (fun _ _ _ _ _ => pts_nil) (fun _ _ _ _ _ => (pe_cmpR op_le (pe_op op_sub (pv 3) (pv 5)) (pv 6) (nomark _)))) pa_nil)))))), ?_⟩
  cases BA with
  | none =>
    obtain rfl : va = .non := hA
    refine ⟨_, rfl, rfl, _, rfl, ifT rfl ?_⟩
    exact q _ _ (Same.refl _) ⟨fun z => Bool.noConfusion z, fun z => z.elim⟩
  | some M =>
    obtain ⟨pa, rfl, hMa⟩ := hA
    refine ⟨_, rfl, rfl, _, rfl, ifF rfl ?_⟩
    refine ⟨_, rfl, p, _, rfl, .inl hp, ?_, fun pv hpv => ?_⟩
    · show ([V.int 0] ++ _).length ≤ sizeLine
      rw [sizeLine_eq]
      simp
      omega
    have hv : Sq true K (upd H pv (.tup (V.int 0 :: (r.map V.int ++ [])))) pv ((0 :: r).map V.int) := by
      rw [List.append_nil]
      exact SqT.of upd_same
    generalize hH0 : upd H pv (.tup (V.int 0 :: (r.map V.int ++ []))) = H0 at hv
    have s0 : Same H H0 := by rw [← hH0]; exact Same.new hpv _
    have sM := zA M rfl
    have lM := sM.1
    obtain ⟨vsA, hvA, hlA, hrA⟩ := (hMa.same s0).row
    generalize hn' : r.length = n at *
    have l0 : ((0 :: r).map V.int).length = n + 1 := by simp [hn']
    refine ⟨_, rfl, _, rfl, true, true, pv, pa, _, _, rfl, hv, hvA, fun D hD => ?_⟩
    refine lc2_out (walk_zipG (n := n + 1) (by omega)) (fun i G => AllP H0 D (i * (n + 1)) (∀ i' < i, ∀ j < n + 1, dif i' j r ≤ getM M i' j) G) ((AllP.start hD trivial).imp (by simp) ⟨fun _ i' h => by omega, fun _ => trivial⟩) (fun i G _ P => ⟨Sq.same P.1 hv, Sq.same P.1 hvA⟩) ?_ ?_
    · rintro i x G G' hi P ⟨t, u, v, rfl, ht, rfl, eu, ev⟩
      obtain ⟨k0, f0, rfl⟩ := get_int eu
      obtain ⟨b, r', rfl, er', hb⟩ := hrA i v ev
      have lr' := sM.get er'
      have s1 : Same G (upd G t (.tup [.int k0, .ref b])) := Same.new ht _
      refine ⟨t, _, rfl, SqT.of upd_same, rfl, _, _, rfl, _, _, rfl, rfl, ?_⟩
      refine ⟨rfl, tyes ?_⟩
      have P1 : AllP H0 D (i * (n + 1)) (∀ i' < i, ∀ j < n + 1, dif i' j r ≤ getM M i' j) (upd G t (.tup [.int k0, .ref b])) := by
        obtain ⟨s2, bs, h1, h2, h3⟩ := P
        exact ⟨s2.trans s1, bs, s1 _ _ h1, h2, h3⟩
      have bd : i * (n + 1) + (n + 1) ≤ 901 * 901 := by
        have h1 : i * (n + 1) + (n + 1) = (i + 1) * (n + 1) := by rw [Nat.add_mul]; omega
        rw [h1]
        exact Nat.mul_le_mul (by omega) (by omega)
      refine ⟨_, rfl, _, rfl, true, true, pv, b, _, _, rfl, Sq.same P1.1 hv, Sq.same P1.1 hb, ?_⟩
      refine lc2_in (walk_zipG (n := n + 1) (by rw [l0, List.length_map]; omega)) (fun j F => AllP H0 D (i * (n + 1) + j) ((∀ i' < i, ∀ j < n + 1, dif i' j r ≤ getM M i' j) ∧ ∀ j' < j, dif i j' r ≤ getM M i j') F)
        (P1.imp (by simp) ⟨fun h => ⟨h, fun j h => by omega⟩, fun h => h.1⟩) (fun i F _ P2 => ⟨Sq.same P2.1 hv, Sq.same P2.1 hb⟩) ?_ ?_
      · rintro j y F F' hj P2 ⟨t2, c1, c2, rfl, ht2, rfl, e1, e2⟩
        obtain ⟨k1, f1, rfl⟩ := get_int e1
        obtain ⟨k2, f2, rfl⟩ := get_int e2
        refine ⟨t2, _, rfl, SqT.of upd_same, rfl, _, _, rfl, _, _, rfl, rfl, ?_⟩
        refine ⟨rfl, tyes ?_⟩
        refine ⟨_, rfl, _, rfl, _, _, rfl, rfl, _, rfl, _, _, rfl, rfl, ?_⟩
        obtain ⟨acc, z1, z2, z3⟩ := P2.push (b := decide (k0 - k1 ≤ k2)) hD (Same.new ht2 (.tup [.int k1, .int k2])) (by rw [sizeLine_eq]; omega)
        refine ⟨acc, z1, z2, z3.imp (by omega) ?_⟩
        have ed : dif i j r = k0 - k1 := by
          unfold dif
          rw [List.getD_eq_getElem?_getD, f0, List.getD_eq_getElem?_getD, f1]
          rfl
        rw [and_assoc]
        refine and_congr Iff.rfl ?_
        rw [split_lt, getM_of er' f2, decide_eq_true_eq, ed]
      · intro F P2
        refine P2.imp (by rw [Nat.add_mul]; omega) ?_
        exact split_lt.symm
    · rintro G ⟨sG, bs, h1, h2, h3⟩
      exact ⟨D, bs, rfl, SqL.of h1, q _ _ (s0.trans sG) h3⟩
theorem ok_range_of (T : Txt w K mg) : FnOk P w K mg base CX0 1 T.a_range_of T.d_range_of p_range_of (spRange K) := by
  refine T.F_range_of.ok sc_range_of (fun vs H Q E h => ?_) (fun cdv A outer s H vs Q E hr h => ?_)
  · obtain ⟨p, M, n, i, rfl, _⟩ := h
    rfl
  obtain ⟨p, M, n, i, rfl, hn, hM, sM, hi, q⟩ := h
  refine ⟨_, (pss_one (ps_ret (pe_tup (pa_cons (pe_un un_neg (pe_ix ix_tup (pe_ix ix_tup (pv 0) pe_int (fun _ _ => rfl)) (pv 1) (fun _ _ => rfl))) (pa_cons (pe_ix ix_tup (pe_ix ix_tup (pv 0) (pv 1) (fun _ _ => rfl)) pe_int (fun _ _ => rfl)) pa_nil))))), ?_⟩
  obtain ⟨r0, e0, l0, g0⟩ := sM.at2 (i := 0) (j := i) (by omega) (by omega)
  obtain ⟨ri, ei, li, gi⟩ := sM.at2 (i := i) (j := 0) (by omega) (by omega)
  obtain ⟨vs, a, h1, h2, h3⟩ := hM.get e0
  obtain ⟨vs', a', k1, k2, k3⟩ := hM.get ei
  refine ⟨_, rfl, p, _, _, _, rfl, rfl, h1, h2, _, rfl, a, _, _, _, rfl, rfl, h3, atI_nat (map_get g0), _, rfl, ?_⟩
  refine ⟨_, rfl, _, rfl, p, _, _, _, rfl, rfl, k1, k2, a', _, _, _, rfl, rfl, k3, atI_nat (map_get gi), (by show 2 ≤ sizeLine; decide), fun t ht => ?_⟩
  exact q t _ (Same.new ht _) (SqT.of upd_same)
theorem ok_least_point (T : Txt w K mg) : FnOk P w K mg base CX0 1 T.a_least_point T.d_least_point p_least_point (spEnd K leastM) := by
  refine T.F_least_point.ok sc_least_point (fun vs H Q E h => ?_) (fun cdv A outer s H vs Q E hr h => ?_)
  · obtain ⟨va, BA, n, rfl, _⟩ := h
    rfl
  obtain ⟨va, BA, n, rfl, hn, hA, zA, q⟩ := h
  refine ⟨_, (pss_one (ps_ret (pe_ifExp (pt_cmpR op_isN (pv 0) pe_non (nomark _)) pe_non (pe_callTy call_tuple_of rfl T.z_tuple bt_tuple (pa_cons (pe_lc (own := [("most", 1)]) (g := gName 1) (tt := tYes) rfl sc_least_point.nd (pi_tup (pe_slice sl_tup (pe_ix ix_tup (pv 0) pe_int (fun _ _ => rfl)) (po_some pe_int) po_none)) (blkOk_by (own := [("most", 1)]) (N := n_least_point) (sc := defScope s_least_point) (by decide +kernel)) (fun _ _ _ _ _ => (pg_name (i := 1) sc_least_point.nd rfl (Or.inl rfl))) (fun _ _ _ _ _ => pts_nil) (fun _ _ _ _ _ => (pe_un un_neg (pv 1)))) pa_nil))))), ?_⟩
  cases BA with
  | none =>
    obtain rfl : va = .non := hA
    exact ⟨_, rfl, rfl, _, rfl, ifT rfl (q _ _ (Same.refl _) rfl)⟩
  | some M =>
    obtain ⟨pa, rfl, hM⟩ := hA
    refine ⟨_, rfl, rfl, _, rfl, ifF rfl ?_⟩
    have sM := zA M rfl
    obtain ⟨r, e, l⟩ := sM.at (i := 0) (by omega)
    obtain ⟨vs, a, h1, h2, h3⟩ := hM.get e
    have ec : cutV (r.map V.int) (some 1) none = (r.drop 1).map V.int := by
      rw [cut_lo (by decide) (by rw [List.length_map, l]; show 1 ≤ n + 1; omega), List.map_drop]
      rfl
    refine ⟨_, rfl, pa, _, _, _, rfl, rfl, h1, h2, 1, rfl, a, _, rfl, h3, ?_, fun pc hpc => ?_⟩
    · rintro ⟨z, _⟩
      have e1 : HT.sIx (r.map V.int).length 0 (some 1) = min 1 (r.map V.int).length := HT.sIx_nat _ _ 1
      rw [e1, List.length_map, l] at z
      omega
    have hc : SqT K (upd H pc (.tup (cutV (r.map V.int) (some 1) none))) pc ((r.drop 1).map V.int) := by
      rw [← ec]
      exact SqT.of upd_same
    have s0 : Same H (upd H pc (.tup (cutV (r.map V.int) (some 1) none))) := Same.new hpc _
    refine ⟨pc, rfl, ⟨_, hc⟩, fun D hD => ?_⟩
    refine lc_it (walk_tup (xs := (r.drop 1).map V.int)) (LcP (Same (upd H pc (.tup (cutV (r.map V.int) (some 1) none)))) (RInt (leastM n M)) D) (lcp_start hD) (fun i G _ P => Same.tup P.1 hc) ?_ ?_
    · rintro i x G G' hi P ⟨rfl, ex⟩
      obtain ⟨k, fk, rfl⟩ := get_int ex
      rw [List.length_map, List.length_drop, l] at hi
      refine ⟨rfl, tyes ?_⟩
      refine ⟨_, rfl, _, rfl, ?_⟩
      have fk' : r[i + 1]? = some k := by
        rw [List.getElem?_drop] at fk
        rw [Nat.add_comm]
        exact fk
      exact lcp_same P hD (Same.refl _) (lt_line (by omega)) RInt.mono ⟨_, map_get (range_get (by omega)), by rw [getM_of e fk']⟩
    · intro G P
      refine ⟨D, _, rfl, .inl ⟨SqL.of (lcp_ints (K := K) P (by simp [leastM, l])), fun t ht => ?_⟩⟩
      exact q _ _ ((s0.trans P.1).trans (Same.new ht _)) ⟨t, rfl, SqT.of upd_same⟩
theorem ok_greatest_point (T : Txt w K mg) : FnOk P w K mg base CX0 1 T.a_greatest_point T.d_greatest_point p_greatest_point (spEnd K greatM) := by
  refine T.F_greatest_point.ok sc_greatest_point (fun vs H Q E h => ?_) (fun cdv A outer s H vs Q E hr h => ?_)
  · obtain ⟨va, BA, n, rfl, _⟩ := h
    rfl
  obtain ⟨va, BA, n, rfl, hn, hA, zA, q⟩ := h
  refine ⟨_, (pss_one (ps_ret (pe_ifExp (pt_cmpR op_isN (pv 0) pe_non (nomark _)) pe_non (pe_callTy call_tuple_of rfl T.z_tuple bt_tuple (pa_cons (pe_lc (own := [("row", 1)]) (g := gName 1) (tt := tYes) rfl sc_greatest_point.nd (pi_tup (pe_slice sl_tup (pv 0) (po_some pe_int) po_none)) (blkOk_by (own := [("row", 1)]) (N := n_greatest_point) (sc := defScope s_greatest_point) (by decide +kernel)) (fun _ _ _ _ _ => (pg_name (i := 1) sc_greatest_point.nd rfl (Or.inl rfl))) (fun _ _ _ _ _ => pts_nil) (fun _ _ _ _ _ => (pe_ix (show IxR _ (rIxT K) from ix_tup) (pv 1) pe_int (fun _ _ => rfl)))) pa_nil))))), ?_⟩
  cases BA with
  | none =>
    obtain rfl : va = .non := hA
    exact ⟨_, rfl, rfl, _, rfl, ifT rfl (q _ _ (Same.refl _) rfl)⟩
  | some M =>
    obtain ⟨pa, rfl, hM⟩ := hA
    refine ⟨_, rfl, rfl, _, rfl, ifF rfl ?_⟩
    have sM := zA M rfl
    obtain ⟨vs, h1, h2, h3⟩ := hM.row
    have lv : vs.length = n + 1 := by rw [h2, sM.1]
    have ec : cutV vs (some 1) none = vs.drop 1 := cut_lo (by decide) (by rw [lv]; show 1 ≤ n + 1; omega)
    refine ⟨_, rfl, 1, rfl, pa, _, rfl, h1, ?_, fun pc hpc => ?_⟩
    · rintro ⟨z, _⟩
      have e1 : HT.sIx vs.length 0 (some 1) = min 1 vs.length := HT.sIx_nat _ _ 1
      rw [e1, lv] at z
      omega
    have s0 : Same H (upd H pc (.tup (cutV vs (some 1) none))) := Same.new hpc _
    have hc : SqT K (upd H pc (.tup (cutV vs (some 1) none))) pc (vs.drop 1) := by
      rw [← ec]
      exact SqT.of upd_same
    refine ⟨pc, rfl, ⟨_, hc⟩, fun D hD => ?_⟩
    refine lc_it (walk_tup (xs := vs.drop 1)) (LcP (Same (upd H pc (.tup (cutV vs (some 1) none)))) (RInt (greatM n M)) D) (lcp_start hD) (fun i G _ P => Same.tup P.1 hc) ?_ ?_
    · rintro i x G G' hi P ⟨rfl, ex⟩
      rw [List.length_drop, lv] at hi
      rw [List.getElem?_drop, Nat.add_comm] at ex
      obtain ⟨a, r, rfl, er, ha⟩ := h3 _ _ ex
      have lr := sM.get er
      have e0 : r[0]? = some (r[0]'(by omega)) := List.getElem?_eq_getElem _
      refine ⟨rfl, tyes ?_⟩
      refine ⟨_, rfl, a, _, (0 : Nat), _, rfl, rfl, Same.tup (s0.trans P.1) ha, atI_nat (map_get e0), ?_⟩
      exact lcp_same P hD (Same.refl _) (lt_line (by omega)) RInt.mono ⟨_, map_get (range_get (by omega)), by rw [getM_of er e0]⟩
    · intro G P
      refine ⟨D, _, rfl, .inl ⟨SqL.of (lcp_ints (K := K) P (by simp [greatM, lv])), fun t ht => ?_⟩⟩
      exact q _ _ ((s0.trans P.1).trans (Same.new ht _)) ⟨t, rfl, SqT.of upd_same⟩
end
/-! ### points at addresses; a point in a matrix -/
/-- the points at these addresses -/
def PA (K : PySem.W.Frag) (H : Hp) (as : List Addr) (Ps : List (List Int)) : Prop := as.length = Ps.length ∧ ∀ (i : Nat) (a : Addr) (r : List Int), as[i]? = some a → Ps[i]? = some r → SqT K H a (r.map V.int)
theorem Pts.pa {K : PySem.W.Frag} {H : Hp} {p : Addr} {Ps : List (List Int)} (h : Pts K H p Ps) : ∃ as, H p = some (.lst (as.map V.ref)) ∧ PA K H as Ps := by
  obtain ⟨as, h1, h2, h3⟩ := h
  exact ⟨as, h1, h2, h3⟩
theorem PA.pts {K : PySem.W.Frag} {H : Hp} {p : Addr} {as : List Addr} {Ps : List (List Int)} (h : PA K H as Ps) (e : H p = some (.lst (as.map V.ref))) : Pts K H p Ps := ⟨as, e, h.1, h.2⟩
theorem PA.same {K : PySem.W.Frag} {H H' : Hp} {as : List Addr} {Ps : List (List Int)} (s : Same H H') (h : PA K H as Ps) : PA K H' as Ps := ⟨h.1, fun i a r e1 e2 => Same.tup s (h.2 i a r e1 e2)⟩
theorem PA.stp {K : PySem.W.Frag} {a : Addr} {H H' : Hp} {as : List Addr} {Ps : List (List Int)} (s : Stp a H H') (hs : Src H a) (h : PA K H as Ps) : PA K H' as Ps := ⟨h.1, fun i b r e1 e2 => s.rd (h.2 i b r e1 e2) hs⟩
theorem PA.drop {K : PySem.W.Frag} {H : Hp} {as : List Addr} {Ps : List (List Int)} (k : Nat) (h : PA K H as Ps) : PA K H (as.drop k) (Ps.drop k) := by
  refine ⟨by rw [List.length_drop, List.length_drop, h.1], fun i a r e1 e2 => ?_⟩
  rw [List.getElem?_drop] at e1 e2
  exact h.2 _ a r e1 e2
theorem PA.take {K : PySem.W.Frag} {H : Hp} {as : List Addr} {Ps : List (List Int)} (k : Nat) (h : PA K H as Ps) : PA K H (as.take k) (Ps.take k) := by
  refine ⟨by rw [List.length_take, List.length_take, h.1], fun i a r e1 e2 => ?_⟩
  rw [List.getElem?_take] at e1 e2
  split at e1
  · rename_i hk
    rw [if_pos hk] at e2
    exact h.2 _ a r e1 e2
  · cases e1
theorem PA.append {K : PySem.W.Frag} {H : Hp} {as bs : List Addr} {Ps Qs : List (List Int)} (h : PA K H as Ps) (k : PA K H bs Qs) : PA K H (as ++ bs) (Ps ++ Qs) := by
  refine ⟨by rw [List.length_append, List.length_append, h.1, k.1], fun i a r e1 e2 => ?_⟩
  by_cases hi : i < as.length
  · rw [List.getElem?_append_left hi] at e1
    rw [List.getElem?_append_left (by rw [← h.1]; exact hi)] at e2
    exact h.2 i a r e1 e2
  · rw [List.getElem?_append_right (by omega)] at e1
    rw [List.getElem?_append_right (by rw [← h.1]; omega), ← h.1] at e2
    exact k.2 _ a r e1 e2
theorem PA.one {K : PySem.W.Frag} {H : Hp} {a : Addr} {r : List Int} (h : SqT K H a (r.map V.int)) : PA K H [a] [r] := by
  refine ⟨rfl, fun i b q e1 e2 => ?_⟩
  cases i with
  | zero =>
    cases e1
    cases e2
    exact h
  | succ i => simp at e1
theorem Pts.stp {K : PySem.W.Frag} {a p : Addr} {H H' : Hp} {Ps : List (List Int)} (s : Stp a H H') (hs : Src H a) (ne : p ≠ a) (h : Pts K H p Ps) : Pts K H' p Ps := by
  obtain ⟨as, h1, h2⟩ := h.pa
  exact (h2.stp s hs).pts (s.k _ _ ne h1)
theorem Mx.get0 {K : PySem.W.Frag} {H : Hp} {p : Addr} {M : List (List Int)} {i : Nat} {r : List Int} (h : Mx true true K H p M) (e : M[i]? = some r) : ∃ (vs : List V) (a : Addr), SqT K H p vs ∧ atI vs (0 + (i : Int)) = some (.ref a) ∧ SqT K H a (r.map V.int) := by
  rw [Int.zero_add]
  exact h.get e
def spBelongs (K : PySem.W.Frag) : Sp := fun vs H Q _ => ∃ (p t : Addr) (M : List (List Int)) (r : List Int), vs = [.ref p, .ref t] ∧ r.length ≤ 900 ∧ Mx true true K H p M ∧ Sz (r.length + 1) M ∧ SqT K H t (r.map V.int) ∧ ∀ b H', Same H H' → (b = true ↔ InM r.length M r) → Q (.bl b) H'
def spAllIn (K : PySem.W.Frag) : Sp := fun vs H Q _ => ∃ (p : Addr) (vb : V) (Ps : List (List Int)) (B : Option (List (List Int))) (n : Nat), vs = [.ref p, vb] ∧ n ≤ 900 ∧ Mx false true K H p Ps ∧ (∀ r ∈ Ps, r.length = n) ∧ BoxAt K H vb B ∧ BSz (n + 1) B ∧ ∀ b H', Same H H' → (b = true ↔ ∀ r ∈ Ps, InB n B r) → Q (.bl b) H'
section
variable {P : Program} {w : World} {K : PySem.W.Frag} {mg : Str → Option Value} {base : Heap}
theorem ok_l_belongs (T : Txt w K mg) : FnOk P w K mg base CX0 1 T.a_l_belongs T.d_l_belongs p_l_belongs (spBelongs K) := by
  refine T.F_l_belongs.ok sc_l_belongs (fun vs H Q E h => ?_) (fun cdv A outer s H vs Q E hr h => ?_)
  · obtain ⟨p, t, M, r, rfl, _⟩ := h
    rfl
  obtain ⟨p, t, M, r, rfl, hn, hM, sM, ht, q⟩ := h
  refine ⟨_, (pss_cons (ps_set (i := 2) sc_l_belongs.nd rfl (Or.inl rfl) (pe_op op_catT (pe_tup (pa_cons pe_int pa_nil)) (pv 1)))
      (pss_cons (ps_for PassesOwn.never rfl (pi_range1 rfl T.z_range (pa_cons (pe_callB call_len_seq rfl T.z_len PySem.boot_len (pa_cons (pv 2) pa_nil)) pa_nil)) (pg_name (i := 3) sc_l_belongs.nd rfl (Or.inl rfl))
        (pss_one (ps_for PassesOwn.never rfl (pi_range1 rfl T.z_range (pa_cons (pe_callB call_len_seq rfl T.z_len PySem.boot_len (pa_cons (pv 2) pa_nil)) pa_nil)) (pg_name (i := 4) sc_l_belongs.nd rfl (Or.inl rfl))
        (pss_one (ps_if (pt_cmpR op_gt (pe_op op_sub (pe_ix ix_tup (pv 2) (pv 3) (fun _ _ => rfl)) (pe_ix ix_tup (pv 2) (pv 4) (fun _ _ => rfl))) (pe_ix ix_tup (pe_ix ix_tup (pv 0) (pv 3) (fun _ _ => rfl)) (pv 4) (fun _ _ => rfl)) (nomark _)) (pss_one (ps_ret pe_bl)) pss_nil)))))
      (pss_one (ps_ret pe_bl)))), ?_⟩
  generalize hn' : r.length = n at *
  refine ⟨(by show 1 ≤ sizeLine; decide), fun t1 ht1 => ?_⟩
  refine ⟨_, rfl, cat0 (SqT.of upd_same) (Same.tup (Same.new ht1 _) ht) (by omega) fun z F sa hz => ?_⟩
  have sF : Same H F := (Same.new ht1 _).trans sa
  have hMF := hM.same sF
  have l0 : ((0 :: r).map V.int).length = n + 1 := by simp [hn']
  refine ⟨_, rfl, z, _, rfl, .inr hz, _, rfl, by omega, by omega, for_range (lo := 0) (fun i σ G => G = F ∧ (∃ b c : Option V, σ = [some (.ref p), some (.ref t), some (.ref z), b, c]) ∧ ∀ i' < i, ∀ j < n + 1, dif i' j r ≤ getM M i' j) ⟨rfl, ⟨none, none, rfl⟩, fun i' h => by omega⟩ ?_ ?_⟩
  · rintro i σ G hi ⟨rfl, ⟨b, c, rfl⟩, hA⟩
    rw [l0] at hi
    refine ⟨_, rfl, z, _, rfl, .inr hz, _, rfl, by omega, by omega, for_range (lo := 0) (fun j σ G' => G' = G ∧ (∃ c : Option V, σ = [some (.ref p), some (.ref t), some (.ref z), some (.int (0 + (i : Int))), c]) ∧ ∀ j' < j, dif i j' r ≤ getM M i j') ⟨rfl, ⟨c, rfl⟩, fun i' h => by omega⟩ ?_ ?_⟩
    · rintro j σ G' hj ⟨rfl, ⟨c', rfl⟩, hB⟩
      rw [l0] at hj
      obtain ⟨ri, ei, li, gi⟩ := sM.at2 (i := i) (j := j) (by omega) (by omega)
      obtain ⟨vs, a, k1, k2, k3⟩ := hMF.get0 ei
      refine ⟨_, rfl, _, rfl, z, _, _, _, rfl, rfl, hz, atI_row (by simp; omega), ?_⟩
      refine ⟨_, rfl, _, rfl, z, _, _, _, rfl, rfl, hz, atI_row (by simp; omega), _, _, rfl, rfl, ?_⟩
      refine ⟨_, rfl, _, rfl, p, _, _, _, rfl, rfl, k1, k2, _, rfl, a, _, _, _, rfl, rfl, k3, atI_row (by omega), _, _, rfl, rfl, _, rfl, ?_⟩
      have eg : ri.getD j 0 = getM M i j := by rw [List.getD_eq_getElem?_getD, gi]; rfl
      rw [eg]
      refine ite2 (fun h => ?_) (fun h => ?_)
      · have h' : dif i j r > getM M i j := of_decide_eq_true h
        refine q _ _ sF ⟨fun z => Bool.noConfusion z, fun z => ?_⟩
        have := z i (by omega) j (by omega)
        omega
      · have h' : ¬ dif i j r > getM M i j := of_decide_eq_false (Bool.eq_false_iff.mpr h)
        refine ⟨rfl, ⟨_, rfl⟩, split_lt.mpr ⟨hB, by omega⟩⟩
    · rintro σ G' ⟨rfl, ⟨c', rfl⟩, hB⟩
      rw [l0] at hB
      exact ⟨rfl, ⟨_, _, rfl⟩, split_lt.mpr ⟨hA, fun j hj => hB j (by omega)⟩⟩
  · rintro σ G ⟨rfl, ⟨b, c, rfl⟩, hA⟩
    rw [l0] at hA
    exact q _ _ sF ⟨fun _ i hi j hj => hA i (by omega) j hj, fun _ => rfl⟩
theorem ok_l_all_inside (T : Txt w K mg) : FnOk P w K mg base CX0 2 T.a_l_all_inside T.d_l_all_inside p_l_all_inside (spAllIn K) := by
  have g_l_belongs := ok_l_belongs (P := P) (w := w) (base := base) T
  refine T.F_l_all_inside.ok sc_l_all_inside (fun vs H Q E h => ?_) (fun cdv A outer s H vs Q E hr h => ?_)
  · obtain ⟨p, vb, Ps, B, n, rfl, _⟩ := h
    rfl
  obtain ⟨p, vb, Ps, B, n, rfl, hn, hM, hl, hB, zB, q⟩ := h
  refine ⟨_, (pss_cons (ps_for PassesOwn.never rfl (pi_list (pv 0)) (pg_name (i := 2) sc_l_all_inside.nd rfl (Or.inl rfl))
        (pss_one (ps_if (PW.pt (pw_or (pt_cmpR op_isN (pv 1) pe_non (nomark _)) (pw_or1 (pt_not (pt_val (pe_call g_l_belongs (hr.mono (by first | decide | omega)) rfl T.m_l_belongs T.F_l_belongs.kp T.b_l_belongs .nil pass0 (pa_cons (pv 1) (pa_cons (pv 2) pa_nil)))))))) (pss_one (ps_ret pe_bl)) pss_nil)))
      (pss_one (ps_ret pe_bl))), ?_⟩
  obtain ⟨vs, hv, lv, hrow⟩ := hM.row
  refine ⟨_, rfl, p, rfl, ⟨vs, hv⟩, ?_⟩
  refine for_it (walk_list (xs := vs)) (fun i σ G => (∃ c : Option V, σ = [some (.ref p), some vb, c]) ∧ Same H G ∧ ∀ i' < i, ∀ r, Ps[i']? = some r → InB n B r) ⟨⟨none, rfl⟩, Same.refl _, fun i h => by omega⟩ (fun i σ G _ P => P.2.1.seq hv) ?_ ?_
  · rintro i x σ G G' hi ⟨⟨c, rfl⟩, sG, hA⟩ ⟨rfl, ex⟩
    obtain ⟨a, r, rfl, er, ha⟩ := hrow i x ex
    have lr := hl r (List.mem_of_getElem? er)
    cases B with
    | none =>
      obtain rfl : vb = .non := hB
      refine ⟨_, rfl, rfl, _, rfl, ifT rfl (ifT rfl ?_)⟩
      exact q _ _ sG ⟨fun z => Bool.noConfusion z, fun z => (z r (List.mem_of_getElem? er)).elim⟩
    | some M =>
      obtain ⟨pb, rfl, hMb⟩ := hB
      refine ⟨_, rfl, rfl, _, rfl, ifF rfl ?_⟩
      refine ⟨_, rfl, _, rfl, pb, a, M, r, rfl, by omega, hMb.same sG, by rw [lr]; exact zB M rfl, Sq.same sG ha, fun b G2 s2 hb => ?_⟩
      rw [lr] at hb
      refine ⟨_, rfl, ?_⟩
      cases b with
      | false =>
        refine ifT rfl (q _ _ (sG.trans s2) ⟨fun z => Bool.noConfusion z, fun z => ?_⟩)
        exact absurd (hb.mpr (z r (List.mem_of_getElem? er))) (by decide)
      | true =>
        refine ifF rfl ⟨⟨_, rfl⟩, sG.trans s2, split_lt.mpr ⟨hA, fun r' er' => ?_⟩⟩
        rw [er] at er'
        cases er'
        exact hb.mp rfl
  · rintro σ G ⟨⟨c, rfl⟩, sG, hA⟩
    refine q _ _ sG ⟨fun _ r hr => ?_, fun _ => rfl⟩
    obtain ⟨i, hi, e⟩ := List.getElem_of_mem hr
    exact hA i (by omega) r (by rw [List.getElem?_eq_getElem hi, e])
end
/-! ### the second row of points, a point near -/
def Few2 (n : Nat) (Ps : List (List Int)) : Prop := Ps.length ≤ 60 ∧ ∀ r ∈ Ps, r.length = n
theorem ixN_int {n : Nat} {c : Int} (h0 : 0 ≤ c) (h : c < (n : Int)) : ixN n c = some c.toNat := by
  unfold ixN
  rw [if_pos h0, if_pos h]
def spSecond (K : PySem.W.Frag) : Sp := fun vs H Q _ => ∃ (a p : Addr) (n : Nat) (Ps : List (List Int)), vs = [.ref a, .ref p, .int n] ∧ Src H a ∧ p ≠ a ∧ Pts K H p Ps ∧ Few n Ps ∧ n ≤ 20 ∧ ∀ q H' Qs, Stp a H H' → Pts K H' q Qs → Few2 n Qs → Q (.ref q) H'
def spNear (K : PySem.W.Frag) : Sp := fun vs H Q _ => ∃ (a p : Addr) (n : Nat) (Ps : List (List Int)), vs = [.ref a, .ref p, .int n] ∧ Src H a ∧ p ≠ a ∧ Pts K H p Ps ∧ Few n Ps ∧ Ps ≠ [] ∧ n ≤ 20 ∧ ∀ (q : Addr) (H' : Hp) (r : List Int), Stp a H H' → SqT K H' q (r.map V.int) → r.length = n → Q (.ref q) H'
section
variable {P : Program} {w : World} {K : PySem.W.Frag} {mg : Str → Option Value} {base : Heap}
theorem ok_l_second (T : Txt w K mg) : FnOk P w K mg base CX0 4 T.a_l_second T.d_l_second p_l_second (spSecond K) := by
  have g_l_pick := ok_l_pick (P := P) (w := w) (base := base) T
  have g_l_seeds := ok_l_seeds (P := P) (w := w) (base := base) T
  refine T.F_l_second.ok sc_l_second (fun vs H Q E h => ?_) (fun cdv A outer s H vs Q E hr h => ?_)
  · obtain ⟨a, p, n, Ps, rfl, _⟩ := h
    rfl
  obtain ⟨a, p, n, Ps, rfl, hS, npa, hP, fP, hn, q⟩ := h
  refine ⟨_, (pss_cons (ps_set (i := 3) sc_l_second.nd rfl (Or.inl rfl) (pe_call g_l_pick (hr.mono (by first | decide | omega)) rfl T.m_l_pick T.F_l_pick.kp T.b_l_pick .nil pass0 (pa_cons (pv 0) (pa_cons pe_int pa_nil))))
      (pss_cons (ps_if (PW.pt (pw_or (pt_cmpR op_eq (pv 3) pe_int (nomark _)) (pw_or (pt_cmpR (op_eqL0 hr.units0) (pv 1) (pe_lst pa_nil) (nomark _)) (pw_or1 (pt_cmpR op_eq (pv 2) pe_int (nomark _)))))) (pss_one (ps_ret (pe_call g_l_seeds (hr.mono (by first | decide | omega)) rfl T.m_l_seeds T.F_l_seeds.kp T.b_l_seeds .nil pass0 (pa_cons (pv 0) (pa_cons (pv 2) pa_nil))))) pss_nil)
      (pss_cons (ps_set (i := 4) sc_l_second.nd rfl (Or.inl rfl) (pe_call g_l_pick (hr.mono (by first | decide | omega)) rfl T.m_l_pick T.F_l_pick.kp T.b_l_pick .nil pass0 (pa_cons (pv 0) (pa_cons (pe_callB call_len_seq rfl T.z_len PySem.boot_len (pa_cons (pv 1) pa_nil)) pa_nil))))
      (pss_cons (ps_if (pt_cmpR op_eq (pv 3) pe_int (nomark _)) (pss_one (ps_ret (pe_op op_cat (pe_slice sl_list (pv 1) (po_some (pv 4)) po_none) (pe_slice sl_list (pv 1) po_none (po_some (pv 4)))))) pss_nil)
      (pss_cons (ps_if (pt_cmpR op_eq (pv 3) pe_int (nomark _)) (pss_one (ps_ret (pe_op op_cat (pe_slice sl_list (pv 1) po_none (po_some (pv 4))) (pe_slice sl_list (pv 1) (po_some (pe_op op_add (pv 4) pe_int)) po_none)))) pss_nil)
      (pss_cons (ps_set (i := 5) sc_l_second.nd rfl (Or.inl rfl) (pe_callTy call_list_of rfl T.z_list bt_list (pa_cons (pe_ix ix_list (pv 1) (pv 4) (fun _ _ => rfl)) pa_nil)))
      (pss_cons (ps_set (i := 6) sc_l_second.nd rfl (Or.inl rfl) (pe_call g_l_pick (hr.mono (by first | decide | omega)) rfl T.m_l_pick T.F_l_pick.kp T.b_l_pick .nil pass0 (pa_cons (pv 0) (pa_cons (pv 2) pa_nil))))
      (pss_cons (ps_asg (pe_op op_sub (pe_op op_add (pe_ix ix_list (pv 5) (pv 6) (fun _ _ => rfl)) pe_int) (pe_op op_mul pe_int (pe_call g_l_pick (hr.mono (by first | decide | omega)) rfl T.m_l_pick T.F_l_pick.kp T.b_l_pick .nil pass0 (pa_cons (pv 0) (pa_cons pe_int pa_nil))))) (pg_sub (pv 5) (pv 6) set_list))
      (pss_one (ps_ret (pe_op op_cat (pv 1) (pe_lst (pa_cons (pe_callTy call_tuple_of rfl T.z_tuple bt_tuple (pa_cons (pv 5) pa_nil)) pa_nil))))))))))))), ?_⟩
  refine ⟨_, rfl, a, 4, rfl, hS, by decide, fun r0 H1 st1 _ _ => ?_⟩
  refine ⟨_, rfl, rfl, _, rfl, ite2 (fun _ => ifT rfl ?_) (fun _ => ?_)⟩
  · exact ⟨_, rfl, _, rfl, a, n, rfl, st1.s, hn, fun p' H' Qs st' hp' hP' fP' => q p' H' Qs (st1.trans st') hP' ⟨by have := fP'.1; omega, fP'.2⟩⟩
  have hP1 := hP.stp st1 hS npa
  obtain ⟨as1, e1, pa1⟩ := hP1.pa
  refine ⟨_, rfl, (by show 0 ≤ sizeLine; decide), fun e he => ?_⟩
  have st2 : Stp a H (upd H1 e (.lst [])) := st1.new he
  have hP2 := hP.stp st2 hS npa
  obtain ⟨as, e2, pa2⟩ := hP2.pa
  refine ⟨p, e, _, rfl, rfl, SqL.of e2, SqL.of upd_same, _, rfl, ?_⟩
  by_cases hPs : Ps = []
  · have ea : as = [] := List.length_eq_zero_iff.mp (by rw [pa2.1, hPs]; rfl)
    subst ea
    refine ifT rfl ?_
    refine ifT rfl ?_
    exact ⟨_, rfl, _, rfl, a, n, rfl, st2.s, hn, fun p' H' Qs st' hp' hP' fP' => q p' H' Qs (st2.trans st') hP' ⟨by have := fP'.1; omega, fP'.2⟩⟩
  have l1 : 1 ≤ Ps.length := List.length_pos_iff.mpr hPs
  have la := pa2.1
  have fl := fP.1
  refine ifF (by cases as with
    | nil => simp at la; omega
    | cons _ _ => rfl) ?_
  refine ⟨_, rfl, rfl, _, rfl, ite2 (fun _ => ?_) (fun hz => ?_)⟩
  · exact ⟨_, rfl, _, rfl, a, n, rfl, st2.s, hn, fun p' H' Qs st' hp' hP' fP' => q p' H' Qs (st2.trans st') hP' ⟨by have := fP'.1; omega, fP'.2⟩⟩
  have hn0 : n ≠ 0 := fun z => hz (by rw [z]; rfl)
  refine ⟨_, rfl, _, rfl, p, _, rfl, .inl (SqL.of e2), a, _, rfl, st2.s, by rw [List.length_map, la]; omega, fun r H3 st3 r0 r1 => ?_⟩
  rw [List.length_map, la] at r1
  have s3 := st2.trans st3
  have e3 := st3.k _ _ npa e2
  have pa3 := pa2.stp st3 st2.s
  have hr : r.toNat < Ps.length := by omega
  refine ⟨_, rfl, rfl, _, rfl, ite2 (fun _ => ?_) (fun _ => ?_)⟩
  · refine ⟨_, rfl, _, rfl, r, rfl, p, _, rfl, SqL.of e3, fun p1 hp1 => ?_⟩
    have ne1 : p ≠ p1 := ne_of_none e3 hp1
    refine ⟨_, rfl, _, rfl, r, rfl, p, _, rfl, SqL.of (by rw [upd_ne ne1]; exact e3), fun p2 hp2 => ?_⟩
    have ne2 : p1 ≠ p2 := ne_of_none upd_same hp2
    have k1 : cutV (as.map V.ref) (some r) none = (as.drop r.toNat).map V.ref := by rw [cut_lo r0 (by rw [List.length_map, la]; omega), List.map_drop]
    have k2 : cutV (as.map V.ref) none (some r) = (as.take r.toNat).map V.ref := by rw [cut_hi r0 (by rw [List.length_map, la]; omega), List.map_take]
    refine ⟨p1, p2, _, _, rfl, rfl, by rw [upd_ne ne2]; exact upd_same, upd_same, ?_, fun p3 hp3 => ?_⟩
    · rw [k1, k2, List.length_map, List.length_map, List.length_drop, List.length_take, sizeLine_eq]
      omega
    rw [k1] at hp2 hp3 ⊢
    rw [k2] at hp3 ⊢
    have sm := ((Same.new hp1 (.lst ((as.drop r.toNat).map V.ref))).trans (Same.new hp2 (.lst ((as.take r.toNat).map V.ref)))).trans (Same.new hp3 (.lst ((as.drop r.toNat).map V.ref ++ (as.take r.toNat).map V.ref)))
    refine q p3 _ (Ps.drop r.toNat ++ Ps.take r.toNat) (s3.same sm) ?_ ⟨by rw [List.length_append, List.length_drop, List.length_take]; omega, fun x hx => ?_⟩
    · exact (((pa3.drop r.toNat).append (pa3.take r.toNat)).same sm).pts (by rw [List.map_append]; exact upd_same)
    · rcases List.mem_append.mp hx with h | h
      · exact fP.2 x (List.mem_of_mem_drop h)
      · exact fP.2 x (List.mem_of_mem_take h)
  refine ⟨_, rfl, rfl, _, rfl, ite2 (fun _ => ?_) (fun _ => ?_)⟩
  · refine ⟨_, rfl, _, rfl, r, rfl, p, _, rfl, SqL.of e3, fun p1 hp1 => ?_⟩
    have ne1 : p ≠ p1 := ne_of_none e3 hp1
    refine ⟨_, rfl, _, rfl, _, _, rfl, rfl, r + 1, rfl, p, _, rfl, SqL.of (by rw [upd_ne ne1]; exact e3), fun p2 hp2 => ?_⟩
    have ne2 : p1 ≠ p2 := ne_of_none upd_same hp2
    have k1 : cutV (as.map V.ref) none (some r) = (as.take r.toNat).map V.ref := by rw [cut_hi r0 (by rw [List.length_map, la]; omega), List.map_take]
    have k2 : cutV (as.map V.ref) (some (r + 1)) none = (as.drop (r + 1).toNat).map V.ref := by rw [cut_lo (by omega) (by rw [List.length_map, la]; omega), List.map_drop]
    refine ⟨p1, p2, _, _, rfl, rfl, by rw [upd_ne ne2]; exact upd_same, upd_same, ?_, fun p3 hp3 => ?_⟩
    · rw [k1, k2, List.length_map, List.length_map, List.length_drop, List.length_take, sizeLine_eq]
      omega
    rw [k1] at hp2 hp3 ⊢
    rw [k2] at hp3 ⊢
    have sm := ((Same.new hp1 (.lst ((as.take r.toNat).map V.ref))).trans (Same.new hp2 (.lst ((as.drop (r + 1).toNat).map V.ref)))).trans (Same.new hp3 (.lst ((as.take r.toNat).map V.ref ++ (as.drop (r + 1).toNat).map V.ref)))
    refine q p3 _ (Ps.take r.toNat ++ Ps.drop (r + 1).toNat) (s3.same sm) ?_ ⟨by rw [List.length_append, List.length_drop, List.length_take]; omega, fun x hx => ?_⟩
    · exact (((pa3.take r.toNat).append (pa3.drop (r + 1).toNat)).same sm).pts (by rw [List.map_append]; exact upd_same)
    · rcases List.mem_append.mp hx with h | h
      · exact fP.2 x (List.mem_of_mem_take h)
      · exact fP.2 x (List.mem_of_mem_drop h)
  have eP : Ps[r.toNat]? = some Ps[r.toNat] := List.getElem?_eq_getElem hr
  have lP := fP.2 _ (List.mem_of_getElem? eP)
  generalize Ps[r.toNat] = pt at eP lP
  have ea : as[r.toNat]? = some (as[r.toNat]'(by omega)) := List.getElem?_eq_getElem _
  have hpt := pa3.2 _ _ _ ea eP
  generalize as[r.toNat]'(by omega) = ar at ea hpt
  have eat : atI (as.map V.ref) r = some (.ref ar) := by
    have := atI_nat (map_get (f := V.ref) ea)
    rwa [Int.toNat_of_nonneg r0] at this
  refine ⟨_, rfl, _, rfl, p, _, r, _, rfl, rfl, SqL.of e3, eat, ar, _, rfl, .inr hpt, fun pr hpr => ?_⟩
  have s4 := s3.new (o := .lst (pt.map V.int)) hpr
  have nar : a ≠ pr := s3.s.ne hpr
  refine ⟨_, rfl, _, rfl, a, n, rfl, s4.s, by omega, fun c H5 st5 c0 c1 => ?_⟩
  have s5 := s4.trans st5
  have er5 : H5 pr = some (.lst (pt.map V.int)) := st5.k _ _ nar.symm upd_same
  obtain ⟨u, eu⟩ := ixInt (ns := pt) (r := c) c0 (by omega)
  refine ⟨_, rfl, _, rfl, pr, _, c, _, rfl, rfl, SqL.of er5, eu, _, _, rfl, rfl, ?_⟩
  refine ⟨_, rfl, a, 2, rfl, s5.s, by decide, fun d H6 st6 d0 d1 => ?_⟩
  have s6 := s5.trans st6
  have er6 := st6.k _ _ nar.symm er5
  refine ⟨_, _, rfl, rfl, .inl ⟨by decide, by decide⟩, _, _, rfl, rfl, ?_⟩
  refine ⟨_, rfl, _, rfl, pr, _, c, _, rfl, rfl, er6, ixN_int c0 (by rw [List.length_map]; omega), ?_⟩
  dsimp only
  generalize (u + 1 - 2 * d : Int) = nv
  have em : (pt.map V.int).set c.toNat (.int nv) = (pt.set c.toNat nv).map V.int := by rw [List.map_set]
  rw [em]
  have npr : p ≠ pr := ne_of_none e3 hpr
  have e6 : H6 p = some (.lst (as.map V.ref)) := st6.k _ _ npa (st5.k _ _ npa (by rw [upd_ne npr]; exact e3))
  have s7 : Stp a H (upd H6 pr (.lst ((pt.set c.toNat nv).map V.int))) := by
    have hn4 : ∀ b o, b ≠ a → H b = some o → b ≠ pr := fun b o hb eb => ne_of_none (s3.k b o hb eb) hpr
    obtain ⟨cc, mm, kk, hh⟩ := s6.s
    exact ⟨⟨cc, mm, kk, by rw [upd_ne nar]; exact hh⟩, fun b o hb eb => by rw [upd_ne (hn4 b o hb eb)]; exact s6.k b o hb eb⟩
  have pa6 : PA K (upd H6 pr (.lst ((pt.set c.toNat nv).map V.int))) as Ps := by
    have x1 := ((pa3.same (Same.new hpr (.lst (pt.map V.int)))).stp st5 s4.s).stp st6 s5.s
    refine ⟨x1.1, fun i b r' y1 y2 => ?_⟩
    rcases x1.2 i b r' y1 y2 with (h | ⟨o, h⟩) | h
    · exact .inl (.inl (by rw [upd_ne (ne_of h er6 (by intro z; cases z))]; exact h))
    · exact .inl (.inr ⟨o, by rw [upd_ne (ne_of h er6 (by intro z; cases z))]; exact h⟩)
    · exact .inr h
  have e7 : (upd H6 pr (.lst ((pt.set c.toNat nv).map V.int))) p = some (.lst (as.map V.ref)) := by rw [upd_ne npr]; exact e6
  refine ⟨_, rfl, _, rfl, pr, _, rfl, .inl ⟨SqL.of upd_same, fun t ht => ?_⟩⟩
  refine ⟨(by show 1 ≤ sizeLine; decide), fun p1 hp1 => ?_⟩
  have n1 : t ≠ p1 := ne_of_none upd_same hp1
  have sm1 := (Same.new ht (.tup ((pt.set c.toNat nv).map V.int))).trans (Same.new hp1 (.lst [V.ref t]))
  refine ⟨p, p1, _, _, rfl, rfl, sm1 _ _ e7, upd_same, ?_, fun p3 hp3 => ?_⟩
  · rw [List.length_map, la, sizeLine_eq]
    show Ps.length + 1 ≤ _
    omega
  have sm2 := sm1.trans (Same.new hp3 (.lst (as.map V.ref ++ [V.ref t])))
  have hone : PA K (upd (upd (upd (upd H6 pr (.lst ((pt.set c.toNat nv).map V.int))) t (.tup ((pt.set c.toNat nv).map V.int))) p1 (.lst [V.ref t])) p3 (.lst (as.map V.ref ++ [V.ref t]))) [t] [pt.set c.toNat nv] :=
    PA.one (Same.tup ((Same.new hp1 (.lst [V.ref t])).trans (Same.new hp3 _)) (SqT.of upd_same))
  refine q p3 _ (Ps ++ [pt.set c.toNat nv]) (s7.same sm2) (((pa6.same sm2).append hone).pts (by rw [List.map_append]; exact upd_same)) ⟨by rw [List.length_append]; show Ps.length + 1 ≤ 60; omega, fun x hx => ?_⟩
  rcases List.mem_append.mp hx with h | h
  · exact fP.2 x h
  · have e : x = pt.set c.toNat nv := by simpa using h
    rw [e, List.length_set]
    exact lP
end
/-! ### a point near, the values of a column -/
def spValues (K : PySem.W.Frag) : Sp := fun vs H Q _ => ∃ (p : Addr) (k : Nat) (Ps : List (List Int)), vs = [.ref p, .int k] ∧ Mx false true K H p Ps ∧ (∀ r ∈ Ps, k < r.length) ∧ Ps.length ≤ 1000 ∧ ∀ q H', Same H H' → H' q = some (.lst ((Ps.map fun r => r.getD k 0).map V.int)) → Q (.ref q) H'
section
variable {P : Program} {w : World} {K : PySem.W.Frag} {mg : Str → Option Value} {base : Heap}
theorem ok_l_values (T : Txt w K mg) : FnOk P w K mg base CX0 1 T.a_l_values T.d_l_values p_l_values (spValues K) := by
  refine T.F_l_values.ok sc_l_values (fun vs H Q E h => ?_) (fun cdv A outer s H vs Q E hr h => ?_)
  · obtain ⟨p, k, Ps, rfl, _⟩ := h
    rfl
  obtain ⟨p, k, Ps, rfl, hM, hl, hz, q⟩ := h
  refine ⟨_, (pss_one (ps_ret (pe_lc (own := [("_law_point", 2)]) (g := gName 2) (tt := tYes) rfl sc_l_values.nd (pi_list (pv 0)) (blkOk_by (own := [("_law_point", 2)]) (N := n_l_values) (sc := defScope s_l_values) (by decide +kernel)) (fun _ _ _ _ _ => (pg_name (i := 2) sc_l_values.nd rfl (Or.inl rfl))) (fun _ _ _ _ _ => pts_nil) (fun _ _ _ _ _ => (pe_ix (show IxR _ (rIxT K) from ix_tup) (pv 2) (pv 1) (fun _ _ => rfl)))))), ?_⟩
  obtain ⟨vs, hv, lv, hrow⟩ := hM.row
  refine ⟨_, rfl, p, rfl, ⟨vs, hv⟩, fun D hD => ?_⟩
  refine lc_it (walk_list (xs := vs)) (LcP (Same H) (RInt (Ps.map fun r => r.getD k 0)) D) (lcp_start hD) (fun i G _ P => P.1.seq hv) ?_ ?_
  · rintro i x G G' hi P ⟨rfl, ex⟩
    obtain ⟨a, r, rfl, er, ha⟩ := hrow i x ex
    have lr := hl r (List.mem_of_getElem? er)
    refine ⟨rfl, tyes ?_⟩
    have ek := atI_row (r := r) lr
    rw [Int.zero_add] at ek
    refine ⟨_, rfl, _, rfl, a, _, _, _, rfl, rfl, Sq.same P.1 ha, ek, ?_⟩
    exact lcp_same P hD (Same.refl _) (lt_line (by omega)) RInt.mono ⟨_, map_get er, rfl⟩
  · intro G P
    exact q D G P.1 (lcp_ints (K := K) P (by rw [List.length_map]; exact lv))
theorem ok_l_near (T : Txt w K mg) : FnOk P w K mg base CX0 2 T.a_l_near T.d_l_near p_l_near (spNear K) := by
  have g_l_pick := ok_l_pick (P := P) (w := w) (base := base) T
  refine T.F_l_near.ok sc_l_near (fun vs H Q E h => ?_) (fun cdv A outer s H vs Q E hr h => ?_)
  · obtain ⟨a, p, n, Ps, rfl, _⟩ := h
    rfl
  obtain ⟨a, p, n, Ps, rfl, hS, npa, hP, fP, neP, hn, q⟩ := h
  refine ⟨_, (pss_cons (ps_setLc (i := 3) (own := [("_law_k", 4)]) (g := gName 4) (tt := tYes) rfl sc_l_near.nd rfl rfl (sw_true rfl rfl rfl (by decide +kernel)) (pi_range1 rfl T.z_range (pa_cons (pv 2) pa_nil)) (blkOk_by (own := [("_law_k", 4)]) (N := n_l_near) (sc := defScope s_l_near) (by decide +kernel)) (fun _ _ _ _ _ => (pg_name (i := 4) sc_l_near.nd rfl (Or.inl rfl))) (fun _ _ _ _ _ => pts_nil) (fun _ _ _ _ _ => (pe_ix (show IxR _ (rIxT K) from ix_tup) (pe_ix (show IxR _ (rIxL K) from ix_list) (pv 1) (pe_call g_l_pick (hr.mono (by first | decide | omega)) rfl T.m_l_pick T.F_l_pick.kp T.b_l_pick .nil pass0 (pa_cons (pv 0) (pa_cons (pe_callB (show CallR _ _ (rLenOf K) from call_len_seq) rfl T.z_len PySem.boot_len (pa_cons (pv 1) pa_nil)) pa_nil))) (fun _ _ => rfl)) (pv 4) (fun _ _ => rfl))))
      (C8.pss_cut (ps_if (PW.pt (pw_and (pt_cmpR op_gt (pv 2) pe_int (nomark _)) (pw_and1 (pt_cmpR op_eq (pe_call g_l_pick (hr.mono (by first | decide | omega)) rfl T.m_l_pick T.F_l_pick.kp T.b_l_pick .nil pass0 (pa_cons (pv 0) (pa_cons pe_int pa_nil))) pe_int (nomark _))))) (pss_cons (ps_set (i := 5) sc_l_near.nd rfl (Or.inl rfl) (pe_call g_l_pick (hr.mono (by first | decide | omega)) rfl T.m_l_pick T.F_l_pick.kp T.b_l_pick .nil pass0 (pa_cons (pv 0) (pa_cons (pv 2) pa_nil))))
      (pss_one (ps_asg (pe_op op_sub (pe_op op_add (pe_ix ix_list (pv 3) (pv 5) (fun _ _ => rfl)) pe_int) (pe_op op_mul pe_int (pe_call g_l_pick (hr.mono (by first | decide | omega)) rfl T.m_l_pick T.F_l_pick.kp T.b_l_pick .nil pass0 (pa_cons (pv 0) (pa_cons pe_int pa_nil))))) (pg_sub (pv 3) (pv 5) set_list)))) pss_nil)
      (pss_one (ps_ret (pe_callTy call_tuple_of rfl T.z_tuple bt_tuple (pa_cons (pv 3) pa_nil)))))), ?_⟩
  have l1 : 1 ≤ Ps.length := List.length_pos_iff.mpr neP
  have fl := fP.1
  obtain ⟨as, e0, pa0⟩ := hP.pa
  have la := pa0.1
  refine ⟨_, rfl, _, rfl, by omega, by omega, fun D hD => ?_⟩
  have nD : a ≠ D := hS.ne hD
  refine lc_it walk_range (LcP (fun F => Stp a H F) (fun _ y _ => ∃ k : Int, y = .int k) D) ⟨(Stp.refl hS).new hD, [], upd_same, rfl, fun j y e => by simp at e⟩ (fun _ _ _ _ => trivial) ?_ ?_
  · rintro j x F F' hj PF ⟨rfl, rfl⟩
    have sF := PF.1
    have eF := sF.k _ _ npa e0
    have hj' : j < n := by omega
    refine ⟨rfl, tyes ?_⟩
    refine ⟨_, rfl, _, rfl, _, rfl, p, _, rfl, .inl (SqL.of eF), a, _, rfl, sF.s, by rw [List.length_map, la]; omega, fun r F2 st3 r0 r1 => ?_⟩
    rw [List.length_map, la] at r1
    have hr : r.toNat < Ps.length := by omega
    have s2 := sF.trans st3
    have eP : Ps[r.toNat]? = some Ps[r.toNat] := List.getElem?_eq_getElem hr
    have lP := fP.2 _ (List.mem_of_getElem? eP)
    have ea : as[r.toNat]? = some (as[r.toNat]'(by omega)) := List.getElem?_eq_getElem _
    have hpt := (pa0.stp s2 hS).2 _ _ _ ea eP
    have eat : atI (as.map V.ref) r = some (.ref (as[r.toNat]'(by omega))) := by
      have := atI_nat (map_get (f := V.ref) ea)
      rwa [Int.toNat_of_nonneg r0] at this
    refine ⟨p, _, r, _, rfl, rfl, SqL.of (s2.k _ _ npa e0), eat, _, rfl, _, _, _, _, rfl, rfl, hpt, atI_row (by omega), ?_⟩
    exact lcp_step PF (fun o e => st3.k _ _ nD.symm e) (lt_line (by omega)) (fun o => s2.put hS hD) (fun _ _ _ h => h) fun _ => ⟨_, rfl⟩
  · intro F PF
    obtain ⟨sF, acc, h1, h2, h3⟩ := PF
    obtain ⟨ns, rfl⟩ := ints_of h3
    rw [List.length_map] at h2
    refine ⟨fun σ G => (∃ c : Option V, σ = [some (.ref a), some (.ref p), some (.int n), some (.ref D), none, c]) ∧ Stp a H G ∧ ∃ ms : List Int, G D = some (.lst (ms.map V.int)) ∧ ms.length = n, ?_, ?_⟩
    · refine ⟨_, rfl, _, _, rfl, rfl, _, rfl, ite2 (fun h0 => ?_) (fun h0 => ?_)⟩
      · have h0' : (n : Int) > 0 := of_decide_eq_true h0
        refine ⟨_, rfl, a, 2, rfl, sF.s, by decide, fun d G1 st1 _ _ => ?_⟩
        have s1 := sF.trans st1
        have e1 := st1.k _ _ nD.symm h1
        refine ⟨rfl, _, rfl, ite2 (fun _ => ?_) (fun _ => ?_)⟩
        · refine ⟨_, rfl, _, rfl, a, n, rfl, s1.s, by omega, fun c G2 st2 c0 c1 => ?_⟩
          have e2 := st2.k _ _ nD.symm e1
          have s2 := s1.trans st2
          obtain ⟨u, eu⟩ := ixInt (ns := ns) (r := c) c0 (by omega)
          refine ⟨_, rfl, _, rfl, D, _, c, _, rfl, rfl, SqL.of e2, eu, _, _, rfl, rfl, ?_⟩
          refine ⟨_, rfl, a, 2, rfl, s2.s, by decide, fun d2 G3 st3 d0 d1 => ?_⟩
          have e3 := st3.k _ _ nD.symm e2
          have s3 := s2.trans st3
          refine ⟨_, _, rfl, rfl, .inl ⟨by decide, by decide⟩, _, _, rfl, rfl, ?_⟩
          refine ⟨_, rfl, _, rfl, D, _, c, _, rfl, rfl, e3, ixN_int c0 (by rw [List.length_map]; omega), ?_⟩
          dsimp only
          generalize (u + 1 - 2 * d2 : Int) = nv
          exact ⟨⟨_, rfl⟩, s3.put hS hD, ns.set c.toNat nv, by rw [← List.map_set]; exact upd_same, by rw [List.length_set]; omega⟩
        · exact ⟨⟨_, rfl⟩, s1, ns, e1, by omega⟩
      · exact ⟨⟨_, rfl⟩, sF, ns, h1, by omega⟩
    · rintro σ G ⟨⟨c, rfl⟩, sG, ms, e1, l2⟩
      refine ⟨_, rfl, D, _, rfl, .inl ⟨SqL.of e1, fun t ht => ?_⟩⟩
      exact q t _ ms (sG.new ht) (SqT.of upd_same) l2
end
/-! ### the least box is closed; its ends -/
theorem hull_tri {n : Nat} {Ps : List (List Int)} (hP : Ps ≠ []) {i j k : Nat} (hi : i < n + 1) (hj : j < n + 1) (hk : k < n + 1) : getM (hullM n Ps) i j ≤ getM (hullM n Ps) i k + getM (hullM n Ps) k j := by
  rw [getM_hull hi hj, getM_hull hi hk, getM_hull hk hj]
  obtain ⟨r, hr, e⟩ := List.mem_map.mp (lmax_mem (xs := Ps.map (dif i j)) fun z => hP (List.map_eq_nil_iff.mp z))
  have h1 : dif i k r ≤ lmax (Ps.map (dif i k)) := lmax_le (List.mem_map_of_mem hr)
  have h2 : dif k j r ≤ lmax (Ps.map (dif k j)) := lmax_le (List.mem_map_of_mem hr)
  rw [← e]
  unfold dif at *
  omega
theorem hull_diag {n : Nat} {Ps : List (List Int)} (hP : Ps ≠ []) {i : Nat} (hi : i < n + 1) : getM (hullM n Ps) i i = 0 := by
  rw [getM_hull hi hi]
  obtain ⟨r, hr, e⟩ := List.mem_map.mp (lmax_mem (xs := Ps.map (dif i i)) fun z => hP (List.map_eq_nil_iff.mp z))
  rw [← e]
  unfold dif
  omega
theorem inM_mem {n : Nat} {Ps : List (List Int)} {r : List Int} (hr : r ∈ Ps) : InM n (hullM n Ps) r := fun i hi j hj => by
  rw [getM_hull hi hj]
  exact lmax_le (List.mem_map_of_mem hr)
theorem row0 {n : Nat} {f : Nat → Int} {i : Nat} (hi : i < n + 1) : (0 :: (List.range n).map f).getD i 0 = if i = 0 then 0 else f (i - 1) := by
  cases i with
  | zero => rfl
  | succ i =>
    have : i < n := by omega
    simp [List.getD_eq_getElem?_getD, this]
theorem least_in {n : Nat} {Ps : List (List Int)} (hP : Ps ≠ []) : InM n (hullM n Ps) (leastM n (hullM n Ps)) := fun i hi j hj => by
  have z : ∀ i, i < n + 1 → (0 :: leastM n (hullM n Ps)).getD i 0 = -(getM (hullM n Ps) 0 i) := fun i hi => by
    unfold leastM
    rw [row0 hi]
    split
    · rename_i e
      rw [e, hull_diag hP (by omega)]
      rfl
    · rw [show i - 1 + 1 = i by omega]
  unfold dif
  rw [z i hi, z j hj]
  have := hull_tri hP (i := 0) (j := j) (k := i) (n := n) (by omega) hj hi
  omega
theorem great_in {n : Nat} {Ps : List (List Int)} (hP : Ps ≠ []) : InM n (hullM n Ps) (greatM n (hullM n Ps)) := fun i hi j hj => by
  have z : ∀ i, i < n + 1 → (0 :: greatM n (hullM n Ps)).getD i 0 = getM (hullM n Ps) i 0 := fun i hi => by
    unfold greatM
    rw [row0 hi]
    split
    · rename_i e
      rw [e, hull_diag hP (by omega)]
    · rw [show i - 1 + 1 = i by omega]
  unfold dif
  rw [z i hi, z j hj]
  have := hull_tri hP (i := i) (j := 0) (k := j) (n := n) hi (by omega) hj
  omega
theorem leastM_len {n : Nat} {M : List (List Int)} : (leastM n M).length = n := by simp [leastM]
theorem greatM_len {n : Nat} {M : List (List Int)} : (greatM n M).length = n := by simp [greatM]
/-- the least value of a column -/
theorem least_val {n k : Nat} {Ps : List (List Int)} {m : Int} (hk : k < n) (h1 : m ∈ Ps.map fun r => r.getD k 0) (h2 : ∀ y ∈ Ps.map fun r => r.getD k 0, m ≤ y) : m = -(getM (hullM n Ps) 0 (k + 1)) := by
  rw [getM_hull (by omega) (by omega)]
  obtain ⟨r, hr, e⟩ := List.mem_map.mp h1
  have : -m = lmax (Ps.map (dif 0 (k + 1))) := by
    refine lmax_eq (List.mem_map.mpr ⟨r, hr, ?_⟩) fun y hy => ?_
    · show 0 - r.getD k 0 = -m
      rw [e]
      omega
    · obtain ⟨r', hr', rfl⟩ := List.mem_map.mp hy
      have := h2 _ (List.mem_map.mpr ⟨r', hr', rfl⟩)
      show 0 - r'.getD k 0 ≤ -m
      omega
  omega
theorem great_val {n k : Nat} {Ps : List (List Int)} {m : Int} (hk : k < n) (h1 : m ∈ Ps.map fun r => r.getD k 0) (h2 : ∀ y ∈ Ps.map fun r => r.getD k 0, y ≤ m) : m = getM (hullM n Ps) (k + 1) 0 := by
  rw [getM_hull (by omega) (by omega)]
  obtain ⟨r, hr, e⟩ := List.mem_map.mp h1
  refine lmax_eq (List.mem_map.mpr ⟨r, hr, ?_⟩) fun y hy => ?_
  · show r.getD k 0 - 0 = m
    rw [e]
    omega
  · obtain ⟨r', hr', rfl⟩ := List.mem_map.mp hy
    have := h2 _ (List.mem_map.mpr ⟨r', hr', rfl⟩)
    show r'.getD k 0 - 0 ≤ m
    omega
theorem bool_eq {b c : Bool} {A B : Prop} (h1 : b = true ↔ A) (h2 : c = true ↔ B) (e : A ↔ B) : b = c := by
  cases b <;> cases c
  · rfl
  · exact absurd (h1.mpr (e.mpr (h2.mp rfl))) (by decide)
  · exact absurd (h2.mpr (e.mp (h1.mp rfl))) (by decide)
  · rfl
theorem row_dp {K : PySem.W.Frag} {H : Hp} {p : Addr} {r : List Int} (h : SqT K H p (r.map V.int)) : Dp K H (.ref p) (rowD r) := .tup h (dp_ints r)
theorem row_dok {r : List Int} (h : r.length ≤ 1000) : Dok 3 (rowD r) := by
  refine ⟨by rw [List.length_map]; omega, fun d hd => ?_⟩
  obtain ⟨c, _, rfl⟩ := List.mem_map.mp hd
  trivial
def spAskP (K : PySem.W.Frag) : Sp := fun vs H Q _ => ∃ (a p : Addr) (n : Nat) (Ps : List (List Int)), vs = [.ref a, .ref p, .int n] ∧ Src H a ∧ p ≠ a ∧ Pts K H p Ps ∧ Few n Ps ∧ n ≤ 20 ∧ ∀ H', Stp a H H' → Q (.bl true) H'
def spAskE (K : PySem.W.Frag) : Sp := fun vs H Q _ => ∃ (p : Addr) (n : Nat) (Ps : List (List Int)), vs = [.ref p, .int n] ∧ Pts K H p Ps ∧ Few2 n Ps ∧ n ≤ 20 ∧ ∀ H', Same H H' → Q (.bl true) H'
theorem Stp.row {K : PySem.W.Frag} {a p : Addr} {H H' : Hp} {r : List Int} (s : Stp a H H') (hs : Src H a) (h : SqT K H p (r.map V.int)) : SqT K H' p (r.map V.int) := s.rd h hs
theorem BoxAt.stp {K : PySem.W.Frag} {a : Addr} {H H' : Hp} {v : V} {B : Option (List (List Int))} (s : Stp a H H') (hs : Src H a) (h : BoxAt K H v B) : BoxAt K H' v B := by
  cases B with
  | none => exact h
  | some M =>
    obtain ⟨p, e, as, h1, h2, h3⟩ := h
    exact ⟨p, e, as, s.rd h1 hs, h2, fun i b r e1 e2 => s.rd (h3 i b r e1 e2) hs⟩
section
variable {P : Program} {w : World} {K : PySem.W.Frag} {mg : Str → Option Value} {base : Heap}
theorem ok_l_asks_points (T : Txt w K mg) : FnOk P w K mg base CX0 4 T.a_l_asks_points T.d_l_asks_points p_l_asks_points (spAskP K) := by
  have g_l_hull := ok_l_hull (P := P) (w := w) (base := base) T
  have g_l_number := ok_l_number (P := P) (w := w) (base := base) T
  have g_l_near := ok_l_near (P := P) (w := w) (base := base) T
  have g_has_point := ok_has_point (P := P) (w := w) (base := base) T
  have g_l_belongs := ok_l_belongs (P := P) (w := w) (base := base) T
  have g_l_same := ok_l_same (P := P) (w := w) (K := K) (base := base) T 3
  refine T.F_l_asks_points.ok sc_l_asks_points (fun vs H Q E h => ?_) (fun cdv A outer s H vs Q E hr h => ?_)
  · obtain ⟨a, p, n, Ps, rfl, _⟩ := h
    rfl
  obtain ⟨a, p, n, Ps, rfl, hS, npa, hP, fP, hn, q⟩ := h
  refine ⟨_, (pss_cons (ps_set (i := 3) sc_l_asks_points.nd rfl (Or.inl rfl) (pe_call g_l_hull (hr.mono (by first | decide | omega)) rfl T.m_l_hull T.F_l_hull.kp T.b_l_hull .nil pass0 (pa_cons (pv 1) (pa_cons (pv 2) pa_nil))))
      (pss_cons (ps_set (i := 4) sc_l_asks_points.nd rfl (Or.inl rfl) (pe_callTy call_tuple_of rfl T.z_tuple bt_tuple (pa_cons (pe_lc (own := [("_law_k", 5)]) (g := gName 5) (tt := tYes) rfl sc_l_asks_points.nd (pi_range1 rfl T.z_range (pa_cons (pv 2) pa_nil)) (blkOk_by (own := [("_law_k", 5)]) (N := n_l_asks_points) (sc := defScope s_l_asks_points) (by decide +kernel)) (fun _ _ _ _ _ => (pg_name (i := 5) sc_l_asks_points.nd rfl (Or.inl rfl))) (fun _ _ _ _ _ => pts_nil) (fun _ _ _ _ _ => (pe_call g_l_number (hr.mono (by first | decide | omega)) rfl T.m_l_number T.F_l_number.kp T.b_l_number .nil pass0 (pa_cons (pv 0) pa_nil)))) pa_nil)))
      (pss_cons (ps_if (pt_cmpR op_isN (pv 3) pe_non (nomark _)) (pss_one (ps_ret (pe_call g_l_same (hr.mono (by first | decide | omega)) rfl T.m_l_same T.F_l_same.kp T.b_l_same .nil pass0 (pa_cons (pe_call g_has_point (hr.mono (by first | decide | omega)) rfl T.m_has_point T.F_has_point.kp T.b_has_point .nil pass0 (pa_cons pe_non (pa_cons (pv 4) pa_nil))) (pa_cons pe_bl pa_nil))))) pss_nil)
      (pss_cons (ps_for PassesOwn.never rfl (pi_list (pe_lst (pa_cons (pv 4) (pa_cons (pe_call g_l_near (hr.mono (by first | decide | omega)) rfl T.m_l_near T.F_l_near.kp T.b_l_near .nil pass0 (pa_cons (pv 0) (pa_cons (pv 1) (pa_cons (pv 2) pa_nil)))) (pa_cons (pe_call g_l_near (hr.mono (by first | decide | omega)) rfl T.m_l_near T.F_l_near.kp T.b_l_near .nil pass0 (pa_cons (pv 0) (pa_cons (pv 1) (pa_cons (pv 2) pa_nil)))) pa_nil))))) (pg_name (i := 6) sc_l_asks_points.nd rfl (Or.inl rfl))
        (pss_one (ps_if (pt_not (pt_val (pe_call g_l_same (hr.mono (by first | decide | omega)) rfl T.m_l_same T.F_l_same.kp T.b_l_same .nil pass0 (pa_cons (pe_call g_has_point (hr.mono (by first | decide | omega)) rfl T.m_has_point T.F_has_point.kp T.b_has_point .nil pass0 (pa_cons (pv 3) (pa_cons (pv 6) pa_nil))) (pa_cons (pe_call g_l_belongs (hr.mono (by first | decide | omega)) rfl T.m_l_belongs T.F_l_belongs.kp T.b_l_belongs .nil pass0 (pa_cons (pv 3) (pa_cons (pv 6) pa_nil))) pa_nil))))) (pss_one (ps_ret pe_bl)) pss_nil)))
      (pss_cons (ps_for PassesOwn.never rfl (pi_list (pv 1)) (pg_name (i := 6) sc_l_asks_points.nd rfl (Or.inl rfl))
        (pss_one (ps_if (pt_not (pt_val (pe_call g_l_same (hr.mono (by first | decide | omega)) rfl T.m_l_same T.F_l_same.kp T.b_l_same .nil pass0 (pa_cons (pe_call g_has_point (hr.mono (by first | decide | omega)) rfl T.m_has_point T.F_has_point.kp T.b_has_point .nil pass0 (pa_cons (pv 3) (pa_cons (pv 6) pa_nil))) (pa_cons pe_bl pa_nil))))) (pss_one (ps_ret pe_bl)) pss_nil)))
      (pss_one (ps_ret pe_bl))))))), ?_⟩
  have fl := fP.1
  refine ⟨_, rfl, _, rfl, p, n, Ps, rfl, by omega, hP.mx, fP.2, by omega, fun vb H1 t1 b1 => ?_⟩
  have s1 : Stp a H H1 := Stp.of_same hS t1
  refine ⟨_, rfl, _, rfl, by omega, by omega, fun D hD => ?_⟩
  have nD : a ≠ D := s1.s.ne hD
  refine lc_it walk_range (LcP (fun F => Stp a H1 F) (fun _ y _ => ∃ k : Int, y = .int k) D) ⟨(Stp.refl s1.s).new hD, [], upd_same, rfl, fun j y e => by simp at e⟩ (fun _ _ _ _ => trivial) ?_ ?_
  · rintro j x F F' hj PF ⟨rfl, rfl⟩
    refine ⟨rfl, tyes ?_⟩
    refine ⟨_, rfl, a, rfl, PF.1.s, fun k F2 st3 => ?_⟩
    exact lcp_step PF (fun o e => st3.k _ _ nD.symm e) (lt_line (by omega)) (fun o => (PF.1.trans st3).put s1.s hD) (fun _ _ _ h => h) fun _ => ⟨_, rfl⟩
  intro F PF
  obtain ⟨sF, acc, h1, h2, h3⟩ := PF
  obtain ⟨dr, rfl⟩ := ints_of h3
  rw [List.length_map] at h2
  have ldr : dr.length = n := by omega
  refine ⟨D, _, rfl, .inl ⟨SqL.of h1, fun td htd => ?_⟩⟩
  have s2 : Stp a H (upd F td (.tup (dr.map V.int))) := (s1.trans sF).new htd
  have b2 := b1.stp (sF.new (o := .tup (dr.map V.int)) htd) s1.s
  have hdr : SqT K (upd F td (.tup (dr.map V.int))) td (dr.map V.int) := SqT.of upd_same
  generalize upd F td (.tup (dr.map V.int)) = H2 at s2 b2 hdr
  by_cases hPs : Ps = []
  · have eb : hull n Ps = none := by unfold hull; rw [if_pos hPs]
    rw [eb] at b2
    obtain rfl : vb = .non := b2
    refine ⟨_, rfl, rfl, _, rfl, ifT rfl ?_⟩
    refine ⟨_, rfl, .non, td, none, dr, rfl, by omega, rfl, (fun _ z => by cases z), hdr, fun b G sG hb => ?_⟩
    have hbf : b = false := by
      cases b with
      | false => rfl
      | true => exact (hb.mp rfl).elim
    subst hbf
    exact ⟨_, _, .bool false, rfl, .bl _, .bl _, trivial, q G (s2.same sG)⟩
  have eb : hull n Ps = some (hullM n Ps) := by unfold hull; rw [if_neg hPs]
  rw [eb] at b2
  obtain ⟨pb, rfl, mb⟩ := b2
  have sz := hullM_sz n Ps
  refine ⟨_, rfl, rfl, _, rfl, ifF rfl ?_⟩
  have hP2 := hP.stp s2 hS npa
  refine ⟨_, rfl, _, rfl, _, rfl, _, rfl, a, p, n, Ps, rfl, s2.s, npa, hP2, fP, hPs, hn, fun q1 H3 r1 st3 hr1 lr1 => ?_⟩
  have s3 := s2.trans st3
  refine ⟨_, rfl, _, rfl, _, rfl, a, p, n, Ps, rfl, s3.s, npa, hP.stp s3 hS npa, fP, hPs, hn, fun q2 H4 r2 st4 hr2 lr2 => ?_⟩
  have s4 := s3.trans st4
  refine ⟨(by show 3 ≤ sizeLine; decide), fun l hl => ?_⟩
  have s5 := s4.new (o := .lst [.ref td, .ref q1, .ref q2]) hl
  have hdr5 := Same.tup (Same.new hl (.lst [.ref td, .ref q1, .ref q2])) (st4.row s3.s (st3.row s2.s hdr))
  have hr15 := Same.tup (Same.new hl (.lst [.ref td, .ref q1, .ref q2])) (st4.row s3.s hr1)
  have hr25 := Same.tup (Same.new hl (.lst [.ref td, .ref q1, .ref q2])) hr2
  have mb5 : BoxAt K (upd H4 l (.lst [.ref td, .ref q1, .ref q2])) (.ref pb) (some (hullM n Ps)) := BoxAt.same (Same.new hl _) (BoxAt.stp st4 s3.s (BoxAt.stp st3 s2.s ⟨pb, rfl, mb⟩))
  have el : SqL K (upd H4 l (.lst [.ref td, .ref q1, .ref q2])) l [.ref td, .ref q1, .ref q2] := SqL.of upd_same
  have hP5 := hP.stp s5 hS npa
  generalize upd H4 l (.lst [.ref td, .ref q1, .ref q2]) = H5 at s5 hdr5 hr15 hr25 mb5 el hP5
  obtain ⟨pb', epb, mb5⟩ := mb5
  cases epb
  have rows : ∀ (i : Nat) (x : V), [V.ref td, V.ref q1, V.ref q2][i]? = some x → ∃ (t : Addr) (r : List Int), x = .ref t ∧ r.length = n ∧ SqT K H5 t (r.map V.int) := fun i x e => by
    match i, e with
    | 0, e => cases e; exact ⟨td, dr, rfl, ldr, hdr5⟩
    | 1, e => cases e; exact ⟨q1, r1, rfl, lr1, hr15⟩
    | 2, e => cases e; exact ⟨q2, r2, rfl, lr2, hr25⟩
    | i + 3, e => simp at e
  refine ⟨l, rfl, ⟨_, el⟩, ?_⟩
  refine for_it (walk_list (xs := [.ref td, .ref q1, .ref q2])) (fun i σ G => (∃ b c : Option V, σ = [some (.ref a), some (.ref p), some (.int n), some (.ref pb), some (.ref td), b, c]) ∧ Same H5 G) ⟨⟨_, _, rfl⟩, Same.refl _⟩ (fun i σ G _ P => P.2.seq el) ?_ ?_
  · rintro i x σ G G' hi ⟨⟨b, c, rfl⟩, sG⟩ ⟨rfl, ex⟩
    obtain ⟨t, r, rfl, lr, ht⟩ := rows i x ex
    refine ⟨_, rfl, _, rfl, _, t, some (hullM n Ps), r, rfl, by omega, ⟨pb, rfl, mb5.same sG⟩, (fun M z => by cases z; rw [lr]; exact sz), Same.tup sG ht, fun b1 G1 t1 hb1 => ?_⟩
    refine ⟨_, rfl, _, rfl, pb, t, hullM n Ps, r, rfl, by omega, (mb5.same sG).same t1, by rw [lr]; exact sz, Same.tup (sG.trans t1) ht, fun b2 G2 t2 hb2 => ?_⟩
    have eb : b2 = b1 := bool_eq hb2 hb1 Iff.rfl
    subst eb
    refine ⟨_, _, .bool b2, rfl, .bl _, .bl _, trivial, _, rfl, ifF rfl ?_⟩
    exact ⟨⟨_, _, rfl⟩, (sG.trans t1).trans t2⟩
  · rintro σ G ⟨⟨b, c, rfl⟩, sG⟩
    obtain ⟨vs, hv, lv, hrow⟩ := hP5.mx.row
    refine ⟨_, rfl, p, rfl, ⟨_, sG.seq hv⟩, ?_⟩
    refine for_it (walk_list (xs := vs)) (fun i σ G => (∃ b c : Option V, σ = [some (.ref a), some (.ref p), some (.int n), some (.ref pb), some (.ref td), b, c]) ∧ Same H5 G) ⟨⟨_, _, rfl⟩, sG⟩ (fun i σ G _ P => P.2.seq hv) ?_ ?_
    · rintro i x σ G G' hi ⟨⟨b, c, rfl⟩, sG⟩ ⟨rfl, ex⟩
      obtain ⟨t, r, rfl, er, ht⟩ := hrow i x ex
      have mr := List.mem_of_getElem? er
      have lr := fP.2 r mr
      refine ⟨_, rfl, _, rfl, _, t, some (hullM n Ps), r, rfl, by omega, ⟨pb, rfl, mb5.same sG⟩, (fun M z => by cases z; rw [lr]; exact sz), Same.tup sG ht, fun b1 G1 t1 hb1 => ?_⟩
      have eb : b1 = true := hb1.mpr (by rw [lr]; exact inM_mem mr)
      subst eb
      refine ⟨_, _, .bool true, rfl, .bl _, .bl _, trivial, _, rfl, ifF rfl ?_⟩
      exact ⟨⟨_, _, rfl⟩, sG.trans t1⟩
    · rintro σ G ⟨⟨b, c, rfl⟩, sG⟩
      exact q G (s5.same sG)
end
section
variable {P : Program} {w : World} {K : PySem.W.Frag} {mg : Str → Option Value} {base : Heap}
theorem ok_l_asks_ends (T : Txt w K mg) : FnOk P w K mg base CX0 4 T.a_l_asks_ends T.d_l_asks_ends p_l_asks_ends (spAskE K) := by
  have g_l_hull := ok_l_hull (P := P) (w := w) (base := base) T
  have g_l_values := ok_l_values (P := P) (w := w) (base := base) T
  have g_range_of := ok_range_of (P := P) (w := w) (base := base) T
  have g_least_point := ok_least_point (P := P) (w := w) (base := base) T
  have g_greatest_point := ok_greatest_point (P := P) (w := w) (base := base) T
  have g_has_point := ok_has_point (P := P) (w := w) (base := base) T
  have g_l_same := ok_l_same (P := P) (w := w) (K := K) (base := base) T 3
  refine T.F_l_asks_ends.ok sc_l_asks_ends (fun vs H Q E h => ?_) (fun cdv A outer s H vs Q E hr h => ?_)
  · obtain ⟨p, n, Ps, rfl, _⟩ := h
    rfl
  obtain ⟨p, n, Ps, rfl, hP, fP, hn, q⟩ := h
  refine ⟨_, (pss_cons (ps_if (pt_cmpR (op_eqL0 hr.units0) (pv 0) (pe_lst pa_nil) (nomark _)) (pss_one (ps_ret (pe_and (pe_cmpR op_isN (pe_call g_least_point (hr.mono (by first | decide | omega)) rfl T.m_least_point T.F_least_point.kp T.b_least_point .nil pass0 (pa_cons pe_non pa_nil)) pe_non (nomark _)) (pe_one (pe_cmpR op_isN (pe_call g_greatest_point (hr.mono (by first | decide | omega)) rfl T.m_greatest_point T.F_greatest_point.kp T.b_greatest_point .nil pass0 (pa_cons pe_non pa_nil)) pe_non (nomark _)))))) pss_nil)
      (pss_cons (ps_set (i := 2) sc_l_asks_ends.nd rfl (Or.inl rfl) (pe_call g_l_hull (hr.mono (by first | decide | omega)) rfl T.m_l_hull T.F_l_hull.kp T.b_l_hull .nil pass0 (pa_cons (pv 0) (pa_cons (pv 1) pa_nil))))
      (pss_cons (ps_set (i := 3) sc_l_asks_ends.nd rfl (Or.inl rfl) (pe_callTy call_tuple_of rfl T.z_tuple bt_tuple (pa_cons (pe_lc (own := [("_law_k", 4)]) (g := gName 4) (tt := tYes) rfl sc_l_asks_ends.nd (pi_range1 rfl T.z_range (pa_cons (pv 1) pa_nil)) (blkOk_by (own := [("_law_k", 4)]) (N := n_l_asks_ends) (sc := defScope s_l_asks_ends) (by decide +kernel)) (fun _ _ _ _ _ => (pg_name (i := 4) sc_l_asks_ends.nd rfl (Or.inl rfl))) (fun _ _ _ _ _ => pts_nil) (fun _ _ _ _ _ => (pe_callB (show CallR _ _ (rMin K) from (cr_min rfl)) rfl T.z_min bb_min (pa_cons (pe_call g_l_values (hr.mono (by first | decide | omega)) rfl T.m_l_values T.F_l_values.kp T.b_l_values .nil pass0 (pa_cons (pv 0) (pa_cons (pv 4) pa_nil))) pa_nil)))) pa_nil)))
      (pss_cons (ps_set (i := 5) sc_l_asks_ends.nd rfl (Or.inl rfl) (pe_callTy call_tuple_of rfl T.z_tuple bt_tuple (pa_cons (pe_lc (own := [("_law_k", 4)]) (g := gName 4) (tt := tYes) rfl sc_l_asks_ends.nd (pi_range1 rfl T.z_range (pa_cons (pv 1) pa_nil)) (blkOk_by (own := [("_law_k", 4)]) (N := n_l_asks_ends) (sc := defScope s_l_asks_ends) (by decide +kernel)) (fun _ _ _ _ _ => (pg_name (i := 4) sc_l_asks_ends.nd rfl (Or.inl rfl))) (fun _ _ _ _ _ => pts_nil) (fun _ _ _ _ _ => (pe_callB (show CallR _ _ (rMax K) from (cr_max rfl)) rfl T.z_max bb_max (pa_cons (pe_call g_l_values (hr.mono (by first | decide | omega)) rfl T.m_l_values T.F_l_values.kp T.b_l_values .nil pass0 (pa_cons (pv 0) (pa_cons (pv 4) pa_nil))) pa_nil)))) pa_nil)))
      (pss_cons (ps_for PassesOwn.never rfl (pi_range1 rfl T.z_range (pa_cons (pv 1) pa_nil)) (pg_name (i := 4) sc_l_asks_ends.nd rfl (Or.inl rfl))
        (pss_one (ps_if (pt_not (pt_val (pe_call g_l_same (hr.mono (by first | decide | omega)) rfl T.m_l_same T.F_l_same.kp T.b_l_same .nil pass0 (pa_cons (pe_call g_range_of (hr.mono (by first | decide | omega)) rfl T.m_range_of T.F_range_of.kp T.b_range_of .nil pass0 (pa_cons (pv 2) (pa_cons (pe_op op_add (pv 4) pe_int) pa_nil))) (pa_cons (pe_tup (pa_cons (pe_ix ix_tup (pv 3) (pv 4) (fun _ _ => rfl)) (pa_cons (pe_ix ix_tup (pv 5) (pv 4) (fun _ _ => rfl)) pa_nil))) pa_nil))))) (pss_one (ps_ret pe_bl)) pss_nil)))
      (pss_cons (ps_if (PW.pt (pw_or (pt_not (pt_val (pe_call g_l_same (hr.mono (by first | decide | omega)) rfl T.m_l_same T.F_l_same.kp T.b_l_same .nil pass0 (pa_cons (pe_call g_least_point (hr.mono (by first | decide | omega)) rfl T.m_least_point T.F_least_point.kp T.b_least_point .nil pass0 (pa_cons (pv 2) pa_nil)) (pa_cons (pv 3) pa_nil))))) (pw_or1 (pt_not (pt_val (pe_call g_l_same (hr.mono (by first | decide | omega)) rfl T.m_l_same T.F_l_same.kp T.b_l_same .nil pass0 (pa_cons (pe_call g_greatest_point (hr.mono (by first | decide | omega)) rfl T.m_greatest_point T.F_greatest_point.kp T.b_greatest_point .nil pass0 (pa_cons (pv 2) pa_nil)) (pa_cons (pv 5) pa_nil)))))))) (pss_one (ps_ret pe_bl)) pss_nil)
      (pss_one (ps_ret (pe_and (pe_call g_l_same (hr.mono (by first | decide | omega)) rfl T.m_l_same T.F_l_same.kp T.b_l_same .nil pass0 (pa_cons (pe_call g_has_point (hr.mono (by first | decide | omega)) rfl T.m_has_point T.F_has_point.kp T.b_has_point .nil pass0 (pa_cons (pv 2) (pa_cons (pv 3) pa_nil))) (pa_cons pe_bl pa_nil))) (pe_one (pe_call g_l_same (hr.mono (by first | decide | omega)) rfl T.m_l_same T.F_l_same.kp T.b_l_same .nil pass0 (pa_cons (pe_call g_has_point (hr.mono (by first | decide | omega)) rfl T.m_has_point T.F_has_point.kp T.b_has_point .nil pass0 (pa_cons (pv 2) (pa_cons (pv 5) pa_nil))) (pa_cons pe_bl pa_nil))))))))))))), ?_⟩
  have fl := fP.1
  obtain ⟨as, e0, pa0⟩ := hP.pa
  refine ⟨_, rfl, (by show 0 ≤ sizeLine; decide), fun e he => ?_⟩
  have s0 : Same H (upd H e (.lst [])) := Same.new he _
  refine ⟨p, e, _, rfl, rfl, SqL.of (s0 _ _ e0), SqL.of upd_same, _, rfl, ?_⟩
  have la := pa0.1
  by_cases hPs : Ps = []
  · have ea : as = [] := List.length_eq_zero_iff.mp (by rw [la, hPs]; rfl)
    subst ea
    refine ifT rfl ?_
    refine ⟨.non, none, n, rfl, by omega, rfl, (fun _ z => by cases z), fun v G1 t1 h1 => ?_⟩
    obtain rfl : v = .non := h1
    refine ⟨rfl, _, rfl, ifT rfl ?_⟩
    refine ⟨.non, none, n, rfl, by omega, rfl, (fun _ z => by cases z), fun v G2 t2 h2 => ?_⟩
    obtain rfl : v = .non := h2
    exact ⟨rfl, q _ ((s0.trans t1).trans t2)⟩
  refine ifF (by cases as with
    | nil => exact absurd (List.length_eq_zero_iff.mp (by rw [← la]; rfl)) hPs
    | cons _ _ => rfl) ?_
  refine ⟨_, rfl, _, rfl, p, n, Ps, rfl, by omega, (hP.same s0).mx, fP.2, by omega, fun vb H1 t1 b1 => ?_⟩
  have s1 := s0.trans t1
  have eb : hull n Ps = some (hullM n Ps) := by unfold hull; rw [if_neg hPs]
  rw [eb] at b1
  obtain ⟨pb, rfl, mb⟩ := b1
  have sz := hullM_sz n Ps
  have hP1 := (hP.same s1).mx
  have neV : ∀ k, (Ps.map fun r => r.getD k 0) ≠ [] := fun k z => hPs (List.map_eq_nil_iff.mp z)
  -- the least and the greatest values
  refine ⟨_, rfl, _, rfl, by omega, by omega, fun D hD => ?_⟩
  refine lc_it walk_range (LcP (Same H1) (RInt (leastM n (hullM n Ps))) D) (lcp_start hD) (fun _ _ _ _ => trivial) ?_ ?_
  · rintro j x F F' hj PF ⟨rfl, rfl⟩
    have hj' : j < n := by omega
    refine ⟨rfl, tyes ?_⟩
    refine ⟨_, rfl, _, rfl, p, j, Ps, congrArg (fun z => [V.ref p, V.int z]) (Int.zero_add _), hP1.same PF.1, (fun r hr => by rw [fP.2 r hr]; exact hj'), by omega, fun d G sG eG => ?_⟩
    refine ⟨d, _, rfl, SqL.of eG, List.length_pos_iff.mpr (neV j), fun m hm hx => ?_⟩
    exact lcp_same PF hD sG (lt_line (by omega)) RInt.mono ⟨m, by rw [least_val hj' hm hx]; exact map_get (range_get hj'), rfl⟩
  intro F PF
  refine ⟨D, _, rfl, .inl ⟨SqL.of (lcp_ints (K := K) PF (by rw [leastM_len]; omega)), fun tl htl => ?_⟩⟩
  have s2 := PF.1.trans (Same.new htl (.tup ((leastM n (hullM n Ps)).map V.int)))
  have hle : SqT K (upd F tl (.tup ((leastM n (hullM n Ps)).map V.int))) tl ((leastM n (hullM n Ps)).map V.int) := SqT.of upd_same
  generalize upd F tl (.tup ((leastM n (hullM n Ps)).map V.int)) = H2 at s2 hle
  refine ⟨_, rfl, _, rfl, by omega, by omega, fun D2 hD2 => ?_⟩
  refine lc_it walk_range (LcP (Same H2) (RInt (greatM n (hullM n Ps))) D2) (lcp_start hD2) (fun _ _ _ _ => trivial) ?_ ?_
  · rintro j x F F' hj PF ⟨rfl, rfl⟩
    have hj' : j < n := by omega
    refine ⟨rfl, tyes ?_⟩
    refine ⟨_, rfl, _, rfl, p, j, Ps, congrArg (fun z => [V.ref p, V.int z]) (Int.zero_add _), (hP1.same s2).same PF.1, (fun r hr => by rw [fP.2 r hr]; exact hj'), by omega, fun d G sG eG => ?_⟩
    refine ⟨d, _, rfl, SqL.of eG, List.length_pos_iff.mpr (neV j), fun m hm hx => ?_⟩
    exact lcp_same PF hD2 sG (lt_line (by omega)) RInt.mono ⟨m, by rw [great_val hj' hm hx]; exact map_get (range_get hj'), rfl⟩
  intro F3 PF3
  refine ⟨D2, _, rfl, .inl ⟨SqL.of (lcp_ints (K := K) PF3 (by rw [greatM_len]; omega)), fun tg htg => ?_⟩⟩
  have s3 := PF3.1.trans (Same.new htg (.tup ((greatM n (hullM n Ps)).map V.int)))
  have hgr : SqT K (upd F3 tg (.tup ((greatM n (hullM n Ps)).map V.int))) tg ((greatM n (hullM n Ps)).map V.int) := SqT.of upd_same
  generalize upd F3 tg (.tup ((greatM n (hullM n Ps)).map V.int)) = H3 at s3 hgr
  have hle3 := Same.tup s3 hle
  have mb3 := (mb.same s2).same s3
  have sH3 : Same H H3 := (s1.trans s2).trans s3
  refine ⟨_, rfl, _, rfl, by omega, by omega, for_range (lo := 0) (fun i σ G => (∃ b : Option V, σ = [some (.ref p), some (.int n), some (.ref pb), some (.ref tl), b, some (.ref tg)]) ∧ Same H3 G) ⟨⟨_, rfl⟩, Same.refl _⟩ ?_ ?_⟩
  · rintro i σ G hi ⟨⟨b, rfl⟩, sG⟩
    have hi' : i < n := by omega
    refine ⟨_, rfl, _, rfl, _, _, rfl, rfl, ?_⟩
    have ei : (0 + (i : Int) + 1) = ((i + 1 : Nat) : Int) := by omega
    refine ⟨pb, hullM n Ps, n, i + 1, congrArg (fun z => [V.ref pb, V.int z]) ei, by omega, mb3.same sG, sz, by omega, fun t G1 t1 h1 => ?_⟩
    have x1 := Same.tup (sG.trans t1) hle3
    have x2 := Same.tup (sG.trans t1) hgr
    have g1 : (leastM n (hullM n Ps)).getD i 0 = -(getM (hullM n Ps) 0 (i + 1)) := by
      simp [leastM, List.getD_eq_getElem?_getD, hi']
    have g2 : (greatM n (hullM n Ps)).getD i 0 = getM (hullM n Ps) (i + 1) 0 := by
      simp [greatM, List.getD_eq_getElem?_getD, hi']
    refine ⟨_, rfl, _, rfl, tl, _, _, _, rfl, rfl, x1, atI_row (by rw [leastM_len]; omega), ?_⟩
    refine ⟨_, rfl, _, rfl, tg, _, _, _, rfl, rfl, x2, atI_row (by rw [greatM_len]; omega), (by show 2 ≤ sizeLine; decide), fun t2 ht2 => ?_⟩
    rw [g1, g2]
    have y1 : SqT K (upd G1 t2 (.tup [V.int (-(getM (hullM n Ps) 0 (i + 1))), V.int (getM (hullM n Ps) (i + 1) 0)])) t2 ([-(getM (hullM n Ps) 0 (i + 1)), getM (hullM n Ps) (i + 1) 0].map V.int) := SqT.of upd_same
    refine ⟨_, _, _, rfl, row_dp (Same.tup (Same.new ht2 _) h1), row_dp y1, row_dok (by show 2 ≤ 1000; omega), _, rfl, ifF rfl ?_⟩
    exact ⟨⟨_, rfl⟩, (sG.trans t1).trans (Same.new ht2 _)⟩
  · rintro σ G ⟨⟨b, rfl⟩, sG⟩
    have ll : (leastM n (hullM n Ps)).length = n := leastM_len
    have lg : (greatM n (hullM n Ps)).length = n := greatM_len
    refine ⟨_, rfl, _, some (hullM n Ps), n, rfl, by omega, ⟨pb, rfl, mb3.same sG⟩, (fun M z => by cases z; exact sz), fun v G1 t1 h1 => ?_⟩
    obtain ⟨x, rfl, h1⟩ := h1
    refine ⟨_, rfl, _, _, _, rfl, row_dp h1, row_dp (Same.tup (sG.trans t1) hle3), row_dok (by omega), _, rfl, ifF rfl ?_⟩
    refine ⟨_, rfl, _, some (hullM n Ps), n, rfl, by omega, ⟨pb, rfl, mb3.same (sG.trans t1)⟩, (fun M z => by cases z; exact sz), fun v2 G2 t2 h2 => ?_⟩
    obtain ⟨x2, rfl, h2⟩ := h2
    have sG2 := (sG.trans t1).trans t2
    refine ⟨_, rfl, _, _, _, rfl, row_dp h2, row_dp (Same.tup sG2 hgr), row_dok (by omega), _, rfl, ifF rfl ?_⟩
    refine ⟨_, rfl, _, rfl, _, tl, some (hullM n Ps), leastM n (hullM n Ps), rfl, by omega, ⟨pb, rfl, mb3.same sG2⟩, (fun M z => by cases z; rw [ll]; exact sz), Same.tup sG2 hle3, fun b1 G3 t3 hb1 => ?_⟩
    have eb1 : b1 = true := hb1.mpr (by rw [ll]; exact least_in hPs)
    subst eb1
    refine ⟨_, _, .bool true, rfl, .bl _, .bl _, trivial, _, rfl, ifT rfl ?_⟩
    have sG3 := sG2.trans t3
    refine ⟨_, rfl, _, rfl, _, tg, some (hullM n Ps), greatM n (hullM n Ps), rfl, by omega, ⟨pb, rfl, mb3.same sG3⟩, (fun M z => by cases z; rw [lg]; exact sz), Same.tup sG3 hgr, fun b2 G4 t4 hb2 => ?_⟩
    have eb2 : b2 = true := hb2.mpr (by rw [lg]; exact great_in hPs)
    subst eb2
    exact ⟨_, _, .bool true, rfl, .bl _, .bl _, trivial, q _ (sH3.trans (sG3.trans t4))⟩
end
theorem ins_hull {n : Nat} {Ps Qs : List (List Int)} : InsB (n + 1) (hull n Ps) (hull n Qs) ↔ ∀ r ∈ Ps, InB n (hull n Qs) r := by
  by_cases h1 : Ps = []
  · subst h1
    constructor
    · intro _ r hr
      simp at hr
    · intro _
      unfold hull
      rw [if_pos rfl]
      trivial
  have e1 : hull n Ps = some (hullM n Ps) := by unfold hull; rw [if_neg h1]
  rw [e1]
  by_cases h2 : Qs = []
  · have e2 : hull n Qs = none := by unfold hull; rw [if_pos h2]
    rw [e2]
    constructor
    · exact fun z => z.elim
    · intro z
      obtain ⟨r, hr⟩ := List.exists_mem_of_ne_nil _ h1
      exact (z r hr).elim
  · have e2 : hull n Qs = some (hullM n Qs) := by unfold hull; rw [if_neg h2]
    rw [e2]
    constructor
    · intro z r hr i hi j hj
      have h := z i hi j hj
      rw [getM_hull hi hj] at h
      exact Int.le_trans (lmax_le (List.mem_map_of_mem hr)) h
    · intro z i hi j hj
      rw [getM_hull hi hj]
      obtain ⟨r, hr, e⟩ := List.mem_map.mp (lmax_mem (xs := Ps.map (dif i j)) fun z => h1 (List.map_eq_nil_iff.mp z))
      rw [← e]
      exact z r hr i hi j hj
theorem ins_none {n : Nat} {Ps : List (List Int)} : InsB (n + 1) (hull n Ps) none ↔ Ps = [] := by
  unfold hull
  by_cases h : Ps = []
  · rw [if_pos h]
    exact ⟨fun _ => h, fun _ => trivial⟩
  · rw [if_neg h]
    exact ⟨fun z => z.elim, fun z => absurd z h⟩
def spLaw (K : PySem.W.Frag) : Sp := fun vs H Q _ => ∃ (a : Addr) (ns : List Int), vs = [.ref a] ∧ SqL K H a (ns.map V.int) ∧ ns.length ≤ 63 ∧ ∀ H', Q (.bl true) H'
section
variable {P : Program} {w : World} {K : PySem.W.Frag} {mg : Str → Option Value} {base : Heap}
theorem ok_law (T : Txt w K mg) : FnOk P w K mg base CX0 5 T.a_law T.d_law p_law (spLaw K) := by
  have g_l_cell := ok_l_cell (P := P) (w := w) (K := K) (base := base) T
  have g_l_source := ok_l_source (P := P) (w := w) (base := base) T
  have g_l_size := ok_l_size (P := P) (w := w) (base := base) T
  have g_l_seeds := ok_l_seeds (P := P) (w := w) (base := base) T
  have g_l_second := ok_l_second (P := P) (w := w) (base := base) T
  have g_l_hull := ok_l_hull (P := P) (w := w) (base := base) T
  have g_is_inside := ok_is_inside (P := P) (w := w) (base := base) T
  have g_l_all_inside := ok_l_all_inside (P := P) (w := w) (base := base) T
  have g_l_asks_points := ok_l_asks_points (P := P) (w := w) (base := base) T
  have g_l_asks_ends := ok_l_asks_ends (P := P) (w := w) (base := base) T
  have g_l_same := ok_l_same (P := P) (w := w) (K := K) (base := base) T 3
  refine T.F_law.ok sc_law (fun vs H Q E h => ?_) (fun cdv A outer s H vs Q E hr h => ?_)
  · obtain ⟨a, ns, rfl, _⟩ := h
    rfl
  obtain ⟨a, ns, rfl, hS, h63, q⟩ := h
  refine ⟨_, (pss_cons (ps_set (i := 1) sc_law.nd rfl (Or.inl rfl) (pe_call g_l_source (hr.mono (by first | decide | omega)) rfl T.m_l_source T.F_l_source.kp T.b_l_source .nil pass0 (pa_cons (pe_call g_l_cell (hr.mono (by first | decide | omega)) rfl T.m_l_cell T.F_l_cell.kp T.b_l_cell .nil pass0 (pa_cons (pv 0) (pa_cons pe_int pa_nil))) pa_nil)))
      (pss_cons (ps_set (i := 2) sc_law.nd rfl (Or.inl rfl) (pe_call g_l_size (hr.mono (by first | decide | omega)) rfl T.m_l_size T.F_l_size.kp T.b_l_size .nil pass0 (pa_cons (pv 1) pa_nil)))
      (pss_cons (ps_set (i := 3) sc_law.nd rfl (Or.inl rfl) (pe_call g_l_seeds (hr.mono (by first | decide | omega)) rfl T.m_l_seeds T.F_l_seeds.kp T.b_l_seeds .nil pass0 (pa_cons (pv 1) (pa_cons (pv 2) pa_nil))))
      (pss_cons (ps_set (i := 4) sc_law.nd rfl (Or.inl rfl) (pe_call g_l_second (hr.mono (by first | decide | omega)) rfl T.m_l_second T.F_l_second.kp T.b_l_second .nil pass0 (pa_cons (pe_call g_l_source (hr.mono (by first | decide | omega)) rfl T.m_l_source T.F_l_source.kp T.b_l_source .nil pass0 (pa_cons (pe_call g_l_cell (hr.mono (by first | decide | omega)) rfl T.m_l_cell T.F_l_cell.kp T.b_l_cell .nil pass0 (pa_cons (pv 0) (pa_cons pe_int pa_nil))) pa_nil)) (pa_cons (pv 3) (pa_cons (pv 2) pa_nil)))))
      (pss_cons (ps_set (i := 5) sc_law.nd rfl (Or.inl rfl) (pe_call g_l_hull (hr.mono (by first | decide | omega)) rfl T.m_l_hull T.F_l_hull.kp T.b_l_hull .nil pass0 (pa_cons (pv 3) (pa_cons (pv 2) pa_nil))))
      (pss_cons (ps_set (i := 6) sc_law.nd rfl (Or.inl rfl) (pe_call g_l_hull (hr.mono (by first | decide | omega)) rfl T.m_l_hull T.F_l_hull.kp T.b_l_hull .nil pass0 (pa_cons (pv 4) (pa_cons (pv 2) pa_nil))))
      (pss_cons (ps_if (pt_not (pt_val (pe_call g_l_same (hr.mono (by first | decide | omega)) rfl T.m_l_same T.F_l_same.kp T.b_l_same .nil pass0 (pa_cons (pe_call g_is_inside (hr.mono (by first | decide | omega)) rfl T.m_is_inside T.F_is_inside.kp T.b_is_inside .nil pass0 (pa_cons (pv 5) (pa_cons (pv 6) pa_nil))) (pa_cons (pe_call g_l_all_inside (hr.mono (by first | decide | omega)) rfl T.m_l_all_inside T.F_l_all_inside.kp T.b_l_all_inside .nil pass0 (pa_cons (pv 3) (pa_cons (pv 6) pa_nil))) pa_nil))))) (pss_one (ps_ret pe_bl)) pss_nil)
      (pss_cons (ps_if (pt_not (pt_val (pe_call g_l_same (hr.mono (by first | decide | omega)) rfl T.m_l_same T.F_l_same.kp T.b_l_same .nil pass0 (pa_cons (pe_call g_is_inside (hr.mono (by first | decide | omega)) rfl T.m_is_inside T.F_is_inside.kp T.b_is_inside .nil pass0 (pa_cons (pv 6) (pa_cons (pv 5) pa_nil))) (pa_cons (pe_call g_l_all_inside (hr.mono (by first | decide | omega)) rfl T.m_l_all_inside T.F_l_all_inside.kp T.b_l_all_inside .nil pass0 (pa_cons (pv 4) (pa_cons (pv 5) pa_nil))) pa_nil))))) (pss_one (ps_ret pe_bl)) pss_nil)
      (pss_cons (ps_if (PW.pt (pw_or (pt_not (pt_val (pe_call g_l_same (hr.mono (by first | decide | omega)) rfl T.m_l_same T.F_l_same.kp T.b_l_same .nil pass0 (pa_cons (pe_call g_is_inside (hr.mono (by first | decide | omega)) rfl T.m_is_inside T.F_is_inside.kp T.b_is_inside .nil pass0 (pa_cons (pv 5) (pa_cons (pv 5) pa_nil))) (pa_cons pe_bl pa_nil))))) (pw_or1 (pt_not (pt_val (pe_call g_l_same (hr.mono (by first | decide | omega)) rfl T.m_l_same T.F_l_same.kp T.b_l_same .nil pass0 (pa_cons (pe_call g_is_inside (hr.mono (by first | decide | omega)) rfl T.m_is_inside T.F_is_inside.kp T.b_is_inside .nil pass0 (pa_cons pe_non (pa_cons (pv 6) pa_nil))) (pa_cons pe_bl pa_nil)))))))) (pss_one (ps_ret pe_bl)) pss_nil)
      (pss_cons (ps_if (pt_not (pt_val (pe_call g_l_same (hr.mono (by first | decide | omega)) rfl T.m_l_same T.F_l_same.kp T.b_l_same .nil pass0 (pa_cons (pe_call g_is_inside (hr.mono (by first | decide | omega)) rfl T.m_is_inside T.F_is_inside.kp T.b_is_inside .nil pass0 (pa_cons (pv 5) (pa_cons pe_non pa_nil))) (pa_cons (pe_cmpR (op_eqL0 hr.units0) (pv 3) (pe_lst pa_nil) (nomark _)) pa_nil))))) (pss_one (ps_ret pe_bl)) pss_nil)
      (pss_cons (ps_if (pt_not (pt_val (pe_call g_l_asks_points (hr.mono (by first | decide | omega)) rfl T.m_l_asks_points T.F_l_asks_points.kp T.b_l_asks_points .nil pass0 (pa_cons (pe_call g_l_source (hr.mono (by first | decide | omega)) rfl T.m_l_source T.F_l_source.kp T.b_l_source .nil pass0 (pa_cons (pe_call g_l_cell (hr.mono (by first | decide | omega)) rfl T.m_l_cell T.F_l_cell.kp T.b_l_cell .nil pass0 (pa_cons (pv 0) (pa_cons pe_int pa_nil))) pa_nil)) (pa_cons (pv 3) (pa_cons (pv 2) pa_nil)))))) (pss_one (ps_ret pe_bl)) pss_nil)
      (pss_one (ps_ret (pe_and (pe_call g_l_asks_ends (hr.mono (by first | decide | omega)) rfl T.m_l_asks_ends T.F_l_asks_ends.kp T.b_l_asks_ends .nil pass0 (pa_cons (pv 3) (pa_cons (pv 2) pa_nil))) (pe_one (pe_call g_l_asks_ends (hr.mono (by first | decide | omega)) rfl T.m_l_asks_ends T.F_l_asks_ends.kp T.b_l_asks_ends .nil pass0 (pa_cons (pv 4) (pa_cons (pv 2) pa_nil)))))))))))))))))), ?_⟩
  refine ⟨_, rfl, a, ns, 0, rfl, hS, by decide, fun c => ?_⟩
  refine ⟨c, rfl, fun p0 H1 hp0 s1 src => ?_⟩
  refine ⟨_, rfl, p0, rfl, src, fun n H2 st2 hn => ?_⟩
  refine ⟨_, rfl, _, rfl, p0, n, rfl, st2.s, hn, fun pf H3 Ps st3 hpf hPs fPs => ?_⟩
  have S3 : Same H H3 := Stp.fresh s1 hp0 (st2.trans st3)
  refine ⟨_, rfl, a, ns, 1, rfl, S3.seq hS, by decide, fun c2 => ?_⟩
  refine ⟨c2, rfl, fun p1 H4 hp1 s4 src1 => ?_⟩
  have n1 : pf ≠ p1 := by
    obtain ⟨as, e, _⟩ := hPs
    exact ne_of_none e hp1
  refine ⟨_, rfl, _, rfl, p1, pf, n, Ps, rfl, src1, n1, hPs.same s4, fPs, hn, fun pg H5 Qs st5 hQs fQs => ?_⟩
  have S5 : Same H3 H5 := Stp.fresh s4 hp1 st5
  have hPs5 := hPs.same S5
  have fp := fPs.1
  have fq := fQs.1
  have f2 : Few2 n Ps := ⟨by omega, fPs.2⟩
  refine ⟨_, rfl, _, rfl, pf, n, Ps, rfl, by omega, hPs5.mx, fPs.2, by omega, fun v1 G1 t1 b1 => ?_⟩
  refine ⟨_, rfl, _, rfl, pg, n, Qs, rfl, by omega, (hQs.same t1).mx, fQs.2, by omega, fun v2 G2 t2 b2 => ?_⟩
  have z1 := hull_sz n Ps
  have z2 := hull_sz n Qs
  have c1 := b1.same t2
  have P2 := hPs5.same (t1.trans t2)
  have Q2 := hQs.same (t1.trans t2)
  have S2 := S5.trans (t1.trans t2)
  -- one inside other
  refine ⟨_, rfl, _, rfl, _, _, _, _, n + 1, rfl, by omega, c1, b2, z1, z2, fun x1 G3 u3 e1 => ?_⟩
  refine ⟨_, rfl, _, rfl, pf, _, Ps, _, n, rfl, by omega, (P2.same u3).mx, fPs.2, b2.same u3, z2, fun y1 G4 u4 f1 => ?_⟩
  have q1 : x1 = y1 := bool_eq e1 f1 ins_hull
  subst q1
  refine ⟨_, _, .bool x1, rfl, .bl _, .bl _, trivial, _, rfl, ifF rfl ?_⟩
  have U4 := u3.trans u4
  -- other inside one
  refine ⟨_, rfl, _, rfl, _, _, _, _, n + 1, rfl, by omega, b2.same U4, c1.same U4, z2, z1, fun x2 G5 u5 e2 => ?_⟩
  have U5 := U4.trans u5
  refine ⟨_, rfl, _, rfl, pg, _, Qs, _, n, rfl, by omega, (Q2.same U5).mx, fQs.2, c1.same U5, z1, fun y2 G6 u6 f2' => ?_⟩
  have q2 : x2 = y2 := bool_eq e2 f2' ins_hull
  subst q2
  refine ⟨_, _, .bool x2, rfl, .bl _, .bl _, trivial, _, rfl, ifF rfl ?_⟩
  have U6 := U5.trans u6
  -- one inside one, None inside other
  refine ⟨_, rfl, _, rfl, _, _, _, _, n + 1, rfl, by omega, c1.same U6, c1.same U6, z1, z1, fun x3 G7 u7 e3 => ?_⟩
  have q3 : x3 = true := e3.mpr (by
    cases hull n Ps with
    | none => trivial
    | some M => exact fun i _ j _ => Int.le_refl _)
  subst q3
  refine ⟨_, _, .bool true, rfl, .bl _, .bl _, trivial, _, rfl, ifF rfl ?_⟩
  have U7 := U6.trans u7
  refine ⟨_, rfl, .non, _, none, _, n + 1, rfl, by omega, rfl, b2.same U7, (fun _ z => by cases z), z2, fun x4 G8 u8 e4 => ?_⟩
  have q4 : x4 = true := e4.mpr trivial
  subst q4
  refine ⟨_, _, .bool true, rfl, .bl _, .bl _, trivial, _, rfl, ifF rfl ?_⟩
  have U8 := U7.trans u8
  -- one inside None
  refine ⟨_, rfl, _, .non, _, none, n + 1, rfl, by omega, c1.same U8, rfl, z1, (fun _ z => by cases z), fun x5 G9 u9 e5 => ?_⟩
  have U9 := U8.trans u9
  obtain ⟨as, k1, k2⟩ := (P2.same U9).pa
  refine ⟨_, rfl, (by show 0 ≤ sizeLine; decide), fun e he => ?_⟩
  have s9 := Same.new he (.lst [])
  refine ⟨pf, e, _, rfl, rfl, SqL.of (s9 _ _ k1), SqL.of upd_same, ?_⟩
  have q5 : x5 = (as.map V.ref).isEmpty := by
    have h1 := e5.trans ins_none
    have h2 : (as.map V.ref).isEmpty = true ↔ Ps = [] := by
      rw [List.isEmpty_iff, List.map_eq_nil_iff]
      constructor
      · intro z
        exact List.length_eq_zero_iff.mp (by rw [← k2.1, z]; rfl)
      · intro z
        exact List.length_eq_zero_iff.mp (by rw [k2.1, z]; rfl)
    exact bool_eq h1 h2 Iff.rfl
  refine ⟨_, _, .bool x5, rfl, .bl _, by rw [q5]; exact .bl _, trivial, _, rfl, ifF rfl ?_⟩
  have U10 := U9.trans s9
  -- points
  have SX := (S3.trans S2).trans U10
  refine ⟨_, rfl, a, ns, 2, rfl, SX.seq hS, by decide, fun c3 => ?_⟩
  refine ⟨c3, rfl, fun p2 H6 hp2 s6 src2 => ?_⟩
  have PX := P2.same U10
  have QX := Q2.same U10
  have n2 : pf ≠ p2 := by
    obtain ⟨as, e, _⟩ := PX
    exact ne_of_none e hp2
  refine ⟨_, rfl, _, rfl, p2, pf, n, Ps, rfl, src2, n2, PX.same s6, fPs, hn, fun H7 st7 => ?_⟩
  have S7 := Stp.fresh s6 hp2 st7
  refine ⟨_, rfl, ifF rfl ?_⟩
  refine ⟨_, rfl, _, rfl, pf, n, Ps, rfl, PX.same S7, f2, hn, fun H8 t8 => ?_⟩
  refine ⟨_, rfl, ifT rfl ?_⟩
  exact ⟨_, rfl, _, rfl, pg, n, Qs, rfl, (QX.same S7).same t8, fQs, hn, fun H9 _ => q H9⟩
end
theorem all_mk {l : PySem.W.OpenLaw} {w : World} {K : PySem.W.Frag} {h : Heap} {mg : Str → Option Value} {fa : Addr} (X : K.In h) (G : h.Ns mainGlobals mg) (hfa : mg "law" = some (.ref fa))
    {f_is_inside : Addr} {od_is_inside an_is_inside : Option Addr} {sl_is_inside : Array (Option Value)} {oc_is_inside kV_is_inside dc_is_inside pm_is_inside cd_is_inside ct_is_inside : Value}
    (A_is_inside : PySem.W.nsIn K mainGlobals "is_inside" = some (some (.ref f_is_inside))) (L_is_inside : K.lookup f_is_inside = some ⟨oc_is_inside, od_is_inside, .func (PySem.W.fnOf "is_inside" "is_inside" (defArgs s_is_inside) (defBody s_is_inside) (defScope s_is_inside) .none kV_is_inside dc_is_inside pm_is_inside an_is_inside cd_is_inside ct_is_inside), sl_is_inside⟩) (C_is_inside : PySem.W.codeIn K cd_is_inside "is_inside" = true) (K_is_inside : PySem.W.keepIn K (.ref f_is_inside) = true)
    {f_has_point : Addr} {od_has_point an_has_point : Option Addr} {sl_has_point : Array (Option Value)} {oc_has_point kV_has_point dc_has_point pm_has_point cd_has_point ct_has_point : Value}
    (A_has_point : PySem.W.nsIn K mainGlobals "has_point" = some (some (.ref f_has_point))) (L_has_point : K.lookup f_has_point = some ⟨oc_has_point, od_has_point, .func (PySem.W.fnOf "has_point" "has_point" (defArgs s_has_point) (defBody s_has_point) (defScope s_has_point) .none kV_has_point dc_has_point pm_has_point an_has_point cd_has_point ct_has_point), sl_has_point⟩) (C_has_point : PySem.W.codeIn K cd_has_point "has_point" = true) (K_has_point : PySem.W.keepIn K (.ref f_has_point) = true)
    {f_range_of : Addr} {od_range_of an_range_of : Option Addr} {sl_range_of : Array (Option Value)} {oc_range_of kV_range_of dc_range_of pm_range_of cd_range_of ct_range_of : Value}
    (A_range_of : PySem.W.nsIn K mainGlobals "range_of" = some (some (.ref f_range_of))) (L_range_of : K.lookup f_range_of = some ⟨oc_range_of, od_range_of, .func (PySem.W.fnOf "range_of" "range_of" (defArgs s_range_of) (defBody s_range_of) (defScope s_range_of) .none kV_range_of dc_range_of pm_range_of an_range_of cd_range_of ct_range_of), sl_range_of⟩) (C_range_of : PySem.W.codeIn K cd_range_of "range_of" = true) (K_range_of : PySem.W.keepIn K (.ref f_range_of) = true)
    {f_least_point : Addr} {od_least_point an_least_point : Option Addr} {sl_least_point : Array (Option Value)} {oc_least_point kV_least_point dc_least_point pm_least_point cd_least_point ct_least_point : Value}
    (A_least_point : PySem.W.nsIn K mainGlobals "least_point" = some (some (.ref f_least_point))) (L_least_point : K.lookup f_least_point = some ⟨oc_least_point, od_least_point, .func (PySem.W.fnOf "least_point" "least_point" (defArgs s_least_point) (defBody s_least_point) (defScope s_least_point) .none kV_least_point dc_least_point pm_least_point an_least_point cd_least_point ct_least_point), sl_least_point⟩) (C_least_point : PySem.W.codeIn K cd_least_point "least_point" = true) (K_least_point : PySem.W.keepIn K (.ref f_least_point) = true)
    {f_greatest_point : Addr} {od_greatest_point an_greatest_point : Option Addr} {sl_greatest_point : Array (Option Value)} {oc_greatest_point kV_greatest_point dc_greatest_point pm_greatest_point cd_greatest_point ct_greatest_point : Value}
    (A_greatest_point : PySem.W.nsIn K mainGlobals "greatest_point" = some (some (.ref f_greatest_point))) (L_greatest_point : K.lookup f_greatest_point = some ⟨oc_greatest_point, od_greatest_point, .func (PySem.W.fnOf "greatest_point" "greatest_point" (defArgs s_greatest_point) (defBody s_greatest_point) (defScope s_greatest_point) .none kV_greatest_point dc_greatest_point pm_greatest_point an_greatest_point cd_greatest_point ct_greatest_point), sl_greatest_point⟩) (C_greatest_point : PySem.W.codeIn K cd_greatest_point "greatest_point" = true) (K_greatest_point : PySem.W.keepIn K (.ref f_greatest_point) = true)
    {f_l_cell : Addr} {od_l_cell an_l_cell : Option Addr} {sl_l_cell : Array (Option Value)} {oc_l_cell kV_l_cell dc_l_cell pm_l_cell cd_l_cell ct_l_cell : Value}
    (A_l_cell : PySem.W.nsIn K mainGlobals "_law_cell" = some (some (.ref f_l_cell))) (L_l_cell : K.lookup f_l_cell = some ⟨oc_l_cell, od_l_cell, .func (PySem.W.fnOf "_law_cell" "_law_cell" (defArgs s_l_cell) (defBody s_l_cell) (defScope s_l_cell) .none kV_l_cell dc_l_cell pm_l_cell an_l_cell cd_l_cell ct_l_cell), sl_l_cell⟩) (C_l_cell : PySem.W.codeIn K cd_l_cell "_law_cell" = true) (K_l_cell : PySem.W.keepIn K (.ref f_l_cell) = true)
    {f_l_source : Addr} {od_l_source an_l_source : Option Addr} {sl_l_source : Array (Option Value)} {oc_l_source kV_l_source dc_l_source pm_l_source cd_l_source ct_l_source : Value}
    (A_l_source : PySem.W.nsIn K mainGlobals "_law_source" = some (some (.ref f_l_source))) (L_l_source : K.lookup f_l_source = some ⟨oc_l_source, od_l_source, .func (PySem.W.fnOf "_law_source" "_law_source" (defArgs s_l_source) (defBody s_l_source) (defScope s_l_source) .none kV_l_source dc_l_source pm_l_source an_l_source cd_l_source ct_l_source), sl_l_source⟩) (C_l_source : PySem.W.codeIn K cd_l_source "_law_source" = true) (K_l_source : PySem.W.keepIn K (.ref f_l_source) = true)
    {f_l_pick : Addr} {od_l_pick an_l_pick : Option Addr} {sl_l_pick : Array (Option Value)} {oc_l_pick kV_l_pick dc_l_pick pm_l_pick cd_l_pick ct_l_pick : Value}
    (A_l_pick : PySem.W.nsIn K mainGlobals "_law_pick" = some (some (.ref f_l_pick))) (L_l_pick : K.lookup f_l_pick = some ⟨oc_l_pick, od_l_pick, .func (PySem.W.fnOf "_law_pick" "_law_pick" (defArgs s_l_pick) (defBody s_l_pick) (defScope s_l_pick) .none kV_l_pick dc_l_pick pm_l_pick an_l_pick cd_l_pick ct_l_pick), sl_l_pick⟩) (C_l_pick : PySem.W.codeIn K cd_l_pick "_law_pick" = true) (K_l_pick : PySem.W.keepIn K (.ref f_l_pick) = true)
    {f_l_hull : Addr} {od_l_hull an_l_hull : Option Addr} {sl_l_hull : Array (Option Value)} {oc_l_hull kV_l_hull dc_l_hull pm_l_hull cd_l_hull ct_l_hull : Value}
    (A_l_hull : PySem.W.nsIn K mainGlobals "_law_hull" = some (some (.ref f_l_hull))) (L_l_hull : K.lookup f_l_hull = some ⟨oc_l_hull, od_l_hull, .func (PySem.W.fnOf "_law_hull" "_law_hull" (defArgs s_l_hull) (defBody s_l_hull) (defScope s_l_hull) .none kV_l_hull dc_l_hull pm_l_hull an_l_hull cd_l_hull ct_l_hull), sl_l_hull⟩) (C_l_hull : PySem.W.codeIn K cd_l_hull "_law_hull" = true) (K_l_hull : PySem.W.keepIn K (.ref f_l_hull) = true)
    {f_l_belongs : Addr} {od_l_belongs an_l_belongs : Option Addr} {sl_l_belongs : Array (Option Value)} {oc_l_belongs kV_l_belongs dc_l_belongs pm_l_belongs cd_l_belongs ct_l_belongs : Value}
    (A_l_belongs : PySem.W.nsIn K mainGlobals "_law_belongs" = some (some (.ref f_l_belongs))) (L_l_belongs : K.lookup f_l_belongs = some ⟨oc_l_belongs, od_l_belongs, .func (PySem.W.fnOf "_law_belongs" "_law_belongs" (defArgs s_l_belongs) (defBody s_l_belongs) (defScope s_l_belongs) .none kV_l_belongs dc_l_belongs pm_l_belongs an_l_belongs cd_l_belongs ct_l_belongs), sl_l_belongs⟩) (C_l_belongs : PySem.W.codeIn K cd_l_belongs "_law_belongs" = true) (K_l_belongs : PySem.W.keepIn K (.ref f_l_belongs) = true)
    {f_l_same : Addr} {od_l_same an_l_same : Option Addr} {sl_l_same : Array (Option Value)} {oc_l_same kV_l_same dc_l_same pm_l_same cd_l_same ct_l_same : Value}
    (A_l_same : PySem.W.nsIn K mainGlobals "_law_same" = some (some (.ref f_l_same))) (L_l_same : K.lookup f_l_same = some ⟨oc_l_same, od_l_same, .func (PySem.W.fnOf "_law_same" "_law_same" (defArgs s_l_same) (defBody s_l_same) (defScope s_l_same) .none kV_l_same dc_l_same pm_l_same an_l_same cd_l_same ct_l_same), sl_l_same⟩) (C_l_same : PySem.W.codeIn K cd_l_same "_law_same" = true) (K_l_same : PySem.W.keepIn K (.ref f_l_same) = true)
    {f_l_number : Addr} {od_l_number an_l_number : Option Addr} {sl_l_number : Array (Option Value)} {oc_l_number kV_l_number dc_l_number pm_l_number cd_l_number ct_l_number : Value}
    (A_l_number : PySem.W.nsIn K mainGlobals "_law_number" = some (some (.ref f_l_number))) (L_l_number : K.lookup f_l_number = some ⟨oc_l_number, od_l_number, .func (PySem.W.fnOf "_law_number" "_law_number" (defArgs s_l_number) (defBody s_l_number) (defScope s_l_number) .none kV_l_number dc_l_number pm_l_number an_l_number cd_l_number ct_l_number), sl_l_number⟩) (C_l_number : PySem.W.codeIn K cd_l_number "_law_number" = true) (K_l_number : PySem.W.keepIn K (.ref f_l_number) = true)
    {f_l_size : Addr} {od_l_size an_l_size : Option Addr} {sl_l_size : Array (Option Value)} {oc_l_size kV_l_size dc_l_size pm_l_size cd_l_size ct_l_size : Value}
    (A_l_size : PySem.W.nsIn K mainGlobals "_law_size" = some (some (.ref f_l_size))) (L_l_size : K.lookup f_l_size = some ⟨oc_l_size, od_l_size, .func (PySem.W.fnOf "_law_size" "_law_size" (defArgs s_l_size) (defBody s_l_size) (defScope s_l_size) .none kV_l_size dc_l_size pm_l_size an_l_size cd_l_size ct_l_size), sl_l_size⟩) (C_l_size : PySem.W.codeIn K cd_l_size "_law_size" = true) (K_l_size : PySem.W.keepIn K (.ref f_l_size) = true)
    {f_l_seeds : Addr} {od_l_seeds an_l_seeds : Option Addr} {sl_l_seeds : Array (Option Value)} {oc_l_seeds kV_l_seeds dc_l_seeds pm_l_seeds cd_l_seeds ct_l_seeds : Value}
    (A_l_seeds : PySem.W.nsIn K mainGlobals "_law_seeds" = some (some (.ref f_l_seeds))) (L_l_seeds : K.lookup f_l_seeds = some ⟨oc_l_seeds, od_l_seeds, .func (PySem.W.fnOf "_law_seeds" "_law_seeds" (defArgs s_l_seeds) (defBody s_l_seeds) (defScope s_l_seeds) .none kV_l_seeds dc_l_seeds pm_l_seeds an_l_seeds cd_l_seeds ct_l_seeds), sl_l_seeds⟩) (C_l_seeds : PySem.W.codeIn K cd_l_seeds "_law_seeds" = true) (K_l_seeds : PySem.W.keepIn K (.ref f_l_seeds) = true)
    {f_l_second : Addr} {od_l_second an_l_second : Option Addr} {sl_l_second : Array (Option Value)} {oc_l_second kV_l_second dc_l_second pm_l_second cd_l_second ct_l_second : Value}
    (A_l_second : PySem.W.nsIn K mainGlobals "_law_second" = some (some (.ref f_l_second))) (L_l_second : K.lookup f_l_second = some ⟨oc_l_second, od_l_second, .func (PySem.W.fnOf "_law_second" "_law_second" (defArgs s_l_second) (defBody s_l_second) (defScope s_l_second) .none kV_l_second dc_l_second pm_l_second an_l_second cd_l_second ct_l_second), sl_l_second⟩) (C_l_second : PySem.W.codeIn K cd_l_second "_law_second" = true) (K_l_second : PySem.W.keepIn K (.ref f_l_second) = true)
    {f_l_all_inside : Addr} {od_l_all_inside an_l_all_inside : Option Addr} {sl_l_all_inside : Array (Option Value)} {oc_l_all_inside kV_l_all_inside dc_l_all_inside pm_l_all_inside cd_l_all_inside ct_l_all_inside : Value}
    (A_l_all_inside : PySem.W.nsIn K mainGlobals "_law_all_inside" = some (some (.ref f_l_all_inside))) (L_l_all_inside : K.lookup f_l_all_inside = some ⟨oc_l_all_inside, od_l_all_inside, .func (PySem.W.fnOf "_law_all_inside" "_law_all_inside" (defArgs s_l_all_inside) (defBody s_l_all_inside) (defScope s_l_all_inside) .none kV_l_all_inside dc_l_all_inside pm_l_all_inside an_l_all_inside cd_l_all_inside ct_l_all_inside), sl_l_all_inside⟩) (C_l_all_inside : PySem.W.codeIn K cd_l_all_inside "_law_all_inside" = true) (K_l_all_inside : PySem.W.keepIn K (.ref f_l_all_inside) = true)
    {f_l_near : Addr} {od_l_near an_l_near : Option Addr} {sl_l_near : Array (Option Value)} {oc_l_near kV_l_near dc_l_near pm_l_near cd_l_near ct_l_near : Value}
    (A_l_near : PySem.W.nsIn K mainGlobals "_law_near" = some (some (.ref f_l_near))) (L_l_near : K.lookup f_l_near = some ⟨oc_l_near, od_l_near, .func (PySem.W.fnOf "_law_near" "_law_near" (defArgs s_l_near) (defBody s_l_near) (defScope s_l_near) .none kV_l_near dc_l_near pm_l_near an_l_near cd_l_near ct_l_near), sl_l_near⟩) (C_l_near : PySem.W.codeIn K cd_l_near "_law_near" = true) (K_l_near : PySem.W.keepIn K (.ref f_l_near) = true)
    {f_l_asks_points : Addr} {od_l_asks_points an_l_asks_points : Option Addr} {sl_l_asks_points : Array (Option Value)} {oc_l_asks_points kV_l_asks_points dc_l_asks_points pm_l_asks_points cd_l_asks_points ct_l_asks_points : Value}
    (A_l_asks_points : PySem.W.nsIn K mainGlobals "_law_asks_points" = some (some (.ref f_l_asks_points))) (L_l_asks_points : K.lookup f_l_asks_points = some ⟨oc_l_asks_points, od_l_asks_points, .func (PySem.W.fnOf "_law_asks_points" "_law_asks_points" (defArgs s_l_asks_points) (defBody s_l_asks_points) (defScope s_l_asks_points) .none kV_l_asks_points dc_l_asks_points pm_l_asks_points an_l_asks_points cd_l_asks_points ct_l_asks_points), sl_l_asks_points⟩) (C_l_asks_points : PySem.W.codeIn K cd_l_asks_points "_law_asks_points" = true) (K_l_asks_points : PySem.W.keepIn K (.ref f_l_asks_points) = true)
    {f_l_values : Addr} {od_l_values an_l_values : Option Addr} {sl_l_values : Array (Option Value)} {oc_l_values kV_l_values dc_l_values pm_l_values cd_l_values ct_l_values : Value}
    (A_l_values : PySem.W.nsIn K mainGlobals "_law_values" = some (some (.ref f_l_values))) (L_l_values : K.lookup f_l_values = some ⟨oc_l_values, od_l_values, .func (PySem.W.fnOf "_law_values" "_law_values" (defArgs s_l_values) (defBody s_l_values) (defScope s_l_values) .none kV_l_values dc_l_values pm_l_values an_l_values cd_l_values ct_l_values), sl_l_values⟩) (C_l_values : PySem.W.codeIn K cd_l_values "_law_values" = true) (K_l_values : PySem.W.keepIn K (.ref f_l_values) = true)
    {f_l_asks_ends : Addr} {od_l_asks_ends an_l_asks_ends : Option Addr} {sl_l_asks_ends : Array (Option Value)} {oc_l_asks_ends kV_l_asks_ends dc_l_asks_ends pm_l_asks_ends cd_l_asks_ends ct_l_asks_ends : Value}
    (A_l_asks_ends : PySem.W.nsIn K mainGlobals "_law_asks_ends" = some (some (.ref f_l_asks_ends))) (L_l_asks_ends : K.lookup f_l_asks_ends = some ⟨oc_l_asks_ends, od_l_asks_ends, .func (PySem.W.fnOf "_law_asks_ends" "_law_asks_ends" (defArgs s_l_asks_ends) (defBody s_l_asks_ends) (defScope s_l_asks_ends) .none kV_l_asks_ends dc_l_asks_ends pm_l_asks_ends an_l_asks_ends cd_l_asks_ends ct_l_asks_ends), sl_l_asks_ends⟩) (C_l_asks_ends : PySem.W.codeIn K cd_l_asks_ends "_law_asks_ends" = true) (K_l_asks_ends : PySem.W.keepIn K (.ref f_l_asks_ends) = true)
    {f_law : Addr} {od_law an_law : Option Addr} {sl_law : Array (Option Value)} {oc_law kV_law dc_law pm_law cd_law ct_law : Value}
    (A_law : PySem.W.nsIn K mainGlobals "law" = some (some (.ref f_law))) (L_law : K.lookup f_law = some ⟨oc_law, od_law, .func (PySem.W.fnOf "law" "law" (defArgs s_law) (defBody s_law) (defScope s_law) .none kV_law dc_law pm_law an_law cd_law ct_law), sl_law⟩) (C_law : PySem.W.codeIn K cd_law "law" = true) (K_law : PySem.W.keepIn K (.ref f_law) = true)
    (Z_all : PySem.W.nsIn K mainGlobals "all" = some none)
    (Z_bool : PySem.W.nsIn K mainGlobals "bool" = some none)
    (Z_int : PySem.W.nsIn K mainGlobals "int" = some none)
    (Z_isinstance : PySem.W.nsIn K mainGlobals "isinstance" = some none)
    (Z_len : PySem.W.nsIn K mainGlobals "len" = some none)
    (Z_list : PySem.W.nsIn K mainGlobals "list" = some none)
    (Z_max : PySem.W.nsIn K mainGlobals "max" = some none)
    (Z_min : PySem.W.nsIn K mainGlobals "min" = some none)
    (Z_range : PySem.W.nsIn K mainGlobals "range" = some none)
    (Z_str : PySem.W.nsIn K mainGlobals "str" = some none)
    (Z_tuple : PySem.W.nsIn K mainGlobals "tuple" = some none)
    (Z_zip : PySem.W.nsIn K mainGlobals "zip" = some none) :
    ∃ fd : FuncData, (∀ (s : Shared) (v : Value), BindsTo s fd ⟨[v], []⟩ [("_law_script", v)]) ∧ ∀ base : Heap, K.In base → base.Ns mainGlobals mg → FnOk l.prog w K mg base CX0 5 fa fd ["_law_script"] (spLaw K) := by
  have e := hfa.symm.trans (PySem.W.mg_of X G A_law)
  cases e
  let T : Txt w K mg := {
    a_is_inside := f_is_inside, d_is_inside := _, F_is_inside := fun_mk (st := s_is_inside) L_is_inside C_is_inside K_is_inside, b_is_inside := (fun_mk (st := s_is_inside) L_is_inside C_is_inside K_is_inside).binds (ps := p_is_inside) (fun _ _ _ _ _ _ us hl => match us, hl with | [_, _], _ => rfl), m_is_inside := PySem.W.mg_of X G A_is_inside,
    a_has_point := f_has_point, d_has_point := _, F_has_point := fun_mk (st := s_has_point) L_has_point C_has_point K_has_point, b_has_point := (fun_mk (st := s_has_point) L_has_point C_has_point K_has_point).binds (ps := p_has_point) (fun _ _ _ _ _ _ us hl => match us, hl with | [_, _], _ => rfl), m_has_point := PySem.W.mg_of X G A_has_point,
    a_range_of := f_range_of, d_range_of := _, F_range_of := fun_mk (st := s_range_of) L_range_of C_range_of K_range_of, b_range_of := (fun_mk (st := s_range_of) L_range_of C_range_of K_range_of).binds (ps := p_range_of) (fun _ _ _ _ _ _ us hl => match us, hl with | [_, _], _ => rfl), m_range_of := PySem.W.mg_of X G A_range_of,
    a_least_point := f_least_point, d_least_point := _, F_least_point := fun_mk (st := s_least_point) L_least_point C_least_point K_least_point, b_least_point := (fun_mk (st := s_least_point) L_least_point C_least_point K_least_point).binds (ps := p_least_point) (fun _ _ _ _ _ _ us hl => match us, hl with | [_], _ => rfl), m_least_point := PySem.W.mg_of X G A_least_point,
    a_greatest_point := f_greatest_point, d_greatest_point := _, F_greatest_point := fun_mk (st := s_greatest_point) L_greatest_point C_greatest_point K_greatest_point, b_greatest_point := (fun_mk (st := s_greatest_point) L_greatest_point C_greatest_point K_greatest_point).binds (ps := p_greatest_point) (fun _ _ _ _ _ _ us hl => match us, hl with | [_], _ => rfl), m_greatest_point := PySem.W.mg_of X G A_greatest_point,
    a_l_cell := f_l_cell, d_l_cell := _, F_l_cell := fun_mk (st := s_l_cell) L_l_cell C_l_cell K_l_cell, b_l_cell := (fun_mk (st := s_l_cell) L_l_cell C_l_cell K_l_cell).binds (ps := p_l_cell) (fun _ _ _ _ _ _ us hl => match us, hl with | [_, _], _ => rfl), m_l_cell := PySem.W.mg_of X G A_l_cell,
    a_l_source := f_l_source, d_l_source := _, F_l_source := fun_mk (st := s_l_source) L_l_source C_l_source K_l_source, b_l_source := (fun_mk (st := s_l_source) L_l_source C_l_source K_l_source).binds (ps := p_l_source) (fun _ _ _ _ _ _ us hl => match us, hl with | [_], _ => rfl), m_l_source := PySem.W.mg_of X G A_l_source,
    a_l_pick := f_l_pick, d_l_pick := _, F_l_pick := fun_mk (st := s_l_pick) L_l_pick C_l_pick K_l_pick, b_l_pick := (fun_mk (st := s_l_pick) L_l_pick C_l_pick K_l_pick).binds (ps := p_l_pick) (fun _ _ _ _ _ _ us hl => match us, hl with | [_, _], _ => rfl), m_l_pick := PySem.W.mg_of X G A_l_pick,
    a_l_hull := f_l_hull, d_l_hull := _, F_l_hull := fun_mk (st := s_l_hull) L_l_hull C_l_hull K_l_hull, b_l_hull := (fun_mk (st := s_l_hull) L_l_hull C_l_hull K_l_hull).binds (ps := p_l_hull) (fun _ _ _ _ _ _ us hl => match us, hl with | [_, _], _ => rfl), m_l_hull := PySem.W.mg_of X G A_l_hull,
    a_l_belongs := f_l_belongs, d_l_belongs := _, F_l_belongs := fun_mk (st := s_l_belongs) L_l_belongs C_l_belongs K_l_belongs, b_l_belongs := (fun_mk (st := s_l_belongs) L_l_belongs C_l_belongs K_l_belongs).binds (ps := p_l_belongs) (fun _ _ _ _ _ _ us hl => match us, hl with | [_, _], _ => rfl), m_l_belongs := PySem.W.mg_of X G A_l_belongs,
    a_l_same := f_l_same, d_l_same := _, F_l_same := fun_mk (st := s_l_same) L_l_same C_l_same K_l_same, b_l_same := (fun_mk (st := s_l_same) L_l_same C_l_same K_l_same).binds (ps := p_l_same) (fun _ _ _ _ _ _ us hl => match us, hl with | [_, _], _ => rfl), m_l_same := PySem.W.mg_of X G A_l_same,
    a_l_number := f_l_number, d_l_number := _, F_l_number := fun_mk (st := s_l_number) L_l_number C_l_number K_l_number, b_l_number := (fun_mk (st := s_l_number) L_l_number C_l_number K_l_number).binds (ps := p_l_number) (fun _ _ _ _ _ _ us hl => match us, hl with | [_], _ => rfl), m_l_number := PySem.W.mg_of X G A_l_number,
    a_l_size := f_l_size, d_l_size := _, F_l_size := fun_mk (st := s_l_size) L_l_size C_l_size K_l_size, b_l_size := (fun_mk (st := s_l_size) L_l_size C_l_size K_l_size).binds (ps := p_l_size) (fun _ _ _ _ _ _ us hl => match us, hl with | [_], _ => rfl), m_l_size := PySem.W.mg_of X G A_l_size,
    a_l_seeds := f_l_seeds, d_l_seeds := _, F_l_seeds := fun_mk (st := s_l_seeds) L_l_seeds C_l_seeds K_l_seeds, b_l_seeds := (fun_mk (st := s_l_seeds) L_l_seeds C_l_seeds K_l_seeds).binds (ps := p_l_seeds) (fun _ _ _ _ _ _ us hl => match us, hl with | [_, _], _ => rfl), m_l_seeds := PySem.W.mg_of X G A_l_seeds,
    a_l_second := f_l_second, d_l_second := _, F_l_second := fun_mk (st := s_l_second) L_l_second C_l_second K_l_second, b_l_second := (fun_mk (st := s_l_second) L_l_second C_l_second K_l_second).binds (ps := p_l_second) (fun _ _ _ _ _ _ us hl => match us, hl with | [_, _, _], _ => rfl), m_l_second := PySem.W.mg_of X G A_l_second,
    a_l_all_inside := f_l_all_inside, d_l_all_inside := _, F_l_all_inside := fun_mk (st := s_l_all_inside) L_l_all_inside C_l_all_inside K_l_all_inside, b_l_all_inside := (fun_mk (st := s_l_all_inside) L_l_all_inside C_l_all_inside K_l_all_inside).binds (ps := p_l_all_inside) (fun _ _ _ _ _ _ us hl => match us, hl with | [_, _], _ => rfl), m_l_all_inside := PySem.W.mg_of X G A_l_all_inside,
    a_l_near := f_l_near, d_l_near := _, F_l_near := fun_mk (st := s_l_near) L_l_near C_l_near K_l_near, b_l_near := (fun_mk (st := s_l_near) L_l_near C_l_near K_l_near).binds (ps := p_l_near) (fun _ _ _ _ _ _ us hl => match us, hl with | [_, _, _], _ => rfl), m_l_near := PySem.W.mg_of X G A_l_near,
    a_l_asks_points := f_l_asks_points, d_l_asks_points := _, F_l_asks_points := fun_mk (st := s_l_asks_points) L_l_asks_points C_l_asks_points K_l_asks_points, b_l_asks_points := (fun_mk (st := s_l_asks_points) L_l_asks_points C_l_asks_points K_l_asks_points).binds (ps := p_l_asks_points) (fun _ _ _ _ _ _ us hl => match us, hl with | [_, _, _], _ => rfl), m_l_asks_points := PySem.W.mg_of X G A_l_asks_points,
    a_l_values := f_l_values, d_l_values := _, F_l_values := fun_mk (st := s_l_values) L_l_values C_l_values K_l_values, b_l_values := (fun_mk (st := s_l_values) L_l_values C_l_values K_l_values).binds (ps := p_l_values) (fun _ _ _ _ _ _ us hl => match us, hl with | [_, _], _ => rfl), m_l_values := PySem.W.mg_of X G A_l_values,
    a_l_asks_ends := f_l_asks_ends, d_l_asks_ends := _, F_l_asks_ends := fun_mk (st := s_l_asks_ends) L_l_asks_ends C_l_asks_ends K_l_asks_ends, b_l_asks_ends := (fun_mk (st := s_l_asks_ends) L_l_asks_ends C_l_asks_ends K_l_asks_ends).binds (ps := p_l_asks_ends) (fun _ _ _ _ _ _ us hl => match us, hl with | [_, _], _ => rfl), m_l_asks_ends := PySem.W.mg_of X G A_l_asks_ends,
    a_law := fa, d_law := _, F_law := fun_mk (st := s_law) L_law C_law K_law, b_law := (fun_mk (st := s_law) L_law C_law K_law).binds (ps := p_law) (fun _ _ _ _ _ _ us hl => match us, hl with | [_], _ => rfl), m_law := PySem.W.mg_of X G A_law,
    z_all := PySem.W.mg_none_of X G Z_all,
    z_bool := PySem.W.mg_none_of X G Z_bool,
    z_int := PySem.W.mg_none_of X G Z_int,
    z_isinstance := PySem.W.mg_none_of X G Z_isinstance,
    z_len := PySem.W.mg_none_of X G Z_len,
    z_list := PySem.W.mg_none_of X G Z_list,
    z_max := PySem.W.mg_none_of X G Z_max,
    z_min := PySem.W.mg_none_of X G Z_min,
    z_range := PySem.W.mg_none_of X G Z_range,
    z_str := PySem.W.mg_none_of X G Z_str,
    z_tuple := PySem.W.mg_none_of X G Z_tuple,
    z_zip := PySem.W.mg_none_of X G Z_zip }
  refine ⟨PySem.W.fnOf "law" "law" (defArgs s_law) (defBody s_law) (defScope s_law) .none kV_law dc_law pm_law an_law cd_law ct_law, fun s v => .of_eq rfl, fun base _ _ => ok_law T⟩
theorem walk {l : PySem.W.OpenLaw} {q : Program} {loose : List Str} {XP : (Str → Option Value) → Heap → Prop} {YP : World → Heap → Prop} {d : DefRec} {K : Params → PySem.W.Frag} (hn : l.most = some 63) (hdf : d.params.defaults = [])
    (hY : ∀ (w : World) (h : Heap), YP w h → (K w.params).In h)
    (F : ∀ (w : World) (mg : Str → Option Value) (fa : Addr) (h : Heap), (K w.params).In h → h.Ns mainGlobals mg → mg d.name = some (.ref fa) →
      ∃ fd : FuncData, (∀ (s : Shared) (u : Value), BindsTo s fd ⟨[u], []⟩ [("_law_script", u)]) ∧ ∀ base : Heap, (K w.params).In base → base.Ns mainGlobals mg → FnOk l.prog w (K w.params) mg base CX0 5 fa fd ["_law_script"] (spLaw (K w.params))) :
    PySem.W.WalkO q loose XP YP l.row.toRowW d [] (fun f vs => PySem.call f vs) :=
  L2.walk_of (n := 63) (k := 5) (x := "_law_script") (CX := fun _ => CX0) (sp := fun w => spLaw (K w.params)) hn (by decide) hdf ⟨rfl, by decide, by decide⟩ hY F (fun _ _ a ns hl _ hS => ⟨a, ns, rfl, hS, hl, fun _ => rfl⟩) fun _ _ _ _ _ z => z
end Mine
open PySem PySem.W PyProof.Rows
set_option maxRecDepth 100000 in
set_option maxHeartbeats 0 in
theorem PySem.Challenge.cw_neverhappens_k20_inside_and_points_holds : PySem.Challenge.rw_neverhappens_k20_inside_and_points.Holds := by
  w_on; o_law; k_head; (case hw => w_witness2)
  k_fill
  refine Mine.walk (l := PySem.Challenge.rw_neverhappens_k20_inside_and_points) rfl rfl (fun w h Y => PySem.W.kIn_of Y) ?F
  case F =>
    intro w mg fa h KX G hmg
    refine' Mine.all_mk KX G hmg ?A_is_inside ?L_is_inside ?C_is_inside ?K_is_inside ?A_has_point ?L_has_point ?C_has_point ?K_has_point ?A_range_of ?L_range_of ?C_range_of ?K_range_of ?A_least_point ?L_least_point ?C_least_point ?K_least_point ?A_greatest_point ?L_greatest_point ?C_greatest_point ?K_greatest_point ?A_l_cell ?L_l_cell ?C_l_cell ?K_l_cell ?A_l_source ?L_l_source ?C_l_source ?K_l_source ?A_l_pick ?L_l_pick ?C_l_pick ?K_l_pick ?A_l_hull ?L_l_hull ?C_l_hull ?K_l_hull ?A_l_belongs ?L_l_belongs ?C_l_belongs ?K_l_belongs ?A_l_same ?L_l_same ?C_l_same ?K_l_same ?A_l_number ?L_l_number ?C_l_number ?K_l_number ?A_l_size ?L_l_size ?C_l_size ?K_l_size ?A_l_seeds ?L_l_seeds ?C_l_seeds ?K_l_seeds ?A_l_second ?L_l_second ?C_l_second ?K_l_second ?A_l_all_inside ?L_l_all_inside ?C_l_all_inside ?K_l_all_inside ?A_l_near ?L_l_near ?C_l_near ?K_l_near ?A_l_asks_points ?L_l_asks_points ?C_l_asks_points ?K_l_asks_points ?A_l_values ?L_l_values ?C_l_values ?K_l_values ?A_l_asks_ends ?L_l_asks_ends ?C_l_asks_ends ?K_l_asks_ends ?A_law ?L_law ?C_law ?K_law ?Z_all ?Z_bool ?Z_int ?Z_isinstance ?Z_len ?Z_list ?Z_max ?Z_min ?Z_range ?Z_str ?Z_tuple ?Z_zip
    (case A_is_inside => k_is)
    (case L_is_inside => k_is)
    (case C_is_inside => k_is)
    (case K_is_inside => k_is)
    (case A_has_point => k_is)
    (case L_has_point => k_is)
    (case C_has_point => k_is)
    (case K_has_point => k_is)
    (case A_range_of => k_is)
    (case L_range_of => k_is)
    (case C_range_of => k_is)
    (case K_range_of => k_is)
    (case A_least_point => k_is)
    (case L_least_point => k_is)
    (case C_least_point => k_is)
    (case K_least_point => k_is)
    (case A_greatest_point => k_is)
    (case L_greatest_point => k_is)
    (case C_greatest_point => k_is)
    (case K_greatest_point => k_is)
    (case A_l_cell => k_is)
    (case L_l_cell => k_is)
    (case C_l_cell => k_is)
    (case K_l_cell => k_is)
    (case A_l_source => k_is)
    (case L_l_source => k_is)
    (case C_l_source => k_is)
    (case K_l_source => k_is)
    (case A_l_pick => k_is)
    (case L_l_pick => k_is)
    (case C_l_pick => k_is)
    (case K_l_pick => k_is)
    (case A_l_hull => k_is)
    (case L_l_hull => k_is)
    (case C_l_hull => k_is)
    (case K_l_hull => k_is)
    (case A_l_belongs => k_is)
    (case L_l_belongs => k_is)
    (case C_l_belongs => k_is)
    (case K_l_belongs => k_is)
    (case A_l_same => k_is)
    (case L_l_same => k_is)
    (case C_l_same => k_is)
    (case K_l_same => k_is)
    (case A_l_number => k_is)
    (case L_l_number => k_is)
    (case C_l_number => k_is)
    (case K_l_number => k_is)
    (case A_l_size => k_is)
    (case L_l_size => k_is)
    (case C_l_size => k_is)
    (case K_l_size => k_is)
    (case A_l_seeds => k_is)
    (case L_l_seeds => k_is)
    (case C_l_seeds => k_is)
    (case K_l_seeds => k_is)
    (case A_l_second => k_is)
    (case L_l_second => k_is)
    (case C_l_second => k_is)
    (case K_l_second => k_is)
    (case A_l_all_inside => k_is)
    (case L_l_all_inside => k_is)
    (case C_l_all_inside => k_is)
    (case K_l_all_inside => k_is)
    (case A_l_near => k_is)
    (case L_l_near => k_is)
    (case C_l_near => k_is)
    (case K_l_near => k_is)
    (case A_l_asks_points => k_is)
    (case L_l_asks_points => k_is)
    (case C_l_asks_points => k_is)
    (case K_l_asks_points => k_is)
    (case A_l_values => k_is)
    (case L_l_values => k_is)
    (case C_l_values => k_is)
    (case K_l_values => k_is)
    (case A_l_asks_ends => k_is)
    (case L_l_asks_ends => k_is)
    (case C_l_asks_ends => k_is)
    (case K_l_asks_ends => k_is)
    (case A_law => k_is)
    (case L_law => k_is)
    (case C_law => k_is)
    (case K_law => k_is)
    (case Z_all => k_is)
    (case Z_bool => k_is)
    (case Z_int => k_is)
    (case Z_isinstance => k_is)
    (case Z_len => k_is)
    (case Z_list => k_is)
    (case Z_max => k_is)
    (case Z_min => k_is)
    (case Z_range => k_is)
    (case Z_str => k_is)
    (case Z_tuple => k_is)
    (case Z_zip => k_is)
#print axioms PySem.Challenge.cw_neverhappens_k20_inside_and_points_holds
