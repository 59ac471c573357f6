import PyProof.Rows.All
import Wide.All
import OpenK.AllK
import Wide.FinOn
import HandS.ForMost
import HandS.IsInst
import HandS.FStr
import HandS.Codes
import HandS.Star
import HandS.Zip
import HandS.More
import HandS.Defaults
import HandS.Rev
import HandS.Walk
import HandS.TupAny
import HandS.Style
import HandS.Dict
import HandS.Iter
import HandS.Conv
import HandS.WordsDict
import KE.KDictPairs
import KE.GoesMore
import PySem.Challenge.RW_neverhappens_k09_layout
set_option Elab.async false
set_option linter.all false
set_option maxRecDepth 100000
set_option maxHeartbeats 4000000
namespace DTL
open PySem PySem.Spec PyProof.Rows L2
section
variable {X : Cx}
/-- tuple(xs) of a list, the object told: it has no dict -/
theorem call_tuple_fz : CallR X (.type "tuple") (fun xs H Q => ∃ p ys, xs = [.ref p] ∧ SqL X.K H p ys ∧ ∀ l o, H l = none → o.cls = .type "tuple" → o.dict = none → Q (.ref l) (upd H l (.frz o (.tup ys)))) := by
  intro pins s σ H xs us Q I r h
  obtain ⟨p, ys, rfl, hq, q⟩ := h
  obtain ⟨u, rfl, rx⟩ := vals1 r
  cases rx
  obtain ⟨its, r', pl, hz⟩ := I.list hq
  have hlen := r'.length
  refine call_tuple_list pl.isList (fun h' kp => ?_) (by simp only [List.size_toArray] <;> omega)
  have I1 : Inv X pins σ H { s with heap := h' } := I.kept (t' := s.toks) kp
  have I2 : Inv X pins σ (upd H h'.objs.size (.frz { cls := .type "tuple", data := .seq its.toArray } (.tup ys))) { s with heap := h'.push { cls := .type "tuple", data := .seq its.toArray } } :=
    I1.laid (t' := s.toks) (fun b o e => Heap.get?_push_of_some _ e) (Nat.le_refl _) (show ObjOk X.prog X.w _ _ _ (.frz _ (.tup ys)) from ⟨Heap.get?_push_size _ rfl, hz, its, r', IsTup.new _ _⟩)
  exact ⟨.ref h'.objs.size, _, I2, rfl, q _ _ (I1.hok.fresh (Nat.le_refl _)) rfl rfl⟩
theorem pairs_of2 {pins : List (Addr × Obj)} {σ : L2.St} {H : Hp} {s : Shared} (I : Inv X pins σ H s) : ∀ {ps : List Addr} {kvs : List (Key × V)}, Paired (fun p kv => SqT X.K H p [kV kv.1, kv.2]) ps kvs →
    ∃ (prs : List (Key × Value)) (qs : List (Value × Value)), KV kvs prs ∧ prs.length = ps.length ∧ qs.length = ps.length ∧ ∀ (j : Nat) (k v : Value), qs[j]? = some (k, v) → ∃ (b : Addr) (key : Key), ps[j]? = some b ∧ IsTup s.heap b #[k, v] ∧ prs[j]? = some (key, v) ∧ keyIs key k = true
  | _, _, .nil => ⟨[], [], .nil, rfl, rfl, fun j k v e => by simp at e⟩
  | _, _, .cons (a := p) (b := kv) h t => by
    obtain ⟨prs, qs, r, hl, hl2, hp⟩ := pairs_of2 I t
    obtain ⟨its, rv, ht, _⟩ := I.tuple h
    obtain ⟨u, y, ei, ru, ry⟩ := vals2 rv
    subst ei
    refine ⟨(kv.1, y) :: prs, (u, y) :: qs, .cons ⟨rfl, ry⟩ r, by rw [List.length_cons, List.length_cons, hl], by rw [List.length_cons, List.length_cons, hl2], fun j k v e => ?_⟩
    cases j with
    | zero =>
      have e' : (u, y) = (k, v) := Option.some.inj e
      cases e'
      exact ⟨p, kv.1, rfl, ht, rfl, kV_is (P := X.prog) (w := X.w) ru⟩
    | succ j =>
      obtain ⟨b, key, e1, e2, e3, e4⟩ := hp j k v (by simpa using e)
      exact ⟨b, key, by simpa using e1, e2, by simpa using e3, e4⟩
/-- dict(t) of a tuple of pairs, the tuple's object told -/
theorem call_dictPT (hcalm : X.calm = true) : CallR X (.type "dict") (fun xs H Q => ∃ (a : Addr) (o : Obj) (ps : List Addr) (kvs : List (Key × V)), xs = [.ref a] ∧ H a = some (.frz o (.tup (ps.map V.ref))) ∧ o.dict = none ∧ Paired (fun p kv => SqT X.K H p [kV kv.1, kv.2]) ps kvs ∧
    ∀ p, H p = none → Q (.ref p) (upd H p (.dK (mergeK [] kvs)))) := by
  intro pins s σ H xs us Q I r q
  obtain ⟨a, o, ps, kvs, ex, hq, hdn, hp, q⟩ := q
  subst ex
  obtain ⟨u, eu, rx⟩ := vals1 r
  subst eu
  cases rx
  obtain ⟨ho, hz, its, rv, o', ho', hc, n, hdat⟩ := I.hok a _ hq
  rw [ho] at ho'
  cases ho'
  have ei := refs_at rv
  subst ei
  rw [List.length_map] at hz
  obtain ⟨prs, qs, rel, hl, hl2, hpr⟩ := pairs_of2 I hp
  have PA := PySem.PairArg.tuple (prog := X.prog) (w := X.w) a (ps.map Value.ref).toArray (fun j => ps.getD j 0) qs
  refine PySem.call_dict_pairs (knd := mixKind X.prog X.w) (kvs := prs) PA (I.ok.hd hcalm) ⟨⟨o, n, ho, hc, hdn, hdat⟩, by simp [hl2], fun j k v e => ?_⟩ ⟨by rw [hl, hl2], fun j k v e => ?_⟩ (by rw [hl2]; exact hz) fun h' tk hd' k => ?_
  · obtain ⟨b, key, e1, e2, e3, e4⟩ := hpr j k v e
    refine ⟨by simp [List.getD_eq_getElem?_getD, e1], ?_⟩
    have eb : ps.getD j 0 = b := by rw [List.getD_eq_getElem?_getD, e1]; rfl
    show PySem.PairAt s.heap (ps.getD j 0) k v
    rw [eb]
    obtain ⟨o2, h2, c2, n2, d2⟩ := e2
    exact .inl ⟨o2, h2, c2, n2, d2⟩
  · obtain ⟨b, key, e1, e2, e3, e4⟩ := hpr j k v e
    exact ⟨key, e3, e4⟩
  · have hm : (s.heap.objs.size == sysModules) = false := beq_eq_false_iff_ne.mpr (Nat.ne_of_gt I.big)
    have hlen : (mergeK [] kvs).length ≤ sizeLine := by
      refine Nat.le_trans (length_mergeK kvs []) ?_
      rw [List.length_nil, Nat.zero_add, rel.length, hl]
      exact hz
    exact ⟨.ref s.heap.objs.size, upd H s.heap.objs.size (.dK (mergeK [] kvs)), I.laid (t' := tk) (fun b o e => k b o (by simp) e) (Nat.le_refl _) (show ObjOk X.prog X.w _ _ _ (.dK (mergeK [] kvs)) from ⟨hlen, hm, merged [] prs, KV.merge rel .nil, hd'⟩), rfl, q _ (I.hok.fresh (Nat.le_refl _))⟩
end
end DTL
namespace EnT
open PySem PySem.Spec PyProof.Rows L2
/-! ### enumerate over a tuple -/
theorem meets_enumT (l : Addr) (items : Array Value) :
    Meets (Builtin.«enumerate.__new__» ⟨[.type "enumerate", .ref l], []⟩) (fun _ R s => s.heap.IsTuple l items ∧
      R (.ok (.ret (.ref (s.heap.push { cls := .type "tuple_iterator", data := .fields #[.ref l, .int 0 0] }).objs.size)))
        { s with heap := (s.heap.push { cls := .type "tuple_iterator", data := .fields #[.ref l, .int 0 0] }).push { cls := .type "enumerate", data := .fields #[.none, .bool false, .ref s.heap.objs.size, rawInt 0, .none, .none] } }) :=
  .of_wp fun prog w A R s h => by
    obtain ⟨hp, g, d, tk, os⟩ := s; obtain ⟨hl, h⟩ := h
    have hsub := sub_enumerate
    have q1 : ∀ {A' : Around} {E : Value → Shared → Prop} {Q : Value → Shared → Prop}, Q (.ref hp.objs.size) ⟨hp.push { cls := .type "tuple_iterator", data := .fields #[.ref l, .int 0 0] }, g, d, tk, os⟩ → wpAny (model prog w) A' (pyIter (.ref l)) Q E ⟨hp, g, d, tk, os⟩ :=
      fun q => wpAny_pyIter_tuple (s := ⟨hp, g, d, tk, os⟩) hl q
    wp_walk using q1
    refine wpAny_stack_any fun st => wpAny_pure ?_
    split
    · rename_i c _ _ _ _ _
      cases (c == Value.type "enumerate")
      · wp_walk using q1
        exact ⟨_, rfl, h⟩
      · wp_walk using q1
        exact ⟨_, rfl, h⟩
    · wp_walk using q1
      exact ⟨_, rfl, h⟩
theorem call_enumT {prog : Program} {w : World} {A : Around} {E : Value → Shared → Prop} {s : Shared} {l : Addr} {items : Array Value} {Q : Value → Shared → Prop} (hL : s.heap.IsTuple l items)
    (h : ∀ h', IsEnum h' (s.heap.objs.size + 1) s.heap.objs.size 0 .none → h'.IsTupleIter s.heap.objs.size l 0 → h'.objs.size = s.heap.objs.size + 2 →
      (∀ b o, s.heap.get? b = some o → h'.get? b = some o) → Q (.ref (s.heap.objs.size + 1)) { s with heap := h' }) :
    wpAny (model prog w) A (call (.type "enumerate") [.ref l]) Q E s := by
  refine callType_new F.called_enumerate (by decide) (F.typeCall_enumerate_1 _) (F.newCall_enumerate_1 _) (fun obj => F.args_object_init_2 obj _) F.entry_enumerate_new
    (meets_enumT l items) ⟨hL, ?_⟩
  have hz : (s.heap.push { cls := .type "tuple_iterator", data := .fields #[.ref l, .int 0 0] }).objs.size = s.heap.objs.size + 1 := Heap.size_push ..
  show _ ∧ _
  rw [hz]
  have he : IsEnum ((s.heap.push { cls := .type "tuple_iterator", data := .fields #[.ref l, .int 0 0] }).push
      { cls := .type "enumerate", data := .fields #[.none, .bool false, .ref s.heap.objs.size, rawInt 0, .none, .none] }) (s.heap.objs.size + 1) s.heap.objs.size 0 .none := by
    have := Heap.get?_push_size (s.heap.push { cls := .type "tuple_iterator", data := .fields #[.ref l, .int 0 0] })
      (o := { cls := .type "enumerate", data := .fields #[.none, .bool false, .ref s.heap.objs.size, rawInt 0, .none, .none] }) rfl
    rw [hz] at this; exact this
  refine ⟨⟨_, he, rfl⟩, h _ he ⟨_, Heap.get?_push_of_some _ (Heap.get?_push_size _ rfl), rfl, rfl⟩ (by rw [Heap.size_push, hz]) fun b o x => Heap.get?_push_of_some _ (Heap.get?_push_of_some _ x)⟩
/-- the tuple at a as it stands at each turn, each item in a new pair -/
def IteT (K : PySem.W.Frag) (a : Addr) : It :=
  ⟨fun i H => ∃ (xs : List V) (x : V), SqT K H a xs ∧ xs[i]? = some x, fun i H v H' => ∃ T x, v = .ref T ∧ H T = none ∧ H' = upd H T (.tup [.int (i : Nat), x]) ∧ ∀ xs, SqT K H a xs → xs[i]? = some x, fun i H => ∃ xs : List V, SqT K H a xs ∧ xs.length ≤ i⟩
theorem enumT_end {prog : Program} {w : World} {A : Around} {E : Value → Shared → Prop} {s : Shared} {e it t : Addr} {i : Nat} {items : Array Value} {old : Value} {Q : Option Value → Shared → Prop} (hh : A.handled = none)
    (he : IsEnum s.heap e it i old) (hit : s.heap.IsTupleIter it t i) (ht : s.heap.IsTuple t items) (hx : items[i]? = none)
    (hQ : ∀ h', Heap.ExtBut it s.heap h' → Q none { s with heap := h' }) : wpAny (model prog w) A (pyNext (.ref e)) Q E s := by
  have hT : s.TypeIs (.ref e) "enumerate" := ⟨_, he, rfl⟩
  unfold pyNext
  refine wpAny_bind (wpAny_attempt (wpAny_callSpecial?_slot (name := Str.ofString "__next__") hT F.slot_enumerate_next
    (wpAny_call_entry F.slot_enumerate_next hT F.entry_enumerate_next ?_ (F.args_enumerate_next_1 _))))
  show wpAny _ _ (field (.ref e) 2 >>= _) _ _ _
  refine wpAny_bind (wpAny_field he rfl (x := .ref it) rfl ?_)
  refine wpAny_bind (wpAny_nextOf_tuple_end (A := A.in1) hh hit ht hx fun h' x he' hx' => ?_)
  obtain ⟨o, ho, hc⟩ := hx'
  refine wpAny_bind (wpAny_isInstance (T := "StopIteration") (b := true) ⟨o, ho, hc⟩ isSubtype_stop ?_)
  exact wpAny_pure (hQ _ he')
theorem turn_enumT {P : Program} {w : World} {K : PySem.W.Frag} {elts : List Expr} {kk : Nat} {tpos : Pos} (a e it : Addr) :
    Turn P w K (.Tuple elts kk tpos) (IteT K a) [e, it] e (fun i h => (∃ old, IsEnum h e it ((i : Nat) : Int) old) ∧ h.IsTupleIter it a i ∧ e ≠ it) where
  mem := by simp
  obj := fun i h st b hb => by
    obtain ⟨⟨old, he⟩, ⟨o, ho, hc, hd⟩, _⟩ := st
    have e' : b = e ∨ b = it := by simpa using hb
    rcases e' with z | z
    · rw [z]; exact ⟨_, he, fun v q => nomatch q⟩
    · rw [z]; exact ⟨o, ho, fun v q => by rw [hd] at q; cases q⟩
  keep := fun i h h' st k => let ⟨⟨old, he⟩, hi, hne⟩ := st; ⟨⟨old, k e (by simp) _ he⟩, hi.at fun o q => k it (by simp) o q, hne⟩
  item := by
    intro X hP hw hK hc i pins s σ H E I hf st hg
    subst hP hw hK
    obtain ⟨⟨old, he⟩, hit, hne⟩ := st
    obtain ⟨xs, x, hq, hx⟩ := hg
    obtain ⟨its, rv, p, hz⟩ := I.tuple hq
    obtain ⟨u, hu, ru⟩ := rv.get hx
    have hel : e < s.heap.objs.size := Heap.lt_size he
    have hil : it < s.heap.objs.size := by obtain ⟨_, q, _⟩ := hit; exact Heap.lt_size q
    have hT0 : s.heap.IsTuple a its.toArray := p
    have nae : e ≠ a := fun z => by
      obtain ⟨o, ho, hcl, _⟩ := hT0
      rw [← z, he] at ho
      obtain rfl := Option.some.inj ho
      exact absurd (show Value.type "enumerate" = Value.type "tuple" from hcl) (by decide)
    have nai : a ≠ it := fun z => by
      obtain ⟨o, ho, hcl, _⟩ := hT0
      obtain ⟨o2, ho2, hcl2, _⟩ := hit
      rw [z, ho2] at ho
      obtain rfl := Option.some.inj ho
      rw [hcl2] at hcl
      exact absurd (show Value.type "tuple_iterator" = Value.type "tuple" from hcl) (by decide)
    refine wpAny_pyNext_enum_itemD (i := i) (Draws.tuple (A := X.A.in1) (I.ok.hd hc) it a nai its.toArray) he ⟨hit, hT0⟩ (by
      have := (List.getElem?_eq_some_iff.mp hu).1
      simpa using this) hne (by simp [hne, nae]) fun y h' tk hy ho hst' hT hsz hk => ?_
    have ey : y = u := by
      have hy' : its[i]? = some y := by simpa using hy
      rw [hu] at hy'
      exact (Option.some.inj hy').symm
    subst ey
    refine ⟨_, rfl, wpAny_letOwnedTupleGo_enum (s := { s with heap := h', toks := tk + 1 }) ho fun h'' he' sb => ?_⟩
    have hT2 : h''.get? s.heap.objs.size = some { cls := .type "tuple", data := .seq #[.int i tk, y] } := (sb.2 _ (Nat.ne_of_gt hel)).trans hT
    have new : ObjOk X.prog X.w (upd H s.heap.objs.size (.tup [.int (i : Nat), x])) h'' s.heap.objs.size (.tup [.int (i : Nat), x]) :=
      ⟨by show 2 ≤ sizeLine; decide, [.int i tk, y], .cons ⟨_, rfl⟩ (.cons ru .nil), ⟨_, hT2, rfl, _, rfl⟩⟩
    have I1 : Inv X pins σ (upd H s.heap.objs.size (.tup [.int (i : Nat), x])) { s with heap := h'', toks := tk + 1 } :=
      I.turnedNew (ch := [e, it]) (fun b ob hb q => (sb.2 b (fun z => hb (by simp [z]))).trans (hk b ob (fun z => hb (by simp [z])) (fun z => hb (by simp [z])) q)) hf (Nat.le_refl _) new
    refine ⟨.ref s.heap.objs.size, _, I1, rfl, ⟨_, x, rfl, I.hok.fresh (Nat.le_refl _), rfl, fun ys hy => by rw [I.tuple_inj hy hq]; exact hx⟩, ⟨⟨y, ?_⟩, hst'.1.at fun o q => (sb.2 it (Ne.symm hne)).trans q, hne⟩, fun b hb => ?_⟩
    · have e1 : ((i + 1 : Nat) : Int) = (i : Int) + 1 := by omega
      rw [e1]; exact he'
    · have hb' : b < s.heap.objs.size := by
        have e' : b = e ∨ b = it := by simpa using hb
        rcases e' with z | z
        · rw [z]; exact hel
        · rw [z]; exact hil
      rw [upd_ne (Nat.ne_of_lt hb')]
      exact (hf b hb).1
  done := by
    intro X hP hw hK hc i pins s σ H E I hf st hg
    subst hP hw hK
    obtain ⟨⟨old, he⟩, hit, hne⟩ := st
    obtain ⟨xs, hq, hx⟩ := hg
    obtain ⟨its, rv, p, hz⟩ := I.tuple hq
    obtain ⟨f0, f1, f2, f3, f4, f5⟩ := hf it (by simp)
    have hl := rv.length
    exact enumT_end (I.ok.hd hc) he hit p (by simp; omega) fun h' eb => ⟨rfl, I.turned (t' := s.toks) (fun b o hb q => eb b o hb q) f0 f1 f3 f4 f5⟩
  self := fun A i s Q E st h => let ⟨⟨_, he⟩, _⟩ := st; wpAny_pyIter_enum he h
def iEnumT (K : PySem.W.Frag) (ta : TA) : TI := fun σ H R => ta σ H fun vs H1 => ∃ a xs, vs = [.ref a] ∧ SqT K H1 a xs ∧ R (IteT K a) H1
theorem pi_enumT {X : Cx} {e : Expr} {ta : TA} {p pos tpos : Pos} {elts : List Expr} {kk : Nat} (hg : Gl X "enumerate") (hm : X.mg "enumerate" = none) (ha : PA X [e] ta) (hs : starEach [e] X.env = [(false, eval e X.env)] := by rfl) :
    PI X (.Tuple elts kk tpos) (.Call (.Name "enumerate" p) [e] [] pos) (iEnumT X.K ta) := by
  refine ⟨fun pins s σ H R I h => ?_⟩
  refine Call_ (ld_blt I hg hm boot_enumerate (PyProof.Rows.callWith_type1 (thn (ha.run pos pins s σ H _ I h) fun us s1 ⟨vs, H1, I1, r1, q1⟩ => ?_) hs rfl))
  obtain ⟨a, xs, ex, hq, q⟩ := q1
  subst ex
  cases r1 with
  | cons r rr =>
    cases rr
    cases r
    obtain ⟨its, rv, p', hz⟩ := I1.tuple hq
    refine call_enumT (show s1.heap.IsTuple a its.toArray from p') fun h' he hit hsz hk => wpAny_pyIter_enum he ?_
    have I2 : Inv X pins σ H1 { s1 with heap := h' } := I1.kept (t' := s1.toks) hk
    refine ⟨s1.heap.objs.size + 1, [s1.heap.objs.size + 1, s1.heap.objs.size], _, _, H1, rfl, I2, turn_enumT a (s1.heap.objs.size + 1) s1.heap.objs.size, ⟨⟨.none, he⟩, hit, Nat.succ_ne_self _⟩, fun b hb => ?_, q⟩
    have e' : b = s1.heap.objs.size + 1 ∨ b = s1.heap.objs.size := by simpa using hb
    have hle : s1.heap.objs.size ≤ b := by
      rcases e' with z | z
      · rw [z]; exact Nat.le_add_right _ _
      · rw [z]; exact Nat.le_refl _
    exact I1.fpOk hle (I1.hok.fresh hle)
/-- a loop over enumerate of a tuple -/
theorem for_enumT {K : PySem.W.Frag} {a : Addr} {xs : List V} {g : TG} {tb : TS} {D : Ends} {σ : L2.St} {H : Hp} (Pv : Nat → L2.St → Hp → Prop) (h0 : Pv 0 σ H) (hq : ∀ i σ H, Pv i σ H → SqT K H a xs)
    (hs : ∀ (i : Nat) (x : V) (T : Addr) (σ : L2.St) (H : Hp), xs[i]? = some x → Pv i σ H → H T = none → g (.ref T) σ (upd H T (.tup [.int (i : Nat), x])) fun σ2 H2 => tb { D with nx := Pv (i + 1), ct := Pv (i + 1), bk := D.nx } σ2 H2) (hd : ∀ σ H, Pv xs.length σ H → D.nx σ H) :
    ∃ W : Nat → Nat → L2.St → Hp → Prop, (∃ m, W 0 m σ H) ∧ ∀ i m σ H, W i m σ H →
      ((IteT K a).stop i H ∧ D.nx σ H) ∨ ((IteT K a).go i H ∧ ∃ N : L2.St → Hp → Prop, (∀ σ' H', N σ' H' → ∃ m', m' < m ∧ W (i + 1) m' σ' H') ∧ ∀ v H', (IteT K a).yld i H v H' → g v σ H' fun σ2 H2 => tb { D with nx := N, ct := N, bk := D.nx } σ2 H2) := by
  refine ⟨fun i m σ H => m = xs.length - i ∧ i ≤ xs.length ∧ Pv i σ H, ⟨xs.length, rfl, Nat.zero_le _, h0⟩, ?_⟩
  rintro i m σ H ⟨rfl, hi, p⟩
  have q := hq i σ H p
  rcases Nat.lt_or_ge i xs.length with hlt | hge
  · have ex := List.getElem?_eq_getElem hlt
    refine .inr ⟨⟨xs, _, q, ex⟩, Pv (i + 1), fun σ' H' p' => ⟨xs.length - (i + 1), by omega, rfl, hlt, p'⟩, ?_⟩
    rintro v H' ⟨T, x, rfl, hT, rfl, f1⟩
    exact hs i x T σ H (f1 xs q) p hT
  · have e : i = xs.length := by omega
    subst e
    exact .inl ⟨⟨xs, q, hge⟩, hd σ H p⟩
end EnT
namespace Mine
open PySem L2
def top (i : Nat) : Stmt := PySem.Challenge.pw_neverhappens_k09_layout.main.body.getD i (.Pass ⟨0, 0, 0, 0⟩)
abbrev s_bodies_of : Stmt := top 2
abbrev s_list_statements : Stmt := top 3
abbrev s_count_statements : Stmt := top 4
abbrev s_nodes : Stmt := top 6
abbrev s_heads : Stmt := top 7
abbrev s_body_nodes : Stmt := top 8
abbrev s_statement_nodes : Stmt := top 9
abbrev s_if_nodes : Stmt := top 10
abbrev s_first_place : Stmt := top 11
abbrev s_is_small : Stmt := top 14
abbrev s_is_large : Stmt := top 15
abbrev s_is_discrete : Stmt := top 16
abbrev s_find_declared : Stmt := top 18
abbrev s_function_named : Stmt := top 19
abbrev s_visible_kinds : Stmt := top 20
abbrev s_discrete_names : Stmt := top 23
abbrev s_large_names : Stmt := top 24
abbrev s_kinds_of : Stmt := top 25
abbrev s_ranges_of : Stmt := top 26
abbrev s_l_cell : Stmt := top 29
abbrev s_l_source : Stmt := top 30
abbrev s_l_pick : Stmt := top 31
abbrev s_l_one : Stmt := top 32
abbrev s_l_names : Stmt := top 33
abbrev s_l_same : Stmt := top 34
abbrev s_l_kind : Stmt := top 35
abbrev s_l_is_large : Stmt := top 36
abbrev s_l_pairs : Stmt := top 37
abbrev s_l_body : Stmt := top 38
abbrev s_l_drawn : Stmt := top 39
abbrev s_l_count : Stmt := top 40
abbrev s_l_some_names : Stmt := top 41
abbrev s_l_some_ranges : Stmt := top 42
abbrev s_l_due : Stmt := top 43
abbrev s_l_told : Stmt := top 44
abbrev s_l_right : Stmt := top 45
abbrev s_law : Stmt := top 46
abbrev p_bodies_of : List Str := ["statement"]
abbrev p_list_statements : List Str := ["body", "in_while"]
abbrev p_count_statements : List Str := ["body"]
abbrev p_nodes : List Str := ["function"]
abbrev p_heads : List Str := ["function"]
abbrev p_body_nodes : List Str := ["body", "place", "ways"]
abbrev p_statement_nodes : List Str := ["statement", "place", "ways"]
abbrev p_if_nodes : List Str := ["statement", "place", "ways"]
abbrev p_first_place : List Str := ["body", "place", "after"]
abbrev p_is_small : List Str := ["kind"]
abbrev p_is_large : List Str := ["kind"]
abbrev p_is_discrete : List Str := ["kind"]
abbrev p_find_declared : List Str := ["section", "name"]
abbrev p_function_named : List Str := ["program", "name"]
abbrev p_visible_kinds : List Str := ["program", "function"]
abbrev p_discrete_names : List Str := ["kinds"]
abbrev p_large_names : List Str := ["kinds"]
abbrev p_kinds_of : List Str := ["names", "kinds"]
abbrev p_ranges_of : List Str := ["names", "kinds"]
abbrev p_l_cell : List Str := ["_law_script", "_law_at"]
abbrev p_l_source : List Str := ["_law_cell_here"]
abbrev p_l_pick : List Str := ["_law_source_here", "_law_size"]
abbrev p_l_one : List Str := ["_law_source_here", "_law_row"]
abbrev p_l_names : List Str := ["_law_source_here"]
abbrev p_l_same : List Str := ["_law_actual", "_law_due_here"]
abbrev p_l_kind : List Str := ["_law_source_here", "_law_records", "_law_large"]
abbrev p_l_is_large : List Str := ["_law_kind_here"]
abbrev p_l_pairs : List Str := ["_law_source_here", "_law_names_here", "_law_records", "_law_room"]
abbrev p_l_body : List Str := ["_law_source_here", "_law_left", "_law_depth", "_law_loop"]
abbrev p_l_drawn : List Str := ["_law_cell_here"]
abbrev p_l_count : List Str := ["_law_body_here"]
abbrev p_l_some_names : List Str := ["_law_pairs_here", "_law_large"]
abbrev p_l_some_ranges : List Str := ["_law_pairs_here"]
abbrev p_l_due : List Str := ["_law_program", "_law_head"]
abbrev p_l_told : List Str := ["_law_layout"]
abbrev p_l_right : List Str := ["_law_layout", "_law_program", "_law_head"]
abbrev p_law : List Str := ["_law_script"]
abbrev s_Layout_init : Stmt := inClass (top 27) 0
abbrev p_Layout_init : List Str := ["self", "program", "name"]
/-- what the program's top leaves: where each def stands -/
def tb_PARTS : List (Str × List Str) := [("set", ["variable", "expression"]), ("input", ["variable"]), ("new", ["variable"]), ("free", ["variable"]), ("load", ["variable", "variable", "field"]), ("store", ["variable", "field", "expression"]), ("get", ["variable", "array", "expression"]), ("put", ["array", "expression", "expression"]), ("call", ["variable", "function", "arguments"]), ("return", ["expression"]), ("if", ["expression", "body", "body"]), ("while", ["expression", "body"]), ("break", []), ("assert", ["expression"])]
/-- a list of strings, as values -/
def isStrs : List Str → List Value → Bool
  | [], [] => true
  | x :: xs, v :: vs => Value.isStrOf x v && isStrs xs vs
  | _, _ => false
theorem isStrs_vals : ∀ {xs : List Str} {vs : List Value}, isStrs xs vs = true → Vals (xs.map V.str) vs
  | [], [], _ => .nil
  | [], _ :: _, h => by cases h
  | _ :: _, [], h => by cases h
  | x :: xs, v :: vs, h => by
    have h' := (Bool.and_eq_true_iff).mp h
    obtain ⟨t, e⟩ := Value.isStrOf_shape (x := x) (v := v) h'.1
    exact .cons ⟨t, e⟩ (isStrs_vals h'.2)
/-- an entry of a written dict: a tuple of strings -/
def KPart (w : World) (K : PySem.W.Frag) (d : Addr) (x : Str) (rs : List Str) : Prop := ∃ r, KDct K w d x (.ref r) ∧ ∀ H, SqT K H r (rs.map V.str)
theorem kpart {w : World} {K : PySem.W.Frag} {d r : Addr} {es : Array DictEntry} {n m : Nat} {x : Str} {rs : List Str} {dd : Option Addr} {its : Array Value} {sl : Array (Option Value)} (D : K.lookup d = some ⟨.type "dict", none, .dict es n, #[]⟩) (Y : PySem.W.KeysLit w.params es.toList)
    (N : PySem.W.nsIn K d x = some (some (.ref r))) (R : K.lookup r = some ⟨.type "tuple", dd, .seq its m, sl⟩) (z : rs.length ≤ 1000) (v : isStrs rs its.toList = true) : KPart w K d x rs := by
  have r1 := isStrs_vals v
  refine ⟨r, ⟨es, n, .ref r, D, Y, N, rfl⟩, fun H => .inr ⟨_, its, m, R, rfl, rfl, ?_, r1⟩⟩
  have e := r1.length
  rw [List.length_map] at e
  have e2 : its.toList.length = its.size := by simp
  rw [sizeLine_eq]
  omega
/-- values of defaults -/
def isV : V → Value → Bool
  | .bl b, .bool c => b == c
  | .non, .none => true
  | _, _ => false
def isVs : List V → List Value → Bool
  | [], [] => true
  | x :: xs, v :: vs => isV x v && isVs xs vs
  | _, _ => false
theorem isV_rel : ∀ {x : V} {v : Value}, isV x v = true → RelV x v
  | .bl b, .bool c, h => by
    have e : b = c := by simpa [isV] using h
    subst e
    rfl
  | .non, .none, _ => rfl
theorem isVs_vals : ∀ {xs : List V} {vs : List Value}, isVs xs vs = true → Vals xs vs
  | [], [], _ => .nil
  | [], _ :: _, h => by cases h
  | _ :: _, [], h => by cases h
  | x :: xs, v :: vs, h => by
    have h' := (Bool.and_eq_true_iff).mp h
    exact .cons (isV_rel h'.1) (isVs_vals h'.2)
theorem fund_mk {K : PySem.W.Frag} {x qual : Str} {st : Stmt} {f td : Addr} {oc tt : Value} {od an dd : Option Addr} {osl sk : Array (Option Value)} {kV doc pm cdv ct : Value} {its : Array Value} {n : Nat} {dvs : List V}
    (l : K.lookup f = some ⟨oc, od, .func (PySem.W.fnOf x qual (defArgs st) (defBody st) (defScope st) (.ref td) kV doc pm an cdv ct), osl⟩) (r : K.lookup td = some ⟨tt, dd, .seq its n, sk⟩) (v : Vals dvs its.toList) (ne : dvs ≠ [])
    (c : PySem.W.codeIn K cdv qual = true) (k : PySem.W.keepIn K (.ref f) = true) : FunD K x qual (defArgs st) (defBody st) (defScope st) dvs [] f (PySem.W.fnOf x qual (defArgs st) (defBody st) (defScope st) (.ref td) kV doc pm an cdv ct) :=
  ⟨⟨oc, od, .ref td, kV, doc, pm, an, cdv, ct, osl, rfl, l, c, .inr ⟨ne, td, _, its.toList, n, rfl, r, by simp, v⟩, .inl rfl⟩, k⟩
theorem fund_ok {P : Program} {w : World} {K : PySem.W.Frag} {mg : Str → Option Value} {base : Heap} {x qual : Str} {params : Arguments} {body : List Stmt} {scope : Scope} {dvs : List V} {kws : List (Str × V)} {f : Addr} {fd : FuncData} {N ps : List Str} {k : Nat} {sp : Sp} (F : FunD K x qual params body scope dvs kws f fd) (S : FnScope N ps scope) (len : ∀ vs H Q E, sp vs H Q E → vs.length = ps.length)
    (hbody : ∀ (cdv : Value) (A : Around) (outer : List Env) (s : Shared) (H : Hp) (vs : List V) (Q : VK) (E : XK), Room k (A.deeper (PyProof.Rows.envOfC qual scope s.heap.objs.size f cdv)) → sp vs H Q E →
      ∃ t, PSs (cxOf CX0 P w K mg base N qual scope f cdv A outer s H E).nox body t ∧ t { nx := fun _ H' => Q .non H', rt := Q } (L2.start N vs) H) : FnOk P w K mg base CX0 (k + 1) f fd ps sp :=
  F.ok S len fun cdv A outer s H vs Q E hr h => by
    obtain ⟨t, h, q⟩ := hbody cdv A outer s H vs Q E hr h
    exact ⟨t, h.nox, q⟩
structure Txt (w : World) (K : PySem.W.Frag) (mg : Str → Option Value) where
  a_bodies_of : Addr
  d_bodies_of : FuncData
  F_bodies_of : Fun K "bodies_of" "bodies_of" s_bodies_of a_bodies_of d_bodies_of
  b_bodies_of : Binds K d_bodies_of p_bodies_of []
  m_bodies_of : mg "bodies_of" = some (.ref a_bodies_of)
  a_list_statements : Addr
  d_list_statements : FuncData
  F_list_statements : FunD K "list_statements" "list_statements" (defArgs s_list_statements) (defBody s_list_statements) (defScope s_list_statements) [.bl false] [] a_list_statements d_list_statements
  b_list_statements : ∃ ds, Vals [] ds ∧ Binds K d_list_statements p_list_statements ds
  e_list_statements : ∃ ds, Vals [.bl false] ds ∧ Binds K d_list_statements p_list_statements ds
  m_list_statements : mg "list_statements" = some (.ref a_list_statements)
  a_count_statements : Addr
  d_count_statements : FuncData
  F_count_statements : Fun K "count_statements" "count_statements" s_count_statements a_count_statements d_count_statements
  b_count_statements : Binds K d_count_statements p_count_statements []
  m_count_statements : mg "count_statements" = some (.ref a_count_statements)
  a_nodes : Addr
  d_nodes : FuncData
  F_nodes : Fun K "nodes" "nodes" s_nodes a_nodes d_nodes
  b_nodes : Binds K d_nodes p_nodes []
  m_nodes : mg "nodes" = some (.ref a_nodes)
  a_heads : Addr
  d_heads : FuncData
  F_heads : Fun K "heads" "heads" s_heads a_heads d_heads
  b_heads : Binds K d_heads p_heads []
  m_heads : mg "heads" = some (.ref a_heads)
  a_body_nodes : Addr
  d_body_nodes : FuncData
  F_body_nodes : Fun K "body_nodes" "body_nodes" s_body_nodes a_body_nodes d_body_nodes
  b_body_nodes : Binds K d_body_nodes p_body_nodes []
  m_body_nodes : mg "body_nodes" = some (.ref a_body_nodes)
  a_statement_nodes : Addr
  d_statement_nodes : FuncData
  F_statement_nodes : Fun K "statement_nodes" "statement_nodes" s_statement_nodes a_statement_nodes d_statement_nodes
  b_statement_nodes : Binds K d_statement_nodes p_statement_nodes []
  m_statement_nodes : mg "statement_nodes" = some (.ref a_statement_nodes)
  a_if_nodes : Addr
  d_if_nodes : FuncData
  F_if_nodes : Fun K "if_nodes" "if_nodes" s_if_nodes a_if_nodes d_if_nodes
  b_if_nodes : Binds K d_if_nodes p_if_nodes []
  m_if_nodes : mg "if_nodes" = some (.ref a_if_nodes)
  a_first_place : Addr
  d_first_place : FuncData
  F_first_place : Fun K "first_place" "first_place" s_first_place a_first_place d_first_place
  b_first_place : Binds K d_first_place p_first_place []
  m_first_place : mg "first_place" = some (.ref a_first_place)
  a_is_small : Addr
  d_is_small : FuncData
  F_is_small : Fun K "is_small" "is_small" s_is_small a_is_small d_is_small
  b_is_small : Binds K d_is_small p_is_small []
  m_is_small : mg "is_small" = some (.ref a_is_small)
  a_is_large : Addr
  d_is_large : FuncData
  F_is_large : Fun K "is_large" "is_large" s_is_large a_is_large d_is_large
  b_is_large : Binds K d_is_large p_is_large []
  m_is_large : mg "is_large" = some (.ref a_is_large)
  a_is_discrete : Addr
  d_is_discrete : FuncData
  F_is_discrete : Fun K "is_discrete" "is_discrete" s_is_discrete a_is_discrete d_is_discrete
  b_is_discrete : Binds K d_is_discrete p_is_discrete []
  m_is_discrete : mg "is_discrete" = some (.ref a_is_discrete)
  a_find_declared : Addr
  d_find_declared : FuncData
  F_find_declared : Fun K "find_declared" "find_declared" s_find_declared a_find_declared d_find_declared
  b_find_declared : Binds K d_find_declared p_find_declared []
  m_find_declared : mg "find_declared" = some (.ref a_find_declared)
  a_function_named : Addr
  d_function_named : FuncData
  F_function_named : Fun K "function_named" "function_named" s_function_named a_function_named d_function_named
  b_function_named : Binds K d_function_named p_function_named []
  m_function_named : mg "function_named" = some (.ref a_function_named)
  a_visible_kinds : Addr
  d_visible_kinds : FuncData
  F_visible_kinds : Fun K "visible_kinds" "visible_kinds" s_visible_kinds a_visible_kinds d_visible_kinds
  b_visible_kinds : Binds K d_visible_kinds p_visible_kinds []
  m_visible_kinds : mg "visible_kinds" = some (.ref a_visible_kinds)
  a_discrete_names : Addr
  d_discrete_names : FuncData
  F_discrete_names : Fun K "discrete_names" "discrete_names" s_discrete_names a_discrete_names d_discrete_names
  b_discrete_names : Binds K d_discrete_names p_discrete_names []
  m_discrete_names : mg "discrete_names" = some (.ref a_discrete_names)
  a_large_names : Addr
  d_large_names : FuncData
  F_large_names : Fun K "large_names" "large_names" s_large_names a_large_names d_large_names
  b_large_names : Binds K d_large_names p_large_names []
  m_large_names : mg "large_names" = some (.ref a_large_names)
  a_kinds_of : Addr
  d_kinds_of : FuncData
  F_kinds_of : Fun K "kinds_of" "kinds_of" s_kinds_of a_kinds_of d_kinds_of
  b_kinds_of : Binds K d_kinds_of p_kinds_of []
  m_kinds_of : mg "kinds_of" = some (.ref a_kinds_of)
  a_ranges_of : Addr
  d_ranges_of : FuncData
  F_ranges_of : Fun K "ranges_of" "ranges_of" s_ranges_of a_ranges_of d_ranges_of
  b_ranges_of : Binds K d_ranges_of p_ranges_of []
  m_ranges_of : mg "ranges_of" = some (.ref a_ranges_of)
  a_l_cell : Addr
  d_l_cell : FuncData
  F_l_cell : Fun K "_law_cell" "_law_cell" s_l_cell a_l_cell d_l_cell
  b_l_cell : Binds K d_l_cell p_l_cell []
  m_l_cell : mg "_law_cell" = some (.ref a_l_cell)
  a_l_source : Addr
  d_l_source : FuncData
  F_l_source : Fun K "_law_source" "_law_source" s_l_source a_l_source d_l_source
  b_l_source : Binds K d_l_source p_l_source []
  m_l_source : mg "_law_source" = some (.ref a_l_source)
  a_l_pick : Addr
  d_l_pick : FuncData
  F_l_pick : Fun K "_law_pick" "_law_pick" s_l_pick a_l_pick d_l_pick
  b_l_pick : Binds K d_l_pick p_l_pick []
  m_l_pick : mg "_law_pick" = some (.ref a_l_pick)
  a_l_one : Addr
  d_l_one : FuncData
  F_l_one : Fun K "_law_one" "_law_one" s_l_one a_l_one d_l_one
  b_l_one : Binds K d_l_one p_l_one []
  m_l_one : mg "_law_one" = some (.ref a_l_one)
  a_l_names : Addr
  d_l_names : FuncData
  F_l_names : Fun K "_law_names" "_law_names" s_l_names a_l_names d_l_names
  b_l_names : Binds K d_l_names p_l_names []
  m_l_names : mg "_law_names" = some (.ref a_l_names)
  a_l_same : Addr
  d_l_same : FuncData
  F_l_same : Fun K "_law_same" "_law_same" s_l_same a_l_same d_l_same
  b_l_same : Binds K d_l_same p_l_same []
  m_l_same : mg "_law_same" = some (.ref a_l_same)
  a_l_kind : Addr
  d_l_kind : FuncData
  F_l_kind : Fun K "_law_kind" "_law_kind" s_l_kind a_l_kind d_l_kind
  b_l_kind : Binds K d_l_kind p_l_kind []
  m_l_kind : mg "_law_kind" = some (.ref a_l_kind)
  a_l_is_large : Addr
  d_l_is_large : FuncData
  F_l_is_large : Fun K "_law_is_large" "_law_is_large" s_l_is_large a_l_is_large d_l_is_large
  b_l_is_large : Binds K d_l_is_large p_l_is_large []
  m_l_is_large : mg "_law_is_large" = some (.ref a_l_is_large)
  a_l_pairs : Addr
  d_l_pairs : FuncData
  F_l_pairs : Fun K "_law_pairs" "_law_pairs" s_l_pairs a_l_pairs d_l_pairs
  b_l_pairs : Binds K d_l_pairs p_l_pairs []
  m_l_pairs : mg "_law_pairs" = some (.ref a_l_pairs)
  a_l_body : Addr
  d_l_body : FuncData
  F_l_body : Fun K "_law_body" "_law_body" s_l_body a_l_body d_l_body
  b_l_body : Binds K d_l_body p_l_body []
  m_l_body : mg "_law_body" = some (.ref a_l_body)
  a_l_drawn : Addr
  d_l_drawn : FuncData
  F_l_drawn : Fun K "_law_drawn" "_law_drawn" s_l_drawn a_l_drawn d_l_drawn
  b_l_drawn : Binds K d_l_drawn p_l_drawn []
  m_l_drawn : mg "_law_drawn" = some (.ref a_l_drawn)
  a_l_count : Addr
  d_l_count : FuncData
  F_l_count : Fun K "_law_count" "_law_count" s_l_count a_l_count d_l_count
  b_l_count : Binds K d_l_count p_l_count []
  m_l_count : mg "_law_count" = some (.ref a_l_count)
  a_l_some_names : Addr
  d_l_some_names : FuncData
  F_l_some_names : Fun K "_law_some_names" "_law_some_names" s_l_some_names a_l_some_names d_l_some_names
  b_l_some_names : Binds K d_l_some_names p_l_some_names []
  m_l_some_names : mg "_law_some_names" = some (.ref a_l_some_names)
  a_l_some_ranges : Addr
  d_l_some_ranges : FuncData
  F_l_some_ranges : Fun K "_law_some_ranges" "_law_some_ranges" s_l_some_ranges a_l_some_ranges d_l_some_ranges
  b_l_some_ranges : Binds K d_l_some_ranges p_l_some_ranges []
  m_l_some_ranges : mg "_law_some_ranges" = some (.ref a_l_some_ranges)
  a_l_due : Addr
  d_l_due : FuncData
  F_l_due : Fun K "_law_due" "_law_due" s_l_due a_l_due d_l_due
  b_l_due : Binds K d_l_due p_l_due []
  m_l_due : mg "_law_due" = some (.ref a_l_due)
  a_l_told : Addr
  d_l_told : FuncData
  F_l_told : Fun K "_law_told" "_law_told" s_l_told a_l_told d_l_told
  b_l_told : Binds K d_l_told p_l_told []
  m_l_told : mg "_law_told" = some (.ref a_l_told)
  a_l_right : Addr
  d_l_right : FuncData
  F_l_right : Fun K "_law_right" "_law_right" s_l_right a_l_right d_l_right
  b_l_right : Binds K d_l_right p_l_right []
  m_l_right : mg "_law_right" = some (.ref a_l_right)
  a_law : Addr
  d_law : FuncData
  F_law : Fun K "law" "law" s_law a_law d_law
  b_law : Binds K d_law p_law []
  m_law : mg "law" = some (.ref a_law)
  C_Layout : Addr
  cl_Layout : Cls K C_Layout
  mgc_Layout : mg "Layout" = some (.ref C_Layout)
  ki_Layout : PySem.W.keepIn K (.ref C_Layout) = true
  no_Layout_program : NoAttr K C_Layout "program"
  no_Layout_name : NoAttr K C_Layout "name"
  no_Layout_params : NoAttr K C_Layout "params"
  no_Layout_result : NoAttr K C_Layout "result"
  no_Layout_body : NoAttr K C_Layout "body"
  no_Layout_exit : NoAttr K C_Layout "exit"
  no_Layout_graph : NoAttr K C_Layout "graph"
  no_Layout_heads : NoAttr K C_Layout "heads"
  no_Layout_kinds : NoAttr K C_Layout "kinds"
  no_Layout_discrete : NoAttr K C_Layout "discrete"
  no_Layout_large : NoAttr K C_Layout "large"
  no_Layout_entry_discrete : NoAttr K C_Layout "entry_discrete"
  no_Layout_entry_large : NoAttr K C_Layout "entry_large"
  no_Layout_exit_discrete : NoAttr K C_Layout "exit_discrete"
  no_Layout_exit_large : NoAttr K C_Layout "exit_large"
  no_Layout_shared_large : NoAttr K C_Layout "shared_large"
  no_Layout_discrete_kinds : NoAttr K C_Layout "discrete_kinds"
  no_Layout_entry_kinds : NoAttr K C_Layout "entry_kinds"
  no_Layout_exit_kinds : NoAttr K C_Layout "exit_kinds"
  no_Layout_ranges : NoAttr K C_Layout "ranges"
  no_Layout_exit_ranges : NoAttr K C_Layout "exit_ranges"
  a_Layout_init : Addr
  d_Layout_init : FuncData
  F_Layout_init : Fun K "__init__" "Layout.__init__" s_Layout_init a_Layout_init d_Layout_init
  b_Layout_init : Binds K d_Layout_init p_Layout_init []
  mk_Layout : Mk K C_Layout a_Layout_init
  c_PARTS : ∃ d, mg "PARTS" = some (.ref d) ∧ ∀ q ∈ tb_PARTS, KPart w K d q.1 q.2
  c_WIDEST_SMALL : ∃ t, mg "WIDEST_SMALL" = some (.int 7 t)
  c_RESULT : ∃ t, mg "RESULT" = some (.str "result" t)
  z_bool : mg "bool" = none
  z_dict : mg "dict" = none
  z_enumerate : mg "enumerate" = none
  z_int : mg "int" = none
  z_isinstance : mg "isinstance" = none
  z_len : mg "len" = none
  z_list : mg "list" = none
  z_max : mg "max" = none
  z_min : mg "min" = none
  z_range : mg "range" = none
  z_str : mg "str" = none
  z_tuple : mg "tuple" = none
  z_zip : mg "zip" = none
abbrev n_bodies_of : List Str := ["statement", "roles", "role", "part"]
theorem sc_bodies_of : FnScope n_bodies_of p_bodies_of (defScope s_bodies_of) := ⟨rfl, rfl, rfl, by decide +kernel, rfl, by decide +kernel, by decide +kernel⟩
abbrev n_list_statements : List Str := ["body", "in_while", "found", "statement", "inner"]
theorem sc_list_statements : FnScope n_list_statements p_list_statements (defScope s_list_statements) := ⟨rfl, rfl, rfl, by decide +kernel, rfl, by decide +kernel, by decide +kernel⟩
abbrev n_count_statements : List Str := ["body", "count", "statement", "inner"]
theorem sc_count_statements : FnScope n_count_statements p_count_statements (defScope s_count_statements) := ⟨rfl, rfl, rfl, by decide +kernel, rfl, by decide +kernel, by decide +kernel⟩
abbrev n_nodes : List Str := ["function", "body", "leave"]
theorem sc_nodes : FnScope n_nodes p_nodes (defScope s_nodes) := ⟨rfl, rfl, rfl, by decide +kernel, rfl, by decide +kernel, by decide +kernel⟩
abbrev n_heads : List Str := ["function", "listed", "at", "statement", "_"]
theorem sc_heads : FnScope n_heads p_heads (defScope s_heads) := ⟨rfl, rfl, rfl, by decide +kernel, rfl, by decide +kernel, by decide +kernel⟩
abbrev n_body_nodes : List Str := ["body", "place", "ways", "found", "at", "statement", "behind", "after"]
theorem sc_body_nodes : FnScope n_body_nodes p_body_nodes (defScope s_body_nodes) := ⟨rfl, rfl, rfl, by decide +kernel, rfl, by decide +kernel, by decide +kernel⟩
abbrev n_statement_nodes : List Str := ["statement", "place", "ways", "after", "broken", "leave", "word", "inner", "start"]
theorem sc_statement_nodes : FnScope n_statement_nodes p_statement_nodes (defScope s_statement_nodes) := ⟨rfl, rfl, rfl, by decide +kernel, rfl, by decide +kernel, by decide +kernel⟩
abbrev n_if_nodes : List Str := ["statement", "place", "ways", "_", "test", "first", "second", "middle", "node"]
theorem sc_if_nodes : FnScope n_if_nodes p_if_nodes (defScope s_if_nodes) := ⟨rfl, rfl, rfl, by decide +kernel, rfl, by decide +kernel, by decide +kernel⟩
abbrev n_first_place : List Str := ["body", "place", "after"]
theorem sc_first_place : FnScope n_first_place p_first_place (defScope s_first_place) := ⟨rfl, rfl, rfl, by decide +kernel, rfl, by decide +kernel, by decide +kernel⟩
abbrev n_is_small : List Str := ["kind"]
theorem sc_is_small : FnScope n_is_small p_is_small (defScope s_is_small) := ⟨rfl, rfl, rfl, by decide +kernel, rfl, by decide +kernel, by decide +kernel⟩
abbrev n_is_large : List Str := ["kind"]
theorem sc_is_large : FnScope n_is_large p_is_large (defScope s_is_large) := ⟨rfl, rfl, rfl, by decide +kernel, rfl, by decide +kernel, by decide +kernel⟩
abbrev n_is_discrete : List Str := ["kind"]
theorem sc_is_discrete : FnScope n_is_discrete p_is_discrete (defScope s_is_discrete) := ⟨rfl, rfl, rfl, by decide +kernel, rfl, by decide +kernel, by decide +kernel⟩
abbrev n_find_declared : List Str := ["section", "name", "declared"]
theorem sc_find_declared : FnScope n_find_declared p_find_declared (defScope s_find_declared) := ⟨rfl, rfl, rfl, by decide +kernel, rfl, by decide +kernel, by decide +kernel⟩
abbrev n_function_named : List Str := ["program", "name"]
theorem sc_function_named : FnScope n_function_named p_function_named (defScope s_function_named) := ⟨rfl, rfl, rfl, by decide +kernel, rfl, by decide +kernel, by decide +kernel⟩
abbrev n_visible_kinds : List Str := ["program", "function"]
theorem sc_visible_kinds : FnScope n_visible_kinds p_visible_kinds (defScope s_visible_kinds) := ⟨rfl, rfl, rfl, by decide +kernel, rfl, by decide +kernel, by decide +kernel⟩
abbrev n_discrete_names : List Str := ["kinds", "name"]
theorem sc_discrete_names : FnScope n_discrete_names p_discrete_names (defScope s_discrete_names) := ⟨rfl, rfl, rfl, by decide +kernel, rfl, by decide +kernel, by decide +kernel⟩
abbrev n_large_names : List Str := ["kinds", "name"]
theorem sc_large_names : FnScope n_large_names p_large_names (defScope s_large_names) := ⟨rfl, rfl, rfl, by decide +kernel, rfl, by decide +kernel, by decide +kernel⟩
abbrev n_kinds_of : List Str := ["names", "kinds", "name"]
theorem sc_kinds_of : FnScope n_kinds_of p_kinds_of (defScope s_kinds_of) := ⟨rfl, rfl, rfl, by decide +kernel, rfl, by decide +kernel, by decide +kernel⟩
abbrev n_ranges_of : List Str := ["names", "kinds", "name"]
theorem sc_ranges_of : FnScope n_ranges_of p_ranges_of (defScope s_ranges_of) := ⟨rfl, rfl, rfl, by decide +kernel, rfl, by decide +kernel, by decide +kernel⟩
abbrev n_l_cell : List Str := ["_law_script", "_law_at"]
theorem sc_l_cell : FnScope n_l_cell p_l_cell (defScope s_l_cell) := ⟨rfl, rfl, rfl, by decide +kernel, rfl, by decide +kernel, by decide +kernel⟩
abbrev n_l_source : List Str := ["_law_cell_here"]
theorem sc_l_source : FnScope n_l_source p_l_source (defScope s_l_source) := ⟨rfl, rfl, rfl, by decide +kernel, rfl, by decide +kernel, by decide +kernel⟩
abbrev n_l_pick : List Str := ["_law_source_here", "_law_size", "_law_k", "_law_digit", "_law_mixed"]
theorem sc_l_pick : FnScope n_l_pick p_l_pick (defScope s_l_pick) := ⟨rfl, rfl, rfl, by decide +kernel, rfl, by decide +kernel, by decide +kernel⟩
abbrev n_l_one : List Str := ["_law_source_here", "_law_row"]
theorem sc_l_one : FnScope n_l_one p_l_one (defScope s_l_one) := ⟨rfl, rfl, rfl, by decide +kernel, rfl, by decide +kernel, by decide +kernel⟩
abbrev n_l_names : List Str := ["_law_source_here", "_law_style", "_law_names_here", "_law_k", "_law_word"]
theorem sc_l_names : FnScope n_l_names p_l_names (defScope s_l_names) := ⟨rfl, rfl, rfl, by decide +kernel, rfl, by decide +kernel, by decide +kernel⟩
abbrev n_l_same : List Str := ["_law_actual", "_law_due_here", "_law_k"]
theorem sc_l_same : FnScope n_l_same p_l_same (defScope s_l_same) := ⟨rfl, rfl, rfl, by decide +kernel, rfl, by decide +kernel, by decide +kernel⟩
abbrev n_l_kind : List Str := ["_law_source_here", "_law_records", "_law_large", "_law_choice", "_law_low"]
theorem sc_l_kind : FnScope n_l_kind p_l_kind (defScope s_l_kind) := ⟨rfl, rfl, rfl, by decide +kernel, rfl, by decide +kernel, by decide +kernel⟩
abbrev n_l_is_large : List Str := ["_law_kind_here"]
theorem sc_l_is_large : FnScope n_l_is_large p_l_is_large (defScope s_l_is_large) := ⟨rfl, rfl, rfl, by decide +kernel, rfl, by decide +kernel, by decide +kernel⟩
abbrev n_l_pairs : List Str := ["_law_source_here", "_law_names_here", "_law_records", "_law_room", "_law_pairs_here", "_law_k", "_law_kind_here"]
theorem sc_l_pairs : FnScope n_l_pairs p_l_pairs (defScope s_l_pairs) := ⟨rfl, rfl, rfl, by decide +kernel, rfl, by decide +kernel, by decide +kernel⟩
abbrev n_l_body : List Str := ["_law_source_here", "_law_left", "_law_depth", "_law_loop", "_law_body_here", "_law_k", "_law_choice", "_law_made", "_law_first"]
theorem sc_l_body : FnScope n_l_body p_l_body (defScope s_l_body) := ⟨rfl, rfl, rfl, by decide +kernel, rfl, by decide +kernel, by decide +kernel⟩
abbrev n_l_drawn : List Str := ["_law_cell_here", "_law_source_here", "_law_names_here", "_law_shift", "_law_records", "_law_kinds", "_law_name", "_law_fields", "_law_k", "_law_arrays", "_law_shared", "_law_pairs_here", "_law_functions", "_law_room", "_law_params", "_law_result", "_law_own", "_law_body_here"]
theorem sc_l_drawn : FnScope n_l_drawn p_l_drawn (defScope s_l_drawn) := ⟨rfl, rfl, rfl, by decide +kernel, rfl, by decide +kernel, by decide +kernel⟩
abbrev n_l_count : List Str := ["_law_body_here", "_law_count_here", "_law_statement"]
theorem sc_l_count : FnScope n_l_count p_l_count (defScope s_l_count) := ⟨rfl, rfl, rfl, by decide +kernel, rfl, by decide +kernel, by decide +kernel⟩
abbrev n_l_some_names : List Str := ["_law_pairs_here", "_law_large", "_law_pair"]
theorem sc_l_some_names : FnScope n_l_some_names p_l_some_names (defScope s_l_some_names) := ⟨rfl, rfl, rfl, by decide +kernel, rfl, by decide +kernel, by decide +kernel⟩
abbrev n_l_some_ranges : List Str := ["_law_pairs_here", "_law_pair"]
theorem sc_l_some_ranges : FnScope n_l_some_ranges p_l_some_ranges (defScope s_l_some_ranges) := ⟨rfl, rfl, rfl, by decide +kernel, rfl, by decide +kernel, by decide +kernel⟩
abbrev n_l_due : List Str := ["_law_program", "_law_head", "_law_entry", "_law_visible", "_law_ends", "_law_due_here"]
theorem sc_l_due : FnScope n_l_due p_l_due (defScope s_l_due) := ⟨rfl, rfl, rfl, by decide +kernel, rfl, by decide +kernel, by decide +kernel⟩
abbrev n_l_told : List Str := ["_law_layout", "_law_told_here"]
theorem sc_l_told : FnScope n_l_told p_l_told (defScope s_l_told) := ⟨rfl, rfl, rfl, by decide +kernel, rfl, by decide +kernel, by decide +kernel⟩
abbrev n_l_right : List Str := ["_law_layout", "_law_program", "_law_head", "_law_visible", "_law_kinds", "_law_pair"]
theorem sc_l_right : FnScope n_l_right p_l_right (defScope s_l_right) := ⟨rfl, rfl, rfl, by decide +kernel, rfl, by decide +kernel, by decide +kernel⟩
abbrev n_law : List Str := ["_law_script", "_law_asked", "_law_at", "_law_program", "_law_head", "_law_layouts", "_law_pair", "_law_k", "_law_again"]
theorem sc_law : FnScope n_law p_law (defScope s_law) := ⟨rfl, rfl, rfl, by decide +kernel, rfl, by decide +kernel, by decide +kernel⟩
abbrev n_Layout_init : List Str := ["self", "program", "name", "function", "shared", "entry", "last", "entry_ranges"]
theorem sc_Layout_init : FnScope n_Layout_init p_Layout_init (defScope s_Layout_init) := ⟨rfl, rfl, rfl, by decide +kernel, rfl, by decide +kernel, by decide +kernel⟩
/-! ### a list against the empty one -/
def rEqL0 (K : PySem.W.Frag) (neg : Bool) : R2 := fun x y H Q => ∃ (a b : Addr) (xs : List V), x = .ref a ∧ y = .ref b ∧ SqL K H a xs ∧ SqL K H b [] ∧ Q (.bl (if neg then !xs.isEmpty else xs.isEmpty)) H
theorem op_neL0 {X : Cx} (hu : X.A.units < cLine) : OpR X (compareOp .NotEq) (rEqL0 X.K true) := by
  intro pins s σ H x y v u Q I rx ry h
  obtain ⟨a, b, xs, rfl, rfl, ha, hb, q⟩ := h
  obtain rfl : v = Value.ref a := rx
  obtain rfl : u = Value.ref b := ry
  obtain ⟨its, r1, t1, _⟩ := I.list ha
  obtain ⟨its2, r2, t2, _⟩ := I.list hb
  cases r2
  cases r1 with
  | nil => exact SeqAt.RcNeAt.lists (e := fun _ => true) t1.isList t2.isList rfl hu (fun j h1 h2 => absurd h2 (by simp)) _ _ _ _ ⟨.bl _, H, I, rfl, q⟩
  | cons _ _ => exact SeqAt.RcNeAt.lists_lengths t1.isList t2.isList (by simp) hu _ _ _ _ ⟨.bl _, H, I, rfl, q⟩
theorem op_eqL0 {X : Cx} (hu : X.A.units < cLine) : OpR X (compareOp .Eq) (rEqL0 X.K false) := by
  intro pins s σ H x y v u Q I rx ry h
  obtain ⟨a, b, xs, rfl, rfl, ha, hb, q⟩ := h
  obtain rfl : v = Value.ref a := rx
  obtain rfl : u = Value.ref b := ry
  obtain ⟨its, r1, t1, _⟩ := I.list ha
  obtain ⟨its2, r2, t2, _⟩ := I.list hb
  cases r2
  cases r1 with
  | nil => exact SeqAt.eq_listAt (e := fun _ => true) t1.isList t2.isList rfl hu (fun j h1 h2 => absurd h2 (by simp)) ⟨.bl _, H, I, rfl, q⟩
  | cons _ _ => exact SeqAt.eq_list_lengthsAt t1.isList t2.isList (by simp) hu ⟨.bl _, H, I, rfl, q⟩
/-! ### built-in names -/
theorem bt_int : bootBuiltins "int" = some (.type "int") := by decide +kernel
theorem bt_str : bootBuiltins "str" = some (.type "str") := by decide +kernel
theorem bt_bool : bootBuiltins "bool" = some (.type "bool") := by decide +kernel
theorem bt_tuple : bootBuiltins "tuple" = some (.type "tuple") := by decide +kernel
theorem bt_list : bootBuiltins "list" = some (.type "list") := by decide +kernel
theorem bt_dict : bootBuiltins "dict" = some (.type "dict") := by decide +kernel
theorem bb_max : bootBuiltins "max" = some (.builtin "max") := by decide +kernel
theorem bb_min : bootBuiltins "min" = some (.builtin "min") := by decide +kernel
theorem bb_isinstance : bootBuiltins "isinstance" = some (.builtin "isinstance") := by decide +kernel
/-! ### a source of draws: a list of three ints, which draws alone change -/
def Src (H : Hp) (a : Addr) : Prop := ∃ c m k : Int, H a = some (.lst [.int c, .int m, .int k])
/-- a source stands at a, and nothing else that was tracked has changed -/
structure Stp (a : Addr) (H H' : Hp) : Prop where
  s : Src H' a
  k : ∀ b o, b ≠ a → H b = some o → H' b = some o
theorem Stp.refl {a : Addr} {H : Hp} (h : Src H a) : Stp a H H := ⟨h, fun _ _ _ e => e⟩
theorem Stp.trans {a : Addr} {H H1 H2 : Hp} (x : Stp a H H1) (y : Stp a H1 H2) : Stp a H H2 := ⟨y.s, fun b o hb e => y.k b o hb (x.k b o hb e)⟩
theorem Src.ne {a p : Addr} {H : Hp} (h : Src H a) (n : H p = none) : a ≠ p := by
  obtain ⟨c, m, k, h⟩ := h
  exact ne_of_none h n
theorem Stp.free {a p : Addr} {H H' : Hp} (x : Stp a H H') (n : H' p = none) : H p = none := by
  cases q : H p with
  | none => rfl
  | some o =>
    have ne : p ≠ a := fun z => x.s.ne n z.symm
    rw [x.k p o ne q] at n
    cases n
/-- a new object beside the source -/
theorem Stp.new {a p : Addr} {H H' : Hp} {o : HO} (x : Stp a H H') (n : H' p = none) : Stp a H (upd H' p o) := by
  have ne := x.s.ne n
  obtain ⟨c, m, k, h⟩ := x.s
  refine ⟨⟨c, m, k, by rw [upd_ne ne]; exact h⟩, fun b u hb e => ?_⟩
  have e' := x.k b u hb e
  rw [upd_ne (ne_of_none e' n)]
  exact e'
theorem Stp.same {a : Addr} {H H' H2 : Hp} (x : Stp a H H') (s : Same H' H2) : Stp a H H2 := by
  obtain ⟨c, m, k, h⟩ := x.s
  exact ⟨⟨c, m, k, s _ _ h⟩, fun b o hb e => s b o (x.k b o hb e)⟩
theorem Stp.of_same {a : Addr} {H H' : Hp} (h : Src H a) (s : Same H H') : Stp a H H' := (Stp.refl h).same s
theorem Same.new {H : Hp} {p : Addr} (h : H p = none) (o : HO) : Same H (upd H p o) := fun b u q => by rw [upd_ne (ne_of_none q h)]; exact q
/-- a source that is new ahead of its draws: all that was tracked stands -/
theorem Stp.fresh {a : Addr} {H H1 H2 : Hp} (s : Same H H1) (n : H a = none) (x : Stp a H1 H2) : Same H H2 := fun b o e => x.k b o (ne_of_none e n) (s b o e)
theorem Stp.rd {K : PySem.W.Frag} {a p : Addr} {H H' : Hp} {xs : List V} (x : Stp a H H') (h : SqT K H p xs) (hs : Src H a) : SqT K H' p xs := by
  obtain ⟨c, m, k, hs⟩ := hs
  rcases h with (h | ⟨o, h⟩) | h
  · exact .inl (.inl (x.k _ _ (ne_of h hs (by intro z; cases z)) h))
  · exact .inl (.inr ⟨o, x.k _ _ (ne_of h hs (by intro z; cases z)) h⟩)
  · exact .inr h
theorem Stp.rdL {K : PySem.W.Frag} {a p : Addr} {H H' : Hp} {xs : List V} (x : Stp a H H') (h : SqL K H p xs) (ne : p ≠ a) : SqL K H' p xs := by
  rcases h with (h | ⟨o, h⟩) | h
  · exact .inl (.inl (x.k _ _ ne h))
  · exact .inl (.inr ⟨o, x.k _ _ ne h⟩)
  · exact .inr h
theorem Same.tup {K : PySem.W.Frag} {p : Addr} {H H' : Hp} {xs : List V} (x : Same H H') (h : SqT K H p xs) : SqT K H' p xs := by
  rcases h with (h | ⟨o, h⟩) | h
  · exact .inl (.inl (x _ _ h))
  · exact .inl (.inr ⟨o, x _ _ h⟩)
  · exact .inr h
/-! ### numbers -/
theorem ifT {c : Bool} {A B : Prop} (h : c = true) (a : A) : if c = true then A else B := by rw [if_pos h]; exact a
theorem ifF {c : Bool} {A B : Prop} (h : c = false) (b : B) : if c = true then A else B := by rw [h]; exact iteF b
theorem fmod_bd {x m : Int} (h : 0 < m) : 0 ≤ x.fmod m ∧ x.fmod m < m := ⟨Int.fmod_nonneg_of_pos x h, Int.fmod_lt_of_pos x h⟩
theorem fm64 {x m : Int} (h : 0 < m) (h2 : m ≤ 2 ^ 64) : -(2 ^ 64) < x.fmod m ∧ x.fmod m < 2 ^ 64 :=
  ⟨Int.lt_of_lt_of_le (by decide) (fmod_bd h).1, Int.lt_of_lt_of_le (fmod_bd h).2 h2⟩
theorem atI_int {α : Type} {xs : List α} {r : Int} (h0 : 0 ≤ r) (h : r.toNat < xs.length) : atI xs r = some xs[r.toNat] := by
  have e := atI_nat (xs := xs) (j := r.toNat) (List.getElem?_eq_getElem h)
  rwa [Int.toNat_of_nonneg h0] at e
/-! ### the promises of the draws -/
def spCell (K : PySem.W.Frag) : Sp := fun vs H Q _ => ∃ (l : Addr) (ns : List Int) (j : Int), vs = [.ref l, .int j] ∧ SqL K H l (ns.map V.int) ∧ 0 ≤ j ∧ ∀ i : Int, Q (.int i) H
def spSource : Sp := fun vs H Q _ => ∃ c : Int, vs = [.int c] ∧ ∀ p H', H p = none → Same H H' → Src H' p → Q (.ref p) H'
def spPick : Sp := fun vs H Q _ => ∃ (a : Addr) (n : Int), vs = [.ref a, .int n] ∧ Src H a ∧ n < 1073741824 ∧ ∀ (r : Int) (H' : Hp), Stp a H H' → 0 ≤ r → (r < n ∨ r = 0) → Q (.int r) H'
def spOne (K : PySem.W.Frag) : Sp := fun vs H Q _ => ∃ (a : Addr) (row : V), vs = [.ref a, row] ∧ Src H a ∧
  ((∃ (p : Addr) (xs : List V), row = .ref p ∧ p ≠ a ∧ SqL K H p xs ∧ 0 < xs.length ∧ xs.length < 1000 ∧ ∀ v H', v ∈ xs → Stp a H H' → Q v H') ∨
   (∃ z : Str, row = .str z ∧ 0 < z.length ∧ z.length < 1000 ∧ ∀ (c : Nat) H', c ∈ z.cps.toList → Stp a H H' → Q (.str ⟨#[c]⟩) H'))
section
variable {P : Program} {w : World} {K : PySem.W.Frag} {mg : Str → Option Value} {base : Heap}
theorem ok_l_cell (T : Txt w K mg) : FnOk P w K mg base CX0 1 T.a_l_cell T.d_l_cell p_l_cell (spCell K) := by
  refine T.F_l_cell.ok sc_l_cell (fun vs H Q E h => ?_) (fun cdv A outer s H vs Q E hr h => ?_)
  · obtain ⟨l, ns, j, rfl, _⟩ := h
    rfl
  obtain ⟨l, ns, j, rfl, hS, h0, q⟩ := h
  refine ⟨_, (pss_cons (ps_if (pt_cmpR op_lt (pv 1) (pe_callB call_len_seq rfl T.z_len PySem.boot_len (pa_cons (pv 0) pa_nil)) (nomark _)) (pss_one (ps_ret (pe_ix ix_list (pv 0) (pv 1) (fun _ _ => rfl)))) pss_nil)
      (pss_one (ps_ret pe_int))), ?_⟩
  have hl : (ns.map V.int).length = ns.length := List.length_map _
  refine ⟨_, rfl, _, rfl, l, _, rfl, .inl hS, _, _, rfl, rfl, _, rfl, ?_⟩
  refine ite2 (fun c => ?_) (fun c => ?_)
  · have c' : j < (((ns.map V.int).length : Nat) : Int) := of_decide_eq_true c
    rw [hl] at c'
    have hk : j.toNat < ns.length := by omega
    have e := atI_int (xs := ns.map V.int) h0 (by omega)
    rw [List.getElem_map] at e
    exact ⟨_, rfl, _, rfl, l, _, _, _, rfl, rfl, hS, e, q _⟩
  · exact q 0
theorem ok_l_source (T : Txt w K mg) : FnOk P w K mg base CX0 1 T.a_l_source T.d_l_source p_l_source spSource := by
  refine T.F_l_source.ok sc_l_source (fun vs H Q E h => ?_) (fun cdv A outer s H vs Q E hr h => ?_)
  · obtain ⟨c, rfl, _⟩ := h
    rfl
  obtain ⟨c, rfl, q⟩ := h
  refine ⟨_, (pss_one (ps_ret (pe_lst (pa_cons (pv 0) (pa_cons (pv 0) (pa_cons pe_int pa_nil)))))), ?_⟩
  refine ⟨_, rfl, _, rfl, (by show 3 ≤ sizeLine; decide), fun p hp => ?_⟩
  exact q p _ hp (Same.new hp _) ⟨c, c, 0, upd_same⟩
theorem ok_l_pick (T : Txt w K mg) : FnOk P w K mg base CX0 1 T.a_l_pick T.d_l_pick p_l_pick spPick := by
  refine T.F_l_pick.ok sc_l_pick (fun vs H Q E h => ?_) (fun cdv A outer s H vs Q E hr h => ?_)
  · obtain ⟨a, n, rfl, _⟩ := h
    rfl
  obtain ⟨a, n, rfl, ⟨c, m, k, hS⟩, hn, q⟩ := h
  refine ⟨_, (pss_cons (ps_set (i := 2) sc_l_pick.nd rfl (Or.inl rfl) (pe_ix ix_list (pv 0) pe_int (fun _ _ => rfl)))
      (pss_cons (ps_asg (pe_op op_add (pv 2) pe_int) (pg_sub (pv 0) pe_int set_list))
      (pss_cons (ps_if (pt_cmpR op_lt (pv 1) pe_int (nomark _)) (pss_one (ps_ret pe_int)) pss_nil)
      (pss_cons (ps_if (PW.pt (pw_and (pt_cmpR op_ge (pe_ix ix_list (pv 0) pe_int (fun _ _ => rfl)) (pe_op op_pow pe_int pe_int) (nomark _)) (pw_and1 (pt_cmpR op_gt (pe_ix ix_list (pv 0) pe_int (fun _ _ => rfl)) pe_int (nomark _))))) (pss_cons (ps_set (i := 3) sc_l_pick.nd rfl (Or.inl rfl) (pe_op op_modN (pe_callTy call_int1 rfl T.z_int bt_int (pa_cons (pe_ix ix_list (pv 0) pe_int (fun _ _ => rfl)) pa_nil)) (pv 1)))
      (pss_cons (ps_asg (pe_op op_fdivN (pe_ix ix_list (pv 0) pe_int (fun _ _ => rfl)) (pv 1)) (pg_sub (pv 0) pe_int set_list))
      (pss_one (ps_ret (pv 3))))) pss_nil)
      (pss_cons (ps_set (i := 4) sc_l_pick.nd rfl (Or.inl rfl) (pe_op op_modN (pe_callTy call_int1 rfl T.z_int bt_int (pa_cons (pe_op op_add (pe_op op_add (pe_ix ix_list (pv 0) pe_int (fun _ _ => rfl)) (pe_op op_mul pe_int (pv 2))) pe_int) pa_nil)) pe_int))
      (pss_cons (ps_set (i := 4) sc_l_pick.nd rfl (Or.inl rfl) (pe_op op_modN (pe_callTy call_int1 rfl T.z_int bt_int (pa_cons (pe_op op_mul (pv 4) (pe_op op_add (pv 4) pe_int)) pa_nil)) pe_int))
      (pss_cons (ps_set (i := 4) sc_l_pick.nd rfl (Or.inl rfl) (pe_op op_modN (pe_callTy call_int1 rfl T.z_int bt_int (pa_cons (pe_op op_add (pe_op op_mul (pv 4) (pe_op op_add (pv 4) pe_int)) (pe_op op_mul pe_int (pv 2))) pa_nil)) pe_int))
      (pss_one (ps_ret (pe_op op_modN (pe_callTy call_int1 rfl T.z_int bt_int (pa_cons (pe_op op_fdivN (pv 4) pe_int) pa_nil)) (pv 1))))))))))), ?_⟩
  refine ⟨_, rfl, a, _, 2, _, rfl, rfl, SqL.of hS, rfl, ?_⟩
  refine ⟨_, rfl, k, 1, rfl, rfl, _, rfl, a, _, 2, 2, rfl, rfl, hS, rfl, ?_⟩
  have h1 : (upd H a (.lst [.int c, .int m, .int (k + 1)])) a = some (.lst [.int c, .int m, .int (k + 1)]) := upd_same
  have st : Stp a H (upd H a (.lst [.int c, .int m, .int (k + 1)])) := ⟨⟨c, m, k + 1, upd_same⟩, fun b o hb e => by rw [upd_ne hb]; exact e⟩
  refine ⟨_, rfl, n, 2, rfl, rfl, _, rfl, ?_⟩
  refine ite2 (fun _ => ?_) (fun c2 => ?_)
  · exact q 0 _ st (Int.le_refl 0) (.inr rfl)
  have hn2 : ¬ n < 2 := of_decide_eq_false (Bool.eq_false_iff.mpr c2)
  refine ⟨_, rfl, a, _, 0, _, rfl, rfl, SqL.of h1, rfl, 10, 18, rfl, rfl, ⟨by decide, by decide, by decide⟩, _, _, rfl, rfl, _, rfl, ?_⟩
  refine ite2 (fun _ => ⟨_, rfl, a, _, 1, _, rfl, rfl, SqL.of h1, rfl, _, _, rfl, rfl, _, rfl, ite2 (fun _ => ?first) (fun _ => ?second)⟩) (fun _ => iteF ?third)
  case first =>
    refine ⟨_, rfl, a, _, 1, _, rfl, rfl, SqL.of h1, rfl, .inl ⟨_, rfl, ?_⟩⟩
    refine ⟨_, rfl, _, _, rfl, rfl, by omega, ?_⟩
    refine ⟨_, rfl, a, _, 1, _, rfl, rfl, SqL.of h1, rfl, _, rfl, m, n, rfl, rfl, ⟨by omega, by omega⟩, _, rfl, a, _, 1, 1, rfl, rfl, h1, rfl, ?_⟩
    refine ⟨_, rfl, ?_⟩
    have b := fmod_bd (x := m) (m := n) (by omega)
    refine q _ _ ⟨⟨c, m.fdiv n, k + 1, upd_same⟩, fun b o hb e => ?_⟩ b.1 (.inl b.2)
    rw [upd_ne hb]
    exact st.k b o hb e
  all_goals
    refine ⟨_, rfl, a, _, 0, _, rfl, rfl, SqL.of h1, rfl, _, rfl, 7919, k, rfl, rfl, .inl ⟨by decide, by decide⟩, _, _, rfl, rfl, _, _, rfl, rfl, .inl ⟨_, rfl, ?_⟩⟩
    refine ⟨_, _, rfl, rfl, (by intro z; cases z), ?_⟩
    refine ⟨_, rfl, _, rfl, _, _, rfl, rfl, _, _, rfl, rfl, .inl (fm64 (by decide) (by decide)), .inl ⟨_, rfl, ?_⟩⟩
    refine ⟨_, _, rfl, rfl, (by intro z; cases z), ?_⟩
    refine ⟨_, rfl, _, rfl, _, _, rfl, rfl, _, _, rfl, rfl, .inl (fm64 (by decide) (by decide)), _, rfl, 31, k, rfl, rfl, .inl ⟨by decide, by decide⟩, _, _, rfl, rfl, .inl ⟨_, rfl, ?_⟩⟩
    refine ⟨_, _, rfl, rfl, (by intro z; cases z), ?_⟩
    refine ⟨_, rfl, _, _, rfl, rfl, ⟨by decide, by decide⟩, .inl ⟨_, rfl, ?_⟩⟩
    refine ⟨_, rfl, _, _, rfl, rfl, (by omega), ?_⟩
    exact q _ _ st (fmod_bd (by omega)).1 (.inl (fmod_bd (by omega)).2)
theorem ok_l_one (T : Txt w K mg) : FnOk P w K mg base CX0 2 T.a_l_one T.d_l_one p_l_one (spOne K) := by
  have g_l_pick := ok_l_pick (P := P) (w := w) (base := base) T
  refine T.F_l_one.ok sc_l_one (fun vs H Q E h => ?_) (fun cdv A outer s H vs Q E hr h => ?_)
  · obtain ⟨a, row, rfl, _⟩ := h
    rfl
  obtain ⟨a, row, rfl, hS, h⟩ := h
  refine ⟨_, (pss_one (ps_ret (pe_ix ix_seq (pv 1) (pe_call g_l_pick (hr.mono (by first | decide | omega)) rfl T.m_l_pick T.F_l_pick.kp T.b_l_pick .nil pass0 (pa_cons (pv 0) (pa_cons (pe_callB call_len rfl T.z_len PySem.boot_len (pa_cons (pv 1) pa_nil)) pa_nil))) (fun _ _ => rfl)))), ?_⟩
  rcases h with ⟨p, xs, rfl, ne, hx, h0, h9, q⟩ | ⟨z, rfl, h0, h9, q⟩
  · refine ⟨_, rfl, _, rfl, _, rfl, .ref p, xs.length, rfl, .inl ⟨_, hx, rfl⟩, ?_⟩
    refine ⟨a, _, rfl, hS, by omega, fun r H' st r0 r1 => ?_⟩
    have hr' : r.toNat < xs.length := by omega
    have e := atI_int (xs := xs) r0 hr'
    exact .inl ⟨p, xs, r, _, rfl, rfl, st.rdL hx ne, e, q _ _ (List.getElem_mem hr') st⟩
  · refine ⟨_, rfl, _, rfl, _, rfl, .str z, z.length, rfl, ⟨Nat.le_of_lt (small1000 (by omega)), rfl⟩, ?_⟩
    refine ⟨a, _, rfl, hS, by omega, fun r H' st r0 r1 => ?_⟩
    have ez : z.length = z.cps.toList.length := by simp [Str.length]
    have hr' : r.toNat < z.cps.toList.length := by omega
    have e := atI_int (xs := z.cps.toList) r0 hr'
    exact .inr (.inr ⟨z, r, _, rfl, rfl, Nat.le_of_lt (small1000 (by omega)), e, q _ _ (List.getElem_mem hr') st⟩)
end
/-! ### data: equal data are the same to _law_same -/
def Dok : Nat → PyData → Prop
  | 0, _ => False
  | _ + 1, .none => True
  | _ + 1, .bool _ => True
  | _ + 1, .int _ => True
  | _ + 1, .str _ => True
  | n + 1, .tuple ds => ds.length ≤ 100000 ∧ ∀ d ∈ ds, Dok n d
  | n + 1, .list ds => ds.length ≤ 100000 ∧ ∀ d ∈ ds, Dok n d
  | _ + 1, .dict _ => False
theorem dpAll_len {K : PySem.W.Frag} {H : Hp} : ∀ {vs : List V} {ds : List PyData}, DpAll K H vs ds → vs.length = ds.length
  | _, _, .nil => rfl
  | _, _, .cons _ r => congrArg (· + 1) (dpAll_len r)
theorem dpAll_get {K : PySem.W.Frag} {H : Hp} : ∀ {vs : List V} {ds : List PyData} {i : Nat} {d : PyData}, DpAll K H vs ds → ds[i]? = some d → ∃ v, vs[i]? = some v ∧ Dp K H v d
  | _, _, _, _, .nil, e => by simp at e
  | _, _, 0, d, .cons h _, e => by
    simp at e
    subst e
    exact ⟨_, rfl, h⟩
  | _, _, i + 1, d, .cons _ r, e => by
    obtain ⟨v, h1, h2⟩ := dpAll_get (i := i) r (by simpa using e)
    exact ⟨v, by simpa using h1, h2⟩
theorem tyL {K : PySem.W.Frag} {H : Hp} {a : Addr} {xs : List V} (h : SqL K H a xs) : TyX K H (.ref a) (.type "list") := by
  rcases h with (h | ⟨o, h⟩) | ⟨o, its, n, h, c, _⟩
  · exact .base (.lst h)
  · exact .base (.frz h)
  · exact .kList h c
theorem tyT {K : PySem.W.Frag} {H : Hp} {a : Addr} {xs : List V} (h : SqT K H a xs) : TyX K H (.ref a) (.type "tuple") := by
  rcases h with (h | ⟨o, h⟩) | ⟨o, its, n, h, c, _⟩
  · exact .base (.tup h)
  · exact .fTuple h
  · exact .kTuple h c
theorem isi {K : PySem.W.Frag} {H : Hp} {Q : VK} {x : V} {t c : String} (b : Bool) (ty : TyX K H x (.type t)) (kb : kitB t c = some b) (q : Q (.bl b) H) : rIsi K [x, .ty c] H Q := ⟨x, .ty c, _, _, b, rfl, .ty c, ty, kit_ty kb, q⟩
theorem kb_nt : kitB "NoneType" "tuple" = some false := by decide +kernel
theorem kb_nl : kitB "NoneType" "list" = some false := by decide +kernel
theorem kb_bt : kitB "bool" "tuple" = some false := by decide +kernel
theorem kb_bl : kitB "bool" "list" = some false := by decide +kernel
theorem kb_bb : kitB "bool" "bool" = some true := by decide +kernel
theorem kb_it : kitB "int" "tuple" = some false := by decide +kernel
theorem kb_il : kitB "int" "list" = some false := by decide +kernel
theorem kb_ib : kitB "int" "bool" = some false := by decide +kernel
theorem kb_ii : kitB "int" "int" = some true := by decide +kernel
theorem kb_st : kitB "str" "tuple" = some false := by decide +kernel
theorem kb_sl : kitB "str" "list" = some false := by decide +kernel
theorem kb_sb : kitB "str" "bool" = some false := by decide +kernel
theorem kb_si : kitB "str" "int" = some false := by decide +kernel
theorem kb_ss : kitB "str" "str" = some true := by decide +kernel
theorem kb_tt : kitB "tuple" "tuple" = some true := by decide +kernel
theorem kb_tl : kitB "tuple" "list" = some false := by decide +kernel
theorem kb_lt : kitB "list" "tuple" = some false := by decide +kernel
theorem kb_ll : kitB "list" "list" = some true := by decide +kernel
def spSame (K : PySem.W.Frag) (n : Nat) : Sp := fun vs H Q _ => ∃ (x y : V) (d : PyData), vs = [x, y] ∧ Dp K H x d ∧ Dp K H y d ∧ Dok n d ∧ Q (.bl true) H
section
variable {P : Program} {w : World} {K : PySem.W.Frag} {mg : Str → Option Value} {base : Heap}
theorem ok_l_same0 (T : Txt w K mg) : FnOk P w K mg base CX0 0 T.a_l_same T.d_l_same p_l_same (spSame K 0) := by
  have no : ∀ vs H Q E, ¬ spSame K 0 vs H Q E := fun vs H Q E h => by
    obtain ⟨x, y, d, _, _, _, h, _⟩ := h
    exact h
  exact ⟨fun vs H Q E h => absurd h (no vs H Q E), fun A outer s H args us vs Q E _ _ _ _ h => absurd h (no vs H Q E)⟩
/-- the part for two lists or two tuples -/
theorem same_seq {n : Nat} {H : Hp} {p r : Addr} {xs ys : List V} {ds : List PyData} (h1 : SqL K H p xs ∨ SqT K H p xs) (h2 : SqL K H r ys ∨ SqT K H r ys) (d1 : DpAll K H xs ds) (d2 : DpAll K H ys ds)
    (hd : ∀ d ∈ ds, Dok n d) {i : Nat} (hi : i < ds.length) {R : V → Hp → Prop} (q : R (.bl true) H) :
    tCall (spSame K n) [] E0 (tCons (tOp (rIx K) (tVar 0) (tVar 2)) (tCons (tOp (rIx K) (tVar 1) (tVar 2)) tNil)) [some (.ref p), some (.ref r), some (.int (0 + (i : Int)))] H R := by
  obtain ⟨x, e1, q1⟩ := dpAll_get (i := i) d1 (List.getElem?_eq_getElem hi)
  obtain ⟨y, e2, q2⟩ := dpAll_get (i := i) d2 (List.getElem?_eq_getElem hi)
  have a1 : atI xs (0 + (i : Int)) = some x := by rw [Int.zero_add]; exact atI_nat e1
  have a2 : atI ys (0 + (i : Int)) = some y := by rw [Int.zero_add]; exact atI_nat e2
  have k2 : tOp (rIx K) (tVar 1) (tVar 2) [some (.ref p), some (.ref r), some (.int (0 + (i : Int)))] H (fun v H' => tNil [some (.ref p), some (.ref r), some (.int (0 + (i : Int)))] H' fun vs H'' => spSame K n ((x :: v :: vs) ++ []) H'' R E0) := by
    refine ⟨_, rfl, _, rfl, ?_⟩
    have z : spSame K n [x, y] H R E0 := ⟨x, y, _, rfl, q1, q2, hd _ (List.getElem_mem hi), q⟩
    rcases h2 with h2 | h2
    · exact .inl ⟨r, _, _, _, rfl, rfl, h2, a2, z⟩
    · exact .inr (.inl ⟨r, _, _, _, rfl, rfl, h2, a2, z⟩)
  refine ⟨_, rfl, _, rfl, ?_⟩
  rcases h1 with h1 | h1
  · exact .inl ⟨p, _, _, _, rfl, rfl, h1, a1, k2⟩
  · exact .inr (.inl ⟨p, _, _, _, rfl, rfl, h1, a1, k2⟩)
theorem ok_l_same (T : Txt w K mg) : ∀ n : Nat, FnOk P w K mg base CX0 n T.a_l_same T.d_l_same p_l_same (spSame K n)
  | 0 => ok_l_same0 T
  | n + 1 => by
    have g_l_same := ok_l_same T n
    refine T.F_l_same.ok sc_l_same (fun vs H Q E h => ?_) (fun cdv A outer s H vs Q E hr h => ?_)
    · obtain ⟨x, y, d, rfl, _⟩ := h
      rfl
    obtain ⟨x, y, d, rfl, hx, hy, hd, q⟩ := h
    refine ⟨_, (pss_cons (ps_if (PW.pt (pw_or (pt_val (pe_callB call_isi rfl T.z_isinstance bb_isinstance (pa_cons (pv 1) (pa_cons (pe_bltn (v := .ty "tuple") rfl T.z_tuple bt_tuple rfl) pa_nil)))) (pw_or1 (pt_val (pe_callB call_isi rfl T.z_isinstance bb_isinstance (pa_cons (pv 1) (pa_cons (pe_bltn (v := .ty "list") rfl T.z_list bt_list rfl) pa_nil))))))) (pss_cons (ps_if (PW.pt (pw_or (pt_cmpR op_ne (pe_callB call_isi rfl T.z_isinstance bb_isinstance (pa_cons (pv 1) (pa_cons (pe_bltn (v := .ty "tuple") rfl T.z_tuple bt_tuple rfl) pa_nil))) (pe_callB call_isi rfl T.z_isinstance bb_isinstance (pa_cons (pv 0) (pa_cons (pe_bltn (v := .ty "tuple") rfl T.z_tuple bt_tuple rfl) pa_nil))) (nomark _)) (pw_or1 (pt_cmpR op_ne (pe_callB call_isi rfl T.z_isinstance bb_isinstance (pa_cons (pv 1) (pa_cons (pe_bltn (v := .ty "list") rfl T.z_list bt_list rfl) pa_nil))) (pe_callB call_isi rfl T.z_isinstance bb_isinstance (pa_cons (pv 0) (pa_cons (pe_bltn (v := .ty "list") rfl T.z_list bt_list rfl) pa_nil))) (nomark _))))) (pss_one (ps_ret pe_bl)) pss_nil)
      (pss_cons (ps_if (pt_cmpR op_ne (pe_callB call_len_seq rfl T.z_len PySem.boot_len (pa_cons (pv 0) pa_nil)) (pe_callB call_len_seq rfl T.z_len PySem.boot_len (pa_cons (pv 1) pa_nil)) (nomark _)) (pss_one (ps_ret pe_bl)) pss_nil)
      (pss_cons (ps_for PassesOwn.never rfl (pi_range1 rfl T.z_range (pa_cons (pe_callB call_len_seq rfl T.z_len PySem.boot_len (pa_cons (pv 1) pa_nil)) pa_nil)) (pg_name (i := 2) sc_l_same.nd rfl (Or.inl rfl))
        (pss_one (ps_if (pt_not (pt_val (pe_call g_l_same (hr.mono (by first | decide | omega)) rfl T.m_l_same T.F_l_same.kp T.b_l_same .nil pass0 (pa_cons (pe_ix ix_seq (pv 0) (pv 2) (fun _ _ => rfl)) (pa_cons (pe_ix ix_seq (pv 1) (pv 2) (fun _ _ => rfl)) pa_nil))))) (pss_one (ps_ret pe_bl)) pss_nil)))
      (pss_one (ps_ret pe_bl))))) pss_nil)
      (pss_cons (ps_if (pt_cmpR op_isN (pv 1) pe_non (nomark _)) (pss_one (ps_ret (pe_cmpR op_isN (pv 0) pe_non (nomark _)))) pss_nil)
      (pss_cons (ps_if (pt_val (pe_callB call_isi rfl T.z_isinstance bb_isinstance (pa_cons (pv 1) (pa_cons (pe_bltn (v := .ty "bool") rfl T.z_bool bt_bool rfl) pa_nil)))) (pss_one (ps_ret (pe_and (pe_callB call_isi rfl T.z_isinstance bb_isinstance (pa_cons (pv 0) (pa_cons (pe_bltn (v := .ty "bool") rfl T.z_bool bt_bool rfl) pa_nil))) (pe_one (pe_cmpR op_eq (pv 0) (pv 1) (nomark _)))))) pss_nil)
      (pss_cons (ps_if (pt_val (pe_callB call_isi rfl T.z_isinstance bb_isinstance (pa_cons (pv 1) (pa_cons (pe_bltn (v := .ty "int") rfl T.z_int bt_int rfl) pa_nil)))) (pss_one (ps_ret (pe_and (pe_callB call_isi rfl T.z_isinstance bb_isinstance (pa_cons (pv 0) (pa_cons (pe_bltn (v := .ty "int") rfl T.z_int bt_int rfl) pa_nil))) (pe_and (pe_not (pe_callB call_isi rfl T.z_isinstance bb_isinstance (pa_cons (pv 0) (pa_cons (pe_bltn (v := .ty "bool") rfl T.z_bool bt_bool rfl) pa_nil)))) (pe_one (pe_cmpR op_eq (pv 0) (pv 1) (nomark _))))))) pss_nil)
      (pss_one (ps_ret (pe_and (pe_callB call_isi rfl T.z_isinstance bb_isinstance (pa_cons (pv 0) (pa_cons (pe_bltn (v := .ty "str") rfl T.z_str bt_str rfl) pa_nil))) (pe_one (pe_cmpR op_eq (pv 0) (pv 1) (nomark _)))))))))), ?_⟩
    cases hx with
    | non =>
      cases hy
      refine ⟨_, rfl, _, _, _, _, false, rfl, .ty _, (.base .non), kit_ty kb_nt, ⟨_, rfl, iteF ⟨_, rfl, _, _, _, _, false, rfl, .ty _, (.base .non), kit_ty kb_nl, ⟨_, rfl, iteF ?_⟩⟩⟩⟩
      refine ⟨_, rfl, rfl, _, rfl, iteT ?_⟩
      exact ⟨_, rfl, rfl, q⟩
    | bl b =>
      cases hy
      refine ⟨_, rfl, _, _, _, _, false, rfl, .ty _, (.base (.bl _)), kit_ty kb_bt, ⟨_, rfl, iteF ⟨_, rfl, _, _, _, _, false, rfl, .ty _, (.base (.bl _)), kit_ty kb_bl, ⟨_, rfl, iteF ?_⟩⟩⟩⟩
      refine ⟨_, rfl, rfl, _, rfl, iteF ?_⟩
      refine ⟨_, rfl, _, _, _, _, true, rfl, .ty _, (.base (.bl _)), kit_ty kb_bb, ⟨_, rfl, iteT ?_⟩⟩
      refine ⟨_, rfl, _, _, _, _, true, rfl, .ty _, (.base (.bl _)), kit_ty kb_bb, ⟨_, rfl, iteT ?_⟩⟩
      refine ⟨_, rfl, _, rfl, rfl, ?_⟩
      rw [decide_eq_true rfl]
      exact q
    | int b =>
      cases hy
      refine ⟨_, rfl, _, _, _, _, false, rfl, .ty _, (.base (.int _)), kit_ty kb_it, ⟨_, rfl, iteF ⟨_, rfl, _, _, _, _, false, rfl, .ty _, (.base (.int _)), kit_ty kb_il, ⟨_, rfl, iteF ?_⟩⟩⟩⟩
      refine ⟨_, rfl, rfl, _, rfl, iteF ?_⟩
      refine ⟨_, rfl, _, _, _, _, false, rfl, .ty _, (.base (.int _)), kit_ty kb_ib, ⟨_, rfl, iteF ?_⟩⟩
      refine ⟨_, rfl, _, _, _, _, true, rfl, .ty _, (.base (.int _)), kit_ty kb_ii, ⟨_, rfl, iteT ?_⟩⟩
      refine ⟨_, rfl, _, _, _, _, true, rfl, .ty _, (.base (.int _)), kit_ty kb_ii, ⟨_, rfl, iteT ?_⟩⟩
      refine ⟨_, rfl, _, _, _, _, false, rfl, .ty _, (.base (.int _)), kit_ty kb_ib, ⟨_, rfl, _, rfl, iteT ?_⟩⟩
      refine ⟨_, rfl, _, rfl, rfl, ?_⟩
      rw [decide_eq_true rfl]
      exact q
    | str b =>
      cases hy
      refine ⟨_, rfl, _, _, _, _, false, rfl, .ty _, (.base (.str _)), kit_ty kb_st, ⟨_, rfl, iteF ⟨_, rfl, _, _, _, _, false, rfl, .ty _, (.base (.str _)), kit_ty kb_sl, ⟨_, rfl, iteF ?_⟩⟩⟩⟩
      refine ⟨_, rfl, rfl, _, rfl, iteF ?_⟩
      refine ⟨_, rfl, _, _, _, _, false, rfl, .ty _, (.base (.str _)), kit_ty kb_sb, ⟨_, rfl, iteF ?_⟩⟩
      refine ⟨_, rfl, _, _, _, _, false, rfl, .ty _, (.base (.str _)), kit_ty kb_si, ⟨_, rfl, iteF ?_⟩⟩
      refine ⟨_, rfl, _, _, _, _, true, rfl, .ty _, (.base (.str _)), kit_ty kb_ss, ⟨_, rfl, iteT ?_⟩⟩
      refine ⟨_, rfl, _, rfl, rfl, ?_⟩
      rw [decide_eq_true rfl]
      exact q
    | @lst p xs ds h1 d1 =>
      cases hy with
      | @lst r ys _ h2 d2 =>
      have l1 := dpAll_len d1
      have l2 := dpAll_len d2
      obtain ⟨hlen, hd⟩ := hd
      refine ⟨_, rfl, _, _, _, _, false, rfl, .ty _, (tyL h2), kit_ty kb_lt, ⟨_, rfl, iteF ⟨_, rfl, _, _, _, _, true, rfl, .ty _, (tyL h2), kit_ty kb_ll, ⟨_, rfl, iteT ?_⟩⟩⟩⟩
      refine ⟨_, rfl, _, _, _, _, false, rfl, .ty _, (tyL h2), kit_ty kb_lt, ⟨_, rfl, _, _, _, _, false, rfl, .ty _, (tyL h1), kit_ty kb_lt, ⟨rfl, _, rfl, iteF ?_⟩⟩⟩
      refine ⟨_, rfl, _, _, _, _, true, rfl, .ty _, (tyL h2), kit_ty kb_ll, ⟨_, rfl, _, _, _, _, true, rfl, .ty _, (tyL h1), kit_ty kb_ll, ⟨rfl, _, rfl, iteF ?_⟩⟩⟩
      refine ⟨_, rfl, p, _, rfl, .inl h1, _, rfl, r, _, rfl, .inl h2, rfl, _, rfl, ?_⟩
      refine iteNS (congrArg V.int (by omega)) ?_
      refine ⟨_, rfl, r, _, rfl, .inl h2, _, rfl, by omega, by omega, for_range (lo := 0) (fun i σ H' => H' = H ∧ ∃ v : Option V, σ = [some (.ref p), some (.ref r), v]) ⟨rfl, none, rfl⟩ ?_ ?_⟩
      · rintro i σ H' hi ⟨rfl, v, rfl⟩
        refine same_seq (.inl h1) (.inl h2) d1 d2 hd (by omega) ⟨_, rfl, iteF ?_⟩
        exact ⟨rfl, _, rfl⟩
      · rintro σ H' ⟨rfl, v, rfl⟩
        exact q
    | @tup p xs ds h1 d1 =>
      cases hy with
      | @tup r ys _ h2 d2 =>
      have l1 := dpAll_len d1
      have l2 := dpAll_len d2
      obtain ⟨hlen, hd⟩ := hd
      refine ⟨_, rfl, _, _, _, _, true, rfl, .ty _, (tyT h2), kit_ty kb_tt, ⟨_, rfl, iteT ?_⟩⟩
      refine ⟨_, rfl, _, _, _, _, true, rfl, .ty _, (tyT h2), kit_ty kb_tt, ⟨_, rfl, _, _, _, _, true, rfl, .ty _, (tyT h1), kit_ty kb_tt, ⟨rfl, _, rfl, iteF ?_⟩⟩⟩
      refine ⟨_, rfl, _, _, _, _, false, rfl, .ty _, (tyT h2), kit_ty kb_tl, ⟨_, rfl, _, _, _, _, false, rfl, .ty _, (tyT h1), kit_ty kb_tl, ⟨rfl, _, rfl, iteF ?_⟩⟩⟩
      refine ⟨_, rfl, p, _, rfl, .inr h1, _, rfl, r, _, rfl, .inr h2, rfl, _, rfl, ?_⟩
      refine iteNS (congrArg V.int (by omega)) ?_
      refine ⟨_, rfl, r, _, rfl, .inr h2, _, rfl, by omega, by omega, for_range (lo := 0) (fun i σ H' => H' = H ∧ ∃ v : Option V, σ = [some (.ref p), some (.ref r), v]) ⟨rfl, none, rfl⟩ ?_ ?_⟩
      · rintro i σ H' hi ⟨rfl, v, rfl⟩
        refine same_seq (.inr h1) (.inr h2) d1 d2 hd (by omega) ⟨_, rfl, iteF ?_⟩
        exact ⟨rfl, _, rfl⟩
      · rintro σ H' ⟨rfl, v, rfl⟩
        exact q
end
/-! ### the names of the draws: twenty texts in one of four styles -/
def numS (i : Int) : Str := Str.ofString (toString i)
theorem len_app (x y : Str) : (x ++ y).length = x.length + y.length := Array.size_append
def lettersL : List Nat := ("bcdeghijklmnopqrtuvw" : Str).cps.toList
def nmW (st : Int) (k : Nat) : Str :=
  if st = 3 then ("n" : Str) ++ numS ((k : Int) * (k : Int) + 3)
  else if st = 2 then ("zz" : Str) ++ ⟨#[lettersL.getD k 0]⟩
  else if st = 1 then (⟨#[lettersL.getD k 0]⟩ : Str) ++ ("q7" : Str)
  else ⟨#[lettersL.getD k 0]⟩
def namesOf (st : Int) : List Str := (List.range 20).map (nmW st)
theorem numS_short {i : Int} (h : -1000000000 ≤ i ∧ i ≤ 1000000000) : (numS i).length ≤ 11 := by
  have e := int_text_length_le10 (a := i) (k := 10) (by decide) (by omega)
  unfold numS
  rw [ofString_length]
  exact e
theorem log_short {i : Int} (h : -1000000000 ≤ i ∧ i ≤ 1000000000) : i.natAbs.log2 < 1920 := by
  by_cases z : i.natAbs = 0
  · rw [z]
    decide
  · refine (Nat.log2_lt z).mpr (Nat.lt_of_lt_of_le (m := 2 ^ 32) ?_ (Nat.pow_le_pow_right (by decide) (by decide)))
    omega
def spNames : Sp := fun vs H Q _ => ∃ a : Addr, vs = [.ref a] ∧ Src H a ∧ ∀ (st : Int) (p : Addr) (H' : Hp), Stp a H H' → H p = none → 0 ≤ st → st < 4 → H' p = some (.lst ((namesOf st).map V.str)) → Q (.ref p) H'
section
variable {P : Program} {w : World} {K : PySem.W.Frag} {mg : Str → Option Value} {base : Heap}
theorem ok_l_names (T : Txt w K mg) : FnOk P w K mg base CX0 2 T.a_l_names T.d_l_names p_l_names spNames := by
  have g_l_pick := ok_l_pick (P := P) (w := w) (base := base) T
  refine T.F_l_names.ok sc_l_names (fun vs H Q E h => ?_) (fun cdv A outer s H vs Q E hr h => ?_)
  · obtain ⟨a, rfl, _⟩ := h
    rfl
  obtain ⟨a, rfl, hS, q⟩ := h
  refine ⟨_, (pss_cons (ps_set (i := 1) sc_l_names.nd rfl (Or.inl rfl) (pe_call g_l_pick (hr.mono (by first | decide | omega)) rfl T.m_l_pick T.F_l_pick.kp T.b_l_pick .nil pass0 (pa_cons (pv 0) (pa_cons pe_int pa_nil))))
      (pss_cons (ps_set (i := 2) sc_l_names.nd rfl (Or.inl rfl) (pe_lst pa_nil))
      (pss_cons (ps_for PassesOwn.never rfl (pi_range1 rfl T.z_range (pa_cons pe_int pa_nil)) (pg_name (i := 3) sc_l_names.nd rfl (Or.inl rfl))
        (pss_cons (ps_set (i := 4) sc_l_names.nd rfl (Or.inl rfl) (pe_ix ix_str pe_str (pv 3) (fun _ _ => rfl)))
      (C8.pss_cut (ps_if (pt_cmpR op_eq (pv 1) pe_int (nomark _)) (pss_one (ps_set (i := 4) sc_l_names.nd rfl (Or.inl rfl) (pe_op op_add_str (pv 4) pe_str))) pss_nil)
      (C8.pss_cut (ps_if (pt_cmpR op_eq (pv 1) pe_int (nomark _)) (pss_one (ps_set (i := 4) sc_l_names.nd rfl (Or.inl rfl) (pe_op op_add_str pe_str (pv 4)))) pss_nil)
      (C8.pss_cut (ps_if (pt_cmpR op_eq (pv 1) pe_int (nomark _)) (pss_one (ps_set (i := 4) sc_l_names.nd rfl (Or.inl rfl) (pe_op op_add_str pe_str (pe_callTy call_str_int rfl T.z_str bt_str (pa_cons (pe_op op_add (pe_op op_mul (pv 3) (pv 3)) pe_int) pa_nil))))) pss_nil)
      (pss_one (ps_expr (pe_bm PySem.F.plainAttrs_list PySem.F.slot_list_append PySem.F.type_list_append mt_append (pv 2) (pa_cons (pv 4) pa_nil)))))))))
      (pss_one (ps_ret (pv 2)))))), ?_⟩
  refine ⟨_, rfl, a, 4, rfl, hS, by decide, fun st H1 st1 s0 s1 => ?_⟩
  refine ⟨by show 0 ≤ sizeLine; decide, fun l hl => ?_⟩
  have n0 : H l = none := st1.free hl
  refine ⟨20, rfl, by decide, by decide, for_range (lo := 0) (n := 20) (fun i σ H' => Stp a H H' ∧ H' l = some (.lst ((List.range i).map fun k => V.str (nmW st k))) ∧ ∃ v1 v2 : Option V, σ = [some (.ref a), some (.int st), some (.ref l), v1, v2]) ⟨st1.new hl, upd_same, none, none, rfl⟩ ?_ ?_⟩
  · rintro i σ H' hi ⟨sti, hli, v1, v2, rfl⟩
    have hi' : (0 + (i : Int)).toNat < ("bcdeghijklmnopqrtuvw" : Str).cps.toList.length := by
      show (0 + (i : Int)).toNat < 20
      omega
    have e0 := atI_int (xs := ("bcdeghijklmnopqrtuvw" : Str).cps.toList) (r := 0 + (i : Int)) (by omega) hi'
    have e1 : ("bcdeghijklmnopqrtuvw" : Str).cps.toList[(0 + (i : Int)).toNat] = lettersL.getD i 0 := by
      have z : (0 + (i : Int)).toNat = i := by omega
      have hi2 : i < lettersL.length := by show i < 20; exact hi
      show lettersL[(0 + (i : Int)).toNat]'_ = _
      rw [List.getD_eq_getElem?_getD, List.getElem?_eq_getElem hi2]
      show _ = lettersL[i]
      congr 1
    rw [e1] at e0
    refine ⟨_, rfl, _, _, _, rfl, rfl, by decide +kernel, e0, ?_⟩
    generalize ec : lettersL.getD i 0 = c
    refine ⟨fun σ H2 => H2 = H' ∧ σ = [some (.ref a), some (.int st), some (.ref l), some (.int (0 + (i : Int))), some (.str (if st = 1 then (⟨#[c]⟩ : Str) ++ ("q7" : Str) else ⟨#[c]⟩))], ⟨_, rfl, rfl, _, rfl, ?_⟩, ?_⟩
    · refine ite2 (fun h => ?_) (fun h => ?_)
      · have h1 : st = 1 := V.int.inj (of_decide_eq_true h)
        refine ⟨_, rfl, _, _, rfl, rfl, (by show 1 + 2 ≤ sizeLine; decide), rfl, ?_⟩
        rw [if_pos h1]
        rfl
      · have h1 : ¬ st = 1 := fun z => h (decide_eq_true (congrArg V.int z))
        refine ⟨rfl, ?_⟩
        rw [if_neg h1]
        rfl
    rintro σ H2 ⟨rfl, rfl⟩
    refine ⟨fun σ H3 => H3 = H2 ∧ σ = [some (.ref a), some (.int st), some (.ref l), some (.int (0 + (i : Int))), some (.str (if st = 2 then ("zz" : Str) ++ ⟨#[c]⟩ else if st = 1 then (⟨#[c]⟩ : Str) ++ ("q7" : Str) else ⟨#[c]⟩))], ⟨_, rfl, rfl, _, rfl, ?_⟩, ?_⟩
    · refine ite2 (fun h => ?_) (fun h => ?_)
      · have h1 : st = 2 := V.int.inj (of_decide_eq_true h)
        subst h1
        refine ⟨_, rfl, _, _, rfl, rfl, ?_, rfl, rfl⟩
        rw [if_neg (by decide)]
        show 2 + 1 ≤ sizeLine
        decide
      · have h1 : ¬ st = 2 := fun z => h (decide_eq_true (congrArg V.int z))
        refine ⟨rfl, ?_⟩
        rw [if_neg h1]
    rintro σ H3 ⟨rfl, rfl⟩
    refine ⟨fun σ H4 => H4 = H3 ∧ σ = [some (.ref a), some (.int st), some (.ref l), some (.int (0 + (i : Int))), some (.str (nmW st i))], ⟨_, rfl, rfl, _, rfl, ?_⟩, ?_⟩
    · refine ite2 (fun h => ?_) (fun h => ?_)
      · have h1 : st = 3 := V.int.inj (of_decide_eq_true h)
        subst h1
        have hb : ((0 + (i : Int)) * (0 + (i : Int)) + 3) = ((i : Int) * (i : Int) + 3) := by rw [Int.zero_add]
        have hsq : 0 ≤ (i : Int) * (i : Int) ∧ (i : Int) * (i : Int) ≤ 400 := by
          refine ⟨Int.mul_nonneg (by omega) (by omega), ?_⟩
          exact Int.le_trans (Int.mul_le_mul (by omega : (i : Int) ≤ 20) (by omega : (i : Int) ≤ 20) (by omega) (by decide)) (by decide)
        have hbd : -1000000000 ≤ (i : Int) * (i : Int) + 3 ∧ (i : Int) * (i : Int) + 3 ≤ 1000000000 := by omega
        refine ⟨_, rfl, _, rfl, _, _, rfl, rfl, .inl ⟨by omega, by omega⟩, _, _, rfl, rfl, _, rfl, ?_, _, _, rfl, rfl, ?_, rfl, ?_⟩
        · rw [hb]
          exact log_short hbd
        · rw [hb]
          have z := numS_short hbd
          show 1 + (numS ((i : Int) * (i : Int) + 3)).length ≤ sizeLine
          rw [sizeLine_eq]
          omega
        · rw [hb]
          rfl
      · have h1 : ¬ st = 3 := fun z => h (decide_eq_true (congrArg V.int z))
        refine ⟨rfl, ?_⟩
        unfold nmW
        rw [if_neg h1, ec]
    rintro σ H4 ⟨rfl, rfl⟩
    refine ⟨_, rfl, .inl ⟨rfl, _, SqL.of hli⟩, _, rfl, l, _, _, rfl, rfl, hli, ?_, ?_⟩
    · rw [List.length_map, List.length_range]
      exact small1000 (by omega)
    have nl : l ≠ a := (st1.s.ne hl).symm
    have st2 : Stp a H (upd H4 l (.lst ((List.range i).map (fun k => V.str (nmW st k)) ++ [.str (nmW st i)]))) := by
      obtain ⟨c1, m1, k1, hc⟩ := sti.s
      refine ⟨⟨c1, m1, k1, by rw [upd_ne nl.symm]; exact hc⟩, fun b o hb e => ?_⟩
      rw [upd_ne (ne_of_none e n0)]
      exact sti.k b o hb e
    refine ⟨st2, ?_, _, _, rfl⟩
    rw [upd_same, List.range_succ, List.map_append]
    rfl
  · rintro σ H' ⟨sti, hli, v1, v2, rfl⟩
    refine ⟨_, rfl, q st l H' sti n0 s0 (by omega) ?_⟩
    rw [hli]
    exact congrArg (fun z => some (HO.lst z)) (by show _ = (List.map V.str (List.map (nmW st) (List.range 20))); rw [List.map_map]; rfl)
end
/-! ### a zip of two tuples in a comprehension -/
theorem lc_zipT {K : PySem.W.Frag} {a b : Addr} {xs ys : List V} {g : TG} {tt : TT} {te : TE} {vs : List Nat} {σ : L2.St} {H1 : Hp} {D : Addr} {Qd : Hp → Prop} (hl : xs.length = ys.length) (Pv : Nat → Hp → Prop) (h0 : Pv 0 (upd H1 D (.lst []))) (hq : ∀ i H, Pv i H → SqT K H a xs ∧ SqT K H b ys)
    (hs : ∀ (i : Nat) (x y : V) (t : Addr) (H : Hp), xs[i]? = some x → ys[i]? = some y → Pv i H → H t = none → g (.ref t) (wipe σ vs) (upd H t (.tup [x, y])) fun σ2 H2 => wipe σ2 vs = wipe σ vs ∧ tt σ2 H2 fun k H3 =>
      if k = true then te σ2 H3 fun z H4 => ∃ acc, H4 D = some (.lst acc) ∧ acc.length < sizeLine ∧ Pv (i + 1) (upd H4 D (.lst (acc ++ [z]))) else Pv (i + 1) H3) (hd : ∀ H, Pv xs.length H → Qd H) :
    ∃ W : Nat → Nat → Hp → Prop, (∃ m, W 0 m (upd H1 D (.lst []))) ∧ ∀ i m H, W i m H →
      ((RZ.ItzT K a b).stop i H ∧ Qd H) ∨ ((RZ.ItzT K a b).go i H ∧ ∃ Nx : Hp → Prop, (∀ H', Nx H' → ∃ m', m' < m ∧ W (i + 1) m' H') ∧ ∀ x H', (RZ.ItzT K a b).yld i H x H' → g x (wipe σ vs) H' fun σ2 H2 => wipe σ2 vs = wipe σ vs ∧ tt σ2 H2 fun k H3 =>
        if k = true then te σ2 H3 fun y H4 => ∃ acc, H4 D = some (.lst acc) ∧ acc.length < sizeLine ∧ Nx (upd H4 D (.lst (acc ++ [y]))) else Nx H3) := by
  refine ⟨fun i m H => m = xs.length - i ∧ i ≤ xs.length ∧ Pv i H, ⟨xs.length, rfl, Nat.zero_le _, h0⟩, ?_⟩
  rintro i m H ⟨rfl, hi, p⟩
  have q := hq i H p
  rcases Nat.lt_or_ge i xs.length with hlt | hge
  · have h2 : i < ys.length := hl ▸ hlt
    have ex := List.getElem?_eq_getElem hlt
    have ey := List.getElem?_eq_getElem h2
    refine .inr ⟨⟨xs, ys, _, _, q.1, q.2, ex, ey⟩, Pv (i + 1), fun H' p' => ⟨xs.length - (i + 1), by omega, rfl, hlt, p'⟩, ?_⟩
    rintro v H' ⟨t, x, y, rfl, ht, rfl, f1, f2⟩
    exact hs i x y t H (f1 xs q.1) (f2 ys q.2) p ht
  · have e : i = xs.length := by omega
    subst e
    exact .inl ⟨⟨xs, ys, q.1, q.2, .inl hge⟩, hd H p⟩
/-! ### the parts of a statement: the roles of its word, and the values that are there -/
def partsL : List Str → List V → List (Str × V)
  | r :: rs, v :: vs => if v = .non then partsL rs vs else (r, v) :: partsL rs vs
  | _, _ => []
/-- pairs, as tuples in the heap -/
inductive Prs (H : Hp) : List Addr → List (Str × V) → Prop where
  | nil : Prs H [] []
  | cons {p : Addr} {ps : List Addr} {r : Str} {v : V} {l : List (Str × V)} : H p = some (.tup [.str r, v]) → Prs H ps l → Prs H (p :: ps) ((r, v) :: l)
theorem Prs.same {H H' : Hp} (s : Same H H') : ∀ {ps : List Addr} {l : List (Str × V)}, Prs H ps l → Prs H' ps l
  | _, _, .nil => .nil
  | _, _, .cons h r => .cons (s _ _ h) (Prs.same s r)
theorem Prs.snoc {H : Hp} {p : Addr} {r : Str} {v : V} (h : H p = some (.tup [.str r, v])) : ∀ {ps : List Addr} {l : List (Str × V)}, Prs H ps l → Prs H (ps ++ [p]) (l ++ [(r, v)])
  | _, _, .nil => .cons h .nil
  | _, _, .cons q t => .cons q (Prs.snoc h t)
theorem Prs.upd {H : Hp} {D : Addr} {acc : List V} {o : HO} (hD : H D = some (.lst acc)) : ∀ {ps : List Addr} {l : List (Str × V)}, Prs H ps l → Prs (upd H D o) ps l
  | _, _, .nil => .nil
  | _, _, .cons h r => .cons (by rw [upd_ne (ne_of h hD (by intro z; cases z))]; exact h) (Prs.upd hD r)
theorem Prs.len {H : Hp} : ∀ {ps : List Addr} {l : List (Str × V)}, Prs H ps l → ps.length = l.length
  | _, _, .nil => rfl
  | _, _, .cons _ r => congrArg (· + 1) (Prs.len r)
theorem Prs.get {H : Hp} : ∀ {ps : List Addr} {l : List (Str × V)} {i : Nat} {v : V}, Prs H ps l → (ps.map V.ref)[i]? = some v → ∃ p r x, v = .ref p ∧ l[i]? = some (r, x) ∧ H p = some (.tup [.str r, x])
  | _, _, _, _, .nil, e => by simp at e
  | _, _, 0, v, .cons h _, e => by
    simp at e
    exact ⟨_, _, _, e.symm, rfl, h⟩
  | _, _, i + 1, v, .cons _ t, e => by
    obtain ⟨p, r, x, h1, h2, h3⟩ := Prs.get (i := i) t (by simpa using e)
    exact ⟨p, r, x, h1, by simpa using h2, h3⟩
theorem partsL_len : ∀ (rs : List Str) (vs : List V), (partsL rs vs).length ≤ rs.length
  | [], _ => by simp [partsL]
  | _ :: _, [] => by simp [partsL]
  | r :: rs, v :: vs => by
    have ih := partsL_len rs vs
    unfold partsL
    split
    · exact Nat.le_succ_of_le ih
    · exact Nat.succ_le_succ ih
/-- the same from the left: what the first i places give -/
theorem parts_take {rs : List Str} {vs : List V} (hl : rs.length = vs.length) : ∀ {i : Nat} {r : Str} {v : V}, rs[i]? = some r → vs[i]? = some v → partsL (rs.take (i + 1)) (vs.take (i + 1)) = if v = .non then partsL (rs.take i) (vs.take i) else partsL (rs.take i) (vs.take i) ++ [(r, v)] := by
  induction rs generalizing vs with
  | nil => intro i r v h; simp at h
  | cons x xs ih =>
    cases vs with
    | nil => cases hl
    | cons y ys =>
      intro i r v h1 h2
      cases i with
      | zero =>
        simp at h1 h2
        subst h1 h2
        show (if y = .non then partsL (List.take 0 xs) (List.take 0 ys) else (x, y) :: partsL (List.take 0 xs) (List.take 0 ys)) = _
        rw [List.take_zero, List.take_zero, List.take_zero, List.take_zero]
        split <;> rfl
      | succ i =>
        have e := ih (Nat.succ.inj hl) (i := i) (r := r) (v := v) (by simpa using h1) (by simpa using h2)
        show (if y = .non then partsL (xs.take (i + 1)) (ys.take (i + 1)) else (x, y) :: partsL (xs.take (i + 1)) (ys.take (i + 1))) = if v = .non then (if y = .non then partsL (xs.take i) (ys.take i) else (x, y) :: partsL (xs.take i) (ys.take i)) else (if y = .non then partsL (xs.take i) (ys.take i) else (x, y) :: partsL (xs.take i) (ys.take i)) ++ [(r, v)]
        rw [e]
        by_cases hv : v = .non <;> by_cases hy : y = .non <;> simp [hv, hy]
/-- the bodies among the values of a statement -/
def bodL : List Str → List V → List V
  | r :: rs, v :: vs => if r = ("body" : Str) then v :: bodL rs vs else bodL rs vs
  | _, _ => []
theorem bodL_nil {vs : List V} : bodL [] vs = [] := by simp [bodL]
theorem bodL_end {rs : List Str} : bodL rs [] = [] := by cases rs <;> simp [bodL]
theorem bodL_cons {r : Str} {v : V} {rs : List Str} {vs : List V} (h : r ≠ ("body" : Str)) : bodL (r :: rs) (v :: vs) = bodL rs vs := if_neg h
theorem bodL_body {v : V} {rs : List Str} {vs : List V} : bodL (("body" : Str) :: rs) (v :: vs) = v :: bodL rs vs := if_pos rfl
theorem bodL_no : ∀ {rs : List Str} {vs : List V}, ("body" : Str) ∉ rs → bodL rs vs = []
  | [], _, _ => bodL_nil
  | _ :: _, [], _ => bodL_end
  | r :: rs, v :: vs, h => by
    rw [bodL_cons fun z => h (by rw [z]; exact List.mem_cons_self)]
    exact bodL_no fun z => h (List.mem_cons_of_mem _ z)
theorem bodL_len : ∀ (rs : List Str) (vs : List V), (bodL rs vs).length ≤ rs.length
  | [], _ => by rw [bodL_nil]; exact Nat.zero_le _
  | _ :: _, [] => by rw [bodL_end]; exact Nat.zero_le _
  | r :: rs, v :: vs => by
    have ih := bodL_len rs vs
    unfold bodL
    split
    · exact Nat.succ_le_succ ih
    · exact Nat.le_succ_of_le ih
theorem bodL_take {rs : List Str} {vs : List V} (hl : rs.length = vs.length) : ∀ {i : Nat} {r : Str} {v : V}, rs[i]? = some r → vs[i]? = some v → bodL (rs.take (i + 1)) (vs.take (i + 1)) = bodL (rs.take i) (vs.take i) ++ (if r = ("body" : Str) then [v] else []) := by
  induction rs generalizing vs with
  | nil => intro i r v h; simp at h
  | cons x xs ih =>
    cases vs with
    | nil => cases hl
    | cons y ys =>
      intro i r v h1 h2
      cases i with
      | zero =>
        simp at h1 h2
        subst h1 h2
        show (if x = ("body" : Str) then y :: bodL (List.take 0 xs) (List.take 0 ys) else bodL (List.take 0 xs) (List.take 0 ys)) = bodL [] [] ++ _
        rw [List.take_zero, bodL_nil, bodL_nil, List.nil_append]
      | succ i =>
        have e := ih (Nat.succ.inj hl) (i := i) (r := r) (v := v) (by simpa using h1) (by simpa using h2)
        show (if x = ("body" : Str) then y :: bodL (xs.take (i + 1)) (ys.take (i + 1)) else bodL (xs.take (i + 1)) (ys.take (i + 1))) = (if x = ("body" : Str) then y :: bodL (xs.take i) (ys.take i) else bodL (xs.take i) (ys.take i)) ++ _
        rw [e]
        by_cases hy : x = ("body" : Str) <;> simp [hy]
theorem flat_roles (l : List Str) : (l.map V.str).all flatV = true := by
  rw [List.all_eq_true]
  intro x hx
  obtain ⟨z, _, rfl⟩ := List.mem_map.mp hx
  rfl
theorem body_in (l : List Str) : inV (.str ("body" : Str)) (l.map V.str) = decide (("body" : Str) ∈ l) := by
  induction l with
  | nil => rfl
  | cons a l ih =>
    have e : inV (.str ("body" : Str)) (V.str a :: l.map V.str) = (eqV (V.str a) (.str ("body" : Str)) || inV (.str ("body" : Str)) (l.map V.str)) := rfl
    rw [List.map_cons, e, ih, Bool.eq_iff_iff, Bool.or_eq_true, decide_eq_true_eq, decide_eq_true_eq, List.mem_cons]
    have f : eqV (V.str a) (.str ("body" : Str)) = true ↔ ("body" : Str) = a := by
      show (a == ("body" : Str)) = true ↔ _
      rw [beq_iff_eq]
      exact ⟨fun z => z.symm, fun z => z.symm⟩
    rw [f]
def spParts (K : PySem.W.Frag) : Sp := fun vs H Q _ => ∃ (p : Addr) (wd : Str) (rest : List V) (roles : List Str), vs = [.ref p] ∧ SqT K H p (.str wd :: rest) ∧ (wd, roles) ∈ tb_PARTS ∧ roles.length = rest.length ∧ roles.length ≤ 10 ∧
  ∀ (D : Addr) (ps : List Addr) (H' : Hp), Same H H' → H D = none → H' D = some (.lst (ps.map V.ref)) → Prs H' ps (partsL roles rest) → Q (.ref D) H'
def spBodies (K : PySem.W.Frag) : Sp := fun vs H Q _ => ∃ (p : Addr) (wd : Str) (rest : List V) (roles : List Str), vs = [.ref p] ∧ SqT K H p (.str wd :: rest) ∧ (wd, roles) ∈ tb_PARTS ∧ roles.length = rest.length ∧ roles.length ≤ 10 ∧
  ∀ (D : Addr) (H' : Hp), Same H H' → H D = none → H' D = some (.lst (bodL roles rest)) → Q (.ref D) H'
theorem at0 {x : V} {xs : List V} : atI (x :: xs) 0 = some x := atI_nat (j := 0) rfl
theorem cut_tail (x : V) (xs : List V) : cutV (x :: xs) (some 1) none = xs := by
  show ((x :: xs).drop (HT.sIx (xs.length + 1) 0 (some 1))).take (xs.length + 1 - HT.sIx (xs.length + 1) 0 (some 1)) = xs
  have e : HT.sIx (xs.length + 1) 0 (some 1) = 1 := by
    show min (1 : Int).toNat (xs.length + 1) = 1
    show min 1 (xs.length + 1) = 1
    omega
  rw [e]
  show xs.take (xs.length + 1 - 1) = xs
  rw [Nat.add_sub_cancel, List.take_length]
theorem no_whole (x : V) (xs : List V) : ¬ (HT.sIx (x :: xs).length 0 (some 1) = 0 ∧ HT.sIx (x :: xs).length (x :: xs).length none = (x :: xs).length) := by
  rintro ⟨h, _⟩
  have e : HT.sIx (x :: xs).length 0 (some 1) = 1 := by
    show min (1 : Int).toNat (xs.length + 1) = 1
    show min 1 (xs.length + 1) = 1
    omega
  rw [e] at h
  cases h
/-- the list at D grows, all else stands -/
theorem Same.grow {H H1 : Hp} {D : Addr} {o : HO} (hD : H D = none) (s : Same H H1) : Same H (upd H1 D o) := fun b u e => by
  rw [upd_ne (ne_of_none e hD)]
  exact s b u e
section
variable {P : Program} {w : World} {K : PySem.W.Frag} {mg : Str → Option Value} {base : Heap}
theorem ok_bodies_of (T : Txt w K mg) : FnOk P w K mg base CX0 2 T.a_bodies_of T.d_bodies_of p_bodies_of (spBodies K) := by
  obtain ⟨d_PARTS, c_PARTS_h, tab⟩ := T.c_PARTS
  refine T.F_bodies_of.ok sc_bodies_of (fun vs H Q E h => ?_) (fun cdv A outer s H vs Q E hr h => ?_)
  · obtain ⟨p, wd, rest, roles, rfl, _⟩ := h
    rfl
  obtain ⟨p, wd, rest, roles, rfl, hp, htb, hl, h10, q⟩ := h
  obtain ⟨r, hk, hrl⟩ := tab _ htb
  refine ⟨_, (pss_cons (ps_set (i := 1) sc_bodies_of.nd rfl (Or.inl rfl) (pe_ix ix_kdict (pe_glob (v := .ref d_PARTS) rfl c_PARTS_h rfl) (pe_ix ix_tup (pv 0) pe_int (fun _ _ => rfl)) (fun _ _ => rfl)))
      (pss_cons (ps_if (pt_cmpR op_notIn_seq pe_str (pv 1) (by rfl)) (pss_one (ps_ret (pe_lst pa_nil))) pss_nil)
      (pss_one (ps_ret (pe_lc (own := [("role", 2), ("part", 3)]) (g := gTup K 2 (gCons (gName 2) (gCons (gName 3) gNil))) rfl sc_bodies_of.nd (RZ.pi_zipA (by rfl) T.z_zip (pa_cons (pv 1) (pa_cons (pe_slice sl_tup (pv 0) (po_some pe_int) po_none) pa_nil))) (blkOk_by (own := [("role", 2), ("part", 3)]) (N := n_bodies_of) (sc := defScope s_bodies_of) (by decide +kernel)) (fun _ _ _ _ _ => (pg_tup rfl (pgs_cons (pg_name (i := 2) sc_bodies_of.nd rfl (Or.inl rfl)) (pgs_cons (pg_name (i := 3) sc_bodies_of.nd rfl (Or.inl rfl)) pgs_nil)))) (fun _ _ _ _ _ => (pts_one (pt_cmpR op_eq (pv 2) pe_str (nomark _)))) (fun _ _ _ _ _ => (pv 3))))))), ?_⟩
  refine ⟨_, rfl, p, _, 0, _, rfl, rfl, hp, at0, d_PARTS, wd, _, rfl, rfl, hk, ?_⟩
  refine ⟨_, rfl, r, _, rfl, .inr (hrl _), rfl, flat_roles roles, ?_⟩
  have eb := body_in roles
  by_cases hb : ("body" : Str) ∈ roles
  · refine ⟨_, rfl, ifF (show (!inV (V.str ("body" : Str)) (roles.map V.str)) = false by rw [eb, decide_eq_true hb]; rfl) ?_⟩
    refine ⟨_, rfl, _, rfl, 1, rfl, p, _, rfl, hp, no_whole _ _, fun t ht => ?_⟩
    rw [cut_tail]
    have s1 := Same.new ht (.tup rest)
    refine ⟨r, t, _, _, rfl, .inr ⟨hrl _, SqT.of upd_same, fun D hD => ?_⟩⟩
    have hDH : H D = none := s1.free hD
    refine lc_zipT (K := K) (xs := roles.map V.str) (ys := rest) (by rw [List.length_map]; exact hl)
      (fun i H' => Same H H' ∧ H' t = some (.tup rest) ∧ H' D = some (.lst (bodL (roles.take i) (rest.take i)))) ?_ ?_ ?_ ?_
    · refine ⟨Same.grow hDH s1, ?_, ?_⟩
      · rw [upd_ne (ne_of_none upd_same hD)]
        exact upd_same
      · rw [List.take_zero, bodL_nil]
        exact upd_same
    · rintro i H' ⟨sm, ht', _⟩
      exact ⟨hrl _, SqT.of ht'⟩
    · rintro i x y z H' hx hy ⟨sm, ht', hD'⟩ hz
      obtain ⟨ro, hro, rfl⟩ : ∃ ro, roles[i]? = some ro ∧ x = .str ro := by
        rw [List.getElem?_map] at hx
        cases e : roles[i]? with
        | none => rw [e] at hx; cases hx
        | some ro => rw [e] at hx; exact ⟨ro, rfl, (Option.some.inj hx).symm⟩
      have step := bodL_take (rs := roles) (vs := rest) hl hro hy
      have s2 := Same.new hz (.tup [.str ro, y])
      refine ⟨z, _, rfl, SqT.of upd_same, rfl, _, _, rfl, _, _, rfl, rfl, rfl, _, rfl, rfl, _, rfl, ?_⟩
      by_cases h : ro = ("body" : Str)
      · rw [if_pos h] at step
        refine ifT (decide_eq_true (congrArg V.str h)) ⟨_, rfl, _, s2 _ _ hD', ?_, Same.grow hDH (sm.trans s2), ?_, ?_⟩
        · have a1 := bodL_len (roles.take i) (rest.take i)
          have a2 : (roles.take i).length ≤ roles.length := List.length_take_le' _ _
          exact small1000 (by omega)
        · rw [upd_ne (ne_of ht' hD' (by intro z; cases z))]
          exact s2 _ _ ht'
        · rw [upd_same, step]
      · rw [if_neg h, List.append_nil] at step
        refine ifF (decide_eq_false fun z => h (V.str.inj z)) ⟨sm.trans s2, s2 _ _ ht', ?_⟩
        rw [step]
        exact s2 _ _ hD'
    · rintro H' ⟨sm, ht', hD'⟩
      rw [List.length_map, List.take_length, hl, List.take_length] at hD'
      exact q D H' sm hDH hD'
  · refine ⟨_, rfl, ifT (show (!inV (V.str ("body" : Str)) (roles.map V.str)) = true by rw [eb, decide_eq_false hb]; rfl) ⟨by show 0 ≤ sizeLine; decide, fun D hD => ?_⟩⟩
    refine q D _ (Same.new hD _) hD ?_
    rw [bodL_no hb]
    exact upd_same
end
/-- tuples stand as they were -/
def Keeps (K : PySem.W.Frag) (H H' : Hp) : Prop := ∀ p xs, SqT K H p xs → SqT K H' p xs
theorem Keeps.of_same {K : PySem.W.Frag} {H H' : Hp} (s : Same H H') : Keeps K H H' := fun _ _ h => Same.tup s h
theorem Keeps.of_stp {K : PySem.W.Frag} {a : Addr} {H H' : Hp} (s : Stp a H H') (h : Src H a) : Keeps K H H' := fun _ _ q => s.rd q h
/-! ### bodies as trees, their data, their nodes -/
inductive Tr where
  | nil | leaf (w : Str) (d : List PyData) (r : Tr) | loop (e : PyData) (b r : Tr) | iff (e : PyData) (b c r : Tr)
namespace Tr
def enc : Tr → List PyData
  | nil => []
  | leaf w d r => .tuple (.str w :: d) :: enc r
  | loop e b r => .tuple [.str "while", e, .tuple (enc b)] :: enc r
  | iff e b c r => .tuple [.str "if", e, .tuple (enc b), .tuple (enc c)] :: enc r
def cnt : Tr → Nat
  | nil => 0
  | leaf _ _ r => 1 + cnt r
  | loop _ b r => 1 + cnt b + cnt r
  | iff _ b c r => 1 + cnt b + cnt c + cnt r
def len : Tr → Nat
  | nil => 0
  | leaf _ _ r => len r + 1
  | loop _ _ r => len r + 1
  | iff _ _ _ r => len r + 1
def app : Tr → Tr → Tr
  | nil, u => u
  | leaf w d r, u => leaf w d (app r u)
  | loop e b r, u => loop e b (app r u)
  | iff e b c r, u => iff e b c (app r u)
def drop : Nat → Tr → Tr
  | 0, t => t
  | _ + 1, nil => nil
  | k + 1, leaf _ _ r => drop k r
  | k + 1, loop _ _ r => drop k r
  | k + 1, iff _ _ _ r => drop k r
/-- the statements in the first k of the body -/
def offs : Nat → Tr → Nat
  | 0, _ => 0
  | _ + 1, nil => 0
  | k + 1, leaf _ _ r => 1 + offs k r
  | k + 1, loop _ b r => 1 + cnt b + offs k r
  | k + 1, iff _ b c r => 1 + cnt b + cnt c + offs k r
def isN : Tr → Bool
  | nil => true
  | _ => false
/-- the statements in the order of their places, as data -/
def pre : Tr → List PyData
  | nil => []
  | leaf w d r => .tuple (.str w :: d) :: pre r
  | loop e b r => .tuple [.str "while", e, .tuple (enc b)] :: (pre b ++ pre r)
  | iff e b c r => .tuple [.str "if", e, .tuple (enc b), .tuple (enc c)] :: (pre b ++ (pre c ++ pre r))
def first (t : Tr) (p a : Nat) : Nat := if t.isN = true then a else p
end Tr
def optD : Option Nat → PyData
  | none => .none
  | some n => .int (n : Int)
def nodeD (s : PyData) (a b : Option Nat) : PyData := .tuple [s, optD a, optD b]
def testD (e : PyData) : PyData := .tuple [.str "test", e]
/-- the node of a leaf -/
def leafN (w : Str) (d : List PyData) (a : Nat) (br : Option Nat) (lv : Nat) : PyData :=
  if w = "break" then nodeD (.tuple [.str "go"]) br none else nodeD (.tuple (.str w :: d)) (some (if w = "return" then lv else a)) none
def nodesT : Tr → Nat → Nat → Option Nat → Nat → List PyData
  | .nil, _, _, _, _ => []
  | .leaf w d r, p, a, br, lv => leafN w d (if r.isN = true then a else p + 1) br lv :: nodesT r (p + 1) a br lv
  | .loop e b r, p, a, br, lv => nodeD (testD e) (some (b.first (p + 1) p)) (some (if r.isN = true then a else p + 1 + b.cnt)) :: (nodesT b (p + 1) p (some (if r.isN = true then a else p + 1 + b.cnt)) lv ++ nodesT r (p + 1 + b.cnt) a br lv)
  | .iff e b c r, p, a, br, lv =>
    nodeD (testD e) (some (b.first (p + 1) (if r.isN = true then a else p + 1 + b.cnt + c.cnt))) (some (c.first (p + 1 + b.cnt) (if r.isN = true then a else p + 1 + b.cnt + c.cnt))) ::
      (nodesT b (p + 1) (if r.isN = true then a else p + 1 + b.cnt + c.cnt) br lv ++ (nodesT c (p + 1 + b.cnt) (if r.isN = true then a else p + 1 + b.cnt + c.cnt) br lv ++ nodesT r (p + 1 + b.cnt + c.cnt) a br lv))
namespace Tr
theorem nodes_len : ∀ (t : Tr) (p a : Nat) (br : Option Nat) (lv : Nat), (nodesT t p a br lv).length = t.cnt
  | nil, _, _, _, _ => rfl
  | leaf w d r, p, a, br, lv => by
    have h := nodes_len r (p + 1) a br lv
    simp only [nodesT, cnt, List.length_cons, h]
    omega
  | loop e b r, p, a, br, lv => by
    have h := nodes_len r (p + 1 + b.cnt) a br lv
    have h1 := nodes_len b (p + 1) p (some (if r.isN = true then a else p + 1 + b.cnt)) lv
    simp only [nodesT, cnt, List.length_cons, List.length_append, h, h1]
    omega
  | iff e b c r, p, a, br, lv => by
    have h := nodes_len r (p + 1 + b.cnt + c.cnt) a br lv
    have h1 := nodes_len b (p + 1) (if r.isN = true then a else p + 1 + b.cnt + c.cnt) br lv
    have h2 := nodes_len c (p + 1 + b.cnt) (if r.isN = true then a else p + 1 + b.cnt + c.cnt) br lv
    simp only [nodesT, cnt, List.length_cons, List.length_append, h, h1, h2]
    omega
theorem pre_len : ∀ t : Tr, t.pre.length = t.cnt
  | nil => rfl
  | leaf w d r => by
    have h := pre_len r
    simp only [pre, cnt, List.length_cons, h]
    omega
  | loop e b r => by
    have h := pre_len r
    have h1 := pre_len b
    simp only [pre, cnt, List.length_cons, List.length_append, h, h1]
    omega
  | iff e b c r => by
    have h := pre_len r
    have h1 := pre_len b
    have h2 := pre_len c
    simp only [pre, cnt, List.length_cons, List.length_append, h, h1, h2]
    omega
theorem enc_len : ∀ t : Tr, t.enc.length = t.len
  | nil => rfl
  | leaf w d r => congrArg (· + 1) (enc_len r)
  | loop e b r => congrArg (· + 1) (enc_len r)
  | iff e b c r => congrArg (· + 1) (enc_len r)
theorem len_cnt : ∀ t : Tr, t.len ≤ t.cnt
  | nil => Nat.le_refl _
  | leaf w d r => by have h := len_cnt r; simp only [len, cnt]; omega
  | loop e b r => by have h := len_cnt r; simp only [len, cnt]; omega
  | iff e b c r => by have h := len_cnt r; simp only [len, cnt]; omega
theorem app_nil : ∀ t : Tr, t.app nil = t
  | nil => rfl
  | leaf w d r => congrArg (leaf w d) (app_nil r)
  | loop e b r => congrArg (loop e b) (app_nil r)
  | iff e b c r => congrArg (iff e b c) (app_nil r)
theorem app_assoc : ∀ t u v : Tr, (t.app u).app v = t.app (u.app v)
  | nil, _, _ => rfl
  | leaf w d r, u, v => congrArg (leaf w d) (app_assoc r u v)
  | loop e b r, u, v => congrArg (loop e b) (app_assoc r u v)
  | iff e b c r, u, v => congrArg (iff e b c) (app_assoc r u v)
theorem enc_app : ∀ t u : Tr, (t.app u).enc = t.enc ++ u.enc
  | nil, _ => rfl
  | leaf w d r, u => congrArg (_ :: ·) (enc_app r u)
  | loop e b r, u => congrArg (_ :: ·) (enc_app r u)
  | iff e b c r, u => congrArg (_ :: ·) (enc_app r u)
theorem cnt_app : ∀ t u : Tr, (t.app u).cnt = t.cnt + u.cnt
  | nil, u => by simp only [app, cnt]; omega
  | leaf w d r, u => by have h := cnt_app r u; simp only [app, cnt, h]; omega
  | loop e b r, u => by have h := cnt_app r u; simp only [app, cnt, h]; omega
  | iff e b c r, u => by have h := cnt_app r u; simp only [app, cnt, h]; omega
theorem len_app' : ∀ t u : Tr, (t.app u).len = t.len + u.len
  | nil, u => by simp only [app, len]; omega
  | leaf w d r, u => by have h := len_app' r u; simp only [app, len, h]; omega
  | loop e b r, u => by have h := len_app' r u; simp only [app, len, h]; omega
  | iff e b c r, u => by have h := len_app' r u; simp only [app, len, h]; omega
theorem drop_succ : ∀ (k : Nat) (t : Tr), drop (k + 1) t = drop 1 (drop k t)
  | 0, _ => rfl
  | k + 1, nil => rfl
  | k + 1, leaf _ _ r => drop_succ k r
  | k + 1, loop _ _ r => drop_succ k r
  | k + 1, iff _ _ _ r => drop_succ k r
theorem offs_succ : ∀ (k : Nat) (t : Tr), offs (k + 1) t = offs k t + offs 1 (drop k t)
  | 0, t => by
    show offs 1 t = offs 0 t + offs 1 t
    cases t <;> simp [offs]
  | k + 1, nil => rfl
  | k + 1, leaf _ _ r => by have h := offs_succ k r; simp only [offs, drop] at h ⊢; omega
  | k + 1, loop _ _ r => by have h := offs_succ k r; simp only [offs, drop] at h ⊢; omega
  | k + 1, iff _ _ _ r => by have h := offs_succ k r; simp only [offs, drop] at h ⊢; omega
theorem drop_len : ∀ (k : Nat) (t : Tr), (drop k t).len = t.len - k
  | 0, _ => rfl
  | k + 1, nil => by simp [drop, len]
  | k + 1, leaf _ _ r => by have h := drop_len k r; simp only [drop, len]; omega
  | k + 1, loop _ _ r => by have h := drop_len k r; simp only [drop, len]; omega
  | k + 1, iff _ _ _ r => by have h := drop_len k r; simp only [drop, len]; omega
theorem isN_len : ∀ t : Tr, t.isN = true ↔ t.len = 0
  | nil => by simp [isN, len]
  | leaf _ _ _ => by simp [isN, len]
  | loop _ _ _ => by simp [isN, len]
  | iff _ _ _ _ => by simp [isN, len]
end Tr
/-! ### piles of open bodies -/
structure Fr where
  body : Tr
  at0 : Nat
  idx : Nat
  sg : Option Str
def pileT (B : Tr) (s0 : Nat) (sg : Option Str) : Tr → Nat → Nat → Nat → List Fr
  | .nil, _, _, _ => []
  | .leaf _ _ r, k, q, pl => if q = pl then [⟨B, s0, k, sg⟩] else pileT B s0 sg r (k + 1) (q + 1) pl
  | .loop _ b r, k, q, pl => if q = pl then [⟨B, s0, k, sg⟩] else
      match pileT b (q + 1) (some ("while" : Str)) b 0 (q + 1) pl with
      | [] => pileT B s0 sg r (k + 1) (q + 1 + b.cnt) pl
      | p :: ps => ⟨B, s0, k + 1, sg⟩ :: p :: ps
  | .iff _ b c r, k, q, pl => if q = pl then [⟨B, s0, k, sg⟩] else
      match pileT b (q + 1) (some ("if" : Str)) b 0 (q + 1) pl with
      | p :: ps => ⟨B, s0, k + 1, sg⟩ :: p :: ps
      | [] =>
        match pileT c (q + 1 + b.cnt) (some ("if" : Str)) c 0 (q + 1 + b.cnt) pl with
        | p :: ps => ⟨B, s0, k + 1, sg⟩ :: p :: ps
        | [] => pileT B s0 sg r (k + 1) (q + 1 + b.cnt + c.cnt) pl
/-- where a run goes on: the pile with its top first -/
def settle : List Fr → Nat → Nat
  | [], e => e
  | f :: fs, e => if f.idx < f.body.len then f.at0 + f.body.offs f.idx else
      if f.sg = some ("while" : Str) then (match fs with | g :: _ => g.at0 + g.body.offs (g.idx - 1) | [] => e) else settle fs e
/-- behind a break -/
def breakT : List Fr → Nat → Nat
  | [], e => e
  | f :: fs, e => if f.sg = some ("while" : Str) then settle fs e else breakT fs e
/-- the first statement of the top -/
inductive Hd where
  | none | leaf (w : Str) (d : List PyData) | loop (e : PyData) (b : Tr) | iff (e : PyData) (b c : Tr)
def hd : Tr → Hd
  | .nil => .none
  | .leaf w d _ => .leaf w d
  | .loop e b _ => .loop e b
  | .iff e b c _ => .iff e b c
def follow : List Fr → Nat → Bool → Nat
  | [], e, _ => e
  | f :: fs, e, holds =>
    match hd (f.body.drop f.idx) with
    | .none => e
    | .leaf w _ => if w = "return" then e else if w = "break" then breakT ({ f with idx := f.idx + 1 } :: fs) e else settle ({ f with idx := f.idx + 1 } :: fs) e
    | .loop _ b => if holds = true then settle (⟨b, f.at0 + f.body.offs f.idx + 1, 0, some ("while" : Str)⟩ :: { f with idx := f.idx + 1 } :: fs) e else settle ({ f with idx := f.idx + 1 } :: fs) e
    | .iff _ b c => if holds = true then settle (⟨b, f.at0 + f.body.offs f.idx + 1, 0, some ("if" : Str)⟩ :: { f with idx := f.idx + 1 } :: fs) e
        else settle (⟨c, f.at0 + f.body.offs f.idx + 1 + b.cnt, 0, some ("if" : Str)⟩ :: { f with idx := f.idx + 1 } :: fs) e
def hdD : Hd → PyData
  | .none => .none
  | .leaf w d => .tuple (.str w :: d)
  | .loop e b => .tuple [.str "while", e, .tuple b.enc]
  | .iff e b c => .tuple [.str "if", e, .tuple b.enc, .tuple c.enc]
/-- the row that the law makes of a pile -/
def rowD (P : List Fr) (e : Nat) : PyData :=
  match P with
  | [] => .none
  | f :: fs =>
    match hd (f.body.drop f.idx) with
    | .loop x _ => nodeD (testD x) (some (follow (f :: fs) e true)) (some (follow (f :: fs) e false))
    | .iff x _ _ => nodeD (testD x) (some (follow (f :: fs) e true)) (some (follow (f :: fs) e false))
    | .leaf w d => if w = "break" then nodeD (.tuple [.str "go"]) (some (follow (f :: fs) e true)) none else nodeD (.tuple (.str w :: d)) (some (follow (f :: fs) e true)) none
    | .none => .none
def Tr.okB : Bool → Tr → Prop
  | _, .nil => True
  | i, .leaf w _ r => (w = "break" → i = true) ∧ Tr.okB i r
  | i, .loop _ b r => Tr.okB true b ∧ Tr.okB i r
  | i, .iff _ b c r => Tr.okB i b ∧ Tr.okB i c ∧ Tr.okB i r
def topD : List Fr → PyData
  | [] => .none
  | f :: _ => hdD (hd (f.body.drop f.idx))
theorem aft {B t : Tr} {k s0 : Nat} {sg : Option Str} {C : List Fr} {e : Nat} (hB : B.drop k = t) (ht : 1 ≤ t.len) :
    settle (⟨B, s0, k + 1, sg⟩ :: C) e = if (t.drop 1).isN = true then settle (⟨B, s0, B.len, sg⟩ :: C) e else s0 + B.offs k + t.offs 1 := by
  have l1 := Tr.drop_len k B
  rw [hB] at l1
  have e1 : B.drop (k + 1) = t.drop 1 := by rw [Tr.drop_succ, hB]
  have l2 := Tr.drop_len (k + 1) B
  rw [e1] at l2
  have o := Tr.offs_succ k B
  rw [hB] at o
  by_cases h : (t.drop 1).isN = true
  · have h0 := (Tr.isN_len _).mp h
    rw [if_pos h]
    unfold settle
    rw [if_neg (show ¬ (k + 1 < B.len) by omega), if_neg (show ¬ (B.len < B.len) by omega)]
  · have h0 : ¬ (t.drop 1).len = 0 := fun z => h ((Tr.isN_len _).mpr z)
    rw [if_neg h]
    unfold settle
    rw [if_pos (show k + 1 < B.len by omega)]
    show s0 + B.offs (k + 1) = _
    omega
theorem pile_out : ∀ (t B : Tr) (s0 : Nat) (sg : Option Str) (k q pl : Nat), (pl < q ∨ q + t.cnt ≤ pl) → pileT B s0 sg t k q pl = []
  | .nil, _, _, _, _, _, _, _ => rfl
  | .leaf w d r, B, s0, sg, k, q, pl, h => by
    simp only [Tr.cnt] at h
    unfold pileT
    rw [if_neg (by omega)]
    exact pile_out r B s0 sg _ _ _ (by omega)
  | .loop e b r, B, s0, sg, k, q, pl, h => by
    simp only [Tr.cnt] at h
    unfold pileT
    rw [if_neg (by omega), pile_out b b (q + 1) (some ("while" : Str)) 0 (q + 1) pl (by omega)]
    exact pile_out r B s0 sg _ _ _ (by omega)
  | .iff e b c r, B, s0, sg, k, q, pl, h => by
    simp only [Tr.cnt] at h
    unfold pileT
    rw [if_neg (by omega), pile_out b b (q + 1) (some ("if" : Str)) 0 (q + 1) pl (by omega), pile_out c c (q + 1 + b.cnt) (some ("if" : Str)) 0 (q + 1 + b.cnt) pl (by omega)]
    exact pile_out r B s0 sg _ _ _ (by omega)
theorem get_cons_sub {α : Type} {x : α} {l : List α} {pl q : Nat} (h : q < pl) : (x :: l)[pl - q]? = l[pl - (q + 1)]? := by
  have e : pl - q = (pl - (q + 1)) + 1 := by omega
  rw [e, List.getElem?_cons_succ]
theorem get_app_l {α : Type} {l m : List α} {i : Nat} (h : i < l.length) : (l ++ m)[i]? = l[i]? := List.getElem?_append_left h
theorem get_app_r {α : Type} {l m : List α} {i : Nat} (h : l.length ≤ i) : (l ++ m)[i]? = m[i - l.length]? := List.getElem?_append_right h
theorem topD_app {P C : List Fr} (h : P ≠ []) : topD (P ++ C) = topD P := by
  cases P with
  | nil => exact absurd rfl h
  | cons f P => rfl
theorem drop1_leaf (w : Str) (d : List PyData) (r : Tr) : (Tr.leaf w d r).drop 1 = r := by simp [Tr.drop]
theorem drop1_loop (e : PyData) (b r : Tr) : (Tr.loop e b r).drop 1 = r := by simp [Tr.drop]
theorem drop1_iff (e : PyData) (b c r : Tr) : (Tr.iff e b c r).drop 1 = r := by simp [Tr.drop]
theorem offs1_leaf (w : Str) (d : List PyData) (r : Tr) : (Tr.leaf w d r).offs 1 = 1 := by simp [Tr.offs]
theorem offs1_loop (e : PyData) (b r : Tr) : (Tr.loop e b r).offs 1 = 1 + b.cnt := by simp [Tr.offs]
theorem offs1_iff (e : PyData) (b c r : Tr) : (Tr.iff e b c r).offs 1 = 1 + b.cnt + c.cnt := by simp [Tr.offs]
theorem ifwh : ¬ some ("if" : Str) = some ("while" : Str) := by decide +kernel
theorem settle_new {b : Tr} {p : Nat} {sg : Option Str} {C : List Fr} {e : Nat} : settle (⟨b, p, 0, sg⟩ :: C) e = b.first p (settle (⟨b, p, b.len, sg⟩ :: C) e) := by
  unfold Tr.first
  by_cases h : b.isN = true
  · have h0 := (Tr.isN_len _).mp h
    rw [if_pos h, h0]
  · have h0 : ¬ b.len = 0 := fun z => h ((Tr.isN_len _).mpr z)
    rw [if_neg h]
    conv => lhs; unfold settle
    rw [if_pos (show 0 < b.len by omega)]
    cases b <;> rfl
theorem settle_while {b : Tr} {p : Nat} {g : Fr} {C : List Fr} {e : Nat} : settle (⟨b, p, b.len, some ("while" : Str)⟩ :: g :: C) e = g.at0 + g.body.offs (g.idx - 1) := by
  conv => lhs; unfold settle
  rw [if_neg (show ¬ b.len < b.len from Nat.lt_irrefl _), if_pos rfl]
theorem settle_if {b : Tr} {p : Nat} {C : List Fr} {e : Nat} : settle (⟨b, p, b.len, some ("if" : Str)⟩ :: C) e = settle C e := by
  conv => lhs; unfold settle
  rw [if_neg (show ¬ b.len < b.len from Nat.lt_irrefl _), if_neg ifwh]
theorem break_while {b : Tr} {p i : Nat} {C : List Fr} {e : Nat} : breakT (⟨b, p, i, some ("while" : Str)⟩ :: C) e = settle C e := by
  rw [breakT, if_pos rfl]
theorem break_if {b : Tr} {p i : Nat} {C : List Fr} {e : Nat} : breakT (⟨b, p, i, some ("if" : Str)⟩ :: C) e = breakT C e := by
  rw [breakT, if_neg ifwh]
theorem break_idx {b : Tr} {p i j : Nat} {sg : Option Str} {C : List Fr} {e : Nat} : breakT (⟨b, p, i, sg⟩ :: C) e = breakT (⟨b, p, j, sg⟩ :: C) e := by
  rw [breakT, breakT]
theorem rev_ne {α : Type} {l : List α} (h : l ≠ []) : l.reverse ≠ [] := by simpa using h
theorem pile_main (e : Nat) : ∀ (t B : Tr) (s0 : Nat) (sg : Option Str) (k q : Nat) (C : List Fr) (a : Nat) (br : Option Nat) (inl : Bool), B.drop k = t → q = s0 + B.offs k → a = settle (⟨B, s0, B.len, sg⟩ :: C) e →
    (inl = true → br = some (breakT (⟨B, s0, B.len, sg⟩ :: C) e)) → t.okB inl → ∀ pl, q ≤ pl → pl < q + t.cnt →
    pileT B s0 sg t k q pl ≠ [] ∧ t.pre[pl - q]? = some (topD (pileT B s0 sg t k q pl).reverse) ∧ (nodesT t q a br e)[pl - q]? = some (rowD ((pileT B s0 sg t k q pl).reverse ++ C) e)
  | .nil, _, _, _, _, _, _, _, _, _, _, _, _, _, _, pl, h1, h2 => by simp only [Tr.cnt] at h2; omega
  | .leaf w d r, B, s0, sg, k, q, C, a, br, inl, hB, hq, ha, hbr, ok, pl, h1, h2 => by
    have l1 : 1 ≤ (Tr.leaf w d r).len := by simp [Tr.len]
    have af := aft (s0 := s0) (sg := sg) (C := C) (e := e) hB l1
    rw [drop1_leaf, offs1_leaf, ← ha, ← hq] at af
    simp only [Tr.cnt] at h2
    unfold pileT
    by_cases z : q = pl
    · subst z
      rw [if_pos rfl]
      refine ⟨by simp, ?_, ?_⟩
      · rw [Nat.sub_self]
        show some _ = some (hdD (hd (B.drop k)))
        rw [hB]
        rfl
      · rw [Nat.sub_self]
        show some (leafN w d (if r.isN = true then a else q + 1) br e) = some (rowD (⟨B, s0, k, sg⟩ :: C) e)
        congr 1
        unfold leafN rowD
        show _ = (match hd (B.drop k) with
          | .loop x _ => _
          | .iff x _ _ => _
          | .leaf w d => _
          | .none => _)
        have fo : follow (⟨B, s0, k, sg⟩ :: C) e true = if w = "return" then e else if w = "break" then breakT (⟨B, s0, k + 1, sg⟩ :: C) e else settle (⟨B, s0, k + 1, sg⟩ :: C) e := by
          unfold follow
          show (match hd (B.drop k) with
            | .none => _
            | .leaf w _ => _
            | .loop _ b => _
            | .iff _ b c => _) = _
          rw [hB]
          rfl
        rw [hB, fo, af]
        show _ = if w = "break" then _ else _
        by_cases hw : w = "break"
        · have hr : ¬ w = "return" := by rw [hw]; decide +kernel
          rw [if_pos hw, if_pos hw, if_neg hr, if_pos hw, hbr (ok.1 hw)]
          rw [break_idx]
        · rw [if_neg hw, if_neg hw, if_neg hw]
    · rw [if_neg z]
      have ih := pile_main e r B s0 sg (k + 1) (q + 1) C a br inl (by rw [Tr.drop_succ, hB]; rfl) (by have := Tr.offs_succ k B; rw [hB, offs1_leaf] at this; omega) ha hbr ok.2 pl (by omega) (by omega)
      refine ⟨ih.1, ?_, ?_⟩
      · show (_ :: r.pre)[pl - q]? = _
        rw [get_cons_sub (by omega)]
        exact ih.2.1
      · show (_ :: nodesT r (q + 1) a br e)[pl - q]? = _
        rw [get_cons_sub (by omega)]
        exact ih.2.2
  | .loop x b r, B, s0, sg, k, q, C, a, br, inl, hB, hq, ha, hbr, ok, pl, h1, h2 => by
    have l1 : 1 ≤ (Tr.loop x b r).len := by simp [Tr.len]
    have af := aft (s0 := s0) (sg := sg) (C := C) (e := e) hB l1
    rw [drop1_loop, offs1_loop, ← ha, ← hq] at af
    have af' : settle (⟨B, s0, k + 1, sg⟩ :: C) e = if r.isN = true then a else q + 1 + b.cnt := by rw [af, Nat.add_assoc]
    simp only [Tr.cnt] at h2
    have os := Tr.offs_succ k B
    rw [hB, offs1_loop] at os
    unfold pileT
    by_cases z : q = pl
    · subst z
      rw [if_pos rfl]
      refine ⟨by simp, ?_, ?_⟩
      · rw [Nat.sub_self]
        show some _ = some (hdD (hd (B.drop k)))
        rw [hB]
        rfl
      · rw [Nat.sub_self]
        show some (nodeD (testD x) (some (b.first (q + 1) q)) (some (if r.isN = true then a else q + 1 + b.cnt))) = some (rowD (⟨B, s0, k, sg⟩ :: C) e)
        congr 1
        have fo : ∀ h, follow (⟨B, s0, k, sg⟩ :: C) e h = if h = true then settle (⟨b, s0 + B.offs k + 1, 0, some ("while" : Str)⟩ :: ⟨B, s0, k + 1, sg⟩ :: C) e else settle (⟨B, s0, k + 1, sg⟩ :: C) e := by
          intro h
          unfold follow
          show (match hd (B.drop k) with
            | .none => _
            | .leaf w _ => _
            | .loop _ b => _
            | .iff _ b c => _) = _
          rw [hB]
          rfl
        unfold rowD
        show _ = (match hd (B.drop k) with
          | .loop x _ => _
          | .iff x _ _ => _
          | .leaf w d => _
          | .none => _)
        rw [hB, fo, fo, if_pos rfl, if_neg Bool.false_ne_true, af', settle_new, settle_while]
        show _ = nodeD (testD x) (some (b.first (s0 + B.offs k + 1) (s0 + B.offs (k + 1 - 1)))) _
        rw [Nat.add_sub_cancel, ← hq]
    · rw [if_neg z]
      by_cases zb : pl < q + 1 + b.cnt
      · have ih := pile_main e b b (q + 1) (some ("while" : Str)) 0 (q + 1) (⟨B, s0, k + 1, sg⟩ :: C) q (some (if r.isN = true then a else q + 1 + b.cnt)) true rfl (by cases b <;> rfl)
          (by rw [settle_while]; show q = s0 + B.offs (k + 1 - 1); rw [Nat.add_sub_cancel]; exact hq) (fun _ => by rw [break_while, af']) ok.1 pl (by omega) (by omega)
        have nn := Tr.nodes_len b (q + 1) q (some (if r.isN = true then a else q + 1 + b.cnt)) e
        have pn := Tr.pre_len b
        generalize hp : pileT b (q + 1) (some ("while" : Str)) b 0 (q + 1) pl = p at ih ⊢
        cases p with
        | nil => exact absurd rfl ih.1
        | cons p ps =>
          have e1 : (⟨B, s0, k + 1, sg⟩ :: p :: ps : List Fr).reverse = (p :: ps).reverse ++ [⟨B, s0, k + 1, sg⟩] := List.reverse_cons ..
          refine ⟨by simp, ?_, ?_⟩
          · show (_ :: (b.pre ++ r.pre))[pl - q]? = some (topD (⟨B, s0, k + 1, sg⟩ :: p :: ps : List Fr).reverse)
            rw [get_cons_sub (by omega), get_app_l (by omega), e1, topD_app (rev_ne (by simp))]
            exact ih.2.1
          · show (_ :: (nodesT b (q + 1) q (some (if r.isN = true then a else q + 1 + b.cnt)) e ++ nodesT r (q + 1 + b.cnt) a br e))[pl - q]? = some (rowD ((⟨B, s0, k + 1, sg⟩ :: p :: ps : List Fr).reverse ++ C) e)
            rw [get_cons_sub (by omega), get_app_l (by omega), e1, List.append_assoc]
            exact ih.2.2
      · rw [pile_out b b (q + 1) (some ("while" : Str)) 0 (q + 1) pl (by omega)]
        have ih := pile_main e r B s0 sg (k + 1) (q + 1 + b.cnt) C a br inl (by rw [Tr.drop_succ, hB]; rfl) (by omega) ha hbr ok.2 pl (by omega) (by omega)
        have nn := Tr.nodes_len b (q + 1) q (some (if r.isN = true then a else q + 1 + b.cnt)) e
        have pn := Tr.pre_len b
        refine ⟨ih.1, ?_, ?_⟩
        · show (_ :: (b.pre ++ r.pre))[pl - q]? = _
          rw [get_cons_sub (by omega), get_app_r (by omega), pn, show pl - (q + 1) - b.cnt = pl - (q + 1 + b.cnt) by omega]
          exact ih.2.1
        · show (_ :: (nodesT b (q + 1) q (some (if r.isN = true then a else q + 1 + b.cnt)) e ++ nodesT r (q + 1 + b.cnt) a br e))[pl - q]? = _
          rw [get_cons_sub (by omega), get_app_r (by omega), nn, show pl - (q + 1) - b.cnt = pl - (q + 1 + b.cnt) by omega]
          exact ih.2.2
  | .iff x b c r, B, s0, sg, k, q, C, a, br, inl, hB, hq, ha, hbr, ok, pl, h1, h2 => by
    have l1 : 1 ≤ (Tr.iff x b c r).len := by simp [Tr.len]
    have af := aft (s0 := s0) (sg := sg) (C := C) (e := e) hB l1
    rw [drop1_iff, offs1_iff, ← ha, ← hq] at af
    have af' : settle (⟨B, s0, k + 1, sg⟩ :: C) e = if r.isN = true then a else q + 1 + b.cnt + c.cnt := by
      rw [af, show q + (1 + b.cnt + c.cnt) = q + 1 + b.cnt + c.cnt by omega]
    simp only [Tr.cnt] at h2
    have os := Tr.offs_succ k B
    rw [hB, offs1_iff] at os
    generalize hA : (if r.isN = true then a else q + 1 + b.cnt + c.cnt) = A at af'
    have nb := Tr.nodes_len b (q + 1) A br e
    have nc := Tr.nodes_len c (q + 1 + b.cnt) A br e
    have pb := Tr.pre_len b
    have pc := Tr.pre_len c
    have eN : nodesT (.iff x b c r) q a br e = nodeD (testD x) (some (b.first (q + 1) A)) (some (c.first (q + 1 + b.cnt) A)) :: (nodesT b (q + 1) A br e ++ (nodesT c (q + 1 + b.cnt) A br e ++ nodesT r (q + 1 + b.cnt + c.cnt) a br e)) := by
      rw [← hA]
      rfl
    rw [eN]
    have brk : inl = true → br = some (breakT (⟨B, s0, k + 1, sg⟩ :: C) e) := fun h => by rw [hbr h, break_idx]
    unfold pileT
    by_cases z : q = pl
    · subst z
      rw [if_pos rfl]
      refine ⟨by simp, ?_, ?_⟩
      · rw [Nat.sub_self]
        show some _ = some (hdD (hd (B.drop k)))
        rw [hB]
        rfl
      · rw [Nat.sub_self]
        show some (nodeD (testD x) (some (b.first (q + 1) A)) (some (c.first (q + 1 + b.cnt) A))) = some (rowD (⟨B, s0, k, sg⟩ :: C) e)
        congr 1
        have fo : ∀ h, follow (⟨B, s0, k, sg⟩ :: C) e h = if h = true then settle (⟨b, s0 + B.offs k + 1, 0, some ("if" : Str)⟩ :: ⟨B, s0, k + 1, sg⟩ :: C) e else settle (⟨c, s0 + B.offs k + 1 + b.cnt, 0, some ("if" : Str)⟩ :: ⟨B, s0, k + 1, sg⟩ :: C) e := by
          intro h
          unfold follow
          show (match hd (B.drop k) with
            | .none => _
            | .leaf w _ => _
            | .loop _ b => _
            | .iff _ b c => _) = _
          rw [hB]
          rfl
        unfold rowD
        show _ = (match hd (B.drop k) with
          | .loop x _ => _
          | .iff x _ _ => _
          | .leaf w d => _
          | .none => _)
        rw [hB, fo, fo, if_pos rfl, if_neg Bool.false_ne_true, settle_new, settle_new, settle_if, settle_if, af', ← hq]
        rfl
    · rw [if_neg z]
      by_cases zb : pl < q + 1 + b.cnt
      · have ih := pile_main e b b (q + 1) (some ("if" : Str)) 0 (q + 1) (⟨B, s0, k + 1, sg⟩ :: C) A br inl rfl (by cases b <;> rfl)
          (by rw [settle_if]; exact af'.symm) (fun h => by rw [break_if]; exact brk h) ok.1 pl (by omega) (by omega)
        generalize hp : pileT b (q + 1) (some ("if" : Str)) b 0 (q + 1) pl = p at ih ⊢
        cases p with
        | nil => exact absurd rfl ih.1
        | cons p ps =>
          have e1 : (⟨B, s0, k + 1, sg⟩ :: p :: ps : List Fr).reverse = (p :: ps).reverse ++ [⟨B, s0, k + 1, sg⟩] := List.reverse_cons ..
          refine ⟨by simp, ?_, ?_⟩
          · show (_ :: (b.pre ++ (c.pre ++ r.pre)))[pl - q]? = some (topD (⟨B, s0, k + 1, sg⟩ :: p :: ps : List Fr).reverse)
            rw [get_cons_sub (by omega), get_app_l (by omega), e1, topD_app (rev_ne (by simp))]
            exact ih.2.1
          · show _ = some (rowD ((⟨B, s0, k + 1, sg⟩ :: p :: ps : List Fr).reverse ++ C) e)
            rw [get_cons_sub (by omega), get_app_l (by omega), e1, List.append_assoc]
            exact ih.2.2
      · rw [pile_out b b (q + 1) (some ("if" : Str)) 0 (q + 1) pl (by omega)]
        by_cases zc : pl < q + 1 + b.cnt + c.cnt
        · have ih := pile_main e c c (q + 1 + b.cnt) (some ("if" : Str)) 0 (q + 1 + b.cnt) (⟨B, s0, k + 1, sg⟩ :: C) A br inl rfl (by cases c <;> rfl)
            (by rw [settle_if]; exact af'.symm) (fun h => by rw [break_if]; exact brk h) ok.2.1 pl (by omega) (by omega)
          generalize hp : pileT c (q + 1 + b.cnt) (some ("if" : Str)) c 0 (q + 1 + b.cnt) pl = p at ih ⊢
          cases p with
          | nil => exact absurd rfl ih.1
          | cons p ps =>
            have e1 : (⟨B, s0, k + 1, sg⟩ :: p :: ps : List Fr).reverse = (p :: ps).reverse ++ [⟨B, s0, k + 1, sg⟩] := List.reverse_cons ..
            refine ⟨by simp, ?_, ?_⟩
            · show (_ :: (b.pre ++ (c.pre ++ r.pre)))[pl - q]? = some (topD (⟨B, s0, k + 1, sg⟩ :: p :: ps : List Fr).reverse)
              rw [get_cons_sub (by omega), get_app_r (by omega), get_app_l (by omega), pb, show pl - (q + 1) - b.cnt = pl - (q + 1 + b.cnt) by omega, e1, topD_app (rev_ne (by simp))]
              exact ih.2.1
            · show _ = some (rowD ((⟨B, s0, k + 1, sg⟩ :: p :: ps : List Fr).reverse ++ C) e)
              rw [get_cons_sub (by omega), get_app_r (by omega), get_app_l (by omega), nb, show pl - (q + 1) - b.cnt = pl - (q + 1 + b.cnt) by omega, e1, List.append_assoc]
              exact ih.2.2
        · rw [pile_out c c (q + 1 + b.cnt) (some ("if" : Str)) 0 (q + 1 + b.cnt) pl (by omega)]
          have ih := pile_main e r B s0 sg (k + 1) (q + 1 + b.cnt + c.cnt) C a br inl (by rw [Tr.drop_succ, hB]; rfl) (by omega) ha hbr ok.2.2 pl (by omega) (by omega)
          refine ⟨ih.1, ?_, ?_⟩
          · show (_ :: (b.pre ++ (c.pre ++ r.pre)))[pl - q]? = _
            rw [get_cons_sub (by omega), get_app_r (by omega), get_app_r (by omega), pb, pc, show pl - (q + 1) - b.cnt - c.cnt = pl - (q + 1 + b.cnt + c.cnt) by omega]
            exact ih.2.1
          · rw [get_cons_sub (by omega), get_app_r (by omega), get_app_r (by omega), nb, nc, show pl - (q + 1) - b.cnt - c.cnt = pl - (q + 1 + b.cnt + c.cnt) by omega]
            exact ih.2.2
/-! ### data that hold no lists -/
def Tok : Nat → PyData → Prop
  | 0, _ => False
  | _ + 1, .none => True
  | _ + 1, .bool _ => True
  | _ + 1, .int _ => True
  | _ + 1, .str _ => True
  | n + 1, .tuple ds => ds.length ≤ 1000 ∧ ∀ d ∈ ds, Tok n d
  | _ + 1, .list _ => False
  | _ + 1, .dict _ => False
theorem Tok.up : ∀ {n m : Nat} {d : PyData}, n ≤ m → Tok n d → Tok m d
  | 0, _, _, _, h => h.elim
  | n + 1, 0, _, h, _ => by omega
  | n + 1, m + 1, .none, _, _ => trivial
  | n + 1, m + 1, .bool _, _, _ => trivial
  | n + 1, m + 1, .int _, _, _ => trivial
  | n + 1, m + 1, .str _, _, _ => trivial
  | n + 1, m + 1, .tuple ds, h, q => ⟨q.1, fun d hd => Tok.up (by omega) (q.2 d hd)⟩
  | n + 1, m + 1, .list _, _, q => q.elim
  | n + 1, m + 1, .dict _, _, q => q.elim
theorem Tok.dok : ∀ {n : Nat} {d : PyData}, Tok n d → Dok n d
  | 0, _, h => h.elim
  | n + 1, .none, _ => trivial
  | n + 1, .bool _, _ => trivial
  | n + 1, .int _, _ => trivial
  | n + 1, .str _, _ => trivial
  | n + 1, .tuple ds, q => ⟨by have := q.1; omega, fun d hd => Tok.dok (q.2 d hd)⟩
  | n + 1, .list _, q => q.elim
  | n + 1, .dict _, q => q.elim
theorem dpAll_keep {K : PySem.W.Frag} {H H' : Hp} : ∀ {vs : List V} {ds : List PyData}, (∀ v, ∀ d ∈ ds, Dp K H v d → Dp K H' v d) → DpAll K H vs ds → DpAll K H' vs ds
  | _, _, _, .nil => .nil
  | _, _, k, .cons h r => .cons (k _ _ List.mem_cons_self h) (dpAll_keep (fun v d hd => k v d (List.mem_cons_of_mem _ hd)) r)
theorem Dp.keepT {K : PySem.W.Frag} {H H' : Hp} (k : Keeps K H H') : ∀ {n : Nat} {v : V} {d : PyData}, Tok n d → Dp K H v d → Dp K H' v d
  | 0, _, _, t, _ => t.elim
  | n + 1, _, .none, _, .non => .non
  | n + 1, _, .bool _, _, .bl b => .bl b
  | n + 1, _, .int _, _, .int i => .int i
  | n + 1, _, .str _, _, .str z => .str z
  | n + 1, _, .tuple ds, t, .tup h r => .tup (k _ _ h) (dpAll_keep (fun v d hd => Dp.keepT k (t.2 d hd)) r)
  | n + 1, _, .list _, t, _ => t.elim
  | n + 1, _, .dict _, t, _ => t.elim
/-- data of a value, without lists -/
def DT (K : PySem.W.Frag) (n : Nat) (H : Hp) (v : V) (d : PyData) : Prop := Dp K H v d ∧ Tok n d
theorem DT.keep {K : PySem.W.Frag} {n : Nat} {H H' : Hp} (k : Keeps K H H') {v : V} {d : PyData} (h : DT K n H v d) : DT K n H' v d := ⟨Dp.keepT k h.2 h.1, h.2⟩
theorem DT.up {K : PySem.W.Frag} {n m : Nat} {H : Hp} {v : V} {d : PyData} (h : DT K n H v d) (l : n ≤ m) : DT K m H v d := ⟨h.1, Tok.up l h.2⟩
/-- data of values -/
def DTs (K : PySem.W.Frag) (n : Nat) (H : Hp) : List V → List PyData → Prop
  | [], [] => True
  | v :: vs, d :: ds => DT K n H v d ∧ DTs K n H vs ds
  | _, _ => False
theorem DTs.keep {K : PySem.W.Frag} {n : Nat} {H H' : Hp} (k : Keeps K H H') : ∀ {vs : List V} {ds : List PyData}, DTs K n H vs ds → DTs K n H' vs ds
  | [], [], _ => trivial
  | _ :: _, _ :: _, h => ⟨h.1.keep k, DTs.keep k h.2⟩
  | [], _ :: _, h => h.elim
  | _ :: _, [], h => h.elim
theorem DTs.len {K : PySem.W.Frag} {n : Nat} {H : Hp} : ∀ {vs : List V} {ds : List PyData}, DTs K n H vs ds → vs.length = ds.length
  | [], [], _ => rfl
  | _ :: _, _ :: _, h => congrArg (· + 1) (DTs.len h.2)
  | [], _ :: _, h => h.elim
  | _ :: _, [], h => h.elim
theorem DTs.app {K : PySem.W.Frag} {n : Nat} {H : Hp} : ∀ {vs us : List V} {ds es : List PyData}, DTs K n H vs ds → DTs K n H us es → DTs K n H (vs ++ us) (ds ++ es)
  | [], _, [], _, _, h => h
  | _ :: _, _, _ :: _, _, h, q => ⟨h.1, DTs.app h.2 q⟩
  | [], _, _ :: _, _, h, _ => h.elim
  | _ :: _, _, [], _, h, _ => h.elim
theorem DTs.all {K : PySem.W.Frag} {n : Nat} {H : Hp} : ∀ {vs : List V} {ds : List PyData}, DTs K n H vs ds → DpAll K H vs ds ∧ ∀ d ∈ ds, Tok n d
  | [], [], _ => ⟨.nil, fun _ z => (List.not_mem_nil z).elim⟩
  | _ :: _, _ :: _, h => ⟨.cons h.1.1 (DTs.all h.2).1, fun d hd => by
    rcases List.mem_cons.mp hd with rfl | hd
    · exact h.1.2
    · exact (DTs.all h.2).2 d hd⟩
  | [], _ :: _, h => h.elim
  | _ :: _, [], h => h.elim
theorem DT.tup {K : PySem.W.Frag} {n : Nat} {H : Hp} {p : Addr} {vs : List V} {ds : List PyData} (h : SqT K H p vs) (q : DTs K n H vs ds) (l : ds.length ≤ 1000) : DT K (n + 1) H (.ref p) (.tuple ds) := ⟨.tup h q.all.1, l, q.all.2⟩
/-! ### bodies in the heap -/
def LeafOk (w : Str) (d : List PyData) : Prop := ∃ roles, (w, roles) ∈ tb_PARTS ∧ roles.length = d.length ∧ roles.length ≤ 10 ∧ ("body" : Str) ∉ roles
def TrL (K : PySem.W.Frag) (H : Hp) : Tr → List V → Prop
  | .nil, vs => vs = []
  | .leaf w d r, vs => ∃ p xs ws, vs = .ref p :: ws ∧ SqT K H p (.str w :: xs) ∧ DTs K 6 H xs d ∧ LeafOk w d ∧ TrL K H r ws
  | .loop e b r, vs => ∃ p x q us ws, vs = .ref p :: ws ∧ SqT K H p [.str "while", x, .ref q] ∧ DT K 6 H x e ∧ SqT K H q us ∧ TrL K H b us ∧ TrL K H r ws
  | .iff e b c r, vs => ∃ p x q us q2 us2 ws, vs = .ref p :: ws ∧ SqT K H p [.str "if", x, .ref q, .ref q2] ∧ DT K 6 H x e ∧ SqT K H q us ∧ TrL K H b us ∧ SqT K H q2 us2 ∧ TrL K H c us2 ∧ TrL K H r ws
theorem TrL.keep {K : PySem.W.Frag} {H H' : Hp} (k : Keeps K H H') : ∀ {t : Tr} {vs : List V}, TrL K H t vs → TrL K H' t vs
  | .nil, _, h => h
  | .leaf _ _ _, _, ⟨p, xs, ws, e, h1, h2, h3, h4⟩ => ⟨p, xs, ws, e, k _ _ h1, h2.keep k, h3, TrL.keep k h4⟩
  | .loop _ _ _, _, ⟨p, x, q, us, ws, e, h1, h2, h3, h4, h5⟩ => ⟨p, x, q, us, ws, e, k _ _ h1, h2.keep k, k _ _ h3, TrL.keep k h4, TrL.keep k h5⟩
  | .iff _ _ _ _, _, ⟨p, x, q, us, q2, us2, ws, e, h1, h2, h3, h4, h5, h6, h7⟩ => ⟨p, x, q, us, q2, us2, ws, e, k _ _ h1, h2.keep k, k _ _ h3, TrL.keep k h4, k _ _ h5, TrL.keep k h6, TrL.keep k h7⟩
theorem TrL.len {K : PySem.W.Frag} {H : Hp} : ∀ {t : Tr} {vs : List V}, TrL K H t vs → vs.length = t.len
  | .nil, _, h => by rw [show _ = [] from h]; rfl
  | .leaf _ _ _, _, ⟨p, xs, ws, e, h1, h2, h3, h4⟩ => by rw [e]; exact congrArg (· + 1) (TrL.len h4)
  | .loop _ _ _, _, ⟨p, x, q, us, ws, e, h1, h2, h3, h4, h5⟩ => by rw [e]; exact congrArg (· + 1) (TrL.len h5)
  | .iff _ _ _ _, _, ⟨p, x, q, us, q2, us2, ws, e, h1, h2, h3, h4, h5, h6, h7⟩ => by rw [e]; exact congrArg (· + 1) (TrL.len h7)
theorem TrL.app {K : PySem.W.Frag} {H : Hp} {u : Tr} {ws : List V} (h : TrL K H u ws) : ∀ {t : Tr} {vs : List V}, TrL K H t vs → TrL K H (t.app u) (vs ++ ws)
  | .nil, _, q => by rw [show _ = [] from q]; exact h
  | .leaf _ _ _, _, ⟨p, xs, vs, e, h1, h2, h3, h4⟩ => by rw [e]; exact ⟨p, xs, vs ++ ws, rfl, h1, h2, h3, TrL.app h h4⟩
  | .loop _ _ _, _, ⟨p, x, q, us, vs, e, h1, h2, h3, h4, h5⟩ => by rw [e]; exact ⟨p, x, q, us, vs ++ ws, rfl, h1, h2, h3, h4, TrL.app h h5⟩
  | .iff _ _ _ _, _, ⟨p, x, q, us, q2, us2, vs, e, h1, h2, h3, h4, h5, h6, h7⟩ => by rw [e]; exact ⟨p, x, q, us, q2, us2, vs ++ ws, rfl, h1, h2, h3, h4, h5, h6, TrL.app h h7⟩
/-- how deep bodies stand within one another -/
def Tr.dep : Nat → Tr → Prop
  | _, .nil => True
  | m, .leaf _ _ r => Tr.dep m r
  | 0, .loop _ _ _ => False
  | m + 1, .loop _ b r => Tr.dep m b ∧ Tr.dep (m + 1) r
  | 0, .iff _ _ _ _ => False
  | m + 1, .iff _ b c r => Tr.dep m b ∧ Tr.dep m c ∧ Tr.dep (m + 1) r
theorem Tr.dep_app : ∀ {m : Nat} {t u : Tr}, t.dep m → u.dep m → (t.app u).dep m
  | _, .nil, _, _, h => h
  | m, .leaf _ _ r, u, h, q => by
    have h' : r.dep m := by cases m <;> exact h
    have := Tr.dep_app h' q
    cases m <;> exact this
  | 0, .loop _ _ _, _, h, _ => h.elim
  | m + 1, .loop _ _ _, _, h, q => ⟨h.1, Tr.dep_app h.2 q⟩
  | 0, .iff _ _ _ _, _, h, _ => h.elim
  | m + 1, .iff _ _ _ _, _, h, q => ⟨h.1, h.2.1, Tr.dep_app h.2.2 q⟩
theorem dep_leaf {m : Nat} {w : Str} {d : List PyData} {r : Tr} (h : (Tr.leaf w d r).dep m) : r.dep m := by cases m <;> exact h
theorem dep_loop {m : Nat} {e : PyData} {b r : Tr} (h : (Tr.loop e b r).dep m) : ∃ k, m = k + 1 ∧ b.dep k ∧ r.dep m := by
  cases m with
  | zero => exact h.elim
  | succ k => exact ⟨k, rfl, h.1, h.2⟩
theorem dep_iff {m : Nat} {e : PyData} {b c r : Tr} (h : (Tr.iff e b c r).dep m) : ∃ k, m = k + 1 ∧ b.dep k ∧ c.dep k ∧ r.dep m := by
  cases m with
  | zero => exact h.elim
  | succ k => exact ⟨k, rfl, h.1, h.2.1, h.2.2⟩
def A2 {α : Type} (R : α → V → Prop) : List α → List V → Prop
  | [], [] => True
  | a :: l, v :: vs => R a v ∧ A2 R l vs
  | _, _ => False
theorem A2.len {α : Type} {R : α → V → Prop} : ∀ {l : List α} {vs : List V}, A2 R l vs → vs.length = l.length
  | [], [], _ => rfl
  | _ :: _, _ :: _, h => congrArg (· + 1) (A2.len h.2)
  | [], _ :: _, h => h.elim
  | _ :: _, [], h => h.elim
theorem A2.get {α : Type} {R : α → V → Prop} : ∀ {l : List α} {vs : List V} {i : Nat} {a : α} {v : V}, A2 R l vs → l[i]? = some a → vs[i]? = some v → R a v
  | [], [], _, _, _, _, h, _ => by simp at h
  | _ :: _, _ :: _, 0, _, _, h, h1, h2 => by
    simp at h1 h2
    subst h1 h2
    exact h.1
  | _ :: l, _ :: vs, i + 1, _, _, h, h1, h2 => A2.get (i := i) h.2 (by simpa using h1) (by simpa using h2)
  | [], _ :: _, _, _, _, h, _, _ => h.elim
  | _ :: _, [], _, _, _, h, _, _ => h.elim
theorem A2.imp {α : Type} {R R' : α → V → Prop} (k : ∀ a v, R a v → R' a v) : ∀ {l : List α} {vs : List V}, A2 R l vs → A2 R' l vs
  | [], [], _ => trivial
  | _ :: _, _ :: _, h => ⟨k _ _ h.1, A2.imp k h.2⟩
  | [], _ :: _, h => h.elim
  | _ :: _, [], h => h.elim
theorem A2.snoc {α : Type} {R : α → V → Prop} {a : α} {v : V} (h : R a v) : ∀ {l : List α} {vs : List V}, A2 R l vs → A2 R (l ++ [a]) (vs ++ [v])
  | [], [], _ => ⟨h, trivial⟩
  | _ :: _, _ :: _, q => ⟨q.1, A2.snoc h q.2⟩
  | [], _ :: _, q => q.elim
  | _ :: _, [], q => q.elim
/-- a body of a statement, in the heap -/
def BodyAt (K : PySem.W.Frag) (H : Hp) (m : Nat) (b : Tr) (v : V) : Prop := ∃ q us, v = .ref q ∧ SqT K H q us ∧ TrL K H b us ∧ ∃ k, m = k + 1 ∧ b.dep k
theorem parts_body {rs : List Str} {vs : List V} (h : ("body" : Str) ∉ rs) : ((partsL rs vs).filter fun q => decide (q.1 = ("body" : Str))).map (·.2) = [] := by
  induction rs generalizing vs with
  | nil => simp [partsL]
  | cons r rs ih =>
    have h1 : r ≠ "body" := fun z => h (by rw [z]; exact List.mem_cons_self)
    have h2 : ("body" : Str) ∉ rs := fun z => h (List.mem_cons_of_mem _ z)
    cases vs with
    | nil => simp [partsL]
    | cons v vs =>
      unfold partsL
      split
      · exact ih h2
      · rw [List.filter_cons, if_neg (by simpa using h1)]
        exact ih h2
theorem bdf_no {r : Str} {v : V} {l : List (Str × V)} (h : r ≠ "body") : (((r, v) :: l).filter fun q => decide (q.1 = ("body" : Str))).map (·.2) = (l.filter fun q => decide (q.1 = ("body" : Str))).map (·.2) := by
  rw [List.filter_cons, if_neg (by simpa using h)]
theorem bdf_yes {v : V} {l : List (Str × V)} : (((("body" : Str), v) :: l).filter fun q => decide (q.1 = ("body" : Str))).map (·.2) = v :: (l.filter fun q => decide (q.1 = ("body" : Str))).map (·.2) := by
  rw [List.filter_cons, if_pos (decide_eq_true rfl)]
  rfl
theorem parts_cons {r : Str} {v : V} {rs : List Str} {vs : List V} (h : v ≠ .non) : partsL (r :: rs) (v :: vs) = (r, v) :: partsL rs vs := by
  unfold partsL
  rw [if_neg h]
  cases rs <;> cases vs <;> simp [partsL]
/-- the first statement of a body that is not empty, as the program reads it -/
theorem TrL.bods {K : PySem.W.Frag} {H : Hp} {t : Tr} {m : Nat} {v : V} {vs : List V} (h : TrL K H t (v :: vs)) (hd : t.dep m) : ∃ (p : Addr) (wd : Str) (rest : List V) (roles : List Str) (r : Tr) (x : List PyData) (bs : List Tr), v = .ref p ∧ SqT K H p (.str wd :: rest) ∧ (wd, roles) ∈ tb_PARTS ∧ roles.length = rest.length ∧ roles.length ≤ 10 ∧
    TrL K H r vs ∧ r.dep m ∧ t.pre = .tuple (.str wd :: x) :: ((bs.map Tr.pre).flatten ++ r.pre) ∧ A2 (BodyAt K H m) bs (bodL roles rest) := by
  cases t with
  | nil => cases h
  | leaf w d r =>
    obtain ⟨p, xs, ws, e, h1, h2, ⟨roles, r1, r2, r3, r4⟩, h4⟩ := h
    obtain ⟨rfl, rfl⟩ := List.cons.inj e
    refine ⟨p, w, xs, roles, r, d, [], rfl, h1, r1, by rw [h2.len]; exact r2, r3, h4, dep_leaf hd, rfl, ?_⟩
    rw [bodL_no r4]
    exact trivial
  | loop x b r =>
    obtain ⟨p, y, q, us, ws, e, h1, h2, h3, h4, h5⟩ := h
    obtain ⟨rfl, rfl⟩ := List.cons.inj e
    obtain ⟨k, em, d1, d2⟩ := dep_loop hd
    refine ⟨p, "while", [y, .ref q], ["expression", "body"], r, _, [b], rfl, h1, by decide +kernel, rfl, by decide, h5, d2, by simp [Tr.pre]; rfl, ?_⟩
    rw [bodL_cons (by decide +kernel), bodL_body, bodL_nil]
    exact ⟨⟨q, us, rfl, h3, h4, k, em, d1⟩, trivial⟩
  | iff x b c r =>
    obtain ⟨p, y, q, us, q2, us2, ws, e, h1, h2, h3, h4, h5, h6, h7⟩ := h
    obtain ⟨rfl, rfl⟩ := List.cons.inj e
    obtain ⟨k, em, d1, d2, d3⟩ := dep_iff hd
    refine ⟨p, "if", [y, .ref q, .ref q2], ["expression", "body", "body"], r, _, [b, c], rfl, h1, by decide +kernel, rfl, by decide, h7, d3, by simp [Tr.pre]; rfl, ?_⟩
    rw [bodL_cons (by decide +kernel), bodL_body, bodL_body, bodL_nil]
    exact ⟨⟨q, us, rfl, h3, h4, k, em, d1⟩, ⟨q2, us2, rfl, h5, h6, k, em, d2⟩, trivial⟩
/-! ### statements listed -/
/-- pairs (statement, flag) in the heap -/
inductive Prq (K : PySem.W.Frag) (H : Hp) : List Addr → List PyData → Prop where
  | nil : Prq K H [] []
  | cons {p q : Addr} {ps : List Addr} {v : List V} {f : V} {w : Str} {x : List PyData} {ds : List PyData} : H p = some (.tup [.ref q, f]) → SqT K H q (.str w :: v) → Prq K H ps ds → Prq K H (p :: ps) (.tuple (.str w :: x) :: ds)
theorem Prq.keep {K : PySem.W.Frag} {H H' : Hp} (e : ∀ p xs, H p = some (.tup xs) → H' p = some (.tup xs)) (k : Keeps K H H') : ∀ {ps : List Addr} {ds : List PyData}, Prq K H ps ds → Prq K H' ps ds
  | _, _, .nil => .nil
  | _, _, .cons h q r => .cons (e _ _ h) (k _ _ q) (Prq.keep e k r)
theorem Prq.app {K : PySem.W.Frag} {H : Hp} {qs : List Addr} {es : List PyData} (h : Prq K H qs es) : ∀ {ps : List Addr} {ds : List PyData}, Prq K H ps ds → Prq K H (ps ++ qs) (ds ++ es)
  | _, _, .nil => h
  | _, _, .cons a b r => .cons a b (Prq.app h r)
theorem Prq.len {K : PySem.W.Frag} {H : Hp} : ∀ {ps : List Addr} {ds : List PyData}, Prq K H ps ds → ps.length = ds.length
  | _, _, .nil => rfl
  | _, _, .cons _ _ r => congrArg (· + 1) (Prq.len r)
theorem tup_lst {H : Hp} {l p : Addr} {xs ys : List V} {o : HO} (hl : H l = some (.lst xs)) (h : H p = some (.tup ys)) : upd H l o p = some (.tup ys) := by
  rw [upd_ne (ne_of h hl (by intro z; cases z))]
  exact h
theorem keep_lst {K : PySem.W.Frag} {H : Hp} {l : Addr} {xs : List V} {o : HO} (h : H l = some (.lst xs)) : Keeps K H (upd H l o) := by
  intro z ys hz
  rcases hz with (hz | ⟨u, hz⟩) | hz
  · exact .inl (.inl (by rw [upd_ne (ne_of hz h (by intro z; cases z))]; exact hz))
  · exact .inl (.inr ⟨u, by rw [upd_ne (ne_of hz h (by intro z; cases z))]; exact hz⟩)
  · exact .inr hz
theorem keeps_new {K : PySem.W.Frag} {H : Hp} {p : Addr} {o : HO} (h : H p = none) : Keeps K H (upd H p o) := Keeps.of_same (Same.new h o)
/-- the places of the whiles come from the statements' words -/
def spLs (K : PySem.W.Frag) (m : Nat) : Sp := fun vs H Q _ => ∃ (q : Addr) (us : List V) (t : Tr) (fl : Bool), vs = [.ref q, .bl fl] ∧ SqT K H q us ∧ TrL K H t us ∧ t.dep m ∧ t.cnt ≤ 400 ∧
  ∀ (D : Addr) (ps : List Addr) (H' : Hp), Same H H' → H D = none → H' D = some (.lst (ps.map V.ref)) → Prq K H' ps t.pre → Q (.ref D) H'
theorem pre_flat {bs : List Tr} {j : Nat} {b : Tr} (h : bs[j]? = some b) : ((bs.take (j + 1)).map Tr.pre).flatten = ((bs.take j).map Tr.pre).flatten ++ b.pre := by
  rw [List.take_add_one, h]
  simp
theorem pre_part {bs : List Tr} {j : Nat} {b : Tr} (h : bs[j]? = some b) : ((bs.take j).map Tr.pre).flatten.length + b.pre.length ≤ ((bs.map Tr.pre).flatten).length := by
  have e : bs.map Tr.pre = (bs.take (j + 1)).map Tr.pre ++ (bs.drop (j + 1)).map Tr.pre := by rw [← List.map_append, List.take_append_drop]
  rw [e, List.flatten_append, List.length_append, pre_flat h, List.length_append]
  omega
section
variable {P : Program} {w : World} {K : PySem.W.Frag} {mg : Str → Option Value} {base : Heap}
theorem fn_vac {k : Nat} {f : Addr} {fd : FuncData} {ps : List Str} {sp : Sp} (no : ∀ vs H Q E, ¬ sp vs H Q E) : FnOk P w K mg base CX0 k f fd ps sp :=
  ⟨fun vs H Q E h => absurd h (no vs H Q E), fun A outer s H args us vs Q E _ _ _ _ h => absurd h (no vs H Q E)⟩
theorem ok_ls0 (T : Txt w K mg) {m : Nat} (g_list_statements : FnOk P w K mg base CX0 (m + 3) T.a_list_statements T.d_list_statements p_list_statements (match m with | 0 => fun _ _ _ _ => False | k + 1 => spLs K k)) :
    FnOk P w K mg base CX0 (m + 4) T.a_list_statements T.d_list_statements p_list_statements (spLs K m) := by
  have g_bodies_of := ok_bodies_of (P := P) (base := base) T
  obtain ⟨ds_e, e_list_statements⟩ := T.e_list_statements
  obtain ⟨ds_b, b_list_statements⟩ := T.b_list_statements
  refine fund_ok T.F_list_statements sc_list_statements (fun vs H Q E h => ?_) (fun cdv A outer s H vs Q E hr h => ?_)
  · obtain ⟨q, us, t, fl, rfl, _⟩ := h
    rfl
  obtain ⟨qa, us, t, fl, rfl, hq, ht, hd, hc, q⟩ := h
  refine ⟨_, (pss_cons (ps_set (i := 2) sc_list_statements.nd rfl (Or.inl rfl) (pe_lst pa_nil))
      (pss_cons (ps_for PassesOwn.never rfl (pi_tup (pv 0)) (pg_name (i := 3) sc_list_statements.nd rfl (Or.inl rfl))
        (pss_cons (ps_expr (pe_bm PySem.F.plainAttrs_list PySem.F.slot_list_append PySem.F.type_list_append mt_append (pv 2) (pa_cons (pe_tup (pa_cons (pv 3) (pa_cons (pv 1) pa_nil))) pa_nil)))
      (pss_one (ps_for PassesOwn.never rfl (pi_list (pe_call g_bodies_of (hr.mono (by first | decide | omega)) rfl T.m_bodies_of T.F_bodies_of.kp T.b_bodies_of .nil pass0 (pa_cons (pv 3) pa_nil))) (pg_name (i := 4) sc_list_statements.nd rfl (Or.inl rfl))
        (pss_one (ps_expr (pe_bm PySem.F.plainAttrs_list PySem.F.slot_list_extend PySem.F.type_list_extend mt_extend (pv 2) (pa_cons (pe_call g_list_statements (hr.mono (by first | decide | omega)) rfl T.m_list_statements T.F_list_statements.kp b_list_statements.2 b_list_statements.1 pass0 (pa_cons (pv 4) (pa_cons (pe_or (pv 1) (pe_one (pe_cmpR op_eq (pe_ix ix_tup (pv 3) pe_int (fun _ _ => rfl)) pe_str (nomark _)))) pa_nil))) pa_nil))))))))
      (pss_one (ps_ret (pv 2))))), ?_⟩
  refine ⟨by show 0 ≤ sizeLine; decide, fun l hl0 => ?_⟩
  have s0 := Same.new hl0 (.lst [])
  refine ⟨_, rfl, qa, rfl, ⟨_, Same.tup s0 hq⟩, for_tup (K := K) (a := qa) (xs := us) (fun i σ H' => Same H H' ∧ ∃ (ps : List Addr) (dn : List PyData) (r : Tr) (v3 v4 : Option V), σ = [some (.ref qa), some (.bl fl), some (.ref l), v3, v4] ∧ H' l = some (.lst (ps.map V.ref)) ∧ Prq K H' ps dn ∧ TrL K H r (us.drop i) ∧ r.dep m ∧ t.pre = dn ++ r.pre)
    ⟨s0, [], [], t, none, none, rfl, upd_same, .nil, ht, hd, rfl⟩ (fun i σ H' _ ⟨h, _⟩ => Same.tup h hq) ?_ ?_⟩
  · rintro i v σ H' hi ⟨sm, ps, dn, r, v3, v4, rfl, hl, hp, htr, hdr, epre⟩
    have hil : i < us.length := (List.getElem?_eq_some_iff.mp hi).1
    have dr : us.drop i = v :: us.drop (i + 1) := by
      rw [List.drop_eq_getElem_cons hil]
      congr 1
      exact (List.getElem?_eq_some_iff.mp hi).2
    rw [dr] at htr
    have plen := hp.len
    have tlen := Tr.pre_len t
    have dlen : dn.length + r.pre.length ≤ 400 := by
      rw [← List.length_append, ← epre, tlen]
      exact hc
    have rlen := Tr.pre_len r
    obtain ⟨p, wd, rest, roles, r2, x, bs, rfl, hpt, htb, hlen, h10, ht2, hd2, er, hbo⟩ := htr.bods hdr
    refine ⟨_, rfl, .inl ⟨rfl, _, SqL.of hl⟩, _, rfl, _, rfl, by show 2 ≤ sizeLine; decide, fun e he => ?_⟩
    have se := Same.new he (.tup [.ref p, .bl fl])
    refine ⟨l, _, _, rfl, rfl, se _ _ hl, ?_, ?_⟩
    · rw [List.length_map]
      exact small1000 (by omega)
    have smA : Same H (upd (upd H' e (.tup [.ref p, .bl fl])) l (.lst (ps.map V.ref ++ [.ref e]))) := Same.grow hl0 (sm.trans se)
    have hlA : (upd (upd H' e (.tup [.ref p, .bl fl])) l (.lst (ps.map V.ref ++ [.ref e]))) l = some (.lst ((ps ++ [e]).map V.ref)) := by
      rw [upd_same, List.map_append]
      rfl
    have kA : Keeps K H' (upd (upd H' e (.tup [.ref p, .bl fl])) l (.lst (ps.map V.ref ++ [.ref e]))) := fun z ys h => keep_lst (se _ _ hl) _ _ (Keeps.of_same se _ _ h)
    have pA : Prq K (upd (upd H' e (.tup [.ref p, .bl fl])) l (.lst (ps.map V.ref ++ [.ref e]))) (ps ++ [e]) (dn ++ [.tuple (.str wd :: x)]) :=
      Prq.app (.cons (tup_lst (se _ _ hl) upd_same) (kA _ _ (Same.tup sm hpt)) .nil) (Prq.keep (fun _ _ h => tup_lst (se _ _ hl) (se _ _ h)) kA hp)
    generalize (upd (upd H' e (.tup [.ref p, .bl fl])) l (.lst (ps.map V.ref ++ [.ref e]))) = HA at smA hlA kA pA ⊢
    have hptA := Same.tup smA hpt
    refine ⟨_, rfl, p, wd, rest, roles, rfl, hptA, htb, hlen, h10, fun B HB smB hB0 hB => ?_⟩
    have nBl : l ≠ B := ne_of_none hlA hB0
    generalize hbl : bodL roles rest = bl at hbo hB
    have bll := hbo.len
    refine ⟨B, rfl, ⟨_, SqL.of hB⟩, for_list (K := K) (a := B) (xs := bl) (fun j σ H5 => Same H H5 ∧ H5 B = some (.lst bl) ∧ ∃ (ps : List Addr) (v4 : Option V), σ = [some (.ref qa), some (.bl fl), some (.ref l), some (.ref p), v4] ∧ H5 l = some (.lst (ps.map V.ref)) ∧ Prq K H5 ps (dn ++ [.tuple (.str wd :: x)] ++ ((bs.take j).map Tr.pre).flatten))
      ⟨smA.trans smB, hB, ps ++ [e], v4, rfl, smB _ _ hlA, by simpa using Prq.keep (fun _ _ h => smB _ _ h) (Keeps.of_same smB) pA⟩ (fun j σ H5 _ ⟨_, h, _⟩ => SqL.of h) ?_ ?_⟩
    · rintro j y σ H5 hj ⟨sm5, hB5, ps5, v4, rfl, hl5, hp5⟩
      have hjl : j < bs.length := bll ▸ (List.getElem?_eq_some_iff.mp hj).1
      have hb := List.getElem?_eq_getElem hjl
      obtain ⟨qb, ub, rfl, hqb, hub, k, rfl, hdb⟩ := hbo.get hb hj
      generalize bs[j] = b at hb hub hdb
      have pp := pre_part hb
      have bl2 := Tr.pre_len b
      have p5 := hp5.len
      have epl := congrArg List.length epre
      rw [er] at epl
      simp only [List.length_append, List.length_cons, List.length_singleton, List.length_nil] at epl p5
      have bc : b.cnt ≤ 400 := by omega
      refine ⟨_, rfl, .inl ⟨rfl, _, SqL.of hl5⟩, _, rfl, ?_⟩
      have call : ∀ (f2 : Bool), spLs K k [.ref qb, .bl f2] H5 (fun z H6 => ∃ (lz bz : Addr) (xs ys : List V), V.ref l = .ref lz ∧ [z] = [.ref bz] ∧ H6 lz = some (.lst xs) ∧ H6 bz = some (.lst ys) ∧ xs.length + ys.length ≤ sizeLine ∧
          (fun σ H' => Same H H' ∧ H' B = some (.lst bl) ∧ ∃ (ps : List Addr) (v4 : Option V), σ = [some (.ref qa), some (.bl fl), some (.ref l), some (.ref p), v4] ∧ H' l = some (.lst (ps.map V.ref)) ∧ Prq K H' ps (dn ++ [.tuple (.str wd :: x)] ++ ((bs.take (j + 1)).map Tr.pre).flatten)) [some (.ref qa), some (.bl fl), some (.ref l), some (.ref p), some (.ref qb)] (upd H6 lz (.lst (xs ++ ys)))) E0 := by
        intro f2
        refine ⟨qb, ub, b, f2, rfl, Same.tup sm5 hqb, TrL.keep (Keeps.of_same sm5) hub, hdb, bc, fun D pD H6 sm6 hD0 hD hpD => ?_⟩
        have pdl := hpD.len
        have hl6 := sm6 _ _ hl5
        refine ⟨l, D, _, _, rfl, rfl, hl6, hD, ?_, Same.grow hl0 (sm5.trans sm6), ?_, ps5 ++ pD, _, rfl, ?_, ?_⟩
        · rw [List.length_map, List.length_map, sizeLine_eq]
          omega
        · rw [upd_ne nBl.symm]
          exact sm6 _ _ hB5
        · rw [upd_same, List.map_append]
        · rw [pre_flat hb, ← List.append_assoc]
          exact Prq.keep (fun _ _ h => tup_lst hl6 h) (keep_lst hl6) (Prq.app hpD (Prq.keep (fun _ _ h => sm6 _ _ h) (Keeps.of_same sm6) hp5))
      have hp5' : SqT K H5 p (.str wd :: rest) := Same.tup sm5 hpt
      refine ⟨_, rfl, fl, rfl, ite2 (fun _ => call true) (fun _ => ?_)⟩
      refine ⟨_, rfl, p, _, 0, _, rfl, rfl, hp5', at0, rfl, call _⟩
    · rintro σ H5 ⟨sm5, hB5, ps5, v4', rfl, hl5, hp5⟩
      rw [bll, List.take_length] at hp5
      refine ⟨sm5, ps5, _, r2, _, _, rfl, hl5, hp5, ht2, hd2, ?_⟩
      rw [epre, er]
      simp
  · rintro σ H' ⟨sm, ps, dn, r, v3, v4, rfl, hl, hp, htr, hdr, epre⟩
    rw [List.drop_length] at htr
    have er : r = .nil := by
      cases r with
      | nil => rfl
      | leaf _ _ _ => obtain ⟨_, _, _, e, _⟩ := htr; cases e
      | loop _ _ _ => obtain ⟨_, _, _, _, _, e, _⟩ := htr; cases e
      | iff _ _ _ _ => obtain ⟨_, _, _, _, _, _, _, e, _⟩ := htr; cases e
    subst er
    have ep : t.pre = dn := by rw [epre]; exact List.append_nil _
    exact ⟨_, rfl, q l ps H' sm hl0 hl (by rw [ep]; exact hp)⟩
theorem ok_ls (T : Txt w K mg) : ∀ m : Nat, FnOk P w K mg base CX0 (m + 4) T.a_list_statements T.d_list_statements p_list_statements (spLs K m)
  | 0 => ok_ls0 T (fn_vac fun _ _ _ _ h => h)
  | m + 1 => ok_ls0 T (ok_ls T m)
def spCnt (K : PySem.W.Frag) (m : Nat) : Sp := fun vs H Q _ => ∃ (q : Addr) (us : List V) (t : Tr), vs = [.ref q] ∧ SqT K H q us ∧ TrL K H t us ∧ t.dep m ∧ t.cnt ≤ 400 ∧ ∀ H', Same H H' → Q (.int (t.cnt : Int)) H'
theorem ok_count0 (T : Txt w K mg) {m : Nat} (g_count_statements : FnOk P w K mg base CX0 (m + 4) T.a_count_statements T.d_count_statements p_count_statements (match m with | 0 => fun _ _ _ _ => False | k + 1 => spCnt K k)) :
    FnOk P w K mg base CX0 (m + 5) T.a_count_statements T.d_count_statements p_count_statements (spCnt K m) := by
  have g_bodies_of := ok_bodies_of (P := P) (base := base) T
  refine T.F_count_statements.ok sc_count_statements (fun vs H Q E h => ?_) (fun cdv A outer s H vs Q E hr h => ?_)
  · obtain ⟨q, us, t, rfl, _⟩ := h
    rfl
  obtain ⟨qa, us, t, rfl, hq, ht, hd, hc, q⟩ := h
  refine ⟨_, (pss_cons (ps_set (i := 1) sc_count_statements.nd rfl (Or.inl rfl) (pe_callB call_len_seq rfl T.z_len PySem.boot_len (pa_cons (pv 0) pa_nil)))
      (pss_cons (ps_for PassesOwn.never rfl (pi_tup (pv 0)) (pg_name (i := 2) sc_count_statements.nd rfl (Or.inl rfl))
        (pss_one (ps_for PassesOwn.never rfl (pi_list (pe_call g_bodies_of (hr.mono (by first | decide | omega)) rfl T.m_bodies_of T.F_bodies_of.kp T.b_bodies_of .nil pass0 (pa_cons (pv 2) pa_nil))) (pg_name (i := 3) sc_count_statements.nd rfl (Or.inl rfl))
        (pss_one (ps_aug (i := 1) sc_count_statements.nd rfl (Or.inl rfl) (pe_call g_count_statements (hr.mono (by first | decide | omega)) rfl T.m_count_statements T.F_count_statements.kp T.b_count_statements .nil pass0 (pa_cons (pv 3) pa_nil)) ip_add)))))
      (pss_one (ps_ret (pv 1))))), ?_⟩
  refine ⟨_, rfl, qa, _, rfl, .inr hq, ?_⟩
  refine ⟨_, rfl, qa, rfl, ⟨_, hq⟩, for_tup (K := K) (a := qa) (xs := us) (fun i σ H' => Same H H' ∧ ∃ (c : Nat) (r : Tr) (v2 v3 : Option V), σ = [some (.ref qa), some (.int (c : Int)), v2, v3] ∧ TrL K H r (us.drop i) ∧ r.dep m ∧ c + r.cnt = t.cnt + r.len ∧ r.cnt ≤ 400)
    ⟨.refl _, us.length, t, none, none, rfl, ht, hd, by rw [TrL.len ht]; omega, hc⟩ (fun i σ H' _ ⟨h, _⟩ => Same.tup h hq) ?_ ?_⟩
  · rintro i v σ H' hi ⟨sm, c, r, v2, v3, rfl, htr, hdr, ec, rc⟩
    have hil : i < us.length := (List.getElem?_eq_some_iff.mp hi).1
    have dr : us.drop i = v :: us.drop (i + 1) := by
      rw [List.drop_eq_getElem_cons hil]
      congr 1
      exact (List.getElem?_eq_some_iff.mp hi).2
    have rl := TrL.len htr
    rw [dr] at htr rl
    obtain ⟨p, wd, rest, roles, r2, x, bs, rfl, hpt, htb, hlen, h10, ht2, hd2, er, hbo⟩ := htr.bods hdr
    have rl2 := TrL.len ht2
    have ln := congrArg List.length er
    rw [List.length_cons, List.length_append, Tr.pre_len, Tr.pre_len] at ln
    rw [List.length_cons] at rl
    have hptA := Same.tup sm hpt
    refine ⟨_, rfl, p, wd, rest, roles, rfl, hptA, htb, hlen, h10, fun B HB smB hB0 hB => ?_⟩
    generalize hbl : bodL roles rest = bl at hbo hB
    have bll := hbo.len
    refine ⟨B, rfl, ⟨_, SqL.of hB⟩, for_list (K := K) (a := B) (xs := bl) (fun j σ H5 => Same H H5 ∧ H5 B = some (.lst bl) ∧ ∃ (v3 : Option V), σ = [some (.ref qa), some (.int ((c + ((bs.take j).map Tr.pre).flatten.length : Nat) : Int)), some (.ref p), v3])
      ⟨sm.trans smB, hB, v3, by simp⟩ (fun j σ H5 _ ⟨_, h, _⟩ => SqL.of h) ?_ ?_⟩
    · rintro j y σ H5 hj ⟨sm5, hB5, v3, rfl⟩
      have hjl : j < bs.length := bll ▸ (List.getElem?_eq_some_iff.mp hj).1
      have hb := List.getElem?_eq_getElem hjl
      obtain ⟨qb, ub, rfl, hqb, hub, k, rfl, hdb⟩ := hbo.get hb hj
      generalize bs[j] = b at hb hub hdb
      have pp := pre_part hb
      have bl2 := Tr.pre_len b
      refine ⟨_, rfl, _, rfl, qb, ub, b, rfl, Same.tup sm5 hqb, TrL.keep (Keeps.of_same sm5) hub, hdb, by omega, fun H6 sm6 => ?_⟩
      refine ⟨_, _, rfl, rfl, sm5.trans sm6, sm6 _ _ hB5, some (.ref qb), ?_⟩
      rw [pre_flat hb, List.length_append, bl2, Int.natCast_add, Int.natCast_add, Int.natCast_add, ← Int.add_assoc]
      rfl
    · rintro σ H5 ⟨sm5, hB5, v3', rfl⟩
      rw [bll, List.take_length]
      exact ⟨sm5, _, r2, _, _, rfl, ht2, hd2, by omega, by omega⟩
  · rintro σ H' ⟨sm, c, r, v2, v3, rfl, htr, hdr, ec, rc⟩
    rw [List.drop_length] at htr
    have er : r = .nil := by
      cases r with
      | nil => rfl
      | leaf _ _ _ => obtain ⟨_, _, _, e, _⟩ := htr; cases e
      | loop _ _ _ => obtain ⟨_, _, _, _, _, e, _⟩ := htr; cases e
      | iff _ _ _ _ => obtain ⟨_, _, _, _, _, _, _, e, _⟩ := htr; cases e
    subst er
    have ep : c = t.cnt := ec
    subst ep
    exact ⟨_, rfl, q H' sm⟩
theorem ok_count (T : Txt w K mg) : ∀ m : Nat, FnOk P w K mg base CX0 (m + 5) T.a_count_statements T.d_count_statements p_count_statements (spCnt K m)
  | 0 => ok_count0 T (fn_vac fun _ _ _ _ h => h)
  | m + 1 => ok_count0 T (ok_count T m)
end
/-! ### nodes -/
def Tr.single : Tr → Tr
  | .nil => .nil
  | .leaf w d _ => .leaf w d .nil
  | .loop e b _ => .loop e b .nil
  | .iff e b c _ => .iff e b c .nil
theorem isN_nil : Tr.nil.isN = true := rfl
theorem nodes_split {t : Tr} (h : 1 ≤ t.len) (p a : Nat) (br : Option Nat) (lv : Nat) : nodesT t p a br lv = nodesT t.single p (if (t.drop 1).isN = true then a else p + t.single.cnt) br lv ++ nodesT (t.drop 1) (p + t.single.cnt) a br lv := by
  cases t with
  | nil => simp [Tr.len] at h
  | leaf w d r => simp [Tr.single, nodesT, Tr.cnt, isN_nil, Tr.drop]
  | loop e b r =>
    have e1 : p + 1 + b.cnt = p + (1 + b.cnt) := by omega
    simp [Tr.single, nodesT, Tr.cnt, isN_nil, Tr.drop, e1]
  | iff e b c r =>
    have e1 : p + 1 + b.cnt + c.cnt = p + (1 + b.cnt + c.cnt) := by omega
    simp [Tr.single, nodesT, Tr.cnt, isN_nil, Tr.drop, e1]
theorem cnt_split (t : Tr) : t.cnt = t.single.cnt + (t.drop 1).cnt := by
  cases t <;> simp [Tr.single, Tr.cnt, Tr.drop]
theorem TrL.split {K : PySem.W.Frag} {H : Hp} {t : Tr} {v : V} {vs : List V} (h : TrL K H t (v :: vs)) : TrL K H t.single [v] ∧ TrL K H (t.drop 1) vs := by
  cases t with
  | nil => cases h
  | leaf w d r =>
    obtain ⟨p, xs, ws, e, h1, h2, h3, h4⟩ := h
    obtain ⟨rfl, rfl⟩ := List.cons.inj e
    exact ⟨⟨p, xs, [], rfl, h1, h2, h3, rfl⟩, by rw [drop1_leaf]; exact h4⟩
  | loop x b r =>
    obtain ⟨p, y, q, us, ws, e, h1, h2, h3, h4, h5⟩ := h
    obtain ⟨rfl, rfl⟩ := List.cons.inj e
    exact ⟨⟨p, y, q, us, [], rfl, h1, h2, h3, h4, rfl⟩, by rw [drop1_loop]; exact h5⟩
  | iff x b c r =>
    obtain ⟨p, y, q, us, q2, us2, ws, e, h1, h2, h3, h4, h5, h6, h7⟩ := h
    obtain ⟨rfl, rfl⟩ := List.cons.inj e
    exact ⟨⟨p, y, q, us, q2, us2, [], rfl, h1, h2, h3, h4, h5, h6, rfl⟩, by rw [drop1_iff]; exact h7⟩
theorem dep_split {m : Nat} {t : Tr} (h : t.dep m) : t.single.dep m ∧ (t.drop 1).dep m := by
  cases t with
  | nil => exact ⟨by cases m <;> trivial, by cases m <;> trivial⟩
  | leaf w d r => exact ⟨by cases m <;> trivial, by rw [drop1_leaf]; exact dep_leaf h⟩
  | loop x b r =>
    obtain ⟨k, rfl, d1, d2⟩ := dep_loop h
    exact ⟨⟨d1, trivial⟩, by rw [drop1_loop]; exact d2⟩
  | iff x b c r =>
    obtain ⟨k, rfl, d1, d2, d3⟩ := dep_iff h
    exact ⟨⟨d1, d2, trivial⟩, by rw [drop1_iff]; exact d3⟩
def onV : Option Nat → V
  | none => .non
  | some n => .int (n : Int)
theorem on_dp {K : PySem.W.Frag} {n : Nat} {H : Hp} (o : Option Nat) : DT K (n + 1) H (onV o) (optD o) := by
  cases o with
  | none => exact ⟨.non, trivial⟩
  | some n => exact ⟨.int _, trivial⟩
theorem node_at {K : PySem.W.Frag} {n : Nat} {H : Hp} {p : Addr} {x : V} {d : PyData} {a b : Option Nat} (h : SqT K H p [x, onV a, onV b]) (q : DT K (n + 1) H x d) : DT K (n + 2) H (.ref p) (nodeD d a b) :=
  DT.tup h ⟨q, on_dp a, on_dp b, trivial⟩ (by show 3 ≤ 1000; decide)
theorem test_at {K : PySem.W.Frag} {n : Nat} {H : Hp} {p : Addr} {x : V} {d : PyData} (h : SqT K H p [.str "test", x]) (q : DT K (n + 1) H x d) : DT K (n + 2) H (.ref p) (testD d) :=
  DT.tup h ⟨⟨.str _, trivial⟩, q, trivial⟩ (by show 2 ≤ 1000; decide)
def spBn (K : PySem.W.Frag) (m : Nat) : Sp := fun vs H Q _ => ∃ (q : Addr) (us : List V) (t : Tr) (p a : Nat) (br : Option Nat) (lv : Nat) (w3 : Addr), vs = [.ref q, .int (p : Int), .ref w3] ∧ SqT K H q us ∧ TrL K H t us ∧ t.dep m ∧ t.cnt ≤ 400 ∧ SqT K H w3 [.int (a : Int), onV br, .int (lv : Int)] ∧
  ∀ (D : Addr) (ns : List V) (H' : Hp), Same H H' → H D = none → H' D = some (.lst ns) → DTs K 9 H' ns (nodesT t p a br lv) → Q (.ref D) H'
def spSn (K : PySem.W.Frag) (m : Nat) : Sp := fun vs H Q _ => ∃ (v : V) (t : Tr) (p a : Nat) (br : Option Nat) (lv : Nat) (w3 : Addr), vs = [v, .int (p : Int), .ref w3] ∧ TrL K H t [v] ∧ t.dep m ∧ t.cnt ≤ 400 ∧ SqT K H w3 [.int (a : Int), onV br, .int (lv : Int)] ∧
  ∀ (D : Addr) (ns : List V) (H' : Hp), Same H H' → H D = none → H' D = some (.lst ns) → DTs K 9 H' ns (nodesT t p a br lv) → Q (.ref D) H'
def spFp (K : PySem.W.Frag) : Sp := fun vs H Q _ => ∃ (q : Addr) (us : List V) (t : Tr) (p a : Nat), vs = [.ref q, .int (p : Int), .int (a : Int)] ∧ SqT K H q us ∧ TrL K H t us ∧ Q (.int (t.first p a : Nat)) H
theorem TrL.isN {K : PySem.W.Frag} {H : Hp} {t : Tr} {us : List V} (h : TrL K H t us) : us.isEmpty = t.isN := by
  have l := h.len
  cases t <;> cases us <;> simp [Tr.len, Tr.isN] at l ⊢
theorem leaf_no {w : Str} {roles : List Str} (h : (w, roles) ∈ tb_PARTS) (n : ("body" : Str) ∉ roles) (e : w = "if" ∨ w = "while") : False := by
  have key : ∀ q ∈ tb_PARTS, (q.1 = ("if" : Str) ∨ q.1 = ("while" : Str)) → ("body" : Str) ∈ q.2 := by decide +kernel
  exact n (key _ h e)
section
variable {P : Program} {w : World} {K : PySem.W.Frag} {mg : Str → Option Value} {base : Heap}
theorem ok_first (T : Txt w K mg) : FnOk P w K mg base CX0 1 T.a_first_place T.d_first_place p_first_place (spFp K) := by
  refine T.F_first_place.ok sc_first_place (fun vs H Q E h => ?_) (fun cdv A outer s H vs Q E hr h => ?_)
  · obtain ⟨q, us, t, p, a, rfl, _⟩ := h
    rfl
  obtain ⟨qa, us, t, p, a, rfl, hq, ht, q⟩ := h
  refine ⟨_, (pss_one (ps_ret (pe_ifExp (pt_truth (pv 0) (by intro _; rfl)) (pv 1) (pv 2)))), ?_⟩
  have e := ht.isN
  refine ⟨_, rfl, !us.isEmpty, .inr (.inl ⟨_, hq, rfl⟩), ?_⟩
  unfold Tr.first at q
  rw [e]
  cases h : t.isN with
  | true =>
    rw [if_pos h] at q
    exact iteF ⟨_, rfl, q⟩
  | false =>
    rw [if_neg (by rw [h]; exact Bool.false_ne_true)] at q
    exact iteT ⟨_, rfl, q⟩
theorem ok_bn0 (T : Txt w K mg) {m : Nat} (g_statement_nodes : FnOk P w K mg base CX0 (3 * m + 18) T.a_statement_nodes T.d_statement_nodes p_statement_nodes (spSn K m)) :
    FnOk P w K mg base CX0 (3 * m + 19) T.a_body_nodes T.d_body_nodes p_body_nodes (spBn K m) := by
  have g_count_statements := ok_count (P := P) (w := w) (K := K) (base := base) T m
  refine T.F_body_nodes.ok sc_body_nodes (fun vs H Q E h => ?_) (fun cdv A outer s H vs Q E hr h => ?_)
  · obtain ⟨q, us, t, p, a, br, lv, w3, rfl, _⟩ := h
    rfl
  obtain ⟨qa, us, t, p, a, br, lv, w3, rfl, hq, ht, hd, hc, hw, q⟩ := h
  refine ⟨_, (pss_cons (ps_set (i := 3) sc_body_nodes.nd rfl (Or.inl rfl) (pe_lst pa_nil))
      (pss_cons (ps_for PassesOwn.never rfl (EnT.pi_enumT (by rfl) T.z_enumerate (pa_cons (pv 0) pa_nil)) (pg_tup rfl (pgs_cons (pg_name (i := 4) sc_body_nodes.nd rfl (Or.inl rfl)) (pgs_cons (pg_name (i := 5) sc_body_nodes.nd rfl (Or.inl rfl)) pgs_nil)))
        (pss_cons (ps_set (i := 6) sc_body_nodes.nd rfl (Or.inl rfl) (pe_op op_add (pv 1) (pe_call g_count_statements (hr.mono (by first | decide | omega)) rfl T.m_count_statements T.F_count_statements.kp T.b_count_statements .nil pass0 (pa_cons (pe_tup (pa_cons (pv 5) pa_nil)) pa_nil))))
      (pss_cons (ps_set (i := 7) sc_body_nodes.nd rfl (Or.inl rfl) (pe_ifExp (pt_cmpR op_lt (pe_op op_add (pv 4) pe_int) (pe_callB call_len_seq rfl T.z_len PySem.boot_len (pa_cons (pv 0) pa_nil)) (nomark _)) (pv 6) (pe_ix ix_tup (pv 2) pe_int (fun _ _ => rfl))))
      (pss_cons (ps_expr (pe_bm PySem.F.plainAttrs_list PySem.F.slot_list_extend PySem.F.type_list_extend mt_extend (pv 3) (pa_cons (pe_call g_statement_nodes (hr.mono (by first | decide | omega)) rfl T.m_statement_nodes T.F_statement_nodes.kp T.b_statement_nodes .nil pass0 (pa_cons (pv 5) (pa_cons (pv 1) (pa_cons (pe_tup (pa_cons (pv 7) (StX.pa_star (pe_slice sl_tup (pv 2) (po_some pe_int) po_none) pa_nil))) pa_nil)))) pa_nil)))
      (pss_one (ps_set (i := 1) sc_body_nodes.nd rfl (Or.inl rfl) (pv 6)))))))
      (pss_one (ps_ret (pv 3))))), ?_⟩
  refine ⟨by show 0 ≤ sizeLine; decide, fun l hl0 => ?_⟩
  have s0 := Same.new hl0 (.lst [])
  refine ⟨_, rfl, qa, us, rfl, Same.tup s0 hq, EnT.for_enumT (K := K) (a := qa) (xs := us) (fun i σ H' => Same H H' ∧ ∃ (ns : List V) (dn : List PyData) (r : Tr) (p' : Nat) (v4 v5 v6 v7 : Option V), σ = [some (.ref qa), some (.int (p' : Int)), some (.ref w3), some (.ref l), v4, v5, v6, v7] ∧ H' l = some (.lst ns) ∧ DTs K 9 H' ns dn ∧ TrL K H r (us.drop i) ∧ r.dep m ∧ nodesT t p a br lv = dn ++ nodesT r p' a br lv)
    ⟨s0, [], [], t, p, none, none, none, none, rfl, upd_same, trivial, ht, hd, rfl⟩ (fun i σ H' ⟨h, _⟩ => Same.tup h hq) ?_ ?_⟩
  · rintro i v z σ H' hi ⟨sm, ns, dn, r, p', v4, v5, v6, v7, rfl, hl, hn, htr, hdr, enod⟩ hz
    have hil : i < us.length := (List.getElem?_eq_some_iff.mp hi).1
    have dr : us.drop i = v :: us.drop (i + 1) := by
      rw [List.drop_eq_getElem_cons hil]
      congr 1
      exact (List.getElem?_eq_some_iff.mp hi).2
    rw [dr] at htr
    have rl := htr.len
    have ul := ht.len
    obtain ⟨t1, t2⟩ := htr.split
    obtain ⟨d1, d2⟩ := dep_split hdr
    have nl := hn.len
    have nt := Tr.nodes_len t p a br lv
    have nr := Tr.nodes_len r p' a br lv
    have cs := cnt_split r
    have el := congrArg List.length enod
    rw [List.length_append, nt, nr] at el
    have sz := Same.new hz (.tup [.int (i : Nat), v])
    have hl1 := sz _ _ hl
    have sm1 := sm.trans sz
    have hn1 := hn.keep (Keeps.of_same sz)
    refine ⟨z, _, rfl, SqT.of upd_same, rfl, _, _, rfl, _, _, rfl, rfl, ?_⟩
    generalize (upd H' z (.tup [.int (i : Nat), v])) = H1 at hl1 sm1 hn1 ⊢
    -- behind
    refine ⟨_, rfl, _, rfl, by show 1 ≤ sizeLine; decide, fun u hu => ?_⟩
    have su := Same.new hu (.tup [v])
    refine ⟨u, [v], r.single, rfl, SqT.of upd_same, TrL.keep (Keeps.of_same (sm1.trans su)) t1, d1, by omega, fun H2 s2 => ⟨_, _, rfl, rfl, ?_⟩⟩
    have sm2 := (sm1.trans su).trans s2
    have hl2 := s2 _ _ (su _ _ hl1)
    have hn2 := hn1.keep (Keeps.of_same (su.trans s2))
    have hp' : (p' : Int) + (r.single.cnt : Int) = ((p' + r.single.cnt : Nat) : Int) := by omega
    have eInt : (fun i j : Int => V.int (i + j)) (p' : Int) (r.single.cnt : Int) = V.int ((p' + r.single.cnt : Nat) : Int) := congrArg V.int hp'
    rw [eInt]
    have hq2 := Same.tup sm2 hq
    have hw2 := Same.tup sm2 hw
    have l2 := t2.len
    rw [List.length_drop] at l2
    have sp := nodes_split (t := r) (by have := htr.len; simp at this; omega) p' a br lv
    refine ⟨_, rfl, _, _, rfl, rfl, _, rfl, qa, _, rfl, .inr hq2, _, _, rfl, rfl, _, rfl, ?_⟩
    by_cases hN : (r.drop 1).isN = true
    · have h0 := (Tr.isN_len _).mp hN
      rw [if_pos hN] at sp
      refine ifF (decide_eq_false (by omega)) ⟨_, rfl, w3, _, 0, _, rfl, rfl, hw2, at0, ?_⟩
      refine ⟨_, rfl, .inl ⟨rfl, _, SqL.of hl2⟩, _, rfl, _, rfl, _, rfl, _, rfl, 1, rfl, w3, _, rfl, hw2, no_whole _ _, fun t5 ht5 => ?_⟩
      rw [cut_tail]
      have s5 := Same.new ht5 (.tup [onV br, .int (lv : Int)])
      refine ⟨t5, [onV br, .int (lv : Int)], rfl, .inl (SqT.of upd_same), by show 3 ≤ sizeLine; decide, fun t6 ht6 => ?_⟩
      have s6 := s5.trans (Same.new ht6 (.tup [.int (a : Int), onV br, .int (lv : Int)]))
      have sm6 := sm2.trans s6
      refine ⟨v, r.single, p', _, br, lv, t6, rfl, TrL.keep (Keeps.of_same sm6) t1, d1, by omega, SqT.of upd_same, fun D nD H7 s7 hD0 hD hnD => ?_⟩
      have ndl := hnD.len
      have nn := Tr.nodes_len r.single p' a br lv
      have sm7 := sm6.trans s7
      have hl7 := s7 _ _ (s6 _ _ hl2)
      have hn7 := hn2.keep (Keeps.of_same (s6.trans s7))
      refine ⟨l, D, _, _, rfl, rfl, hl7, hD, by rw [sizeLine_eq]; omega, _, rfl, Same.grow hl0 sm7, ns ++ nD, dn ++ nodesT r.single p' a br lv, r.drop 1, p' + r.single.cnt, _, _, _, _, rfl, upd_same, DTs.app (hn7.keep (keep_lst hl7)) (hnD.keep (keep_lst hl7)), t2, d2, ?_⟩
      rw [enod, sp, List.append_assoc]
    · have h0 : ¬ (r.drop 1).len = 0 := fun z => hN ((Tr.isN_len _).mpr z)
      rw [if_neg hN] at sp
      refine ifT (decide_eq_true (by omega)) ⟨_, rfl, ?_⟩
      refine ⟨_, rfl, .inl ⟨rfl, _, SqL.of hl2⟩, _, rfl, _, rfl, _, rfl, _, rfl, 1, rfl, w3, _, rfl, hw2, no_whole _ _, fun t5 ht5 => ?_⟩
      rw [cut_tail]
      have s5 := Same.new ht5 (.tup [onV br, .int (lv : Int)])
      refine ⟨t5, [onV br, .int (lv : Int)], rfl, .inl (SqT.of upd_same), by show 3 ≤ sizeLine; decide, fun t6 ht6 => ?_⟩
      have s6 := s5.trans (Same.new ht6 (.tup [.int ((p' + r.single.cnt : Nat) : Int), onV br, .int (lv : Int)]))
      have sm6 := sm2.trans s6
      refine ⟨v, r.single, p', _, br, lv, t6, rfl, TrL.keep (Keeps.of_same sm6) t1, d1, by omega, SqT.of upd_same, fun D nD H7 s7 hD0 hD hnD => ?_⟩
      have ndl := hnD.len
      have nn := Tr.nodes_len r.single p' (p' + r.single.cnt) br lv
      have sm7 := sm6.trans s7
      have hl7 := s7 _ _ (s6 _ _ hl2)
      have hn7 := hn2.keep (Keeps.of_same (s6.trans s7))
      refine ⟨l, D, _, _, rfl, rfl, hl7, hD, by rw [sizeLine_eq]; omega, _, rfl, Same.grow hl0 sm7, ns ++ nD, dn ++ nodesT r.single p' (p' + r.single.cnt) br lv, r.drop 1, p' + r.single.cnt, _, _, _, _, rfl, upd_same, DTs.app (hn7.keep (keep_lst hl7)) (hnD.keep (keep_lst hl7)), t2, d2, ?_⟩
      rw [enod, sp, List.append_assoc]
  · rintro σ H' ⟨sm, ns, dn, r, p', v4, v5, v6, v7, rfl, hl, hn, htr, hdr, enod⟩
    rw [List.drop_length] at htr
    have er : r = .nil := by
      have l := htr.len
      cases r <;> simp [Tr.len] at l ⊢
    subst er
    have ep : nodesT t p a br lv = dn := by rw [enod]; exact List.append_nil _
    exact ⟨_, rfl, q l ns H' sm hl0 hl (by rw [ep]; exact hn)⟩
def spIn (K : PySem.W.Frag) (m : Nat) : Sp := fun vs H Q _ => ∃ (v : V) (e : PyData) (b c : Tr) (p a : Nat) (br : Option Nat) (lv : Nat) (w3 : Addr), vs = [v, .int (p : Int), .ref w3] ∧ TrL K H (.iff e b c .nil) [v] ∧ b.dep m ∧ c.dep m ∧ b.cnt + c.cnt ≤ 400 ∧ SqT K H w3 [.int (a : Int), onV br, .int (lv : Int)] ∧
  ∀ (D : Addr) (ns : List V) (H' : Hp), Same H H' → H D = none → H' D = some (.lst ns) → DTs K 9 H' ns (nodesT (.iff e b c .nil) p a br lv) → Q (.ref D) H'
theorem ok_in (T : Txt w K mg) {m : Nat} (g_body_nodes : FnOk P w K mg base CX0 (3 * m + 19) T.a_body_nodes T.d_body_nodes p_body_nodes (spBn K m)) :
    FnOk P w K mg base CX0 (3 * m + 20) T.a_if_nodes T.d_if_nodes p_if_nodes (spIn K m) := by
  have g_count_statements := ok_count (P := P) (w := w) (K := K) (base := base) T m
  have g_first_place := ok_first (P := P) (w := w) (K := K) (base := base) T
  refine T.F_if_nodes.ok sc_if_nodes (fun vs H Q E h => ?_) (fun cdv A outer s H vs Q E hr h => ?_)
  · obtain ⟨v, e, b, c, p, a, br, lv, w3, rfl, _⟩ := h
    rfl
  obtain ⟨v, e, b, c, p, a, br, lv, w3, rfl, ht, db, dc, hc, hw, q⟩ := h
  obtain ⟨z, x, qb, ub, qc, uc, ws, ev, h1, h2, h3, h4, h5, h6, _⟩ := ht
  obtain ⟨rfl, rfl⟩ := List.cons.inj ev
  refine ⟨_, (pss_cons (ps_asg (pv 0) (pg_tup rfl (pgs_cons (pg_name (i := 3) sc_if_nodes.nd rfl (Or.inl rfl)) (pgs_cons (pg_name (i := 4) sc_if_nodes.nd rfl (Or.inl rfl)) (pgs_cons (pg_name (i := 5) sc_if_nodes.nd rfl (Or.inl rfl)) (pgs_cons (pg_name (i := 6) sc_if_nodes.nd rfl (Or.inl rfl)) pgs_nil))))))
      (pss_cons (ps_set (i := 7) sc_if_nodes.nd rfl (Or.inl rfl) (pe_op op_add (pe_op op_add (pv 1) pe_int) (pe_call g_count_statements (hr.mono (by first | decide | omega)) rfl T.m_count_statements T.F_count_statements.kp T.b_count_statements .nil pass0 (pa_cons (pv 5) pa_nil))))
      (pss_cons (ps_set (i := 8) sc_if_nodes.nd rfl (Or.inl rfl) (pe_tup (pa_cons (pe_tup (pa_cons pe_str (pa_cons (pv 4) pa_nil))) (pa_cons (pe_call g_first_place (hr.mono (by first | decide | omega)) rfl T.m_first_place T.F_first_place.kp T.b_first_place .nil pass0 (pa_cons (pv 5) (pa_cons (pe_op op_add (pv 1) pe_int) (pa_cons (pe_ix ix_tup (pv 2) pe_int (fun _ _ => rfl)) pa_nil)))) (pa_cons (pe_call g_first_place (hr.mono (by first | decide | omega)) rfl T.m_first_place T.F_first_place.kp T.b_first_place .nil pass0 (pa_cons (pv 6) (pa_cons (pv 7) (pa_cons (pe_ix ix_tup (pv 2) pe_int (fun _ _ => rfl)) pa_nil)))) pa_nil)))))
      (pss_one (ps_ret (pe_lst (pa_cons (pv 8) (StX.pa_star (pe_call g_body_nodes (hr.mono (by first | decide | omega)) rfl T.m_body_nodes T.F_body_nodes.kp T.b_body_nodes .nil pass0 (pa_cons (pv 5) (pa_cons (pe_op op_add (pv 1) pe_int) (pa_cons (pv 2) pa_nil)))) (StX.pa_star (pe_call g_body_nodes (hr.mono (by first | decide | omega)) rfl T.m_body_nodes T.F_body_nodes.kp T.b_body_nodes .nil pass0 (pa_cons (pv 6) (pa_cons (pv 7) (pa_cons (pv 2) pa_nil)))) pa_nil))))))))), ?_⟩
  refine ⟨_, rfl, z, _, rfl, h1, rfl, _, _, rfl, _, _, rfl, _, _, rfl, _, _, rfl, rfl, ?_⟩
  refine ⟨_, rfl, _, _, rfl, rfl, _, rfl, qb, ub, b, rfl, h3, h4, db, by omega, fun H1 s1 => ⟨_, _, rfl, rfl, ?_⟩⟩
  have hw1 := Same.tup s1 hw
  refine ⟨_, rfl, by show 2 ≤ sizeLine; decide, fun t1 ht1 => ?_⟩
  have s2 := s1.trans (Same.new ht1 (.tup [.str "test", x]))
  have hw2 := Same.tup s2 hw
  refine ⟨_, rfl, _, rfl, _, _, rfl, rfl, _, rfl, w3, _, 0, _, rfl, rfl, hw2, at0, qb, ub, b, p + 1, a, rfl, Same.tup s2 h3, TrL.keep (Keeps.of_same s2) h4, ?_⟩
  refine ⟨_, rfl, _, rfl, _, rfl, w3, _, 0, _, rfl, rfl, hw2, at0, qc, uc, c, p + 1 + b.cnt, a, rfl, Same.tup s2 h5, TrL.keep (Keeps.of_same s2) h6, by show 3 ≤ sizeLine; decide, fun t2 ht2 => ?_⟩
  generalize hF1 : b.first (p + 1) a = f1 at ht2 ⊢
  generalize hF2 : c.first (p + 1 + b.cnt) a = f2 at ht2 ⊢
  have s3 := s2.trans (Same.new ht2 (.tup [.ref t1, .int (f1 : Int), .int (f2 : Int)]))
  have kx := Keeps.of_same (K := K) s3
  have n1 : DT K 9 (upd (upd H1 t1 (.tup [.str "test", x])) t2 (.tup [.ref t1, .int (f1 : Int), .int (f2 : Int)])) (.ref t2) (nodeD (testD e) (some f1) (some f2)) :=
    (node_at (n := 7) (a := some f1) (b := some f2) (SqT.of upd_same) ((test_at (n := 6) (Same.tup (Same.new ht2 _) (SqT.of upd_same)) ((h2.keep kx).up (by decide))).up (by decide)))
  generalize (upd (upd H1 t1 (.tup [.str "test", x])) t2 (.tup [.ref t1, .int (f1 : Int), .int (f2 : Int)])) = H3 at s3 kx n1 ⊢
  have nb := Tr.nodes_len b (p + 1) a br lv
  have nc := Tr.nodes_len c (p + 1 + b.cnt) a br lv
  refine ⟨_, rfl, _, rfl, _, rfl, _, _, rfl, rfl, _, rfl, qb, ub, b, p + 1, a, br, lv, w3, rfl, Same.tup s3 h3, TrL.keep kx h4, db, by omega, Same.tup s3 hw, fun D1 n2 H4 s4 hD10 hD1 hn2 => ?_⟩
  have s34 := s3.trans s4
  refine ⟨D1, n2, rfl, .inr (SqL.of hD1), _, rfl, _, rfl, _, rfl, qc, uc, c, p + 1 + b.cnt, a, br, lv, w3, rfl, Same.tup s34 h5, TrL.keep (Keeps.of_same s34) h6, dc, by omega, Same.tup s34 hw, fun D2 n3 H5 s5 hD20 hD2 hn3 => ?_⟩
  have l2 := hn2.len
  have l3 := hn3.len
  refine ⟨D2, n3, rfl, .inr (SqL.of hD2), by rw [sizeLine_eq]; simp; omega, fun D hD => ?_⟩
  have s35 := s34.trans s5
  have kD := Keeps.of_same (K := K) (Same.new hD (.lst (.ref t2 :: (n2 ++ (n3 ++ [])))))
  refine q D (.ref t2 :: (n2 ++ (n3 ++ []))) _ (s35.trans (Same.new hD _)) (s35.free hD) upd_same ?_
  have eN : nodesT (.iff e b c .nil) p a br lv = nodeD (testD e) (some f1) (some f2) :: (nodesT b (p + 1) a br lv ++ (nodesT c (p + 1 + b.cnt) a br lv ++ [])) := by
    rw [← hF1, ← hF2]
    rfl
  rw [eN]
  refine DTs.keep kD ⟨n1.keep (Keeps.of_same (s4.trans s5)), DTs.app (hn2.keep (Keeps.of_same s5)) (DTs.app hn3 trivial)⟩
theorem ok_sn0 (T : Txt w K mg) {m : Nat} (g_body_nodes : FnOk P w K mg base CX0 (3 * m + 16) T.a_body_nodes T.d_body_nodes p_body_nodes (match m with | 0 => fun _ _ _ _ => False | k + 1 => spBn K k))
    (g_if_nodes : FnOk P w K mg base CX0 (3 * m + 17) T.a_if_nodes T.d_if_nodes p_if_nodes (match m with | 0 => fun _ _ _ _ => False | k + 1 => spIn K k)) :
    FnOk P w K mg base CX0 (3 * m + 18) T.a_statement_nodes T.d_statement_nodes p_statement_nodes (spSn K m) := by
  have g_first_place := ok_first (P := P) (w := w) (K := K) (base := base) T
  refine T.F_statement_nodes.ok sc_statement_nodes (fun vs H Q E h => ?_) (fun cdv A outer s H vs Q E hr h => ?_)
  · obtain ⟨v, t, p, a, br, lv, w3, rfl, _⟩ := h
    rfl
  obtain ⟨v, t, p, a, br, lv, w3, rfl, ht, hd, hc, hw, q⟩ := h
  refine ⟨_, (pss_cons (ps_asg (pv 2) (pg_tup rfl (pgs_cons (pg_name (i := 3) sc_statement_nodes.nd rfl (Or.inl rfl)) (pgs_cons (pg_name (i := 4) sc_statement_nodes.nd rfl (Or.inl rfl)) (pgs_cons (pg_name (i := 5) sc_statement_nodes.nd rfl (Or.inl rfl)) pgs_nil)))))
      (pss_cons (ps_set (i := 6) sc_statement_nodes.nd rfl (Or.inl rfl) (pe_ix ix_tup (pv 0) pe_int (fun _ _ => rfl)))
      (pss_cons (ps_if (pt_cmpR op_eq (pv 6) pe_str (nomark _)) (pss_one (ps_ret (pe_call g_if_nodes (hr.mono (by first | decide | omega)) rfl T.m_if_nodes T.F_if_nodes.kp T.b_if_nodes .nil pass0 (pa_cons (pv 0) (pa_cons (pv 1) (pa_cons (pv 2) pa_nil)))))) pss_nil)
      (pss_cons (ps_if (pt_cmpR op_eq (pv 6) pe_str (nomark _)) (pss_cons (ps_set (i := 7) sc_statement_nodes.nd rfl (Or.inl rfl) (pe_call g_body_nodes (hr.mono (by first | decide | omega)) rfl T.m_body_nodes T.F_body_nodes.kp T.b_body_nodes .nil pass0 (pa_cons (pe_ix ix_tup (pv 0) pe_int (fun _ _ => rfl)) (pa_cons (pe_op op_add (pv 1) pe_int) (pa_cons (pe_tup (pa_cons (pv 1) (pa_cons (pv 3) (pa_cons (pv 5) pa_nil)))) pa_nil)))))
      (pss_cons (ps_set (i := 8) sc_statement_nodes.nd rfl (Or.inl rfl) (pe_call g_first_place (hr.mono (by first | decide | omega)) rfl T.m_first_place T.F_first_place.kp T.b_first_place .nil pass0 (pa_cons (pe_ix ix_tup (pv 0) pe_int (fun _ _ => rfl)) (pa_cons (pe_op op_add (pv 1) pe_int) (pa_cons (pv 1) pa_nil)))))
      (pss_one (ps_ret (pe_lst (pa_cons (pe_tup (pa_cons (pe_tup (pa_cons pe_str (pa_cons (pe_ix ix_tup (pv 0) pe_int (fun _ _ => rfl)) pa_nil))) (pa_cons (pv 8) (pa_cons (pv 3) pa_nil)))) (StX.pa_star (pv 7) pa_nil))))))) pss_nil)
      (pss_cons (ps_if (pt_cmpR op_eq (pv 6) pe_str (nomark _)) (pss_one (ps_ret (pe_lst (pa_cons (pe_tup (pa_cons (pe_tup (pa_cons pe_str pa_nil)) (pa_cons (pv 4) (pa_cons pe_non pa_nil)))) pa_nil)))) pss_nil)
      (pss_one (ps_ret (pe_lst (pa_cons (pe_tup (pa_cons (pv 0) (pa_cons (pe_ifExp (pt_cmpR op_eq (pv 6) pe_str (nomark _)) (pv 5) (pv 3)) (pa_cons pe_non pa_nil)))) pa_nil))))))))), ?_⟩
  refine ⟨_, rfl, w3, _, rfl, hw, rfl, _, _, rfl, _, _, rfl, _, _, rfl, rfl, ?_⟩
  have T2 : ∀ {w z : Str}, decide (V.str w = V.str z) = true → w = z := fun h => V.str.inj (of_decide_eq_true h)
  have T1 : ∀ {w z : Str}, ¬ (decide (V.str w = V.str z) = true) → w ≠ z := fun h e => h (decide_eq_true (congrArg V.str e))
  cases t with
  | nil => cases ht
  | leaf wd d r =>
    obtain ⟨z, xs, ws, ev, h1, h2, h3, h4⟩ := ht
    obtain ⟨rfl, rfl⟩ := List.cons.inj ev
    have er : r = .nil := by
      have l := h4.len
      cases r <;> simp [Tr.len] at l ⊢
    subst er
    obtain ⟨roles, r1, r2, r3, r4⟩ := h3
    have nif : wd ≠ "if" := fun e => leaf_no (by rw [e] at r1; exact r1) r4 (.inl rfl)
    have nwh : wd ≠ "while" := fun e => leaf_no (by rw [e] at r1; exact r1) r4 (.inr rfl)
    refine ⟨_, rfl, z, _, 0, _, rfl, rfl, h1, at0, _, rfl, rfl, _, rfl, ifF (decide_eq_false fun e => nif (V.str.inj e)) ⟨_, rfl, rfl, _, rfl, ifF (decide_eq_false fun e => nwh (V.str.inj e)) ⟨_, rfl, rfl, _, rfl, ite2 (fun c => ?_) (fun c => ?_)⟩⟩⟩
    · obtain rfl := T2 c
      refine ⟨by show 1 ≤ sizeLine; decide, fun u hu => ⟨_, rfl, by show 3 ≤ sizeLine; decide, fun y hy => ⟨by show 1 ≤ sizeLine; decide, fun D hD => ?_⟩⟩⟩
      have s1 := Same.new hu (.tup [.str "go"])
      have s2 := s1.trans (Same.new hy (.tup [.ref u, onV br, .non]))
      have s3 := s2.trans (Same.new hD (.lst [.ref y]))
      refine q D [.ref y] _ s3 (s2.free hD) upd_same ⟨?_, trivial⟩
      have e0 : leafN ("break" : Str) d a br lv = nodeD (.tuple [.str "go"]) br none := by unfold leafN; rw [if_pos rfl]
      show DT K 9 _ (.ref y) (leafN ("break" : Str) d a br lv)
      rw [e0]
      exact node_at (n := 7) (a := br) (b := none) (Same.tup (Same.new hD _) (SqT.of upd_same)) (DT.tup (n := 7) (Same.tup ((Same.new hy _).trans (Same.new hD _)) (SqT.of upd_same)) ⟨⟨.str _, trivial⟩, trivial⟩ (by decide))
    · have nbr := T1 c
      have hl : d.length ≤ 10 := by omega
      have dx : ∀ {H' : Hp}, Same H H' → DT K 8 H' (.ref z) (.tuple (.str wd :: d)) := fun s => (DT.tup (n := 6) (ds := .str wd :: d) (Same.tup s h1) ⟨⟨.str _, trivial⟩, h2.keep (Keeps.of_same s)⟩ (by show d.length + 1 ≤ 1000; omega)).up (by decide)
      have fin : ∀ (nx : Nat), nx = (if wd = "return" then lv else a) → ∀ (y : Addr), H y = none → ∀ (D : Addr), (upd H y (.tup [.ref z, .int (nx : Int), .non])) D = none → Q (.ref D) (upd (upd H y (.tup [.ref z, .int (nx : Int), .non])) D (.lst [.ref y])) := by
        intro nx en y hy D hD
        have s2 := Same.new hy (.tup [.ref z, .int (nx : Int), .non])
        refine q D [.ref y] _ (s2.trans (Same.new hD _)) (s2.free hD) upd_same ⟨?_, trivial⟩
        have e0 : leafN wd d a br lv = nodeD (.tuple (.str wd :: d)) (some nx) none := by unfold leafN; rw [if_neg nbr, en]
        show DT K 9 _ (.ref y) (leafN wd d a br lv)
        rw [e0]
        exact node_at (n := 7) (a := some nx) (b := none) (Same.tup (Same.new hD _) (SqT.of upd_same)) (dx (s2.trans (Same.new hD _)))
      refine ⟨_, rfl, _, rfl, rfl, _, rfl, ite2 (fun c => ?_) (fun c => ?_)⟩
      · refine ⟨_, rfl, by show 3 ≤ sizeLine; decide, fun y hy => ⟨by show 1 ≤ sizeLine; decide, fun D hD => fin lv (by rw [if_pos (T2 c)]) y hy D hD⟩⟩
      · refine ⟨_, rfl, by show 3 ≤ sizeLine; decide, fun y hy => ⟨by show 1 ≤ sizeLine; decide, fun D hD => fin a (by rw [if_neg (T1 c)]) y hy D hD⟩⟩
  | loop e b r =>
    obtain ⟨z, x, qb, ub, ws, ev, h1, h2, h3, h4, h5⟩ := ht
    obtain ⟨rfl, rfl⟩ := List.cons.inj ev
    have er : r = .nil := by
      have l := h5.len
      cases r <;> simp [Tr.len] at l ⊢
    subst er
    obtain ⟨k, rfl, db, _⟩ := dep_loop hd
    simp only [Tr.cnt] at hc
    refine ⟨_, rfl, z, _, 0, _, rfl, rfl, h1, rfl, _, rfl, rfl, _, rfl, ifF (by decide +kernel) ⟨_, rfl, rfl, _, rfl, ifT (by decide +kernel) ?_⟩⟩
    refine ⟨_, rfl, z, _, 2, _, rfl, rfl, h1, rfl, _, rfl, _, _, rfl, rfl, _, rfl, _, rfl, _, rfl, by show 3 ≤ sizeLine; decide, fun t1 ht1 => ?_⟩
    have s1 := Same.new ht1 (.tup [.int (p : Int), .int (a : Int), .int (lv : Int)])
    refine ⟨qb, ub, b, p + 1, p, some a, lv, t1, rfl, Same.tup s1 h3, TrL.keep (Keeps.of_same s1) h4, db, by omega, SqT.of upd_same, fun D1 n2 H2 s2 hD10 hD1 hn2 => ?_⟩
    have s12 := s1.trans s2
    have h1' := Same.tup s12 h1
    refine ⟨_, rfl, z, _, 2, _, rfl, rfl, h1', rfl, _, rfl, _, _, rfl, rfl, _, rfl, qb, ub, b, p + 1, p, rfl, Same.tup s12 h3, TrL.keep (Keeps.of_same s12) h4, ?_⟩
    generalize hF : b.first (p + 1) p = f1
    refine ⟨_, rfl, z, _, 1, _, rfl, rfl, h1', rfl, by show 2 ≤ sizeLine; decide, fun t2 ht2 => ⟨_, rfl, _, rfl, by show 3 ≤ sizeLine; decide, fun t3 ht3 => ?_⟩⟩
    have s3 := Same.new ht2 (.tup [.str "test", x])
    have s4 := Same.new ht3 (.tup [.ref t2, .int (f1 : Int), .int (a : Int)])
    have l2 := hn2.len
    have nn := Tr.nodes_len b (p + 1) p (some a) lv
    refine ⟨_, rfl, D1, n2, rfl, .inr (SqL.of (s4 _ _ (s3 _ _ hD1))), by rw [sizeLine_eq]; simp; omega, fun D hD => ?_⟩
    have s5 := Same.new hD (.lst (.ref t3 :: (n2 ++ [])))
    have sA := (s12.trans s3).trans s4
    refine q D (.ref t3 :: (n2 ++ [])) _ (sA.trans s5) (sA.free hD) upd_same ?_
    have eN : nodesT (.loop e b .nil) p a br lv = nodeD (testD e) (some f1) (some a) :: (nodesT b (p + 1) p (some a) lv ++ []) := by
      rw [← hF]
      rfl
    rw [eN]
    exact ⟨node_at (n := 7) (a := some f1) (b := some a) (Same.tup s5 (SqT.of upd_same)) ((test_at (n := 6) (Same.tup (s4.trans s5) (SqT.of upd_same)) ((h2.keep (Keeps.of_same (sA.trans s5))).up (by decide))).up (by decide)), DTs.app (hn2.keep (Keeps.of_same ((s3.trans s4).trans s5))) trivial⟩
  | iff e b c r =>
    obtain ⟨z, x, qb, ub, qc, uc, ws, ev, h1, h2, h3, h4, h5, h6, h7⟩ := ht
    obtain ⟨rfl, rfl⟩ := List.cons.inj ev
    have er : r = .nil := by
      have l := h7.len
      cases r <;> simp [Tr.len] at l ⊢
    subst er
    obtain ⟨k, rfl, db, dc, _⟩ := dep_iff hd
    simp only [Tr.cnt] at hc
    exact ⟨_, rfl, z, _, 0, _, rfl, rfl, h1, rfl, _, rfl, rfl, _, rfl, ifT (by decide +kernel) ⟨_, rfl, _, rfl, _, rfl, .ref z, e, b, c, p, a, br, lv, w3, rfl, ⟨z, x, qb, ub, qc, uc, [], rfl, h1, h2, h3, h4, h5, h6, rfl⟩, db, dc, by omega, hw, q⟩⟩
theorem ok_bn (T : Txt w K mg) : ∀ m : Nat, FnOk P w K mg base CX0 (3 * m + 19) T.a_body_nodes T.d_body_nodes p_body_nodes (spBn K m)
  | 0 => ok_bn0 T (ok_sn0 T (fn_vac fun _ _ _ _ h => h) (fn_vac fun _ _ _ _ h => h))
  | m + 1 => ok_bn0 T (ok_sn0 T (ok_bn T m) (ok_in T (ok_bn T m)))
end
/-! ### nodes and heads -/
def FnAt (K : PySem.W.Frag) (H : Hp) (F : Addr) (t : Tr) : Prop := ∃ v0 v1 v2 v3 q us, SqT K H F [v0, v1, v2, v3, .ref q] ∧ SqT K H q us ∧ TrL K H t us
theorem FnAt.keep {K : PySem.W.Frag} {H H' : Hp} (k : Keeps K H H') {F : Addr} {t : Tr} (h : FnAt K H F t) : FnAt K H' F t := by
  obtain ⟨v0, v1, v2, v3, q, us, h1, h2, h3⟩ := h
  exact ⟨v0, v1, v2, v3, q, us, k _ _ h1, k _ _ h2, TrL.keep k h3⟩
def isWh : PyData → Bool
  | .tuple (.str w :: _) => decide (w = ("while" : Str))
  | _ => false
def hdsL : List PyData → Nat → List Int
  | [], _ => []
  | d :: ds, i => if isWh d = true then (i : Int) :: hdsL ds (i + 1) else hdsL ds (i + 1)
theorem hdsL_snoc (d : PyData) : ∀ (l : List PyData) (i : Nat), hdsL (l ++ [d]) i = hdsL l i ++ (if isWh d = true then [((i + l.length : Nat) : Int)] else [])
  | [], i => by
    show (if isWh d = true then (i : Int) :: hdsL [] (i + 1) else hdsL [] (i + 1)) = _
    rfl
  | x :: l, i => by
    have h := hdsL_snoc d l (i + 1)
    have e : i + 1 + l.length = i + (x :: l).length := by simp; omega
    rw [e] at h
    show (if isWh x = true then (i : Int) :: hdsL (l ++ [d]) (i + 1) else hdsL (l ++ [d]) (i + 1)) = (if isWh x = true then (i : Int) :: hdsL l (i + 1) else hdsL l (i + 1)) ++ _
    rw [h]
    split <;> rfl
theorem hdsL_len : ∀ (l : List PyData) (i : Nat), (hdsL l i).length ≤ l.length
  | [], _ => Nat.le_refl _
  | d :: l, i => by
    have h := hdsL_len l (i + 1)
    unfold hdsL
    split
    · exact Nat.succ_le_succ h
    · exact Nat.le_succ_of_le h
theorem ints_dt {K : PySem.W.Frag} {n : Nat} {H : Hp} : ∀ l : List Int, DTs K (n + 1) H (l.map V.int) (l.map PyData.int)
  | [] => trivial
  | _ :: l => ⟨⟨.int _, trivial⟩, ints_dt l⟩
theorem Prq.get {K : PySem.W.Frag} {H : Hp} : ∀ {ps : List Addr} {ds : List PyData} {i : Nat} {d : PyData}, Prq K H ps ds → ds[i]? = some d → ∃ p q f w v x, ps[i]? = some p ∧ H p = some (.tup [.ref q, f]) ∧ SqT K H q (.str w :: v) ∧ d = .tuple (.str w :: x)
  | _, _, _, _, .nil, e => by simp at e
  | _, _, 0, d, .cons h1 h2 _, e => by
    simp at e
    exact ⟨_, _, _, _, _, _, rfl, h1, h2, e.symm⟩
  | _, _, i + 1, d, .cons _ _ r, e => by
    obtain ⟨p, q, f, w, v, x, e1, e2⟩ := Prq.get (i := i) r (by simpa using e)
    exact ⟨p, q, f, w, v, x, by simpa using e1, e2⟩
def spNd (K : PySem.W.Frag) : Sp := fun vs H Q _ => ∃ (F : Addr) (t : Tr), vs = [.ref F] ∧ FnAt K H F t ∧ t.dep 8 ∧ t.cnt ≤ 400 ∧ ∀ (p : Addr) (H' : Hp), Same H H' → DT K 10 H' (.ref p) (.tuple (nodesT t 0 t.cnt none t.cnt)) → Q (.ref p) H'
def spHd (K : PySem.W.Frag) : Sp := fun vs H Q _ => ∃ (F : Addr) (t : Tr), vs = [.ref F] ∧ FnAt K H F t ∧ t.dep 8 ∧ t.cnt ≤ 400 ∧ ∀ (p : Addr) (H' : Hp), Same H H' → DT K 10 H' (.ref p) (.tuple ((hdsL t.pre 0).map .int)) → Q (.ref p) H'
section
variable {P : Program} {w : World} {K : PySem.W.Frag} {mg : Str → Option Value} {base : Heap}
theorem ok_nodes (T : Txt w K mg) : FnOk P w K mg base CX0 44 T.a_nodes T.d_nodes p_nodes (spNd K) := by
  have g_count_statements := ok_count (P := P) (w := w) (K := K) (base := base) T 8
  have g_body_nodes := ok_bn (P := P) (w := w) (K := K) (base := base) T 8
  refine T.F_nodes.ok sc_nodes (fun vs H Q E h => ?_) (fun cdv A outer s H vs Q E hr h => ?_)
  · obtain ⟨F, t, rfl, _⟩ := h
    rfl
  obtain ⟨F, t, rfl, ⟨v0, v1, v2, v3, qa, us, h1, h2, h3⟩, hd, hc, q⟩ := h
  refine ⟨_, (pss_cons (ps_set (i := 1) sc_nodes.nd rfl (Or.inl rfl) (pe_ix ix_tup (pv 0) pe_int (fun _ _ => rfl)))
      (pss_cons (ps_set (i := 2) sc_nodes.nd rfl (Or.inl rfl) (pe_call g_count_statements (hr.mono (by first | decide | omega)) rfl T.m_count_statements T.F_count_statements.kp T.b_count_statements .nil pass0 (pa_cons (pv 1) pa_nil)))
      (pss_one (ps_ret (pe_callTy call_tuple_of rfl T.z_tuple bt_tuple (pa_cons (pe_call g_body_nodes (hr.mono (by first | decide | omega)) rfl T.m_body_nodes T.F_body_nodes.kp T.b_body_nodes .nil pass0 (pa_cons (pv 1) (pa_cons pe_int (pa_cons (pe_tup (pa_cons (pv 2) (pa_cons pe_non (pa_cons (pv 2) pa_nil)))) pa_nil)))) pa_nil)))))), ?_⟩
  refine ⟨_, rfl, F, _, 4, _, rfl, rfl, h1, rfl, _, rfl, qa, us, t, rfl, h2, h3, hd, hc, fun H1 s1 => ?_⟩
  refine ⟨_, rfl, _, rfl, _, rfl, by show 3 ≤ sizeLine; decide, fun w3 hw => ?_⟩
  have s2 := s1.trans (Same.new hw (.tup [.int (t.cnt : Int), .non, .int (t.cnt : Int)]))
  refine ⟨qa, us, t, 0, t.cnt, none, t.cnt, w3, rfl, Same.tup s2 h2, TrL.keep (Keeps.of_same s2) h3, hd, hc, SqT.of upd_same, fun D ns H3 s3 hD0 hD hn => ?_⟩
  refine ⟨D, ns, rfl, .inl ⟨SqL.of hD, fun p hp => ?_⟩⟩
  have nn := Tr.nodes_len t 0 t.cnt none t.cnt
  exact q p _ ((s2.trans s3).trans (Same.new hp _)) (DT.tup (n := 9) (SqT.of upd_same) (hn.keep (keeps_new hp)) (by omega))
theorem ok_heads (T : Txt w K mg) : FnOk P w K mg base CX0 13 T.a_heads T.d_heads p_heads (spHd K) := by
  have g_list_statements := ok_ls (P := P) (w := w) (K := K) (base := base) T 8
  obtain ⟨ds_e, e_list_statements⟩ := T.e_list_statements
  obtain ⟨ds_b, b_list_statements⟩ := T.b_list_statements
  refine T.F_heads.ok sc_heads (fun vs H Q E h => ?_) (fun cdv A outer s H vs Q E hr h => ?_)
  · obtain ⟨F, t, rfl, _⟩ := h
    rfl
  obtain ⟨F, t, rfl, ⟨v0, v1, v2, v3, qa, us, h1, h2, h3⟩, hd, hc, q⟩ := h
  refine ⟨_, (pss_cons (ps_set (i := 1) sc_heads.nd rfl (Or.inl rfl) (pe_call g_list_statements (hr.mono (by first | decide | omega)) rfl T.m_list_statements T.F_list_statements.kp e_list_statements.2 e_list_statements.1 pass0 (pa_cons (pe_ix ix_tup (pv 0) pe_int (fun _ _ => rfl)) pa_nil)))
      (pss_one (ps_ret (pe_callTy call_tuple_of rfl T.z_tuple bt_tuple (pa_cons (pe_lc (own := [("at", 2), ("statement", 3), ("_", 4)]) (g := gTup K 2 (gCons (gName 2) (gCons (gTup K 2 (gCons (gName 3) (gCons (gName 4) gNil))) gNil))) rfl sc_heads.nd (pi_enum (by rfl) T.z_enumerate (pa_cons (pv 1) pa_nil)) (blkOk_by (own := [("at", 2), ("statement", 3), ("_", 4)]) (N := n_heads) (sc := defScope s_heads) (by decide +kernel)) (fun _ _ _ _ _ => (pg_tup rfl (pgs_cons (pg_name (i := 2) sc_heads.nd rfl (Or.inl rfl)) (pgs_cons (pg_tup rfl (pgs_cons (pg_name (i := 3) sc_heads.nd rfl (Or.inl rfl)) (pgs_cons (pg_name (i := 4) sc_heads.nd rfl (Or.inl rfl)) pgs_nil))) pgs_nil)))) (fun _ _ _ _ _ => (pts_one (pt_cmpR op_eq (pe_ix (show IxR _ (rIxT K) from ix_tup) (pv 3) pe_int (fun _ _ => rfl)) pe_str (nomark _)))) (fun _ _ _ _ _ => (pv 2))) pa_nil))))), ?_⟩
  refine ⟨_, rfl, F, _, 4, _, rfl, rfl, h1, rfl, qa, us, t, false, rfl, h2, h3, hd, hc, fun L ps H1 s1 hL0 hL hp => ?_⟩
  have pl := hp.len
  have tl := Tr.pre_len t
  refine ⟨_, rfl, L, _, rfl, SqL.of hL, fun D hD => ?_⟩
  have nLD : L ≠ D := ne_of_none hL hD
  have hD0 : H D = none := s1.free hD
  refine lc_it (walk_enum (K := K) (a := L) (xs := ps.map V.ref)) (fun i H' => Same H H' ∧ H' L = some (.lst (ps.map V.ref)) ∧ Prq K H' ps t.pre ∧ H' D = some (.lst ((hdsL (t.pre.take i) 0).map V.int))) ?_ ?_ ?_ ?_
  · refine ⟨Same.grow hD0 s1, by rw [upd_ne nLD]; exact hL, Prq.keep (fun _ _ h => Same.new hD _ _ _ h) (keeps_new hD) hp, upd_same⟩
  · rintro i H' _ ⟨_, h, _⟩
    exact SqL.of h
  · rintro i x H' H2 hi ⟨sm, hL', hp', hD'⟩ ⟨z, _, y, rfl, hz, rfl, rfl', hiy⟩
    obtain rfl := (Option.some.inj rfl').symm
    have hiy : (ps.map V.ref)[i]? = some y := hiy
    have hip : i < ps.length := by
      have := (List.getElem?_eq_some_iff.mp hiy).1
      rwa [List.length_map] at this
    have hid : i < t.pre.length := by omega
    have hde := List.getElem?_eq_getElem hid
    obtain ⟨pp, qq, f, wd, vv, xx, e1, e2, e3, e4⟩ := hp'.get hde
    have ey : y = .ref pp := by
      rw [List.getElem?_map, e1] at hiy
      exact (Option.some.inj hiy).symm
    subst ey
    have sz := Same.new hz (.tup [.int (i : Nat), .ref pp])
    have kz := Keeps.of_same (K := K) sz
    have e2' := sz _ _ e2
    have e3' := kz _ _ e3
    have step : hdsL (t.pre.take (i + 1)) 0 = hdsL (t.pre.take i) 0 ++ (if wd = "while" then [((i : Nat) : Int)] else []) := by
      have e5 : t.pre.take (i + 1) = t.pre.take i ++ [.tuple (.str wd :: xx)] := by rw [List.take_add_one, hde, e4]; rfl
      rw [e5, hdsL_snoc]
      have l5 : (t.pre.take i).length = i := by rw [List.length_take]; omega
      rw [l5, Nat.zero_add]
      congr 1
      show (if decide (wd = ("while" : Str)) = true then _ else _) = _
      by_cases h : wd = "while"
      · rw [if_pos h, if_pos (decide_eq_true h)]
      · rw [if_neg h, if_neg (by rw [decide_eq_false h]; exact Bool.false_ne_true)]
    have hDz := sz _ _ hD'
    refine ⟨z, _, rfl, SqT.of upd_same, rfl, _, _, rfl, _, _, rfl, ⟨pp, _, rfl, SqT.of e2', rfl, _, _, rfl, _, _, rfl, ?_⟩⟩
    refine ⟨rfl, rfl, rfl, _, rfl, qq, _, 0, _, rfl, rfl, e3', at0, rfl, _, rfl, ?_⟩
    have hl := hdsL_len (t.pre.take i) 0
    have tl' : (t.pre.take i).length ≤ t.pre.length := List.length_take_le' _ _
    by_cases h : wd = "while"
    · rw [if_pos h] at step
      refine ifT (decide_eq_true (congrArg V.str h)) ⟨_, rfl, _, hDz, by rw [List.length_map]; exact small1000 (by omega), Same.grow hD0 (sm.trans sz), by rw [upd_ne nLD]; exact sz _ _ hL', Prq.keep (fun _ _ h => tup_lst hDz (sz _ _ h)) (fun _ _ h => keep_lst hDz _ _ (kz _ _ h)) hp', ?_⟩
      rw [upd_same, step, List.map_append]
      rfl
    · rw [if_neg h, List.append_nil] at step
      refine ifF (decide_eq_false fun e => h (V.str.inj e)) ⟨sm.trans sz, sz _ _ hL', Prq.keep (fun _ _ h => sz _ _ h) kz hp', ?_⟩
      rw [step]
      exact hDz
  · rintro H' ⟨sm, hL', hp', hD'⟩
    rw [List.length_map, pl, List.take_length] at hD'
    refine ⟨D, _, rfl, .inl ⟨SqL.of hD', fun p hp0 => ?_⟩⟩
    have hl := hdsL_len t.pre 0
    refine q p _ (sm.trans (Same.new hp0 _)) (DT.tup (n := 9) (SqT.of upd_same) (ints_dt _) (by rw [List.length_map]; omega))
end
/-! ### kinds -/
inductive Kd where
  | flag | ref (s : Str) | num (lo hi : Int)
def Kd.vals : Kd → List V
  | .flag => [.str "flag"]
  | .ref s => [.str "ref", .str s]
  | .num lo hi => [.str "num", .int lo, .int hi]
def Kd.ok : Kd → Prop
  | .flag => True
  | .ref _ => True
  | .num lo hi => -1000000000 ≤ lo ∧ lo ≤ hi ∧ hi ≤ 1000000000
def Kd.small : Kd → Bool
  | .flag => true
  | .ref _ => false
  | .num lo hi => decide (hi - lo ≤ 7)
def Kd.large : Kd → Bool
  | .flag => false
  | .ref _ => false
  | .num lo hi => decide (hi - lo > 7)
def Kd.disc : Kd → Bool
  | .flag => true
  | .ref _ => true
  | .num lo hi => decide (hi - lo ≤ 7)
def KdAt (K : PySem.W.Frag) (H : Hp) (v : V) (k : Kd) : Prop := ∃ p, v = .ref p ∧ SqT K H p k.vals
def spSmall (K : PySem.W.Frag) : Sp := fun vs H Q _ => ∃ (v : V) (k : Kd), vs = [v] ∧ KdAt K H v k ∧ Q (.bl k.small) H
def spLarge (K : PySem.W.Frag) : Sp := fun vs H Q _ => ∃ (v : V) (k : Kd), vs = [v] ∧ KdAt K H v k ∧ Q (.bl k.large) H
def spDisc (K : PySem.W.Frag) : Sp := fun vs H Q _ => ∃ (v : V) (k : Kd), vs = [v] ∧ KdAt K H v k ∧ Q (.bl k.disc) H
section
variable {P : Program} {w : World} {K : PySem.W.Frag} {mg : Str → Option Value} {base : Heap}
theorem ok_is_small (T : Txt w K mg) : FnOk P w K mg base CX0 1 T.a_is_small T.d_is_small p_is_small (spSmall K) := by
  obtain ⟨t, c_WIDEST_SMALL_h⟩ := T.c_WIDEST_SMALL
  refine T.F_is_small.ok sc_is_small (fun vs H Q E h => ?_) (fun cdv A outer s H vs Q E hr h => ?_)
  · obtain ⟨v, k, rfl, _⟩ := h
    rfl
  obtain ⟨v, k, rfl, ⟨p, rfl, hp⟩, q⟩ := h
  refine ⟨_, (pss_one (ps_ret (pe_or (pe_cmpR op_eq (pe_ix ix_tup (pv 0) pe_int (fun _ _ => rfl)) pe_str (nomark _)) (pe_one (pe_and (pe_cmpR op_eq (pe_ix ix_tup (pv 0) pe_int (fun _ _ => rfl)) pe_str (nomark _)) (pe_one (pe_cmpR op_le (pe_op op_sub (pe_ix ix_tup (pv 0) pe_int (fun _ _ => rfl)) (pe_ix ix_tup (pv 0) pe_int (fun _ _ => rfl))) (pe_glob (v := .int 7) rfl c_WIDEST_SMALL_h ⟨_, rfl⟩) (nomark _)))))))), ?_⟩
  cases k with
  | flag => exact ⟨_, rfl, p, _, 0, _, rfl, rfl, hp, rfl, rfl, _, rfl, ifT (by decide +kernel) q⟩
  | ref s => exact ⟨_, rfl, p, _, 0, _, rfl, rfl, hp, rfl, rfl, _, rfl, ifF (by decide +kernel) ⟨_, rfl, p, _, 0, _, rfl, rfl, hp, rfl, rfl, _, rfl, ifF (by decide +kernel) q⟩⟩
  | num lo hi => exact ⟨_, rfl, p, _, 0, _, rfl, rfl, hp, rfl, rfl, _, rfl, ifF (by decide +kernel) ⟨_, rfl, p, _, 0, _, rfl, rfl, hp, rfl, rfl, _, rfl, ifT (by decide +kernel) ⟨_, rfl, p, _, 2, _, rfl, rfl, hp, rfl, _, rfl, p, _, 1, _, rfl, rfl, hp, rfl, _, _, rfl, rfl, _, _, rfl, rfl, q⟩⟩⟩
theorem ok_is_large (T : Txt w K mg) : FnOk P w K mg base CX0 1 T.a_is_large T.d_is_large p_is_large (spLarge K) := by
  obtain ⟨t, c_WIDEST_SMALL_h⟩ := T.c_WIDEST_SMALL
  refine T.F_is_large.ok sc_is_large (fun vs H Q E h => ?_) (fun cdv A outer s H vs Q E hr h => ?_)
  · obtain ⟨v, k, rfl, _⟩ := h
    rfl
  obtain ⟨v, k, rfl, ⟨p, rfl, hp⟩, q⟩ := h
  refine ⟨_, (pss_one (ps_ret (pe_and (pe_cmpR op_eq (pe_ix ix_tup (pv 0) pe_int (fun _ _ => rfl)) pe_str (nomark _)) (pe_one (pe_cmpR op_gt (pe_op op_sub (pe_ix ix_tup (pv 0) pe_int (fun _ _ => rfl)) (pe_ix ix_tup (pv 0) pe_int (fun _ _ => rfl))) (pe_glob (v := .int 7) rfl c_WIDEST_SMALL_h ⟨_, rfl⟩) (nomark _)))))), ?_⟩
  cases k with
  | flag => exact ⟨_, rfl, p, _, 0, _, rfl, rfl, hp, rfl, rfl, _, rfl, ifF (by decide +kernel) q⟩
  | ref s => exact ⟨_, rfl, p, _, 0, _, rfl, rfl, hp, rfl, rfl, _, rfl, ifF (by decide +kernel) q⟩
  | num lo hi => exact ⟨_, rfl, p, _, 0, _, rfl, rfl, hp, rfl, rfl, _, rfl, ifT (by decide +kernel) ⟨_, rfl, p, _, 2, _, rfl, rfl, hp, rfl, _, rfl, p, _, 1, _, rfl, rfl, hp, rfl, _, _, rfl, rfl, _, _, rfl, rfl, q⟩⟩
theorem ok_is_discrete (T : Txt w K mg) : FnOk P w K mg base CX0 2 T.a_is_discrete T.d_is_discrete p_is_discrete (spDisc K) := by
  have g_is_small := ok_is_small (P := P) (w := w) (base := base) T
  refine T.F_is_discrete.ok sc_is_discrete (fun vs H Q E h => ?_) (fun cdv A outer s H vs Q E hr h => ?_)
  · obtain ⟨v, k, rfl, _⟩ := h
    rfl
  obtain ⟨v, k, rfl, ⟨p, rfl, hp⟩, q⟩ := h
  refine ⟨_, (pss_one (ps_ret (pe_or (pe_cmpR op_eq (pe_ix ix_tup (pv 0) pe_int (fun _ _ => rfl)) pe_str (nomark _)) (pe_one (pe_call g_is_small (hr.mono (by first | decide | omega)) rfl T.m_is_small T.F_is_small.kp T.b_is_small .nil pass0 (pa_cons (pv 0) pa_nil)))))), ?_⟩
  cases k with
  | flag => exact ⟨_, rfl, p, _, 0, _, rfl, rfl, hp, rfl, rfl, _, rfl, ifF (by decide +kernel) ⟨_, rfl, _, .flag, rfl, ⟨p, rfl, hp⟩, q⟩⟩
  | ref s => exact ⟨_, rfl, p, _, 0, _, rfl, rfl, hp, rfl, rfl, _, rfl, ifT (by decide +kernel) q⟩
  | num lo hi => exact ⟨_, rfl, p, _, 0, _, rfl, rfl, hp, rfl, rfl, _, rfl, ifF (by decide +kernel) ⟨_, rfl, _, .num lo hi, rfl, ⟨p, rfl, hp⟩, q⟩⟩
end
/-! ### a dict of kinds -/
theorem KdAt.keep {K : PySem.W.Frag} {H H' : Hp} {v : V} {k : Kd} (kp : Keeps K H H') (h : KdAt K H v k) : KdAt K H' v k := by
  obtain ⟨p, e, h⟩ := h
  exact ⟨p, e, kp _ _ h⟩
def KvAt (K : PySem.W.Frag) (H : Hp) : List (Str × Kd) → List (Key × V) → Prop
  | [], [] => True
  | a :: l, kv :: r => kv.1 = Sum.inr a.1 ∧ KdAt K H kv.2 a.2 ∧ KvAt K H l r
  | _, _ => False
theorem KvAt.len {K : PySem.W.Frag} {H : Hp} : ∀ {l : List (Str × Kd)} {r : List (Key × V)}, KvAt K H l r → r.length = l.length
  | [], [], _ => rfl
  | _ :: _, _ :: _, h => congrArg (· + 1) (KvAt.len h.2.2)
  | [], _ :: _, h => h.elim
  | _ :: _, [], h => h.elim
theorem KvAt.keep {K : PySem.W.Frag} {H H' : Hp} (kp : Keeps K H H') : ∀ {l : List (Str × Kd)} {r : List (Key × V)}, KvAt K H l r → KvAt K H' l r
  | [], [], _ => trivial
  | _ :: _, _ :: _, h => ⟨h.1, h.2.1.keep kp, KvAt.keep kp h.2.2⟩
  | [], _ :: _, h => h.elim
  | _ :: _, [], h => h.elim
theorem KvAt.get {K : PySem.W.Frag} {H : Hp} : ∀ {l : List (Str × Kd)} {r : List (Key × V)} {i : Nat} {kv : Key × V}, KvAt K H l r → r[i]? = some kv → ∃ a, l[i]? = some a ∧ kv.1 = Sum.inr a.1 ∧ KdAt K H kv.2 a.2
  | [], [], _, _, _, e => by simp at e
  | a :: _, _ :: _, 0, kv, h, e => by
    simp at e
    subst e
    exact ⟨a, rfl, h.1, h.2.1⟩
  | _ :: _, _ :: _, i + 1, kv, h, e => by
    obtain ⟨a, h1, h2⟩ := KvAt.get (i := i) h.2.2 (by simpa using e)
    exact ⟨a, by simpa using h1, h2⟩
  | [], _ :: _, _, _, h, _ => h.elim
  | _ :: _, [], _, _, h, _ => h.elim
theorem keep_dk {K : PySem.W.Frag} {H : Hp} {d : Addr} {kvs : List (Key × V)} {o : HO} (h : H d = some (.dK kvs)) : Keeps K H (upd H d o) := fun p xs q => by
  have ne : ∀ {u : HO}, H p = some u → (∀ kvs, u ≠ .dK kvs) → p ≠ d := fun e n z => by
    rw [z, h] at e
    exact n _ (Option.some.inj e).symm
  rcases q with (q | ⟨o', q⟩) | q
  · exact .inl (.inl (by rw [upd_ne (ne q (fun _ z => nomatch z))]; exact q))
  · exact .inl (.inr ⟨o', by rw [upd_ne (ne q (fun _ z => nomatch z))]; exact q⟩)
  · exact .inr q
theorem val_self : ∀ {kvs : List (Key × V)}, (kvs.map (·.1)).Nodup → ∀ p ∈ kvs, valV kvs p.1 = some p.2
  | [], _, _, h => nomatch h
  | q :: r, nd, p, h => by
    have nd' := List.nodup_cons.mp nd
    rcases List.mem_cons.mp h with rfl | h
    · exact valV_pos rfl
    · rw [valV_neg (fun z => nd'.1 (List.mem_map.mpr ⟨p, h, z.symm⟩))]
      exact val_self nd'.2 p h
/-- what _law_values makes -/
structure Made (kvs : List (Key × V)) (st : Int) (l : List Nat) : Prop where
theorem filt_snoc {α : Type} {p : α → Bool} {xs : List α} {i : Nat} {a : α} (h : xs[i]? = some a) : (xs.take (i + 1)).filter p = (xs.take i).filter p ++ (if p a = true then [a] else []) := by
  rw [List.take_add_one, h, List.filter_append]
  cases e : p a <;> simp [e]
def spNames2 (K : PySem.W.Frag) (f : Kd → Bool) : Sp := fun vs H Q _ => ∃ (d : Addr) (kvs : List (Key × V)) (ks : List (Str × Kd)), vs = [.ref d] ∧ H d = some (.dK kvs) ∧ KvAt K H ks kvs ∧ (kvs.map (·.1)).Nodup ∧ kvs.length ≤ 100 ∧
  ∀ (p : Addr) (H' : Hp), Same H H' → H' p = some (.tup ((ks.filter fun a => f a.2).map fun a => V.str a.1)) → Q (.ref p) H'
section
variable {P : Program} {w : World} {K : PySem.W.Frag} {mg : Str → Option Value} {base : Heap}
theorem ok_discrete_names (T : Txt w K mg) : FnOk P w K mg base CX0 3 T.a_discrete_names T.d_discrete_names p_discrete_names (spNames2 K Kd.disc) := by
  have g_is_discrete := ok_is_discrete (P := P) (w := w) (K := K) (base := base) T
  refine T.F_discrete_names.ok sc_discrete_names (fun vs H Q E h => ?_) (fun cdv A outer s H vs Q E hr h => ?_)
  · obtain ⟨d, kvs, ks, rfl, _⟩ := h
    rfl
  obtain ⟨d, kvs, ks, rfl, hd, hk, nd, hl, q⟩ := h
  refine ⟨_, (pss_one (ps_ret (pe_callTy call_tuple_of rfl T.z_tuple bt_tuple (pa_cons (pe_lock (pe_lc (own := [("name", 1)]) (g := gName 1) rfl sc_discrete_names.nd (pi_keys (pv 0)) (blkOk_by (own := [("name", 1)]) (N := n_discrete_names) (sc := defScope s_discrete_names) (by decide +kernel)) (fun _ _ _ _ _ => (pg_name (i := 1) sc_discrete_names.nd rfl (Or.inl rfl))) (fun _ _ _ _ _ => (pts_one (pt_val (pe_call g_is_discrete (hr.mono (by first | decide | omega)) rfl T.m_is_discrete T.F_is_discrete.kp T.b_is_discrete .nil pass0 (pa_cons (pe_dget (hu_of hr) (pv 0) (pv 1) (fun _ _ => rfl)) pa_nil))))) (fun _ _ _ _ _ => (pv 1)))) pa_nil)))), ?_⟩
  have kl := hk.len
  refine ⟨d, _, hd, trivial, fun od => ⟨_, rfl, d, od, rfl, .inl ⟨kvs, upd_same, fun D hD => ?_⟩⟩⟩
  have nD : D ≠ d := fun z => by rw [z, upd_same] at hD; cases hD
  have hD0 : H D = none := by rw [upd_ne nD] at hD; exact hD
  refine lc_it (walk_keys (d := d) (o := od) (kvs := kvs)) (fun i H' => H' d = some (.frz od (.dK kvs)) ∧ (∀ b o, b ≠ d → H b = some o → H' b = some o) ∧ KvAt K H' ks kvs ∧ H' D = some (.lst (((ks.take i).filter fun a => Kd.disc a.2).map fun a => V.str a.1))) ?_ ?_ ?_ ?_
  · refine ⟨by rw [upd_ne nD.symm]; exact upd_same, fun b o hb e => ?_, (hk.keep (keep_dk hd)).keep (keeps_new hD), upd_same⟩
    rw [upd_ne (ne_of_none e hD0), upd_ne hb]
    exact e
  · rintro i H' _ ⟨h, _⟩
    exact h
  · rintro i x H' H2 hi ⟨h1, h2, h3, h4⟩ ⟨rfl, k, v, hkv, rfl⟩
    obtain ⟨a, ha, ek, hv⟩ := h3.get hkv
    have ek : k = Sum.inr a.1 := ek
    subst ek
    have ev := val_self nd _ (List.mem_of_getElem? hkv)
    refine ⟨rfl, ⟨_, rfl, _, rfl, d, v, rfl, .inl ⟨kvs, Sum.inr a.1, .inr ⟨od, h1⟩, rfl, ev.symm⟩, v, a.2, rfl, hv, ?_⟩⟩
    have st := filt_snoc (p := fun a => Kd.disc a.2) ha
    cases e : Kd.disc a.2 with
    | true =>
      refine ⟨_, rfl, ifT rfl ⟨_, rfl, _, h4, ?_, ?_⟩⟩
      · rw [List.length_map]
        have z1 := List.length_filter_le (fun a : Str × Kd => Kd.disc a.2) (ks.take i)
        have z2 := List.length_take_le' i ks
        exact small1000 (by omega)
      · rw [if_pos e] at st
        refine ⟨by rw [upd_ne nD.symm]; exact h1, fun b o hb e2 => ?_, h3.keep (keep_lst h4), ?_⟩
        · rw [upd_ne (ne_of_none e2 hD0)]
          exact h2 b o hb e2
        · rw [upd_same, st, List.map_append]
          rfl
    | false =>
      refine ⟨_, rfl, ifF rfl ?_⟩
      rw [if_neg (by rw [e]; exact Bool.false_ne_true), List.append_nil] at st
      exact ⟨h1, h2, h3, by rw [st]; exact h4⟩
  · rintro H5 ⟨h1, h2, h3, h4⟩
    rw [kl, List.take_length] at h4
    refine ⟨h1, D, _, rfl, .inl ⟨SqL.of (by rw [upd_ne nD]; exact h4), fun l hl0 => ?_⟩⟩
    refine q l _ (fun b o e => ?_) upd_same
    rw [upd_ne (ne_of_none (o := o) (H := upd H5 d (.dK kvs)) ?_ hl0)]
    all_goals
      by_cases hb : b = d
      · subst hb
        rw [upd_same, ← e, hd]
      · rw [upd_ne hb]
        exact h2 b o hb e
theorem ok_large_names (T : Txt w K mg) : FnOk P w K mg base CX0 3 T.a_large_names T.d_large_names p_large_names (spNames2 K Kd.large) := by
  have g_is_large := ok_is_large (P := P) (w := w) (K := K) (base := base) T
  refine T.F_large_names.ok sc_large_names (fun vs H Q E h => ?_) (fun cdv A outer s H vs Q E hr h => ?_)
  · obtain ⟨d, kvs, ks, rfl, _⟩ := h
    rfl
  obtain ⟨d, kvs, ks, rfl, hd, hk, nd, hl, q⟩ := h
  refine ⟨_, (pss_one (ps_ret (pe_callTy call_tuple_of rfl T.z_tuple bt_tuple (pa_cons (pe_lock (pe_lc (own := [("name", 1)]) (g := gName 1) rfl sc_large_names.nd (pi_keys (pv 0)) (blkOk_by (own := [("name", 1)]) (N := n_large_names) (sc := defScope s_large_names) (by decide +kernel)) (fun _ _ _ _ _ => (pg_name (i := 1) sc_large_names.nd rfl (Or.inl rfl))) (fun _ _ _ _ _ => (pts_one (pt_val (pe_call g_is_large (hr.mono (by first | decide | omega)) rfl T.m_is_large T.F_is_large.kp T.b_is_large .nil pass0 (pa_cons (pe_dget (hu_of hr) (pv 0) (pv 1) (fun _ _ => rfl)) pa_nil))))) (fun _ _ _ _ _ => (pv 1)))) pa_nil)))), ?_⟩
  have kl := hk.len
  refine ⟨d, _, hd, trivial, fun od => ⟨_, rfl, d, od, rfl, .inl ⟨kvs, upd_same, fun D hD => ?_⟩⟩⟩
  have nD : D ≠ d := fun z => by rw [z, upd_same] at hD; cases hD
  have hD0 : H D = none := by rw [upd_ne nD] at hD; exact hD
  refine lc_it (walk_keys (d := d) (o := od) (kvs := kvs)) (fun i H' => H' d = some (.frz od (.dK kvs)) ∧ (∀ b o, b ≠ d → H b = some o → H' b = some o) ∧ KvAt K H' ks kvs ∧ H' D = some (.lst (((ks.take i).filter fun a => Kd.large a.2).map fun a => V.str a.1))) ?_ ?_ ?_ ?_
  · refine ⟨by rw [upd_ne nD.symm]; exact upd_same, fun b o hb e => ?_, (hk.keep (keep_dk hd)).keep (keeps_new hD), upd_same⟩
    rw [upd_ne (ne_of_none e hD0), upd_ne hb]
    exact e
  · rintro i H' _ ⟨h, _⟩
    exact h
  · rintro i x H' H2 hi ⟨h1, h2, h3, h4⟩ ⟨rfl, k, v, hkv, rfl⟩
    obtain ⟨a, ha, ek, hv⟩ := h3.get hkv
    have ek : k = Sum.inr a.1 := ek
    subst ek
    have ev := val_self nd _ (List.mem_of_getElem? hkv)
    refine ⟨rfl, ⟨_, rfl, _, rfl, d, v, rfl, .inl ⟨kvs, Sum.inr a.1, .inr ⟨od, h1⟩, rfl, ev.symm⟩, v, a.2, rfl, hv, ?_⟩⟩
    have st := filt_snoc (p := fun a => Kd.large a.2) ha
    cases e : Kd.large a.2 with
    | true =>
      refine ⟨_, rfl, ifT rfl ⟨_, rfl, _, h4, ?_, ?_⟩⟩
      · rw [List.length_map]
        have z1 := List.length_filter_le (fun a : Str × Kd => Kd.large a.2) (ks.take i)
        have z2 := List.length_take_le' i ks
        exact small1000 (by omega)
      · rw [if_pos e] at st
        refine ⟨by rw [upd_ne nD.symm]; exact h1, fun b o hb e2 => ?_, h3.keep (keep_lst h4), ?_⟩
        · rw [upd_ne (ne_of_none e2 hD0)]
          exact h2 b o hb e2
        · rw [upd_same, st, List.map_append]
          rfl
    | false =>
      refine ⟨_, rfl, ifF rfl ?_⟩
      rw [if_neg (by rw [e]; exact Bool.false_ne_true), List.append_nil] at st
      exact ⟨h1, h2, h3, by rw [st]; exact h4⟩
  · rintro H5 ⟨h1, h2, h3, h4⟩
    rw [kl, List.take_length] at h4
    refine ⟨h1, D, _, rfl, .inl ⟨SqL.of (by rw [upd_ne nD]; exact h4), fun l hl0 => ?_⟩⟩
    refine q l _ (fun b o e => ?_) upd_same
    rw [upd_ne (ne_of_none (o := o) (H := upd H5 d (.dK kvs)) ?_ hl0)]
    all_goals
      by_cases hb : b = d
      · subst hb
        rw [upd_same, ← e, hd]
      · rw [upd_ne hb]
        exact h2 b o hb e
end
/-! ### pairs, functions, programs -/
def PrAt (K : PySem.W.Frag) (H : Hp) (ps : List Addr) (ks : List (Str × Kd)) (kvs : List (Key × V)) : Prop := Paired (fun p kv => SqT K H p [kV kv.1, kv.2]) ps kvs ∧ KvAt K H ks kvs
theorem PrAt.keep {K : PySem.W.Frag} {H H' : Hp} (k : Keeps K H H') {ps : List Addr} {ks : List (Str × Kd)} {kvs : List (Key × V)} (h : PrAt K H ps ks kvs) : PrAt K H' ps ks kvs := ⟨Paired.mapP h.1 fun _ _ z => k _ _ z, h.2.keep k⟩
theorem PrAt.len {K : PySem.W.Frag} {H : Hp} {ps : List Addr} {ks : List (Str × Kd)} {kvs : List (Key × V)} (h : PrAt K H ps ks kvs) : ps.length = ks.length := (Paired.length h.1).trans h.2.len
theorem KvAt.app {K : PySem.W.Frag} {H : Hp} : ∀ {l l2 : List (Str × Kd)} {r r2 : List (Key × V)}, KvAt K H l r → KvAt K H l2 r2 → KvAt K H (l ++ l2) (r ++ r2)
  | [], _, [], _, _, h => h
  | _ :: _, _, _ :: _, _, h, q => ⟨h.1, h.2.1, KvAt.app h.2.2 q⟩
  | [], _, _ :: _, _, h, _ => h.elim
  | _ :: _, _, [], _, h, _ => h.elim
theorem paired_app {α β : Type} {R : α → β → Prop} : ∀ {a a2 : List α} {b b2 : List β}, Paired R a b → Paired R a2 b2 → Paired R (a ++ a2) (b ++ b2)
  | _, _, _, _, .nil, h => h
  | _, _, _, _, .cons x t, h => .cons x (paired_app t h)
theorem PrAt.app {K : PySem.W.Frag} {H : Hp} {ps ps2 : List Addr} {ks ks2 : List (Str × Kd)} {kvs kvs2 : List (Key × V)} (h : PrAt K H ps ks kvs) (q : PrAt K H ps2 ks2 kvs2) : PrAt K H (ps ++ ps2) (ks ++ ks2) (kvs ++ kvs2) := ⟨paired_app h.1 q.1, h.2.app q.2⟩
theorem KvAt.keys {K : PySem.W.Frag} {H : Hp} : ∀ {l : List (Str × Kd)} {r : List (Key × V)}, KvAt K H l r → r.map (·.1) = l.map fun a => (Sum.inr a.1 : Key)
  | [], [], _ => rfl
  | _ :: _, _ :: _, h => by rw [List.map_cons, List.map_cons, h.1, KvAt.keys h.2.2]
  | [], _ :: _, h => h.elim
  | _ :: _, [], h => h.elim
theorem KvAt.nd {K : PySem.W.Frag} {H : Hp} {l : List (Str × Kd)} {r : List (Key × V)} (h : KvAt K H l r) (n : (l.map (·.1)).Nodup) : (r.map (·.1)).Nodup := by
  rw [h.keys]
  have e : (l.map fun a => (Sum.inr a.1 : Key)) = (l.map (·.1)).map Sum.inr := by rw [List.map_map]; rfl
  rw [e]
  exact List.Pairwise.map _ (fun a b z w => z (Sum.inr.inj w)) n
theorem valV_out {kvs : List (Key × V)} {k : Key} (h : k ∉ kvs.map (·.1)) : valV kvs k = none := by
  cases e : valV kvs k with
  | none => rfl
  | some v => exact absurd (valV_in e) (by
      intro z
      exact h (by first | exact z | exact List.mem_map.mpr ⟨_, z, rfl⟩))
theorem merge_app : ∀ (kvs acc : List (Key × V)), ((acc ++ kvs).map (·.1)).Nodup → mergeK acc kvs = acc ++ kvs
  | [], acc, _ => (List.append_nil _).symm
  | p :: r, acc, h => by
    have hn : p.1 ∉ acc.map (·.1) := by
      rw [List.map_append, List.map_cons] at h
      intro z
      exact (List.nodup_append.mp h).2.2 _ z _ List.mem_cons_self rfl
    show mergeK (putK acc p.1 p.2) r = _
    rw [putK_new _ (valV_out hn), merge_app r (acc ++ [(p.1, p.2)]) (by rw [List.append_assoc]; exact h), List.append_assoc]
    rfl
theorem merge_nil {kvs : List (Key × V)} (h : (kvs.map (·.1)).Nodup) : mergeK [] kvs = kvs := merge_app kvs [] h
structure FnM where
  nm : Str
  pk : List (Str × Kd)
  rs : Option Kd
  ow : List (Str × Kd)
  bd : Tr
def RsAt (K : PySem.W.Frag) (H : Hp) (v : V) : Option Kd → Prop
  | none => v = .non
  | some k => KdAt K H v k
theorem RsAt.keep {K : PySem.W.Frag} {H H' : Hp} (k : Keeps K H H') {v : V} : ∀ {r : Option Kd}, RsAt K H v r → RsAt K H' v r
  | none, h => h
  | some _, h => KdAt.keep k h
def FuAt (K : PySem.W.Frag) (H : Hp) (v : V) (f : FnM) : Prop := ∃ (F a1 a3 q : Addr) (ps1 ps3 : List Addr) (kv1 kv3 : List (Key × V)) (rv : V) (us : List V), v = .ref F ∧ SqT K H F [.str f.nm, .ref a1, rv, .ref a3, .ref q] ∧ SqT K H a1 (ps1.map .ref) ∧ PrAt K H ps1 f.pk kv1 ∧ RsAt K H rv f.rs ∧
  SqT K H a3 (ps3.map .ref) ∧ PrAt K H ps3 f.ow kv3 ∧ SqT K H q us ∧ TrL K H f.bd us
theorem FuAt.keep {K : PySem.W.Frag} {H H' : Hp} (k : Keeps K H H') {v : V} {f : FnM} (h : FuAt K H v f) : FuAt K H' v f := by
  obtain ⟨F, a1, a3, q, ps1, ps3, kv1, kv3, rv, us, e, h1, h2, h3, h4, h5, h6, h7, h8⟩ := h
  exact ⟨F, a1, a3, q, ps1, ps3, kv1, kv3, rv, us, e, k _ _ h1, k _ _ h2, h3.keep k, h4.keep k, k _ _ h5, h6.keep k, k _ _ h7, TrL.keep k h8⟩
/-- the globals: the tuple's object is told -/
def GlAt (K : PySem.W.Frag) (H : Hp) (g : Addr) (ks : List (Str × Kd)) : Prop := ∃ (o : Obj) (ps : List Addr) (kvs : List (Key × V)), H g = some (.frz o (.tup (ps.map .ref))) ∧ o.dict = none ∧ PrAt K H ps ks kvs
theorem GlAt.same {K : PySem.W.Frag} {H H' : Hp} {g : Addr} {ks : List (Str × Kd)} (s : Same H H') (h : GlAt K H g ks) : GlAt K H' g ks := by
  obtain ⟨o, ps, kvs, h1, h2, h3⟩ := h
  exact ⟨o, ps, kvs, s _ _ h1, h2, h3.keep (Keeps.of_same s)⟩
structure PgM where
  gl : List (Str × Kd)
  fs : List FnM
def PgAt (K : PySem.W.Frag) (H : Hp) (v : V) (p : PgM) : Prop := ∃ (a g fa : Addr) (r0 r1 : V) (fvs : List V), v = .ref a ∧ SqT K H a [r0, r1, .ref g, .ref fa] ∧ GlAt K H g p.gl ∧ SqT K H fa fvs ∧ fvs.length = p.fs.length ∧ ∀ (i : Nat) (f : FnM), p.fs[i]? = some f → ∃ u : V, fvs[i]? = some u ∧ FuAt K H u f
theorem PgAt.same {K : PySem.W.Frag} {H H' : Hp} {v : V} {p : PgM} (s : Same H H') (h : PgAt K H v p) : PgAt K H' v p := by
  obtain ⟨a, g, fa, r0, r1, fvs, e, h1, h2, h3, h4, h5⟩ := h
  refine ⟨a, g, fa, r0, r1, fvs, e, Same.tup s h1, h2.same s, Same.tup s h3, h4, fun i f e => ?_⟩
  obtain ⟨u, h6, h7⟩ := h5 i f e
  exact ⟨u, h6, h7.keep (Keeps.of_same s)⟩
/-! ### the helpers of the layout -/
def rgD : Kd → PyData
  | .num lo hi => .tuple [.int lo, .int hi]
  | .ref s => .tuple [.str s]
  | .flag => .tuple []
def spRg (K : PySem.W.Frag) : Sp := fun vs H Q _ => ∃ (n d : Addr) (kvs : List (Key × V)) (ks ns : List (Str × Kd)), vs = [.ref n, .ref d] ∧ SqT K H n (ns.map fun a => V.str a.1) ∧ H d = some (.dK kvs) ∧ KvAt K H ks kvs ∧ (kvs.map (·.1)).Nodup ∧ ns.length ≤ 100 ∧ (∀ a ∈ ns, a ∈ ks ∧ Kd.large a.2 = true) ∧
  ∀ (p : Addr) (us : List V) (H' : Hp), Same H H' → H' p = some (.tup us) → DTs K 3 H' us (ns.map fun a => rgD a.2) → Q (.ref p) H'
def spFnm (K : PySem.W.Frag) : Sp := fun vs H Q _ => ∃ (v : V) (p : PgM) (nm : Str) (i : Nat) (f : FnM), vs = [v, .str nm] ∧ PgAt K H v p ∧ p.fs[i]? = some f ∧ f.nm = nm ∧ (p.fs.map (·.nm)).Nodup ∧ ∀ u, FuAt K H u f → Q u H
def spFdc (K : PySem.W.Frag) : Sp := fun vs H Q _ => ∃ (fa : Addr) (fvs : List V) (fs : List FnM) (nm : Str) (i : Nat) (f : FnM), vs = [.ref fa, .str nm] ∧ SqT K H fa fvs ∧ fvs.length = fs.length ∧ (∀ (i : Nat) (f : FnM), fs[i]? = some f → ∃ u : V, fvs[i]? = some u ∧ FuAt K H u f) ∧ fs[i]? = some f ∧ f.nm = nm ∧ (fs.map (·.nm)).Nodup ∧ ∀ u, FuAt K H u f → Q u H
theorem KvAt.mem {K : PySem.W.Frag} {H : Hp} : ∀ {l : List (Str × Kd)} {r : List (Key × V)} {a : Str × Kd}, KvAt K H l r → a ∈ l → ∃ kv ∈ r, kv.1 = Sum.inr a.1 ∧ KdAt K H kv.2 a.2
  | [], _, _, _, e => (List.not_mem_nil e).elim
  | _ :: _, [], _, h, _ => h.elim
  | b :: _, kv :: _, a, h, e => by
    rcases List.mem_cons.mp e with rfl | e
    · exact ⟨kv, List.mem_cons_self, h.1, h.2.1⟩
    · obtain ⟨kv2, m, q⟩ := KvAt.mem h.2.2 e
      exact ⟨kv2, List.mem_cons_of_mem _ m, q⟩
section
variable {P : Program} {w : World} {K : PySem.W.Frag} {mg : Str → Option Value} {base : Heap}
theorem ok_find_declared (T : Txt w K mg) : FnOk P w K mg base CX0 1 T.a_find_declared T.d_find_declared p_find_declared (spFdc K) := by
  refine T.F_find_declared.ok sc_find_declared (fun vs H Q E h => ?_) (fun cdv A outer s H vs Q E hr h => ?_)
  · obtain ⟨fa, fvs, fs, nm, i, f, rfl, _⟩ := h
    rfl
  obtain ⟨fa, fvs, fs, nm, i0, f, rfl, h3, h4, h5, hi0, hnm, nd, q⟩ := h
  refine ⟨_, (pss_cons (ps_for PassesOwn.never rfl (pi_tup (pv 0)) (pg_name (i := 2) sc_find_declared.nd rfl (Or.inl rfl))
        (pss_one (ps_if (pt_cmpR op_eq (pe_ix ix_tup (pv 2) pe_int (fun _ _ => rfl)) (pv 1) (nomark _)) (pss_one (ps_ret (pv 2))) pss_nil)))
      (pss_one (ps_ret pe_non))), ?_⟩
  have hi0l : i0 < fs.length := (List.getElem?_eq_some_iff.mp hi0).1
  refine ⟨_, rfl, fa, rfl, ⟨_, h3⟩, for_tup (K := K) (a := fa) (xs := fvs) (fun i σ H' => H' = H ∧ i ≤ i0 ∧ ∃ v2 : Option V, σ = [some (.ref fa), some (.str nm), v2]) ⟨rfl, Nat.zero_le _, none, rfl⟩ (fun i σ H' _ ⟨e, _⟩ => by rw [e]; exact h3) ?_ ?_⟩
  · rintro i y σ H' hi ⟨rfl, hle, v2, rfl⟩
    have hil : i < fs.length := by
      have := (List.getElem?_eq_some_iff.mp hi).1
      omega
    obtain ⟨u, hu, fu⟩ := h5 i _ (List.getElem?_eq_getElem hil)
    rw [hi] at hu
    obtain rfl := Option.some.inj hu
    obtain ⟨F, a1, a3, qq, ps1, ps3, kv1, kv3, rv, us, e, g1, g2⟩ := id fu
    subst e
    refine ⟨_, rfl, F, _, 0, _, rfl, rfl, g1, rfl, _, rfl, rfl, _, rfl, ite2 (fun c => ?_) (fun c => ?_)⟩
    · have c' : fs[i].nm = nm := V.str.inj (of_decide_eq_true c)
      have e : i = i0 := by
        have e1 : (fs.map (·.nm))[i]? = some nm := by rw [List.getElem?_map, List.getElem?_eq_getElem hil]; exact congrArg some c'
        have e2 : (fs.map (·.nm))[i0]? = some nm := by rw [List.getElem?_map, hi0]; exact congrArg some hnm
        exact nodup_ix nd e1 e2
      subst e
      have ef : fs[i] = f := by
        rw [List.getElem?_eq_getElem hil] at hi0
        exact Option.some.inj hi0
      rw [ef] at fu
      exact ⟨_, rfl, q _ fu⟩
    · refine ⟨rfl, ?_, _, rfl⟩
      rcases Nat.lt_or_ge i i0 with z | z
      · exact z
      · exfalso
        have e : i = i0 := by omega
        subst e
        have ef : fs[i] = f := by
          rw [List.getElem?_eq_getElem hil] at hi0
          exact Option.some.inj hi0
        exact c (decide_eq_true (congrArg V.str (by rw [ef]; exact hnm)))
  · rintro σ H' ⟨rfl, hle, _⟩
    omega
theorem ok_function_named (T : Txt w K mg) : FnOk P w K mg base CX0 2 T.a_function_named T.d_function_named p_function_named (spFnm K) := by
  have g_find_declared := ok_find_declared (P := P) (w := w) (K := K) (base := base) T
  refine T.F_function_named.ok sc_function_named (fun vs H Q E h => ?_) (fun cdv A outer s H vs Q E hr h => ?_)
  · obtain ⟨v, p, nm, i, f, rfl, _⟩ := h
    rfl
  obtain ⟨v, p, nm, i0, f, rfl, ⟨a, g, fa, r0, r1, fvs, rfl, h1, h2, h3, h4, h5⟩, hi0, hnm, nd, q⟩ := h
  refine ⟨_, (pss_one (ps_ret (pe_call g_find_declared (hr.mono (by first | decide | omega)) rfl T.m_find_declared T.F_find_declared.kp T.b_find_declared .nil pass0 (pa_cons (pe_ix ix_tup (pv 0) pe_int (fun _ _ => rfl)) (pa_cons (pv 1) pa_nil))))), ?_⟩
  exact ⟨_, rfl, a, _, 3, _, rfl, rfl, h1, rfl, _, rfl, fa, fvs, p.fs, nm, i0, f, rfl, h3, h4, h5, hi0, hnm, nd, q⟩
end
def vis (p : PgM) (f : FnM) : List (Str × Kd) := p.gl ++ f.pk ++ f.ow
def spVk (K : PySem.W.Frag) : Sp := fun vs H Q _ => ∃ (v u : V) (p : PgM) (f : FnM), vs = [v, u] ∧ PgAt K H v p ∧ FuAt K H u f ∧ ((vis p f).map (·.1)).Nodup ∧ (vis p f).length ≤ 100 ∧
  ∀ (d : Addr) (kvs : List (Key × V)) (H' : Hp), Same H H' → H d = none → H' d = some (.dK kvs) → KvAt K H' (vis p f) kvs → (kvs.map (·.1)).Nodup → Q (.ref d) H'
/-- kinds[name] for each name: any tuple -/
def spKf (K : PySem.W.Frag) : Sp := fun vs H Q _ => ∃ (n d : Addr) (kvs : List (Key × V)) (ks ns : List (Str × Kd)), vs = [.ref n, .ref d] ∧ SqT K H n (ns.map fun a => V.str a.1) ∧ H d = some (.dK kvs) ∧ KvAt K H ks kvs ∧ (kvs.map (·.1)).Nodup ∧ ns.length ≤ 100 ∧ (∀ a ∈ ns, a ∈ ks) ∧
  ∀ (p : Addr) (H' : Hp), Same H H' → Q (.ref p) H'
section
variable {P : Program} {w : World} {K : PySem.W.Frag} {mg : Str → Option Value} {base : Heap}
theorem ok_ranges_of (T : Txt w K mg) : FnOk P w K mg base CX0 1 T.a_ranges_of T.d_ranges_of p_ranges_of (spRg K) := by
  refine T.F_ranges_of.ok sc_ranges_of (fun vs H Q E h => ?_) (fun cdv A outer s H vs Q E hr h => ?_)
  · obtain ⟨n, d, kvs, ks, ns, rfl, _⟩ := h
    rfl
  obtain ⟨n, d, kvs, ks, ns, rfl, hn, hd, hk, nd, hl, hns, q⟩ := h
  refine ⟨_, (pss_one (ps_ret (pe_callTy call_tuple_of rfl T.z_tuple bt_tuple (pa_cons (pe_lc (own := [("name", 2)]) (g := gName 2) (tt := tYes) rfl sc_ranges_of.nd (pi_tup (pv 0)) (blkOk_by (own := [("name", 2)]) (N := n_ranges_of) (sc := defScope s_ranges_of) (by decide +kernel)) (fun _ _ _ _ _ => (pg_name (i := 2) sc_ranges_of.nd rfl (Or.inl rfl))) (fun _ _ _ _ _ => pts_nil) (fun _ _ _ _ _ => (pe_slice (show SlR _ (rSlT K) from sl_tup) (pe_dget (hu_of hr) (pv 1) (pv 2) (fun _ _ => rfl)) (po_some pe_int) po_none))) pa_nil)))), ?_⟩
  have nl : (ns.map fun a => V.str a.1).length = ns.length := List.length_map _
  refine ⟨_, rfl, n, rfl, ⟨_, hn⟩, fun D hD => ?_⟩
  refine lc_it (walk_tup (K := K) (a := n) (xs := ns.map fun a => V.str a.1)) (fun i H' => Same H H' ∧ ∃ us : List V, H' D = some (.lst us) ∧ us.length = i ∧ DTs K 3 H' us ((ns.take i).map fun a => rgD a.2)) ?_ ?_ ?_ ?_
  · exact ⟨Same.new hD _, [], upd_same, rfl, trivial⟩
  · rintro i H' _ ⟨h, _⟩
    exact Same.tup h hn
  · rintro i x H' H2 hi ⟨sm, us, h1, hul, h2⟩ ⟨rfl, hx⟩
    rw [nl] at hi
    rw [List.getElem?_map, List.getElem?_eq_getElem hi] at hx
    obtain rfl := Option.some.inj hx
    obtain ⟨hm, hlg⟩ := hns _ (List.getElem_mem hi)
    obtain ⟨kv, mkv, ek, hv⟩ := (hk.keep (Keeps.of_same sm)).mem hm
    have ev := val_self nd kv mkv
    rw [ek] at ev
    have tk : (ns.take (i + 1)).map (fun a => rgD a.2) = (ns.take i).map (fun a => rgD a.2) ++ [rgD (ns[i]).2] := by
      rw [List.take_add_one, List.getElem?_eq_getElem hi, List.map_append]
      rfl
    cases e : (ns[i]).2 with
    | flag => rw [e] at hlg; cases hlg
    | ref s => rw [e] at hlg; cases hlg
    | num lo hi2 =>
      rw [e] at hv tk
      obtain ⟨pk, epk, hpk⟩ := hv
      refine ⟨rfl, ?_⟩
      dsimp only [tYes]
      rw [if_pos rfl]
      refine ⟨_, rfl, _, rfl, d, kv.2, rfl, .inl ⟨kvs, Sum.inr (ns[i]).1, .inl (sm _ _ hd), rfl, ev.symm⟩, 1, rfl, pk, _, epk, hpk, no_whole _ _, fun t ht => ?_⟩
      have ec : cutV (Kd.num lo hi2).vals (some 1) none = [.int lo, .int hi2] := cut_tail _ _
      rw [ec]
      have st := Same.new ht (.tup [.int lo, .int hi2])
      have hD2 := st _ _ h1
      have hD0 : H D = none := hD
      refine ⟨us, hD2, small1000 (by omega), Same.grow hD0 (sm.trans st), us ++ [.ref t], upd_same, by rw [List.length_append]; show us.length + 1 = _; omega, ?_⟩
      rw [tk]
      refine DTs.keep (keep_lst hD2) (DTs.app (us := [.ref t]) (es := [rgD (.num lo hi2)]) (h2.keep (Keeps.of_same st)) ⟨?_, trivial⟩)
      exact DT.tup (n := 2) (SqT.of upd_same) ⟨⟨.int _, trivial⟩, ⟨.int _, trivial⟩, trivial⟩ (by show 2 ≤ 1000; decide)
  · rintro H5 ⟨sm, us, h1, hul, h2⟩
    rw [nl, List.take_length] at h2
    refine ⟨D, us, rfl, .inl ⟨SqL.of h1, fun l hl0 => ?_⟩⟩
    exact q l us _ (sm.trans (Same.new hl0 _)) upd_same (h2.keep (keeps_new hl0))
theorem ok_kinds_of (T : Txt w K mg) : FnOk P w K mg base CX0 1 T.a_kinds_of T.d_kinds_of p_kinds_of (spKf K) := by
  refine T.F_kinds_of.ok sc_kinds_of (fun vs H Q E h => ?_) (fun cdv A outer s H vs Q E hr h => ?_)
  · obtain ⟨n, d, kvs, ks, ns, rfl, _⟩ := h
    rfl
  obtain ⟨n, d, kvs, ks, ns, rfl, hn, hd, hk, nd, hl, hns, q⟩ := h
  refine ⟨_, (pss_one (ps_ret (pe_callTy call_tuple_of rfl T.z_tuple bt_tuple (pa_cons (pe_lc (own := [("name", 2)]) (g := gName 2) (tt := tYes) rfl sc_kinds_of.nd (pi_tup (pv 0)) (blkOk_by (own := [("name", 2)]) (N := n_kinds_of) (sc := defScope s_kinds_of) (by decide +kernel)) (fun _ _ _ _ _ => (pg_name (i := 2) sc_kinds_of.nd rfl (Or.inl rfl))) (fun _ _ _ _ _ => pts_nil) (fun _ _ _ _ _ => (pe_dget (hu_of hr) (pv 1) (pv 2) (fun _ _ => rfl)))) pa_nil)))), ?_⟩
  have nl : (ns.map fun a => V.str a.1).length = ns.length := List.length_map _
  refine ⟨_, rfl, n, rfl, ⟨_, hn⟩, fun D hD => ?_⟩
  refine lc_it (walk_tup (K := K) (a := n) (xs := ns.map fun a => V.str a.1)) (fun i H' => Same H H' ∧ ∃ us : List V, H' D = some (.lst us) ∧ us.length = i) ?_ ?_ ?_ ?_
  · exact ⟨Same.new hD _, [], upd_same, rfl⟩
  · rintro i H' _ ⟨h, _⟩
    exact Same.tup h hn
  · rintro i x H' H2 hi ⟨sm, us, h1, hul⟩ ⟨rfl, hx⟩
    rw [nl] at hi
    rw [List.getElem?_map, List.getElem?_eq_getElem hi] at hx
    obtain rfl := Option.some.inj hx
    obtain ⟨kv, mkv, ek, hv⟩ := (hk.keep (Keeps.of_same sm)).mem (hns _ (List.getElem_mem hi))
    have ev := val_self nd kv mkv
    rw [ek] at ev
    refine ⟨rfl, ?_⟩
    dsimp only [tYes]
    rw [if_pos rfl]
    refine ⟨_, rfl, _, rfl, d, kv.2, rfl, .inl ⟨kvs, Sum.inr (ns[i]).1, .inl (sm _ _ hd), rfl, ev.symm⟩, ?_⟩
    exact ⟨us, h1, small1000 (by omega), Same.grow hD sm, us ++ [kv.2], upd_same, by rw [List.length_append]; show us.length + 1 = _; omega⟩
  · rintro H5 ⟨sm, us, h1, hul⟩
    refine ⟨D, us, rfl, .inl ⟨SqL.of h1, fun l hl0 => ?_⟩⟩
    exact q l _ (sm.trans (Same.new hl0 _))
theorem ok_visible_kinds (T : Txt w K mg) : FnOk P w K mg base CX0 1 T.a_visible_kinds T.d_visible_kinds p_visible_kinds (spVk K) := by
  refine T.F_visible_kinds.ok sc_visible_kinds (fun vs H Q E h => ?_) (fun cdv A outer s H vs Q E hr h => ?_)
  · obtain ⟨v, u, p, f, rfl, _⟩ := h
    rfl
  obtain ⟨v, u, p, f, rfl, ⟨a, g, fa, r0, r1, fvs, rfl, h1, ⟨o, ps, kvs, g1, g2, g3⟩, h3, h4, h5⟩, ⟨F, a1, a3, qq, ps1, ps3, kv1, kv3, rv, us, rfl, f1, f2, f3, f4, f5, f6, f7, f8⟩, nd, hl, q⟩ := h
  refine ⟨_, (pss_one (ps_ret (pe_callTy (call_dictP rfl) rfl T.z_dict bt_dict (pa_cons (pe_lst (StX.pa_star (pe_ix ix_tup (pv 0) pe_int (fun _ _ => rfl)) (StX.pa_star (pe_ix ix_tup (pv 1) pe_int (fun _ _ => rfl)) (StX.pa_star (pe_ix ix_tup (pv 1) pe_int (fun _ _ => rfl)) pa_nil)))) pa_nil)))), ?_⟩
  refine ⟨_, rfl, a, _, 2, _, rfl, rfl, h1, rfl, g, _, rfl, .inl (.inl (.inr ⟨o, g1⟩)), _, rfl, F, _, 1, _, rfl, rfl, f1, rfl, a1, _, rfl, .inl f2, _, rfl, F, _, 3, _, rfl, rfl, f1, rfl, a3, _, rfl, .inl f5, ?_, fun L hL => ?_⟩
  · have e := g3.len
    have e1 := f3.len
    have e3 := f6.len
    have e4 : (vis p f).length = p.gl.length + f.pk.length + f.ow.length := by unfold vis; rw [List.length_append, List.length_append]
    simp only [List.length_append, List.length_map, List.length_nil]
    exact Nat.le_of_lt (small1000 (by omega))
  · have kl := keeps_new (K := K) (o := .lst (ps.map V.ref ++ (ps1.map V.ref ++ (ps3.map V.ref ++ [])))) hL
    have all := (g3.app f3).app f6
    have al2 := all.keep kl
    have ndk := all.2.nd (l := p.gl ++ f.pk ++ f.ow) nd
    refine ⟨L, ps ++ ps1 ++ ps3, kvs ++ kv1 ++ kv3, rfl, SqL.of (by rw [upd_same]; simp [List.map_append]), al2.1, fun d hd => ?_⟩
    rw [merge_nil ndk]
    have sL := Same.new hL (.lst (ps.map V.ref ++ (ps1.map V.ref ++ (ps3.map V.ref ++ []))))
    exact q d _ _ (sL.trans (Same.new hd _)) (sL.free hd) upd_same (al2.2.keep (keeps_new hd)) ndk
end
/-! ### the layout's object -/
/-- all but the object at x stands -/
def SmX (x : Addr) (H H' : Hp) : Prop := ∀ b o, b ≠ x → H b = some o → H' b = some o
theorem SmX.refl {x : Addr} {H : Hp} : SmX x H H := fun _ _ _ e => e
theorem SmX.same {x : Addr} {H H1 H2 : Hp} (a : SmX x H H1) (s : Same H1 H2) : SmX x H H2 := fun b o n e => s b o (a b o n e)
theorem SmX.put {x : Addr} {H H1 : Hp} {o : HO} (a : SmX x H H1) : SmX x H (upd H1 x o) := fun b u n e => by rw [upd_ne n]; exact a b u n e
theorem SmX.trans {x : Addr} {H H1 H2 : Hp} (a : SmX x H H1) (b : SmX x H1 H2) : SmX x H H2 := fun c o n e => b c o n (a c o n e)
theorem SmX.keeps {K : PySem.W.Frag} {x C dx : Addr} {fs : List (Str × V)} {H H' : Hp} (a : SmX x H H') (h : H x = some (.ins C dx fs)) : Keeps K H H' := fun p xs q => by
  have ne : ∀ {u : HO}, H p = some u → (∀ C dx fs, u ≠ .ins C dx fs) → p ≠ x := fun e n z => by
    rw [z, h] at e
    exact n _ _ _ (Option.some.inj e).symm
  rcases q with (q | ⟨o', q⟩) | q
  · exact .inl (.inl (a _ _ (ne q (fun _ _ _ z => nomatch z)) q))
  · exact .inl (.inr ⟨o', a _ _ (ne q (fun _ _ _ z => nomatch z)) q⟩)
  · exact .inr q
theorem GlAt.smx {K : PySem.W.Frag} {x C dx : Addr} {fs : List (Str × V)} {H H' : Hp} {g : Addr} {ks : List (Str × Kd)} (a : SmX x H H') (hx : H x = some (.ins C dx fs)) (h : GlAt K H g ks) : GlAt K H' g ks := by
  obtain ⟨o, ps, kvs, h1, h2, h3⟩ := h
  refine ⟨o, ps, kvs, a _ _ (fun z => ?_) h1, h2, h3.keep (a.keeps hx)⟩
  rw [z, hx] at h1
  cases h1
theorem PgAt.smx {K : PySem.W.Frag} {x C dx : Addr} {fs : List (Str × V)} {H H' : Hp} {v : V} {p : PgM} (s : SmX x H H') (hx : H x = some (.ins C dx fs)) (h : PgAt K H v p) : PgAt K H' v p := by
  obtain ⟨a, g, fa, r0, r1, fvs, e, h1, h2, h3, h4, h5⟩ := h
  have k := s.keeps (K := K) hx
  refine ⟨a, g, fa, r0, r1, fvs, e, k _ _ h1, h2.smx s hx, k _ _ h3, h4, fun i f e => ?_⟩
  obtain ⟨u, h6, h7⟩ := h5 i f e
  exact ⟨u, h6, h7.keep k⟩
/-- what a layout tells -/
def exitK (p : PgM) (f : FnM) : List (Str × Kd) := p.gl ++ match f.rs with
  | none => []
  | some k => [("result", k)]
def namesT (g : Kd → Bool) (l : List (Str × Kd)) : List V := (l.filter fun a => g a.2).map fun a => V.str a.1
def rgsD (l : List (Str × Kd)) : List PyData := (l.filter fun a => Kd.large a.2).map fun a => rgD a.2
/-- a tuple of names stands at v -/
def NmT (K : PySem.W.Frag) (H : Hp) (v : V) (xs : List V) : Prop := ∃ p, v = .ref p ∧ SqT K H p xs
def RgT (K : PySem.W.Frag) (H : Hp) (v : V) (ds : List PyData) : Prop := ∃ p us, v = .ref p ∧ SqT K H p us ∧ DTs K 3 H us ds
structure LyAt (K : PySem.W.Frag) (C : Addr) (H : Hp) (x : Addr) (v : V) (p : PgM) (f : FnM) : Prop where
  ex : ∃ (dx d : Addr) (rv v1 v2 v3 v4 v5 v6 v7 v8 : V) (fs : List (Str × V)) (kvs : List (Key × V)), H x = some (.ins C dx fs) ∧ fs.lookup ("program" : Str) = some v ∧ fs.lookup ("name" : Str) = some (.str f.nm) ∧ fs.lookup ("result" : Str) = some rv ∧ RsAt K H rv f.rs ∧
    fs.lookup ("exit" : Str) = some (.int (f.bd.cnt : Int)) ∧ fs.lookup ("kinds" : Str) = some (.ref d) ∧ H d = some (.dK kvs) ∧ KvAt K H (vis p f) kvs ∧ (kvs.map (·.1)).Nodup ∧
    fs.lookup ("discrete" : Str) = some v1 ∧ NmT K H v1 (namesT Kd.disc (vis p f)) ∧ fs.lookup ("large" : Str) = some v2 ∧ NmT K H v2 (namesT Kd.large (vis p f)) ∧
    fs.lookup ("entry_discrete" : Str) = some v3 ∧ NmT K H v3 (namesT Kd.disc (p.gl ++ f.pk)) ∧ fs.lookup ("entry_large" : Str) = some v4 ∧ NmT K H v4 (namesT Kd.large (p.gl ++ f.pk)) ∧
    fs.lookup ("exit_discrete" : Str) = some v5 ∧ NmT K H v5 (namesT Kd.disc (exitK p f)) ∧ fs.lookup ("exit_large" : Str) = some v6 ∧ NmT K H v6 (namesT Kd.large (exitK p f)) ∧
    fs.lookup ("ranges" : Str) = some v7 ∧ RgT K H v7 (rgsD (vis p f) ++ rgsD (p.gl ++ f.pk)) ∧ fs.lookup ("exit_ranges" : Str) = some v8 ∧ RgT K H v8 (rgsD (exitK p f) ++ rgsD (p.gl ++ f.pk))
theorem NmT.keep {K : PySem.W.Frag} {H H' : Hp} {v : V} {xs : List V} (k : Keeps K H H') (h : NmT K H v xs) : NmT K H' v xs := by
  obtain ⟨p, e, h⟩ := h
  exact ⟨p, e, k _ _ h⟩
theorem RgT.keep {K : PySem.W.Frag} {H H' : Hp} {v : V} {ds : List PyData} (k : Keeps K H H') (h : RgT K H v ds) : RgT K H' v ds := by
  obtain ⟨p, us, e, h, q⟩ := h
  exact ⟨p, us, e, k _ _ h, q.keep k⟩
theorem cat_rg {K : PySem.W.Frag} {H : Hp} {a b : Addr} {xs ys : List V} {ds es : List PyData} {Q : VK} (ha : SqT K H a xs) (hb : SqT K H b ys) (da : DTs K 3 H xs ds) (db : DTs K 3 H ys es) (hz : xs.length + ys.length ≤ 500) (q : ∀ v H', Same H H' → RgT K H' v (ds ++ es) → Q v H') : rCatA K (.ref a) (.ref b) H Q := by
  refine ⟨a, b, xs, ys, rfl, rfl, ha, hb, Nat.le_of_lt (small1000 (by omega)), fun e => ?_, fun _ e => ?_, fun _ _ p hp => ?_⟩
  · subst e
    have ed : ds = [] := List.length_eq_zero_iff.mp da.len.symm
    subst ed
    exact q _ _ (Same.refl _) ⟨b, ys, rfl, hb, db⟩
  · subst e
    have ed : es = [] := List.length_eq_zero_iff.mp db.len.symm
    subst ed
    exact q _ _ (Same.refl _) ⟨a, xs, rfl, ha, by rw [List.append_nil]; exact da⟩
  · exact q _ _ (Same.new hp _) ⟨p, _, rfl, SqT.of upd_same, (da.app db).keep (keeps_new hp)⟩
theorem flt_in {g : Kd → Bool} {l : List (Str × Kd)} : ∀ b ∈ l.filter (fun a => g a.2), b ∈ l ∧ g b.2 = true := fun b h => ⟨(List.mem_filter.mp h).1, (List.mem_filter.mp h).2⟩
def spLy (K : PySem.W.Frag) (C : Addr) : Sp := fun vs H Q _ => ∃ (x dx : Addr) (v : V) (p : PgM) (i : Nat) (f : FnM), vs = [.ref x, v, .str f.nm] ∧ H x = some (.ins C dx []) ∧ PgAt K H v p ∧ p.fs[i]? = some f ∧ (p.fs.map (·.nm)).Nodup ∧ ((vis p f).map (·.1)).Nodup ∧ (vis p f).length ≤ 50 ∧
  ("result" : Str) ∉ p.gl.map (·.1) ∧ f.bd.dep 8 ∧ f.bd.cnt ≤ 400 ∧ ∀ (H' : Hp), SmX x H H' → LyAt K C H' x v p f → Q .non H'
theorem lk_put {n g : Str} {v u : V} {fs : List (Str × V)} (h : fs.lookup g = some u) (e : g ≠ n) : (putF n v fs).lookup g = some u := by rw [lookup_putF, if_neg e]; exact h
theorem lk_new {n : Str} {v : V} {fs : List (Str × V)} : (putF n v fs).lookup n = some v := by rw [lookup_putF, if_pos rfl]
theorem ln_put {n : Str} {v : V} {fs : List (Str × V)} {k : Nat} (h : fs.length ≤ k) : (putF n v fs).length ≤ k + 1 := by have := length_putF n v fs; omega
section
variable {P : Program} {w : World} {K : PySem.W.Frag} {mg : Str → Option Value} {base : Heap}
theorem ok_Layout_init (T : Txt w K mg) : FnOk P w K mg base CX0 45 T.a_Layout_init T.d_Layout_init p_Layout_init (spLy K T.C_Layout) := by
  have g_function_named := ok_function_named (P := P) (w := w) (K := K) (base := base) T
  have g_count_statements := ok_count (P := P) (w := w) (K := K) (base := base) T 8
  have g_nodes := ok_nodes (P := P) (w := w) (K := K) (base := base) T
  have g_heads := ok_heads (P := P) (w := w) (K := K) (base := base) T
  have g_visible_kinds := ok_visible_kinds (P := P) (w := w) (K := K) (base := base) T
  have g_discrete_names := ok_discrete_names (P := P) (w := w) (K := K) (base := base) T
  have g_large_names := ok_large_names (P := P) (w := w) (K := K) (base := base) T
  have g_kinds_of := ok_kinds_of (P := P) (w := w) (K := K) (base := base) T
  have g_ranges_of := ok_ranges_of (P := P) (w := w) (K := K) (base := base) T
  obtain ⟨tR, c_RESULT_h⟩ := T.c_RESULT
  refine T.F_Layout_init.ok sc_Layout_init (fun vs H Q E h => ?_) (fun cdv A outer s H vs Q E hr h => ?_)
  · obtain ⟨x, dx, v, p, i, f, rfl, _⟩ := h
    rfl
  obtain ⟨x, dx, v, p, i, f, rfl, hx, hp, hi, hnd, hvn, hvl, hres, hdep, hcnt, q⟩ := h
  refine ⟨_, (pss_cons (ps_set (i := 3) sc_Layout_init.nd rfl (Or.inl rfl) (pe_call g_function_named (hr.mono (by first | decide | omega)) rfl T.m_function_named T.F_function_named.kp T.b_function_named .nil pass0 (pa_cons (pv 1) (pa_cons (pv 2) pa_nil))))
      (pss_cons (ps_set (i := 4) sc_Layout_init.nd rfl (Or.inl rfl) (pe_callTy (DTL.call_dictPT rfl) rfl T.z_dict bt_dict (pa_cons (pe_ix ix_tup (pv 1) pe_int (fun _ _ => rfl)) pa_nil)))
      (pss_cons (ps_set (i := 5) sc_Layout_init.nd rfl (Or.inl rfl) (pe_callTy (call_dictP rfl) rfl T.z_dict bt_dict (pa_cons (pe_lst (StX.pa_star (pe_ix ix_tup (pv 1) pe_int (fun _ _ => rfl)) (StX.pa_star (pe_ix ix_tup (pv 3) pe_int (fun _ _ => rfl)) pa_nil))) pa_nil)))
      (pss_cons (ps_set (i := 6) sc_Layout_init.nd rfl (Or.inl rfl) (pe_callTy (DTL.call_dictPT rfl) rfl T.z_dict bt_dict (pa_cons (pe_ix ix_tup (pv 1) pe_int (fun _ _ => rfl)) pa_nil)))
      (C8.pss_cut (ps_if (pt_cmpR op_notN (pe_ix ix_tup (pv 3) pe_int (fun _ _ => rfl)) pe_non (nomark _)) (pss_one (ps_dput (hu_of hr) (pv 6) (pe_glob (v := .str "result") rfl c_RESULT_h ⟨_, rfl⟩) (pe_ix ix_tup (pv 3) pe_int (fun _ _ => rfl)) rfl)) pss_nil)
      (pss_cons (ps_fld (pv 0) (pv 1) rfl)
      (pss_cons (ps_fld (pv 0) (pv 2) rfl)
      (pss_cons (ps_fld (pv 0) (pe_ix ix_tup (pv 3) pe_int (fun _ _ => rfl)) rfl)
      (pss_cons (ps_fld (pv 0) (pe_ix ix_tup (pv 3) pe_int (fun _ _ => rfl)) rfl)
      (pss_cons (ps_fld (pv 0) (pe_ix ix_tup (pv 3) pe_int (fun _ _ => rfl)) rfl)
      (pss_cons (ps_fld (pv 0) (pe_call g_count_statements (hr.mono (by first | decide | omega)) rfl T.m_count_statements T.F_count_statements.kp T.b_count_statements .nil pass0 (pa_cons (pe_ix ix_tup (pv 3) pe_int (fun _ _ => rfl)) pa_nil)) rfl)
      (pss_cons (ps_fld (pv 0) (pe_call g_nodes (hr.mono (by first | decide | omega)) rfl T.m_nodes T.F_nodes.kp T.b_nodes .nil pass0 (pa_cons (pv 3) pa_nil)) rfl)
      (pss_cons (ps_fld (pv 0) (pe_call g_heads (hr.mono (by first | decide | omega)) rfl T.m_heads T.F_heads.kp T.b_heads .nil pass0 (pa_cons (pv 3) pa_nil)) rfl)
      (pss_cons (ps_fld (pv 0) (pe_call g_visible_kinds (hr.mono (by first | decide | omega)) rfl T.m_visible_kinds T.F_visible_kinds.kp T.b_visible_kinds .nil pass0 (pa_cons (pv 1) (pa_cons (pv 3) pa_nil))) rfl)
      (pss_cons (ps_fld (pv 0) (pe_call g_discrete_names (hr.mono (by first | decide | omega)) rfl T.m_discrete_names T.F_discrete_names.kp T.b_discrete_names .nil pass0 (pa_cons (pe_fld (pv 0) rfl) pa_nil)) rfl)
      (pss_cons (ps_fld (pv 0) (pe_call g_large_names (hr.mono (by first | decide | omega)) rfl T.m_large_names T.F_large_names.kp T.b_large_names .nil pass0 (pa_cons (pe_fld (pv 0) rfl) pa_nil)) rfl)
      (pss_cons (ps_fld (pv 0) (pe_call g_discrete_names (hr.mono (by first | decide | omega)) rfl T.m_discrete_names T.F_discrete_names.kp T.b_discrete_names .nil pass0 (pa_cons (pv 5) pa_nil)) rfl)
      (pss_cons (ps_fld (pv 0) (pe_call g_large_names (hr.mono (by first | decide | omega)) rfl T.m_large_names T.F_large_names.kp T.b_large_names .nil pass0 (pa_cons (pv 5) pa_nil)) rfl)
      (pss_cons (ps_fld (pv 0) (pe_call g_discrete_names (hr.mono (by first | decide | omega)) rfl T.m_discrete_names T.F_discrete_names.kp T.b_discrete_names .nil pass0 (pa_cons (pv 6) pa_nil)) rfl)
      (pss_cons (ps_fld (pv 0) (pe_call g_large_names (hr.mono (by first | decide | omega)) rfl T.m_large_names T.F_large_names.kp T.b_large_names .nil pass0 (pa_cons (pv 6) pa_nil)) rfl)
      (pss_cons (ps_fld (pv 0) (pe_call g_large_names (hr.mono (by first | decide | omega)) rfl T.m_large_names T.F_large_names.kp T.b_large_names .nil pass0 (pa_cons (pv 4) pa_nil)) rfl)
      (pss_cons (ps_fld (pv 0) (pe_call g_kinds_of (hr.mono (by first | decide | omega)) rfl T.m_kinds_of T.F_kinds_of.kp T.b_kinds_of .nil pass0 (pa_cons (pe_fld (pv 0) rfl) (pa_cons (pe_fld (pv 0) rfl) pa_nil))) rfl)
      (pss_cons (ps_fld (pv 0) (pe_call g_kinds_of (hr.mono (by first | decide | omega)) rfl T.m_kinds_of T.F_kinds_of.kp T.b_kinds_of .nil pass0 (pa_cons (pe_fld (pv 0) rfl) (pa_cons (pv 5) pa_nil))) rfl)
      (pss_cons (ps_fld (pv 0) (pe_call g_kinds_of (hr.mono (by first | decide | omega)) rfl T.m_kinds_of T.F_kinds_of.kp T.b_kinds_of .nil pass0 (pa_cons (pe_fld (pv 0) rfl) (pa_cons (pv 6) pa_nil))) rfl)
      (pss_cons (ps_set (i := 7) sc_Layout_init.nd rfl (Or.inl rfl) (pe_call g_ranges_of (hr.mono (by first | decide | omega)) rfl T.m_ranges_of T.F_ranges_of.kp T.b_ranges_of .nil pass0 (pa_cons (pe_fld (pv 0) rfl) (pa_cons (pv 5) pa_nil))))
      (pss_cons (ps_fld (pv 0) (pe_op op_catA (pe_call g_ranges_of (hr.mono (by first | decide | omega)) rfl T.m_ranges_of T.F_ranges_of.kp T.b_ranges_of .nil pass0 (pa_cons (pe_fld (pv 0) rfl) (pa_cons (pe_fld (pv 0) rfl) pa_nil))) (pv 7)) rfl)
      (pss_one (ps_fld (pv 0) (pe_op op_catA (pe_call g_ranges_of (hr.mono (by first | decide | omega)) rfl T.m_ranges_of T.F_ranges_of.kp T.b_ranges_of .nil pass0 (pa_cons (pe_fld (pv 0) rfl) (pa_cons (pv 6) pa_nil))) (pv 7)) rfl)))))))))))))))))))))))))))), ?_⟩
  obtain ⟨a, g, fa, r0, r1, fvs, rfl, h1, ⟨o, ps, kvs, g1, g2, g3⟩, h3, h4, h5⟩ := id hp
  refine ⟨_, rfl, _, rfl, .ref a, p, f.nm, i, f, rfl, hp, hi, rfl, hnd, fun u fu => ?_⟩
  obtain ⟨F, a1, a3, qq, ps1, ps3, kv1, kv3, rv, us, rfl, f1, f2, f3, f4, f5, f6, f7, f8⟩ := id fu
  have lv : (vis p f).length = p.gl.length + f.pk.length + f.ow.length := by unfold vis; rw [List.length_append, List.length_append]
  have lg := g3.len
  have lp := f3.len
  have en := g3.app f3
  have vn2 : ((p.gl ++ f.pk).map (·.1)).Nodup := by
    unfold vis at hvn
    rw [List.map_append] at hvn
    exact (List.nodup_append.mp hvn).1
  have ndE := en.2.nd vn2
  have vn1 : (p.gl.map (·.1)).Nodup := by
    rw [List.map_append] at vn2
    exact (List.nodup_append.mp vn2).1
  have ndG := g3.2.nd vn1
  -- the shared names
  refine ⟨_, rfl, a, _, 2, _, rfl, rfl, h1, rfl, g, o, ps, kvs, rfl, g1, g2, g3.1, fun d3 hd3 => ?_⟩
  rw [merge_nil ndG]
  have s3 := Same.new hd3 (.dK kvs)
  have k3 := Keeps.of_same (K := K) s3
  have e3 : (upd H d3 (.dK kvs)) d3 = some (.dK kvs) := upd_same
  generalize (upd H d3 (.dK kvs)) = H3 at s3 k3 e3 ⊢
  -- the names at the beginning
  refine ⟨_, rfl, a, _, 2, _, rfl, rfl, (k3 _ _ h1), rfl, g, _, rfl, .inl (.inl (.inr ⟨o, s3 _ _ g1⟩)), _, rfl, F, _, 1, _, rfl, rfl, (k3 _ _ f1), rfl, a1, _, rfl, .inl (k3 _ _ f2), ?_, fun L hL => ?_⟩
  · simp only [List.length_append, List.length_map, List.length_nil]
    exact Nat.le_of_lt (small1000 (by omega))
  have sL := Same.new hL (.lst (ps.map V.ref ++ (ps1.map V.ref ++ [])))
  have kL := Keeps.of_same (K := K) (s3.trans sL)
  refine ⟨L, ps ++ ps1, kvs ++ kv1, rfl, SqL.of (by rw [upd_same]; simp [List.map_append]), (en.keep kL).1, fun d4 hd4 => ?_⟩
  rw [merge_nil ndE]
  have s4 := (s3.trans sL).trans (Same.new hd4 (.dK (kvs ++ kv1)))
  have e34 : (upd (upd H3 L (.lst (ps.map V.ref ++ (ps1.map V.ref ++ [])))) d4 (.dK (kvs ++ kv1))) d3 = some (.dK kvs) := (sL.trans (Same.new hd4 _)) _ _ e3
  have e4 : (upd (upd H3 L (.lst (ps.map V.ref ++ (ps1.map V.ref ++ [])))) d4 (.dK (kvs ++ kv1))) d4 = some (.dK (kvs ++ kv1)) := upd_same
  generalize (upd (upd H3 L (.lst (ps.map V.ref ++ (ps1.map V.ref ++ [])))) d4 (.dK (kvs ++ kv1))) = H4 at s4 e34 e4 ⊢
  have k4 := Keeps.of_same (K := K) s4
  -- the names at the end
  refine ⟨_, rfl, a, _, 2, _, rfl, rfl, (k4 _ _ h1), rfl, g, o, ps, kvs, rfl, s4 _ _ g1, g2, (g3.keep k4).1, fun d5 hd5 => ?_⟩
  rw [merge_nil ndG]
  have s5 := s4.trans (Same.new hd5 (.dK kvs))
  have k5 := Keeps.of_same (K := K) s5
  have n35 : d3 ≠ d5 := ne_of_none e34 hd5
  have n45 : d4 ≠ d5 := ne_of_none e4 hd5
  have e35 : (upd H4 d5 (.dK kvs)) d3 = some (.dK kvs) := by rw [upd_ne n35]; exact e34
  have e45 : (upd H4 d5 (.dK kvs)) d4 = some (.dK (kvs ++ kv1)) := by rw [upd_ne n45]; exact e4
  have e5 : (upd H4 d5 (.dK kvs)) d5 = some (.dK kvs) := upd_same
  have hd50 := s4.free hd5
  generalize (upd H4 d5 (.dK kvs)) = HA at s5 k5 e35 e45 e5 ⊢
  refine ⟨fun σ HB => ∃ kv5 : List (Key × V), Same H HB ∧ HB d3 = some (.dK kvs) ∧ HB d4 = some (.dK (kvs ++ kv1)) ∧ HB d5 = some (.dK kv5) ∧ KvAt K HB (exitK p f) kv5 ∧ (kv5.map (·.1)).Nodup ∧ kv5.length ≤ 51 ∧ σ = [some (.ref x), some (.ref a), some (.str f.nm), some (.ref F), some (.ref d3), some (.ref d4), some (.ref d5), none], ?_, ?_⟩
  · have lk := g3.2.len
    refine ⟨_, rfl, F, _, 2, _, rfl, rfl, (k5 _ _ f1), rfl, rfl, _, rfl, ?_⟩
    cases hrs : f.rs with
    | none =>
      rw [hrs] at f4
      have f4 : rv = .non := f4
      subst f4
      refine ifF (by decide +kernel) ⟨kvs, s5, e35, e45, e5, ?_, ndG, by omega, rfl⟩
      unfold exitK
      rw [hrs, List.append_nil]
      exact (g3.keep k5).2
    | some kk =>
      rw [hrs] at f4
      obtain ⟨pk, rfl, hpk⟩ := id (show KdAt K H rv kk from f4)
      have nr : valV kvs (Sum.inr "result") = none := valV_out (by
        rw [g3.2.keys]
        intro z
        obtain ⟨b, hb, eb⟩ := List.mem_map.mp z
        exact hres (List.mem_map.mpr ⟨b, hb, Sum.inr.inj eb⟩))
      refine ifT (by rw [decide_eq_false (fun z => nomatch z)]; rfl) ⟨_, rfl, F, _, 2, _, rfl, rfl, (k5 _ _ f1), rfl, _, rfl, d5, _, rfl, DPut.k (k := Sum.inr "result") e5 (small1000 (by omega)), ?_⟩
      rw [putK_new _ nr]
      have kd := keep_dk (K := K) (o := .dK (kvs ++ [((Sum.inr "result" : Key), V.ref pk)])) e5
      have ap := ((g3.keep k5).2.keep kd).app (l2 := [("result", kk)]) (r2 := [((Sum.inr "result" : Key), V.ref pk)]) ⟨rfl, ⟨pk, rfl, kd _ _ (k5 _ _ hpk)⟩, trivial⟩
      refine ⟨_, Same.grow hd50 s5, by rw [upd_ne n35]; exact e35, by rw [upd_ne n45]; exact e45, upd_same, ?_, ?_, ?_, rfl⟩
      · unfold exitK
        rw [hrs]
        exact ap
      · refine ap.nd ?_
        rw [List.map_append]
        refine List.nodup_append.mpr ⟨vn1, by simp, fun z hz y hy => ?_⟩
        rw [List.mem_singleton.mp hy]
        exact fun e => hres (by
          have e' : z = ("result" : Str) := e
          rw [← e']
          exact hz)
      · rw [List.length_append]
        show kvs.length + 1 ≤ 51
        omega
  rintro σ A0 ⟨kv5, s6, b3, b4, b5, kx, ndX, lx, rfl⟩
  have kB := Keeps.of_same (K := K) s6
  have q0 := s6 _ _ hx
  have hHB : SmX x H A0 := SmX.refl.same s6
  have n3x : d3 ≠ x := fun z => by rw [z, q0] at b3; cases b3
  have n4x : d4 ≠ x := fun z => by rw [z, q0] at b4; cases b4
  have n5x : d5 ≠ x := fun z => by rw [z, q0] at b5; cases b5
  have len1 : (kvs ++ kv1).length ≤ 100 := by
    have := g3.2.len
    have := f3.2.len
    rw [List.length_append]
    omega
  have lenG : kvs.length ≤ 100 := by
    have := g3.2.len
    omega
  have lenE : ∀ g : Kd → Bool, ((p.gl ++ f.pk).filter (fun a => g a.2)).length ≤ 100 := fun g => by
    have := List.length_filter_le (fun a : Str × Kd => g a.2) (p.gl ++ f.pk)
    rw [List.length_append] at this
    omega
  have lenV : ∀ g : Kd → Bool, ((vis p f).filter (fun a => g a.2)).length ≤ 100 := fun g => by
    have := List.length_filter_le (fun a : Str × Kd => g a.2) (vis p f)
    omega
  have lenX : ∀ g : Kd → Bool, ((exitK p f).filter (fun a => g a.2)).length ≤ 100 := fun g => by
    have := List.length_filter_le (fun a : Str × Kd => g a.2) (exitK p f)
    have := kx.len
    omega
  replace fu := fu.keep kB
  have pg := hp.same s6
  replace en := (en.keep kB).2
  have gl := (g3.keep kB).2
  replace f1 := kB _ _ f1
  have f40 := f4
  replace f4 := f4.keep kB
  replace f7 := kB _ _ f7
  replace f8 := TrL.keep kB f8
  clear kB
  have ln0 : ([] : List (Str × V)).length ≤ 0 := Nat.le_refl _
  generalize ([] : List (Str × V)) = fs0 at q0 ln0
  refine ⟨_, rfl, _, rfl, x, T.C_Layout, dx, _, rfl, q0, T.cl_Layout, T.no_Layout_program, (by omega), ?_⟩
  have ln1 : (putF "program" (.ref a) fs0).length ≤ 1 := ln_put ln0
  have lk_program : (putF "program" (.ref a) fs0).lookup ("program" : Str) = some (.ref a) := lk_new
  generalize (putF "program" (.ref a) fs0) = fs1 at ln1 lk_program ⊢
  have S1 : SmX x A0 (upd A0 x (.ins T.C_Layout dx fs1)) := SmX.refl.put
  have q1 : (upd A0 x (.ins T.C_Layout dx fs1)) x = some (.ins T.C_Layout dx fs1) := upd_same
  generalize (upd A0 x (.ins T.C_Layout dx fs1)) = A1 at S1 q1 ⊢
  have Z1 := S1.keeps (K := K) q0
  replace pg := pg.smx S1 q0
  replace fu := fu.keep Z1
  replace en := en.keep Z1
  replace gl := gl.keep Z1
  replace kx := kx.keep Z1
  replace f1 := Z1 _ _ f1
  replace f4 := f4.keep Z1
  replace f7 := Z1 _ _ f7
  replace f8 := TrL.keep Z1 f8
  replace b3 := S1 _ _ n3x b3
  replace b4 := S1 _ _ n4x b4
  replace b5 := S1 _ _ n5x b5
  replace hHB := hHB.trans S1
  refine ⟨_, rfl, _, rfl, x, T.C_Layout, dx, _, rfl, q1, T.cl_Layout, T.no_Layout_name, (by omega), ?_⟩
  have ln2 : (putF "name" (.str f.nm) fs1).length ≤ 2 := ln_put ln1
  replace lk_program : (putF "name" (.str f.nm) fs1).lookup ("program" : Str) = some (.ref a) := lk_put lk_program (by decide +kernel)
  have lk_name : (putF "name" (.str f.nm) fs1).lookup ("name" : Str) = some (.str f.nm) := lk_new
  generalize (putF "name" (.str f.nm) fs1) = fs2 at ln2 lk_program lk_name ⊢
  have S2 : SmX x A1 (upd A1 x (.ins T.C_Layout dx fs2)) := SmX.refl.put
  have q2 : (upd A1 x (.ins T.C_Layout dx fs2)) x = some (.ins T.C_Layout dx fs2) := upd_same
  generalize (upd A1 x (.ins T.C_Layout dx fs2)) = A2 at S2 q2 ⊢
  have Z2 := S2.keeps (K := K) q1
  replace pg := pg.smx S2 q1
  replace fu := fu.keep Z2
  replace en := en.keep Z2
  replace gl := gl.keep Z2
  replace kx := kx.keep Z2
  replace f1 := Z2 _ _ f1
  replace f4 := f4.keep Z2
  replace f7 := Z2 _ _ f7
  replace f8 := TrL.keep Z2 f8
  replace b3 := S2 _ _ n3x b3
  replace b4 := S2 _ _ n4x b4
  replace b5 := S2 _ _ n5x b5
  replace hHB := hHB.trans S2
  refine ⟨_, rfl, F, _, 1, _, rfl, rfl, f1, rfl, _, rfl, x, T.C_Layout, dx, _, rfl, q2, T.cl_Layout, T.no_Layout_params, (by omega), ?_⟩
  have ln3 : (putF "params" (.ref a1) fs2).length ≤ 3 := ln_put ln2
  replace lk_program : (putF "params" (.ref a1) fs2).lookup ("program" : Str) = some (.ref a) := lk_put lk_program (by decide +kernel)
  replace lk_name : (putF "params" (.ref a1) fs2).lookup ("name" : Str) = some (.str f.nm) := lk_put lk_name (by decide +kernel)
  generalize (putF "params" (.ref a1) fs2) = fs3 at ln3 lk_program lk_name ⊢
  have S3 : SmX x A2 (upd A2 x (.ins T.C_Layout dx fs3)) := SmX.refl.put
  have q3 : (upd A2 x (.ins T.C_Layout dx fs3)) x = some (.ins T.C_Layout dx fs3) := upd_same
  generalize (upd A2 x (.ins T.C_Layout dx fs3)) = A3 at S3 q3 ⊢
  have Z3 := S3.keeps (K := K) q2
  replace pg := pg.smx S3 q2
  replace fu := fu.keep Z3
  replace en := en.keep Z3
  replace gl := gl.keep Z3
  replace kx := kx.keep Z3
  replace f1 := Z3 _ _ f1
  replace f4 := f4.keep Z3
  replace f7 := Z3 _ _ f7
  replace f8 := TrL.keep Z3 f8
  replace b3 := S3 _ _ n3x b3
  replace b4 := S3 _ _ n4x b4
  replace b5 := S3 _ _ n5x b5
  replace hHB := hHB.trans S3
  refine ⟨_, rfl, F, _, 2, _, rfl, rfl, f1, rfl, _, rfl, x, T.C_Layout, dx, _, rfl, q3, T.cl_Layout, T.no_Layout_result, (by omega), ?_⟩
  have ln4 : (putF "result" rv fs3).length ≤ 4 := ln_put ln3
  replace lk_program : (putF "result" rv fs3).lookup ("program" : Str) = some (.ref a) := lk_put lk_program (by decide +kernel)
  replace lk_name : (putF "result" rv fs3).lookup ("name" : Str) = some (.str f.nm) := lk_put lk_name (by decide +kernel)
  have lk_result : (putF "result" rv fs3).lookup ("result" : Str) = some rv := lk_new
  generalize (putF "result" rv fs3) = fs4 at ln4 lk_program lk_name lk_result ⊢
  have S4 : SmX x A3 (upd A3 x (.ins T.C_Layout dx fs4)) := SmX.refl.put
  have q4 : (upd A3 x (.ins T.C_Layout dx fs4)) x = some (.ins T.C_Layout dx fs4) := upd_same
  generalize (upd A3 x (.ins T.C_Layout dx fs4)) = A4 at S4 q4 ⊢
  have Z4 := S4.keeps (K := K) q3
  replace pg := pg.smx S4 q3
  replace fu := fu.keep Z4
  replace en := en.keep Z4
  replace gl := gl.keep Z4
  replace kx := kx.keep Z4
  replace f1 := Z4 _ _ f1
  replace f4 := f4.keep Z4
  replace f7 := Z4 _ _ f7
  replace f8 := TrL.keep Z4 f8
  replace b3 := S4 _ _ n3x b3
  replace b4 := S4 _ _ n4x b4
  replace b5 := S4 _ _ n5x b5
  replace hHB := hHB.trans S4
  refine ⟨_, rfl, F, _, 4, _, rfl, rfl, f1, rfl, _, rfl, x, T.C_Layout, dx, _, rfl, q4, T.cl_Layout, T.no_Layout_body, (by omega), ?_⟩
  have ln5 : (putF "body" (.ref qq) fs4).length ≤ 5 := ln_put ln4
  replace lk_program : (putF "body" (.ref qq) fs4).lookup ("program" : Str) = some (.ref a) := lk_put lk_program (by decide +kernel)
  replace lk_name : (putF "body" (.ref qq) fs4).lookup ("name" : Str) = some (.str f.nm) := lk_put lk_name (by decide +kernel)
  replace lk_result : (putF "body" (.ref qq) fs4).lookup ("result" : Str) = some rv := lk_put lk_result (by decide +kernel)
  generalize (putF "body" (.ref qq) fs4) = fs5 at ln5 lk_program lk_name lk_result ⊢
  have S5 : SmX x A4 (upd A4 x (.ins T.C_Layout dx fs5)) := SmX.refl.put
  have q5 : (upd A4 x (.ins T.C_Layout dx fs5)) x = some (.ins T.C_Layout dx fs5) := upd_same
  generalize (upd A4 x (.ins T.C_Layout dx fs5)) = A5 at S5 q5 ⊢
  have Z5 := S5.keeps (K := K) q4
  replace pg := pg.smx S5 q4
  replace fu := fu.keep Z5
  replace en := en.keep Z5
  replace gl := gl.keep Z5
  replace kx := kx.keep Z5
  replace f1 := Z5 _ _ f1
  replace f4 := f4.keep Z5
  replace f7 := Z5 _ _ f7
  replace f8 := TrL.keep Z5 f8
  replace b3 := S5 _ _ n3x b3
  replace b4 := S5 _ _ n4x b4
  replace b5 := S5 _ _ n5x b5
  replace hHB := hHB.trans S5
  refine ⟨_, rfl, F, _, 4, _, rfl, rfl, f1, rfl, qq, us, f.bd, rfl, f7, f8, hdep, hcnt, fun G5 sg5 => ?_⟩
  refine ⟨_, rfl, x, T.C_Layout, dx, _, rfl, sg5 _ _ q5, T.cl_Layout, T.no_Layout_exit, (by omega), ?_⟩
  have ln6 : (putF "exit" (.int (f.bd.cnt : Int)) fs5).length ≤ 6 := ln_put ln5
  replace lk_program : (putF "exit" (.int (f.bd.cnt : Int)) fs5).lookup ("program" : Str) = some (.ref a) := lk_put lk_program (by decide +kernel)
  replace lk_name : (putF "exit" (.int (f.bd.cnt : Int)) fs5).lookup ("name" : Str) = some (.str f.nm) := lk_put lk_name (by decide +kernel)
  replace lk_result : (putF "exit" (.int (f.bd.cnt : Int)) fs5).lookup ("result" : Str) = some rv := lk_put lk_result (by decide +kernel)
  have lk_exit : (putF "exit" (.int (f.bd.cnt : Int)) fs5).lookup ("exit" : Str) = some (.int (f.bd.cnt : Int)) := lk_new
  generalize (putF "exit" (.int (f.bd.cnt : Int)) fs5) = fs6 at ln6 lk_program lk_name lk_result lk_exit ⊢
  have S6 : SmX x A5 (upd G5 x (.ins T.C_Layout dx fs6)) := (SmX.refl.same sg5).put
  have q6 : (upd G5 x (.ins T.C_Layout dx fs6)) x = some (.ins T.C_Layout dx fs6) := upd_same
  generalize (upd G5 x (.ins T.C_Layout dx fs6)) = A6 at S6 q6 ⊢
  have Z6 := S6.keeps (K := K) q5
  replace pg := pg.smx S6 q5
  replace fu := fu.keep Z6
  replace en := en.keep Z6
  replace gl := gl.keep Z6
  replace kx := kx.keep Z6
  replace f1 := Z6 _ _ f1
  replace f4 := f4.keep Z6
  replace f7 := Z6 _ _ f7
  replace f8 := TrL.keep Z6 f8
  replace b3 := S6 _ _ n3x b3
  replace b4 := S6 _ _ n4x b4
  replace b5 := S6 _ _ n5x b5
  replace hHB := hHB.trans S6
  refine ⟨_, rfl, F, f.bd, rfl, ⟨_, _, _, _, _, _, f1, f7, f8⟩, hdep, hcnt, fun y6 G6 sg6 _ => ?_⟩
  refine ⟨_, rfl, x, T.C_Layout, dx, _, rfl, sg6 _ _ q6, T.cl_Layout, T.no_Layout_graph, (by omega), ?_⟩
  have ln7 : (putF "graph" (.ref y6) fs6).length ≤ 7 := ln_put ln6
  replace lk_program : (putF "graph" (.ref y6) fs6).lookup ("program" : Str) = some (.ref a) := lk_put lk_program (by decide +kernel)
  replace lk_name : (putF "graph" (.ref y6) fs6).lookup ("name" : Str) = some (.str f.nm) := lk_put lk_name (by decide +kernel)
  replace lk_result : (putF "graph" (.ref y6) fs6).lookup ("result" : Str) = some rv := lk_put lk_result (by decide +kernel)
  replace lk_exit : (putF "graph" (.ref y6) fs6).lookup ("exit" : Str) = some (.int (f.bd.cnt : Int)) := lk_put lk_exit (by decide +kernel)
  generalize (putF "graph" (.ref y6) fs6) = fs7 at ln7 lk_program lk_name lk_result lk_exit ⊢
  have S7 : SmX x A6 (upd G6 x (.ins T.C_Layout dx fs7)) := (SmX.refl.same sg6).put
  have q7 : (upd G6 x (.ins T.C_Layout dx fs7)) x = some (.ins T.C_Layout dx fs7) := upd_same
  generalize (upd G6 x (.ins T.C_Layout dx fs7)) = A7 at S7 q7 ⊢
  have Z7 := S7.keeps (K := K) q6
  replace pg := pg.smx S7 q6
  replace fu := fu.keep Z7
  replace en := en.keep Z7
  replace gl := gl.keep Z7
  replace kx := kx.keep Z7
  replace f1 := Z7 _ _ f1
  replace f4 := f4.keep Z7
  replace f7 := Z7 _ _ f7
  replace f8 := TrL.keep Z7 f8
  replace b3 := S7 _ _ n3x b3
  replace b4 := S7 _ _ n4x b4
  replace b5 := S7 _ _ n5x b5
  replace hHB := hHB.trans S7
  refine ⟨_, rfl, F, f.bd, rfl, ⟨_, _, _, _, _, _, f1, f7, f8⟩, hdep, hcnt, fun y7 G7 sg7 _ => ?_⟩
  refine ⟨_, rfl, x, T.C_Layout, dx, _, rfl, sg7 _ _ q7, T.cl_Layout, T.no_Layout_heads, (by omega), ?_⟩
  have ln8 : (putF "heads" (.ref y7) fs7).length ≤ 8 := ln_put ln7
  replace lk_program : (putF "heads" (.ref y7) fs7).lookup ("program" : Str) = some (.ref a) := lk_put lk_program (by decide +kernel)
  replace lk_name : (putF "heads" (.ref y7) fs7).lookup ("name" : Str) = some (.str f.nm) := lk_put lk_name (by decide +kernel)
  replace lk_result : (putF "heads" (.ref y7) fs7).lookup ("result" : Str) = some rv := lk_put lk_result (by decide +kernel)
  replace lk_exit : (putF "heads" (.ref y7) fs7).lookup ("exit" : Str) = some (.int (f.bd.cnt : Int)) := lk_put lk_exit (by decide +kernel)
  generalize (putF "heads" (.ref y7) fs7) = fs8 at ln8 lk_program lk_name lk_result lk_exit ⊢
  have S8 : SmX x A7 (upd G7 x (.ins T.C_Layout dx fs8)) := (SmX.refl.same sg7).put
  have q8 : (upd G7 x (.ins T.C_Layout dx fs8)) x = some (.ins T.C_Layout dx fs8) := upd_same
  generalize (upd G7 x (.ins T.C_Layout dx fs8)) = A8 at S8 q8 ⊢
  have Z8 := S8.keeps (K := K) q7
  replace pg := pg.smx S8 q7
  replace fu := fu.keep Z8
  replace en := en.keep Z8
  replace gl := gl.keep Z8
  replace kx := kx.keep Z8
  replace f1 := Z8 _ _ f1
  replace f4 := f4.keep Z8
  replace f7 := Z8 _ _ f7
  replace f8 := TrL.keep Z8 f8
  replace b3 := S8 _ _ n3x b3
  replace b4 := S8 _ _ n4x b4
  replace b5 := S8 _ _ n5x b5
  replace hHB := hHB.trans S8
  refine ⟨_, rfl, _, rfl, .ref a, .ref F, p, f, rfl, pg, fu, hvn, by omega, fun d kvK G8 sg8 hd0 hd hk ndK => ?_⟩
  have ndx : d ≠ x := fun z => by rw [z, q8] at hd0; cases hd0
  have lenK : kvK.length ≤ 100 := by
    have := hk.len
    omega
  have hd' : ∀ o, (upd G8 x o) d = some (.dK kvK) := fun o => by rw [upd_ne ndx]; exact hd
  have hk' : ∀ fs, KvAt K (upd G8 x (.ins T.C_Layout dx fs)) (vis p f) kvK := fun fs => hk.keep ((show SmX x G8 (upd G8 x (.ins T.C_Layout dx fs)) from SmX.refl.put).keeps (sg8 _ _ q8))
  refine ⟨_, rfl, x, T.C_Layout, dx, _, rfl, sg8 _ _ q8, T.cl_Layout, T.no_Layout_kinds, (by omega), ?_⟩
  have ln9 : (putF "kinds" (.ref d) fs8).length ≤ 9 := ln_put ln8
  replace lk_program : (putF "kinds" (.ref d) fs8).lookup ("program" : Str) = some (.ref a) := lk_put lk_program (by decide +kernel)
  replace lk_name : (putF "kinds" (.ref d) fs8).lookup ("name" : Str) = some (.str f.nm) := lk_put lk_name (by decide +kernel)
  replace lk_result : (putF "kinds" (.ref d) fs8).lookup ("result" : Str) = some rv := lk_put lk_result (by decide +kernel)
  replace lk_exit : (putF "kinds" (.ref d) fs8).lookup ("exit" : Str) = some (.int (f.bd.cnt : Int)) := lk_put lk_exit (by decide +kernel)
  have lk_kinds : (putF "kinds" (.ref d) fs8).lookup ("kinds" : Str) = some (.ref d) := lk_new
  generalize (putF "kinds" (.ref d) fs8) = fs9 at ln9 lk_program lk_name lk_result lk_exit lk_kinds ⊢
  have S9 : SmX x A8 (upd G8 x (.ins T.C_Layout dx fs9)) := (SmX.refl.same sg8).put
  have q9 : (upd G8 x (.ins T.C_Layout dx fs9)) x = some (.ins T.C_Layout dx fs9) := upd_same
  have hdd : (upd G8 x (.ins T.C_Layout dx fs9)) d = some (.dK kvK) := hd' _
  have hkk : KvAt K (upd G8 x (.ins T.C_Layout dx fs9)) (vis p f) kvK := hk' _
  clear hd hk hd' hk'
  generalize (upd G8 x (.ins T.C_Layout dx fs9)) = A9 at S9 q9 hdd hkk ⊢
  have Z9 := S9.keeps (K := K) q8
  replace pg := pg.smx S9 q8
  replace fu := fu.keep Z9
  replace en := en.keep Z9
  replace gl := gl.keep Z9
  replace kx := kx.keep Z9
  replace f1 := Z9 _ _ f1
  replace f4 := f4.keep Z9
  replace f7 := Z9 _ _ f7
  replace f8 := TrL.keep Z9 f8
  replace b3 := S9 _ _ n3x b3
  replace b4 := S9 _ _ n4x b4
  replace b5 := S9 _ _ n5x b5
  replace hHB := hHB.trans S9
  refine ⟨_, rfl, x, T.C_Layout, dx, _, .ref d, rfl, q9, T.cl_Layout, T.no_Layout_kinds, lk_kinds, d, kvK, vis p f, rfl, hdd, hkk, ndK, lenK, fun t9 G9 sg9 tg => ?_⟩
  have ntG : NmT K G9 (.ref t9) (namesT Kd.disc (vis p f)) := ⟨t9, rfl, SqT.of tg⟩
  have nt9 : ∀ fs, NmT K (upd G9 x (.ins T.C_Layout dx fs)) (.ref t9) (namesT Kd.disc (vis p f)) := fun fs => ntG.keep ((show SmX x G9 (upd G9 x (.ins T.C_Layout dx fs)) from SmX.refl.put).keeps (sg9 _ _ q9))
  refine ⟨_, rfl, x, T.C_Layout, dx, _, rfl, sg9 _ _ q9, T.cl_Layout, T.no_Layout_discrete, (by omega), ?_⟩
  have ln10 : (putF "discrete" (.ref t9) fs9).length ≤ 10 := ln_put ln9
  replace lk_program : (putF "discrete" (.ref t9) fs9).lookup ("program" : Str) = some (.ref a) := lk_put lk_program (by decide +kernel)
  replace lk_name : (putF "discrete" (.ref t9) fs9).lookup ("name" : Str) = some (.str f.nm) := lk_put lk_name (by decide +kernel)
  replace lk_result : (putF "discrete" (.ref t9) fs9).lookup ("result" : Str) = some rv := lk_put lk_result (by decide +kernel)
  replace lk_exit : (putF "discrete" (.ref t9) fs9).lookup ("exit" : Str) = some (.int (f.bd.cnt : Int)) := lk_put lk_exit (by decide +kernel)
  replace lk_kinds : (putF "discrete" (.ref t9) fs9).lookup ("kinds" : Str) = some (.ref d) := lk_put lk_kinds (by decide +kernel)
  have lk_discrete : (putF "discrete" (.ref t9) fs9).lookup ("discrete" : Str) = some (.ref t9) := lk_new
  generalize (putF "discrete" (.ref t9) fs9) = fs10 at ln10 lk_program lk_name lk_result lk_exit lk_kinds lk_discrete ⊢
  have nu9 : NmT K (upd G9 x (.ins T.C_Layout dx fs10)) (.ref t9) (namesT Kd.disc (vis p f)) := nt9 _
  clear nt9 ntG tg
  have S10 : SmX x A9 (upd G9 x (.ins T.C_Layout dx fs10)) := (SmX.refl.same sg9).put
  have q10 : (upd G9 x (.ins T.C_Layout dx fs10)) x = some (.ins T.C_Layout dx fs10) := upd_same
  generalize (upd G9 x (.ins T.C_Layout dx fs10)) = A10 at S10 q10 nu9 ⊢
  have Z10 := S10.keeps (K := K) q9
  replace pg := pg.smx S10 q9
  replace fu := fu.keep Z10
  replace en := en.keep Z10
  replace gl := gl.keep Z10
  replace kx := kx.keep Z10
  replace f1 := Z10 _ _ f1
  replace f4 := f4.keep Z10
  replace f7 := Z10 _ _ f7
  replace f8 := TrL.keep Z10 f8
  replace b3 := S10 _ _ n3x b3
  replace b4 := S10 _ _ n4x b4
  replace b5 := S10 _ _ n5x b5
  replace hHB := hHB.trans S10
  replace hdd := S10 _ _ ndx hdd
  replace hkk := hkk.keep Z10
  refine ⟨_, rfl, x, T.C_Layout, dx, _, .ref d, rfl, q10, T.cl_Layout, T.no_Layout_kinds, lk_kinds, d, kvK, vis p f, rfl, hdd, hkk, ndK, lenK, fun t10 G10 sg10 tg => ?_⟩
  have ntG : NmT K G10 (.ref t10) (namesT Kd.large (vis p f)) := ⟨t10, rfl, SqT.of tg⟩
  have nt10 : ∀ fs, NmT K (upd G10 x (.ins T.C_Layout dx fs)) (.ref t10) (namesT Kd.large (vis p f)) := fun fs => ntG.keep ((show SmX x G10 (upd G10 x (.ins T.C_Layout dx fs)) from SmX.refl.put).keeps (sg10 _ _ q10))
  refine ⟨_, rfl, x, T.C_Layout, dx, _, rfl, sg10 _ _ q10, T.cl_Layout, T.no_Layout_large, (by omega), ?_⟩
  have ln11 : (putF "large" (.ref t10) fs10).length ≤ 11 := ln_put ln10
  replace lk_program : (putF "large" (.ref t10) fs10).lookup ("program" : Str) = some (.ref a) := lk_put lk_program (by decide +kernel)
  replace lk_name : (putF "large" (.ref t10) fs10).lookup ("name" : Str) = some (.str f.nm) := lk_put lk_name (by decide +kernel)
  replace lk_result : (putF "large" (.ref t10) fs10).lookup ("result" : Str) = some rv := lk_put lk_result (by decide +kernel)
  replace lk_exit : (putF "large" (.ref t10) fs10).lookup ("exit" : Str) = some (.int (f.bd.cnt : Int)) := lk_put lk_exit (by decide +kernel)
  replace lk_kinds : (putF "large" (.ref t10) fs10).lookup ("kinds" : Str) = some (.ref d) := lk_put lk_kinds (by decide +kernel)
  replace lk_discrete : (putF "large" (.ref t10) fs10).lookup ("discrete" : Str) = some (.ref t9) := lk_put lk_discrete (by decide +kernel)
  have lk_large : (putF "large" (.ref t10) fs10).lookup ("large" : Str) = some (.ref t10) := lk_new
  generalize (putF "large" (.ref t10) fs10) = fs11 at ln11 lk_program lk_name lk_result lk_exit lk_kinds lk_discrete lk_large ⊢
  have nu10 : NmT K (upd G10 x (.ins T.C_Layout dx fs11)) (.ref t10) (namesT Kd.large (vis p f)) := nt10 _
  clear nt10 ntG tg
  have S11 : SmX x A10 (upd G10 x (.ins T.C_Layout dx fs11)) := (SmX.refl.same sg10).put
  have q11 : (upd G10 x (.ins T.C_Layout dx fs11)) x = some (.ins T.C_Layout dx fs11) := upd_same
  generalize (upd G10 x (.ins T.C_Layout dx fs11)) = A11 at S11 q11 nu10 ⊢
  have Z11 := S11.keeps (K := K) q10
  replace pg := pg.smx S11 q10
  replace fu := fu.keep Z11
  replace en := en.keep Z11
  replace gl := gl.keep Z11
  replace kx := kx.keep Z11
  replace f1 := Z11 _ _ f1
  replace f4 := f4.keep Z11
  replace f7 := Z11 _ _ f7
  replace f8 := TrL.keep Z11 f8
  replace b3 := S11 _ _ n3x b3
  replace b4 := S11 _ _ n4x b4
  replace b5 := S11 _ _ n5x b5
  replace hHB := hHB.trans S11
  replace hdd := S11 _ _ ndx hdd
  replace hkk := hkk.keep Z11
  replace nu9 := nu9.keep Z11
  refine ⟨_, rfl, d4, (kvs ++ kv1), p.gl ++ f.pk, rfl, b4, en, ndE, len1, fun t11 G11 sg11 tg => ?_⟩
  have ntG : NmT K G11 (.ref t11) (namesT Kd.disc (p.gl ++ f.pk)) := ⟨t11, rfl, SqT.of tg⟩
  have nt11 : ∀ fs, NmT K (upd G11 x (.ins T.C_Layout dx fs)) (.ref t11) (namesT Kd.disc (p.gl ++ f.pk)) := fun fs => ntG.keep ((show SmX x G11 (upd G11 x (.ins T.C_Layout dx fs)) from SmX.refl.put).keeps (sg11 _ _ q11))
  refine ⟨_, rfl, x, T.C_Layout, dx, _, rfl, sg11 _ _ q11, T.cl_Layout, T.no_Layout_entry_discrete, (by omega), ?_⟩
  have ln12 : (putF "entry_discrete" (.ref t11) fs11).length ≤ 12 := ln_put ln11
  replace lk_program : (putF "entry_discrete" (.ref t11) fs11).lookup ("program" : Str) = some (.ref a) := lk_put lk_program (by decide +kernel)
  replace lk_name : (putF "entry_discrete" (.ref t11) fs11).lookup ("name" : Str) = some (.str f.nm) := lk_put lk_name (by decide +kernel)
  replace lk_result : (putF "entry_discrete" (.ref t11) fs11).lookup ("result" : Str) = some rv := lk_put lk_result (by decide +kernel)
  replace lk_exit : (putF "entry_discrete" (.ref t11) fs11).lookup ("exit" : Str) = some (.int (f.bd.cnt : Int)) := lk_put lk_exit (by decide +kernel)
  replace lk_kinds : (putF "entry_discrete" (.ref t11) fs11).lookup ("kinds" : Str) = some (.ref d) := lk_put lk_kinds (by decide +kernel)
  replace lk_discrete : (putF "entry_discrete" (.ref t11) fs11).lookup ("discrete" : Str) = some (.ref t9) := lk_put lk_discrete (by decide +kernel)
  replace lk_large : (putF "entry_discrete" (.ref t11) fs11).lookup ("large" : Str) = some (.ref t10) := lk_put lk_large (by decide +kernel)
  have lk_entry_discrete : (putF "entry_discrete" (.ref t11) fs11).lookup ("entry_discrete" : Str) = some (.ref t11) := lk_new
  generalize (putF "entry_discrete" (.ref t11) fs11) = fs12 at ln12 lk_program lk_name lk_result lk_exit lk_kinds lk_discrete lk_large lk_entry_discrete ⊢
  have nu11 : NmT K (upd G11 x (.ins T.C_Layout dx fs12)) (.ref t11) (namesT Kd.disc (p.gl ++ f.pk)) := nt11 _
  clear nt11 ntG tg
  have S12 : SmX x A11 (upd G11 x (.ins T.C_Layout dx fs12)) := (SmX.refl.same sg11).put
  have q12 : (upd G11 x (.ins T.C_Layout dx fs12)) x = some (.ins T.C_Layout dx fs12) := upd_same
  generalize (upd G11 x (.ins T.C_Layout dx fs12)) = A12 at S12 q12 nu11 ⊢
  have Z12 := S12.keeps (K := K) q11
  replace pg := pg.smx S12 q11
  replace fu := fu.keep Z12
  replace en := en.keep Z12
  replace gl := gl.keep Z12
  replace kx := kx.keep Z12
  replace f1 := Z12 _ _ f1
  replace f4 := f4.keep Z12
  replace f7 := Z12 _ _ f7
  replace f8 := TrL.keep Z12 f8
  replace b3 := S12 _ _ n3x b3
  replace b4 := S12 _ _ n4x b4
  replace b5 := S12 _ _ n5x b5
  replace hHB := hHB.trans S12
  replace hdd := S12 _ _ ndx hdd
  replace hkk := hkk.keep Z12
  replace nu9 := nu9.keep Z12
  replace nu10 := nu10.keep Z12
  refine ⟨_, rfl, d4, (kvs ++ kv1), p.gl ++ f.pk, rfl, b4, en, ndE, len1, fun t12 G12 sg12 tg => ?_⟩
  have ntG : NmT K G12 (.ref t12) (namesT Kd.large (p.gl ++ f.pk)) := ⟨t12, rfl, SqT.of tg⟩
  have nt12 : ∀ fs, NmT K (upd G12 x (.ins T.C_Layout dx fs)) (.ref t12) (namesT Kd.large (p.gl ++ f.pk)) := fun fs => ntG.keep ((show SmX x G12 (upd G12 x (.ins T.C_Layout dx fs)) from SmX.refl.put).keeps (sg12 _ _ q12))
  refine ⟨_, rfl, x, T.C_Layout, dx, _, rfl, sg12 _ _ q12, T.cl_Layout, T.no_Layout_entry_large, (by omega), ?_⟩
  have ln13 : (putF "entry_large" (.ref t12) fs12).length ≤ 13 := ln_put ln12
  replace lk_program : (putF "entry_large" (.ref t12) fs12).lookup ("program" : Str) = some (.ref a) := lk_put lk_program (by decide +kernel)
  replace lk_name : (putF "entry_large" (.ref t12) fs12).lookup ("name" : Str) = some (.str f.nm) := lk_put lk_name (by decide +kernel)
  replace lk_result : (putF "entry_large" (.ref t12) fs12).lookup ("result" : Str) = some rv := lk_put lk_result (by decide +kernel)
  replace lk_exit : (putF "entry_large" (.ref t12) fs12).lookup ("exit" : Str) = some (.int (f.bd.cnt : Int)) := lk_put lk_exit (by decide +kernel)
  replace lk_kinds : (putF "entry_large" (.ref t12) fs12).lookup ("kinds" : Str) = some (.ref d) := lk_put lk_kinds (by decide +kernel)
  replace lk_discrete : (putF "entry_large" (.ref t12) fs12).lookup ("discrete" : Str) = some (.ref t9) := lk_put lk_discrete (by decide +kernel)
  replace lk_large : (putF "entry_large" (.ref t12) fs12).lookup ("large" : Str) = some (.ref t10) := lk_put lk_large (by decide +kernel)
  replace lk_entry_discrete : (putF "entry_large" (.ref t12) fs12).lookup ("entry_discrete" : Str) = some (.ref t11) := lk_put lk_entry_discrete (by decide +kernel)
  have lk_entry_large : (putF "entry_large" (.ref t12) fs12).lookup ("entry_large" : Str) = some (.ref t12) := lk_new
  generalize (putF "entry_large" (.ref t12) fs12) = fs13 at ln13 lk_program lk_name lk_result lk_exit lk_kinds lk_discrete lk_large lk_entry_discrete lk_entry_large ⊢
  have nu12 : NmT K (upd G12 x (.ins T.C_Layout dx fs13)) (.ref t12) (namesT Kd.large (p.gl ++ f.pk)) := nt12 _
  clear nt12 ntG tg
  have S13 : SmX x A12 (upd G12 x (.ins T.C_Layout dx fs13)) := (SmX.refl.same sg12).put
  have q13 : (upd G12 x (.ins T.C_Layout dx fs13)) x = some (.ins T.C_Layout dx fs13) := upd_same
  generalize (upd G12 x (.ins T.C_Layout dx fs13)) = A13 at S13 q13 nu12 ⊢
  have Z13 := S13.keeps (K := K) q12
  replace pg := pg.smx S13 q12
  replace fu := fu.keep Z13
  replace en := en.keep Z13
  replace gl := gl.keep Z13
  replace kx := kx.keep Z13
  replace f1 := Z13 _ _ f1
  replace f4 := f4.keep Z13
  replace f7 := Z13 _ _ f7
  replace f8 := TrL.keep Z13 f8
  replace b3 := S13 _ _ n3x b3
  replace b4 := S13 _ _ n4x b4
  replace b5 := S13 _ _ n5x b5
  replace hHB := hHB.trans S13
  replace hdd := S13 _ _ ndx hdd
  replace hkk := hkk.keep Z13
  replace nu9 := nu9.keep Z13
  replace nu10 := nu10.keep Z13
  replace nu11 := nu11.keep Z13
  refine ⟨_, rfl, d5, kv5, exitK p f, rfl, b5, kx, ndX, (by omega), fun t13 G13 sg13 tg => ?_⟩
  have ntG : NmT K G13 (.ref t13) (namesT Kd.disc (exitK p f)) := ⟨t13, rfl, SqT.of tg⟩
  have nt13 : ∀ fs, NmT K (upd G13 x (.ins T.C_Layout dx fs)) (.ref t13) (namesT Kd.disc (exitK p f)) := fun fs => ntG.keep ((show SmX x G13 (upd G13 x (.ins T.C_Layout dx fs)) from SmX.refl.put).keeps (sg13 _ _ q13))
  refine ⟨_, rfl, x, T.C_Layout, dx, _, rfl, sg13 _ _ q13, T.cl_Layout, T.no_Layout_exit_discrete, (by omega), ?_⟩
  have ln14 : (putF "exit_discrete" (.ref t13) fs13).length ≤ 14 := ln_put ln13
  replace lk_program : (putF "exit_discrete" (.ref t13) fs13).lookup ("program" : Str) = some (.ref a) := lk_put lk_program (by decide +kernel)
  replace lk_name : (putF "exit_discrete" (.ref t13) fs13).lookup ("name" : Str) = some (.str f.nm) := lk_put lk_name (by decide +kernel)
  replace lk_result : (putF "exit_discrete" (.ref t13) fs13).lookup ("result" : Str) = some rv := lk_put lk_result (by decide +kernel)
  replace lk_exit : (putF "exit_discrete" (.ref t13) fs13).lookup ("exit" : Str) = some (.int (f.bd.cnt : Int)) := lk_put lk_exit (by decide +kernel)
  replace lk_kinds : (putF "exit_discrete" (.ref t13) fs13).lookup ("kinds" : Str) = some (.ref d) := lk_put lk_kinds (by decide +kernel)
  replace lk_discrete : (putF "exit_discrete" (.ref t13) fs13).lookup ("discrete" : Str) = some (.ref t9) := lk_put lk_discrete (by decide +kernel)
  replace lk_large : (putF "exit_discrete" (.ref t13) fs13).lookup ("large" : Str) = some (.ref t10) := lk_put lk_large (by decide +kernel)
  replace lk_entry_discrete : (putF "exit_discrete" (.ref t13) fs13).lookup ("entry_discrete" : Str) = some (.ref t11) := lk_put lk_entry_discrete (by decide +kernel)
  replace lk_entry_large : (putF "exit_discrete" (.ref t13) fs13).lookup ("entry_large" : Str) = some (.ref t12) := lk_put lk_entry_large (by decide +kernel)
  have lk_exit_discrete : (putF "exit_discrete" (.ref t13) fs13).lookup ("exit_discrete" : Str) = some (.ref t13) := lk_new
  generalize (putF "exit_discrete" (.ref t13) fs13) = fs14 at ln14 lk_program lk_name lk_result lk_exit lk_kinds lk_discrete lk_large lk_entry_discrete lk_entry_large lk_exit_discrete ⊢
  have nu13 : NmT K (upd G13 x (.ins T.C_Layout dx fs14)) (.ref t13) (namesT Kd.disc (exitK p f)) := nt13 _
  clear nt13 ntG tg
  have S14 : SmX x A13 (upd G13 x (.ins T.C_Layout dx fs14)) := (SmX.refl.same sg13).put
  have q14 : (upd G13 x (.ins T.C_Layout dx fs14)) x = some (.ins T.C_Layout dx fs14) := upd_same
  generalize (upd G13 x (.ins T.C_Layout dx fs14)) = A14 at S14 q14 nu13 ⊢
  have Z14 := S14.keeps (K := K) q13
  replace pg := pg.smx S14 q13
  replace fu := fu.keep Z14
  replace en := en.keep Z14
  replace gl := gl.keep Z14
  replace kx := kx.keep Z14
  replace f1 := Z14 _ _ f1
  replace f4 := f4.keep Z14
  replace f7 := Z14 _ _ f7
  replace f8 := TrL.keep Z14 f8
  replace b3 := S14 _ _ n3x b3
  replace b4 := S14 _ _ n4x b4
  replace b5 := S14 _ _ n5x b5
  replace hHB := hHB.trans S14
  replace hdd := S14 _ _ ndx hdd
  replace hkk := hkk.keep Z14
  replace nu9 := nu9.keep Z14
  replace nu10 := nu10.keep Z14
  replace nu11 := nu11.keep Z14
  replace nu12 := nu12.keep Z14
  refine ⟨_, rfl, d5, kv5, exitK p f, rfl, b5, kx, ndX, (by omega), fun t14 G14 sg14 tg => ?_⟩
  have ntG : NmT K G14 (.ref t14) (namesT Kd.large (exitK p f)) := ⟨t14, rfl, SqT.of tg⟩
  have nt14 : ∀ fs, NmT K (upd G14 x (.ins T.C_Layout dx fs)) (.ref t14) (namesT Kd.large (exitK p f)) := fun fs => ntG.keep ((show SmX x G14 (upd G14 x (.ins T.C_Layout dx fs)) from SmX.refl.put).keeps (sg14 _ _ q14))
  refine ⟨_, rfl, x, T.C_Layout, dx, _, rfl, sg14 _ _ q14, T.cl_Layout, T.no_Layout_exit_large, (by omega), ?_⟩
  have ln15 : (putF "exit_large" (.ref t14) fs14).length ≤ 15 := ln_put ln14
  replace lk_program : (putF "exit_large" (.ref t14) fs14).lookup ("program" : Str) = some (.ref a) := lk_put lk_program (by decide +kernel)
  replace lk_name : (putF "exit_large" (.ref t14) fs14).lookup ("name" : Str) = some (.str f.nm) := lk_put lk_name (by decide +kernel)
  replace lk_result : (putF "exit_large" (.ref t14) fs14).lookup ("result" : Str) = some rv := lk_put lk_result (by decide +kernel)
  replace lk_exit : (putF "exit_large" (.ref t14) fs14).lookup ("exit" : Str) = some (.int (f.bd.cnt : Int)) := lk_put lk_exit (by decide +kernel)
  replace lk_kinds : (putF "exit_large" (.ref t14) fs14).lookup ("kinds" : Str) = some (.ref d) := lk_put lk_kinds (by decide +kernel)
  replace lk_discrete : (putF "exit_large" (.ref t14) fs14).lookup ("discrete" : Str) = some (.ref t9) := lk_put lk_discrete (by decide +kernel)
  replace lk_large : (putF "exit_large" (.ref t14) fs14).lookup ("large" : Str) = some (.ref t10) := lk_put lk_large (by decide +kernel)
  replace lk_entry_discrete : (putF "exit_large" (.ref t14) fs14).lookup ("entry_discrete" : Str) = some (.ref t11) := lk_put lk_entry_discrete (by decide +kernel)
  replace lk_entry_large : (putF "exit_large" (.ref t14) fs14).lookup ("entry_large" : Str) = some (.ref t12) := lk_put lk_entry_large (by decide +kernel)
  replace lk_exit_discrete : (putF "exit_large" (.ref t14) fs14).lookup ("exit_discrete" : Str) = some (.ref t13) := lk_put lk_exit_discrete (by decide +kernel)
  have lk_exit_large : (putF "exit_large" (.ref t14) fs14).lookup ("exit_large" : Str) = some (.ref t14) := lk_new
  generalize (putF "exit_large" (.ref t14) fs14) = fs15 at ln15 lk_program lk_name lk_result lk_exit lk_kinds lk_discrete lk_large lk_entry_discrete lk_entry_large lk_exit_discrete lk_exit_large ⊢
  have nu14 : NmT K (upd G14 x (.ins T.C_Layout dx fs15)) (.ref t14) (namesT Kd.large (exitK p f)) := nt14 _
  clear nt14 ntG tg
  have S15 : SmX x A14 (upd G14 x (.ins T.C_Layout dx fs15)) := (SmX.refl.same sg14).put
  have q15 : (upd G14 x (.ins T.C_Layout dx fs15)) x = some (.ins T.C_Layout dx fs15) := upd_same
  generalize (upd G14 x (.ins T.C_Layout dx fs15)) = A15 at S15 q15 nu14 ⊢
  have Z15 := S15.keeps (K := K) q14
  replace pg := pg.smx S15 q14
  replace fu := fu.keep Z15
  replace en := en.keep Z15
  replace gl := gl.keep Z15
  replace kx := kx.keep Z15
  replace f1 := Z15 _ _ f1
  replace f4 := f4.keep Z15
  replace f7 := Z15 _ _ f7
  replace f8 := TrL.keep Z15 f8
  replace b3 := S15 _ _ n3x b3
  replace b4 := S15 _ _ n4x b4
  replace b5 := S15 _ _ n5x b5
  replace hHB := hHB.trans S15
  replace hdd := S15 _ _ ndx hdd
  replace hkk := hkk.keep Z15
  replace nu9 := nu9.keep Z15
  replace nu10 := nu10.keep Z15
  replace nu11 := nu11.keep Z15
  replace nu12 := nu12.keep Z15
  replace nu13 := nu13.keep Z15
  refine ⟨_, rfl, d3, kvs, p.gl, rfl, b3, gl, ndG, lenG, fun t15 G15 sg15 tg => ?_⟩
  have ntG : NmT K G15 (.ref t15) (namesT Kd.large p.gl) := ⟨t15, rfl, SqT.of tg⟩
  have nt15 : ∀ fs, NmT K (upd G15 x (.ins T.C_Layout dx fs)) (.ref t15) (namesT Kd.large p.gl) := fun fs => ntG.keep ((show SmX x G15 (upd G15 x (.ins T.C_Layout dx fs)) from SmX.refl.put).keeps (sg15 _ _ q15))
  refine ⟨_, rfl, x, T.C_Layout, dx, _, rfl, sg15 _ _ q15, T.cl_Layout, T.no_Layout_shared_large, (by omega), ?_⟩
  have ln16 : (putF "shared_large" (.ref t15) fs15).length ≤ 16 := ln_put ln15
  replace lk_program : (putF "shared_large" (.ref t15) fs15).lookup ("program" : Str) = some (.ref a) := lk_put lk_program (by decide +kernel)
  replace lk_name : (putF "shared_large" (.ref t15) fs15).lookup ("name" : Str) = some (.str f.nm) := lk_put lk_name (by decide +kernel)
  replace lk_result : (putF "shared_large" (.ref t15) fs15).lookup ("result" : Str) = some rv := lk_put lk_result (by decide +kernel)
  replace lk_exit : (putF "shared_large" (.ref t15) fs15).lookup ("exit" : Str) = some (.int (f.bd.cnt : Int)) := lk_put lk_exit (by decide +kernel)
  replace lk_kinds : (putF "shared_large" (.ref t15) fs15).lookup ("kinds" : Str) = some (.ref d) := lk_put lk_kinds (by decide +kernel)
  replace lk_discrete : (putF "shared_large" (.ref t15) fs15).lookup ("discrete" : Str) = some (.ref t9) := lk_put lk_discrete (by decide +kernel)
  replace lk_large : (putF "shared_large" (.ref t15) fs15).lookup ("large" : Str) = some (.ref t10) := lk_put lk_large (by decide +kernel)
  replace lk_entry_discrete : (putF "shared_large" (.ref t15) fs15).lookup ("entry_discrete" : Str) = some (.ref t11) := lk_put lk_entry_discrete (by decide +kernel)
  replace lk_entry_large : (putF "shared_large" (.ref t15) fs15).lookup ("entry_large" : Str) = some (.ref t12) := lk_put lk_entry_large (by decide +kernel)
  replace lk_exit_discrete : (putF "shared_large" (.ref t15) fs15).lookup ("exit_discrete" : Str) = some (.ref t13) := lk_put lk_exit_discrete (by decide +kernel)
  replace lk_exit_large : (putF "shared_large" (.ref t15) fs15).lookup ("exit_large" : Str) = some (.ref t14) := lk_put lk_exit_large (by decide +kernel)
  generalize (putF "shared_large" (.ref t15) fs15) = fs16 at ln16 lk_program lk_name lk_result lk_exit lk_kinds lk_discrete lk_large lk_entry_discrete lk_entry_large lk_exit_discrete lk_exit_large ⊢
  have nu15 : NmT K (upd G15 x (.ins T.C_Layout dx fs16)) (.ref t15) (namesT Kd.large p.gl) := nt15 _
  clear nt15 ntG tg
  have S16 : SmX x A15 (upd G15 x (.ins T.C_Layout dx fs16)) := (SmX.refl.same sg15).put
  have q16 : (upd G15 x (.ins T.C_Layout dx fs16)) x = some (.ins T.C_Layout dx fs16) := upd_same
  generalize (upd G15 x (.ins T.C_Layout dx fs16)) = A16 at S16 q16 nu15 ⊢
  have Z16 := S16.keeps (K := K) q15
  replace pg := pg.smx S16 q15
  replace fu := fu.keep Z16
  replace en := en.keep Z16
  replace gl := gl.keep Z16
  replace kx := kx.keep Z16
  replace f1 := Z16 _ _ f1
  replace f4 := f4.keep Z16
  replace f7 := Z16 _ _ f7
  replace f8 := TrL.keep Z16 f8
  replace b3 := S16 _ _ n3x b3
  replace b4 := S16 _ _ n4x b4
  replace b5 := S16 _ _ n5x b5
  replace hHB := hHB.trans S16
  replace hdd := S16 _ _ ndx hdd
  replace hkk := hkk.keep Z16
  replace nu9 := nu9.keep Z16
  replace nu10 := nu10.keep Z16
  replace nu11 := nu11.keep Z16
  replace nu12 := nu12.keep Z16
  replace nu13 := nu13.keep Z16
  replace nu14 := nu14.keep Z16
  have m9 : ∀ {G : Hp} {xs : List V}, NmT K G (.ref t9) xs → SqT K G t9 xs := fun h => by
    obtain ⟨_, e, h⟩ := h
    cases e
    exact h
  have m10 : ∀ {G : Hp} {xs : List V}, NmT K G (.ref t10) xs → SqT K G t10 xs := fun h => by
    obtain ⟨_, e, h⟩ := h
    cases e
    exact h
  have m11 : ∀ {G : Hp} {xs : List V}, NmT K G (.ref t11) xs → SqT K G t11 xs := fun h => by
    obtain ⟨_, e, h⟩ := h
    cases e
    exact h
  have m12 : ∀ {G : Hp} {xs : List V}, NmT K G (.ref t12) xs → SqT K G t12 xs := fun h => by
    obtain ⟨_, e, h⟩ := h
    cases e
    exact h
  have m13 : ∀ {G : Hp} {xs : List V}, NmT K G (.ref t13) xs → SqT K G t13 xs := fun h => by
    obtain ⟨_, e, h⟩ := h
    cases e
    exact h
  have m14 : ∀ {G : Hp} {xs : List V}, NmT K G (.ref t14) xs → SqT K G t14 xs := fun h => by
    obtain ⟨_, e, h⟩ := h
    cases e
    exact h
  refine ⟨_, rfl, x, T.C_Layout, dx, _, .ref t9, rfl, q16, T.cl_Layout, T.no_Layout_discrete, lk_discrete, _, rfl, x, T.C_Layout, dx, _, .ref d, rfl, q16, T.cl_Layout, T.no_Layout_kinds, lk_kinds, t9, d, kvK, vis p f, (vis p f).filter (fun a => Kd.disc a.2), rfl, m9 nu9, hdd, hkk, ndK, lenV _, (fun b h => (flt_in b h).1), fun y16 G16 sg16 => ?_⟩
  refine ⟨_, rfl, x, T.C_Layout, dx, _, rfl, sg16 _ _ q16, T.cl_Layout, T.no_Layout_discrete_kinds, (by omega), ?_⟩
  have ln17 : (putF "discrete_kinds" (.ref y16) fs16).length ≤ 17 := ln_put ln16
  replace lk_program : (putF "discrete_kinds" (.ref y16) fs16).lookup ("program" : Str) = some (.ref a) := lk_put lk_program (by decide +kernel)
  replace lk_name : (putF "discrete_kinds" (.ref y16) fs16).lookup ("name" : Str) = some (.str f.nm) := lk_put lk_name (by decide +kernel)
  replace lk_result : (putF "discrete_kinds" (.ref y16) fs16).lookup ("result" : Str) = some rv := lk_put lk_result (by decide +kernel)
  replace lk_exit : (putF "discrete_kinds" (.ref y16) fs16).lookup ("exit" : Str) = some (.int (f.bd.cnt : Int)) := lk_put lk_exit (by decide +kernel)
  replace lk_kinds : (putF "discrete_kinds" (.ref y16) fs16).lookup ("kinds" : Str) = some (.ref d) := lk_put lk_kinds (by decide +kernel)
  replace lk_discrete : (putF "discrete_kinds" (.ref y16) fs16).lookup ("discrete" : Str) = some (.ref t9) := lk_put lk_discrete (by decide +kernel)
  replace lk_large : (putF "discrete_kinds" (.ref y16) fs16).lookup ("large" : Str) = some (.ref t10) := lk_put lk_large (by decide +kernel)
  replace lk_entry_discrete : (putF "discrete_kinds" (.ref y16) fs16).lookup ("entry_discrete" : Str) = some (.ref t11) := lk_put lk_entry_discrete (by decide +kernel)
  replace lk_entry_large : (putF "discrete_kinds" (.ref y16) fs16).lookup ("entry_large" : Str) = some (.ref t12) := lk_put lk_entry_large (by decide +kernel)
  replace lk_exit_discrete : (putF "discrete_kinds" (.ref y16) fs16).lookup ("exit_discrete" : Str) = some (.ref t13) := lk_put lk_exit_discrete (by decide +kernel)
  replace lk_exit_large : (putF "discrete_kinds" (.ref y16) fs16).lookup ("exit_large" : Str) = some (.ref t14) := lk_put lk_exit_large (by decide +kernel)
  generalize (putF "discrete_kinds" (.ref y16) fs16) = fs17 at ln17 lk_program lk_name lk_result lk_exit lk_kinds lk_discrete lk_large lk_entry_discrete lk_entry_large lk_exit_discrete lk_exit_large ⊢
  have S17 : SmX x A16 (upd G16 x (.ins T.C_Layout dx fs17)) := (SmX.refl.same sg16).put
  have q17 : (upd G16 x (.ins T.C_Layout dx fs17)) x = some (.ins T.C_Layout dx fs17) := upd_same
  generalize (upd G16 x (.ins T.C_Layout dx fs17)) = A17 at S17 q17 ⊢
  have Z17 := S17.keeps (K := K) q16
  replace pg := pg.smx S17 q16
  replace fu := fu.keep Z17
  replace en := en.keep Z17
  replace gl := gl.keep Z17
  replace kx := kx.keep Z17
  replace f1 := Z17 _ _ f1
  replace f4 := f4.keep Z17
  replace f7 := Z17 _ _ f7
  replace f8 := TrL.keep Z17 f8
  replace b3 := S17 _ _ n3x b3
  replace b4 := S17 _ _ n4x b4
  replace b5 := S17 _ _ n5x b5
  replace hHB := hHB.trans S17
  replace hdd := S17 _ _ ndx hdd
  replace hkk := hkk.keep Z17
  replace nu9 := nu9.keep Z17
  replace nu10 := nu10.keep Z17
  replace nu11 := nu11.keep Z17
  replace nu12 := nu12.keep Z17
  replace nu13 := nu13.keep Z17
  replace nu14 := nu14.keep Z17
  replace nu15 := nu15.keep Z17
  refine ⟨_, rfl, x, T.C_Layout, dx, _, .ref t11, rfl, q17, T.cl_Layout, T.no_Layout_entry_discrete, lk_entry_discrete, _, rfl, t11, d4, _, p.gl ++ f.pk, (p.gl ++ f.pk).filter (fun a => Kd.disc a.2), rfl, m11 nu11, b4, en, ndE, lenE _, (fun b h => (flt_in b h).1), fun y17 G17 sg17 => ?_⟩
  refine ⟨_, rfl, x, T.C_Layout, dx, _, rfl, sg17 _ _ q17, T.cl_Layout, T.no_Layout_entry_kinds, (by omega), ?_⟩
  have ln18 : (putF "entry_kinds" (.ref y17) fs17).length ≤ 18 := ln_put ln17
  replace lk_program : (putF "entry_kinds" (.ref y17) fs17).lookup ("program" : Str) = some (.ref a) := lk_put lk_program (by decide +kernel)
  replace lk_name : (putF "entry_kinds" (.ref y17) fs17).lookup ("name" : Str) = some (.str f.nm) := lk_put lk_name (by decide +kernel)
  replace lk_result : (putF "entry_kinds" (.ref y17) fs17).lookup ("result" : Str) = some rv := lk_put lk_result (by decide +kernel)
  replace lk_exit : (putF "entry_kinds" (.ref y17) fs17).lookup ("exit" : Str) = some (.int (f.bd.cnt : Int)) := lk_put lk_exit (by decide +kernel)
  replace lk_kinds : (putF "entry_kinds" (.ref y17) fs17).lookup ("kinds" : Str) = some (.ref d) := lk_put lk_kinds (by decide +kernel)
  replace lk_discrete : (putF "entry_kinds" (.ref y17) fs17).lookup ("discrete" : Str) = some (.ref t9) := lk_put lk_discrete (by decide +kernel)
  replace lk_large : (putF "entry_kinds" (.ref y17) fs17).lookup ("large" : Str) = some (.ref t10) := lk_put lk_large (by decide +kernel)
  replace lk_entry_discrete : (putF "entry_kinds" (.ref y17) fs17).lookup ("entry_discrete" : Str) = some (.ref t11) := lk_put lk_entry_discrete (by decide +kernel)
  replace lk_entry_large : (putF "entry_kinds" (.ref y17) fs17).lookup ("entry_large" : Str) = some (.ref t12) := lk_put lk_entry_large (by decide +kernel)
  replace lk_exit_discrete : (putF "entry_kinds" (.ref y17) fs17).lookup ("exit_discrete" : Str) = some (.ref t13) := lk_put lk_exit_discrete (by decide +kernel)
  replace lk_exit_large : (putF "entry_kinds" (.ref y17) fs17).lookup ("exit_large" : Str) = some (.ref t14) := lk_put lk_exit_large (by decide +kernel)
  generalize (putF "entry_kinds" (.ref y17) fs17) = fs18 at ln18 lk_program lk_name lk_result lk_exit lk_kinds lk_discrete lk_large lk_entry_discrete lk_entry_large lk_exit_discrete lk_exit_large ⊢
  have S18 : SmX x A17 (upd G17 x (.ins T.C_Layout dx fs18)) := (SmX.refl.same sg17).put
  have q18 : (upd G17 x (.ins T.C_Layout dx fs18)) x = some (.ins T.C_Layout dx fs18) := upd_same
  generalize (upd G17 x (.ins T.C_Layout dx fs18)) = A18 at S18 q18 ⊢
  have Z18 := S18.keeps (K := K) q17
  replace pg := pg.smx S18 q17
  replace fu := fu.keep Z18
  replace en := en.keep Z18
  replace gl := gl.keep Z18
  replace kx := kx.keep Z18
  replace f1 := Z18 _ _ f1
  replace f4 := f4.keep Z18
  replace f7 := Z18 _ _ f7
  replace f8 := TrL.keep Z18 f8
  replace b3 := S18 _ _ n3x b3
  replace b4 := S18 _ _ n4x b4
  replace b5 := S18 _ _ n5x b5
  replace hHB := hHB.trans S18
  replace hdd := S18 _ _ ndx hdd
  replace hkk := hkk.keep Z18
  replace nu9 := nu9.keep Z18
  replace nu10 := nu10.keep Z18
  replace nu11 := nu11.keep Z18
  replace nu12 := nu12.keep Z18
  replace nu13 := nu13.keep Z18
  replace nu14 := nu14.keep Z18
  replace nu15 := nu15.keep Z18
  refine ⟨_, rfl, x, T.C_Layout, dx, _, .ref t13, rfl, q18, T.cl_Layout, T.no_Layout_exit_discrete, lk_exit_discrete, _, rfl, t13, d5, _, exitK p f, (exitK p f).filter (fun a => Kd.disc a.2), rfl, m13 nu13, b5, kx, ndX, lenX _, (fun b h => (flt_in b h).1), fun y18 G18 sg18 => ?_⟩
  refine ⟨_, rfl, x, T.C_Layout, dx, _, rfl, sg18 _ _ q18, T.cl_Layout, T.no_Layout_exit_kinds, (by omega), ?_⟩
  have ln19 : (putF "exit_kinds" (.ref y18) fs18).length ≤ 19 := ln_put ln18
  replace lk_program : (putF "exit_kinds" (.ref y18) fs18).lookup ("program" : Str) = some (.ref a) := lk_put lk_program (by decide +kernel)
  replace lk_name : (putF "exit_kinds" (.ref y18) fs18).lookup ("name" : Str) = some (.str f.nm) := lk_put lk_name (by decide +kernel)
  replace lk_result : (putF "exit_kinds" (.ref y18) fs18).lookup ("result" : Str) = some rv := lk_put lk_result (by decide +kernel)
  replace lk_exit : (putF "exit_kinds" (.ref y18) fs18).lookup ("exit" : Str) = some (.int (f.bd.cnt : Int)) := lk_put lk_exit (by decide +kernel)
  replace lk_kinds : (putF "exit_kinds" (.ref y18) fs18).lookup ("kinds" : Str) = some (.ref d) := lk_put lk_kinds (by decide +kernel)
  replace lk_discrete : (putF "exit_kinds" (.ref y18) fs18).lookup ("discrete" : Str) = some (.ref t9) := lk_put lk_discrete (by decide +kernel)
  replace lk_large : (putF "exit_kinds" (.ref y18) fs18).lookup ("large" : Str) = some (.ref t10) := lk_put lk_large (by decide +kernel)
  replace lk_entry_discrete : (putF "exit_kinds" (.ref y18) fs18).lookup ("entry_discrete" : Str) = some (.ref t11) := lk_put lk_entry_discrete (by decide +kernel)
  replace lk_entry_large : (putF "exit_kinds" (.ref y18) fs18).lookup ("entry_large" : Str) = some (.ref t12) := lk_put lk_entry_large (by decide +kernel)
  replace lk_exit_discrete : (putF "exit_kinds" (.ref y18) fs18).lookup ("exit_discrete" : Str) = some (.ref t13) := lk_put lk_exit_discrete (by decide +kernel)
  replace lk_exit_large : (putF "exit_kinds" (.ref y18) fs18).lookup ("exit_large" : Str) = some (.ref t14) := lk_put lk_exit_large (by decide +kernel)
  generalize (putF "exit_kinds" (.ref y18) fs18) = fs19 at ln19 lk_program lk_name lk_result lk_exit lk_kinds lk_discrete lk_large lk_entry_discrete lk_entry_large lk_exit_discrete lk_exit_large ⊢
  have S19 : SmX x A18 (upd G18 x (.ins T.C_Layout dx fs19)) := (SmX.refl.same sg18).put
  have q19 : (upd G18 x (.ins T.C_Layout dx fs19)) x = some (.ins T.C_Layout dx fs19) := upd_same
  generalize (upd G18 x (.ins T.C_Layout dx fs19)) = A19 at S19 q19 ⊢
  have Z19 := S19.keeps (K := K) q18
  replace pg := pg.smx S19 q18
  replace fu := fu.keep Z19
  replace en := en.keep Z19
  replace gl := gl.keep Z19
  replace kx := kx.keep Z19
  replace f1 := Z19 _ _ f1
  replace f4 := f4.keep Z19
  replace f7 := Z19 _ _ f7
  replace f8 := TrL.keep Z19 f8
  replace b3 := S19 _ _ n3x b3
  replace b4 := S19 _ _ n4x b4
  replace b5 := S19 _ _ n5x b5
  replace hHB := hHB.trans S19
  replace hdd := S19 _ _ ndx hdd
  replace hkk := hkk.keep Z19
  replace nu9 := nu9.keep Z19
  replace nu10 := nu10.keep Z19
  replace nu11 := nu11.keep Z19
  replace nu12 := nu12.keep Z19
  replace nu13 := nu13.keep Z19
  replace nu14 := nu14.keep Z19
  replace nu15 := nu15.keep Z19
  refine ⟨_, rfl, x, T.C_Layout, dx, _, .ref t12, rfl, q19, T.cl_Layout, T.no_Layout_entry_large, lk_entry_large, _, rfl, t12, d4, _, p.gl ++ f.pk, (p.gl ++ f.pk).filter (fun a => Kd.large a.2), rfl, m12 nu12, b4, en, ndE, lenE _, flt_in, fun tr us0 Ga sga tga tda => ?_⟩
  have Ka := Keeps.of_same (K := K) sga
  have z0 : us0.length ≤ 100 := by
    rw [tda.len, List.length_map]
    exact lenE _
  refine ⟨_, rfl, x, T.C_Layout, dx, _, .ref t10, rfl, sga _ _ q19, T.cl_Layout, T.no_Layout_large, lk_large, _, rfl, x, T.C_Layout, dx, _, .ref d, rfl, sga _ _ q19, T.cl_Layout, T.no_Layout_kinds, lk_kinds, t10, d, _, vis p f, (vis p f).filter (fun a => Kd.large a.2), rfl, m10 (nu10.keep Ka), sga _ _ hdd, hkk.keep Ka, ndK, lenV _, flt_in, fun tv us1 Gb sgb tgb tdb => ?_⟩
  have Kb := Keeps.of_same (K := K) sgb
  have z1 : us1.length ≤ 100 := by
    rw [tdb.len, List.length_map]
    exact lenV _
  refine ⟨_, rfl, cat_rg (SqT.of tgb) (SqT.of (sgb _ _ tga)) tdb (tda.keep Kb) (by omega) fun vR G19 sgc hR => ?_⟩
  have Kc := Keeps.of_same (K := K) sgc
  have sg19 := (sga.trans sgb).trans sgc
  have hE : SqT K G19 tr us0 := Kc _ _ (SqT.of (sgb _ _ tga))
  have dE : DTs K 3 G19 us0 (rgsD (p.gl ++ f.pk)) := (tda.keep Kb).keep Kc
  refine ⟨_, rfl, x, T.C_Layout, dx, _, rfl, sg19 _ _ q19, T.cl_Layout, T.no_Layout_ranges, (by omega), ?_⟩
  have ln20 : (putF "ranges" vR fs19).length ≤ 20 := ln_put ln19
  replace lk_program : (putF "ranges" vR fs19).lookup ("program" : Str) = some (.ref a) := lk_put lk_program (by decide +kernel)
  replace lk_name : (putF "ranges" vR fs19).lookup ("name" : Str) = some (.str f.nm) := lk_put lk_name (by decide +kernel)
  replace lk_result : (putF "ranges" vR fs19).lookup ("result" : Str) = some rv := lk_put lk_result (by decide +kernel)
  replace lk_exit : (putF "ranges" vR fs19).lookup ("exit" : Str) = some (.int (f.bd.cnt : Int)) := lk_put lk_exit (by decide +kernel)
  replace lk_kinds : (putF "ranges" vR fs19).lookup ("kinds" : Str) = some (.ref d) := lk_put lk_kinds (by decide +kernel)
  replace lk_discrete : (putF "ranges" vR fs19).lookup ("discrete" : Str) = some (.ref t9) := lk_put lk_discrete (by decide +kernel)
  replace lk_large : (putF "ranges" vR fs19).lookup ("large" : Str) = some (.ref t10) := lk_put lk_large (by decide +kernel)
  replace lk_entry_discrete : (putF "ranges" vR fs19).lookup ("entry_discrete" : Str) = some (.ref t11) := lk_put lk_entry_discrete (by decide +kernel)
  replace lk_entry_large : (putF "ranges" vR fs19).lookup ("entry_large" : Str) = some (.ref t12) := lk_put lk_entry_large (by decide +kernel)
  replace lk_exit_discrete : (putF "ranges" vR fs19).lookup ("exit_discrete" : Str) = some (.ref t13) := lk_put lk_exit_discrete (by decide +kernel)
  replace lk_exit_large : (putF "ranges" vR fs19).lookup ("exit_large" : Str) = some (.ref t14) := lk_put lk_exit_large (by decide +kernel)
  have lk_ranges : (putF "ranges" vR fs19).lookup ("ranges" : Str) = some vR := lk_new
  generalize (putF "ranges" vR fs19) = fs20 at ln20 lk_program lk_name lk_result lk_exit lk_kinds lk_discrete lk_large lk_entry_discrete lk_entry_large lk_exit_discrete lk_exit_large lk_ranges ⊢
  have Zx : Keeps K G19 (upd G19 x (.ins T.C_Layout dx fs20)) := (show SmX x G19 _ from SmX.refl.put).keeps (sg19 _ _ q19)
  replace hE := Zx _ _ hE
  replace dE := dE.keep Zx
  replace hR := hR.keep Zx
  clear Zx
  have S20 : SmX x A19 (upd G19 x (.ins T.C_Layout dx fs20)) := (SmX.refl.same sg19).put
  have q20 : (upd G19 x (.ins T.C_Layout dx fs20)) x = some (.ins T.C_Layout dx fs20) := upd_same
  generalize (upd G19 x (.ins T.C_Layout dx fs20)) = A20 at S20 q20 hE dE hR ⊢
  have Z20 := S20.keeps (K := K) q19
  replace pg := pg.smx S20 q19
  replace fu := fu.keep Z20
  replace en := en.keep Z20
  replace gl := gl.keep Z20
  replace kx := kx.keep Z20
  replace f1 := Z20 _ _ f1
  replace f4 := f4.keep Z20
  replace f7 := Z20 _ _ f7
  replace f8 := TrL.keep Z20 f8
  replace b3 := S20 _ _ n3x b3
  replace b4 := S20 _ _ n4x b4
  replace b5 := S20 _ _ n5x b5
  replace hHB := hHB.trans S20
  replace hdd := S20 _ _ ndx hdd
  replace hkk := hkk.keep Z20
  replace nu9 := nu9.keep Z20
  replace nu10 := nu10.keep Z20
  replace nu11 := nu11.keep Z20
  replace nu12 := nu12.keep Z20
  replace nu13 := nu13.keep Z20
  replace nu14 := nu14.keep Z20
  replace nu15 := nu15.keep Z20
  refine ⟨_, rfl, x, T.C_Layout, dx, _, .ref t14, rfl, q20, T.cl_Layout, T.no_Layout_exit_large, lk_exit_large, _, rfl, t14, d5, _, exitK p f, (exitK p f).filter (fun a => Kd.large a.2), rfl, m14 nu14, b5, kx, ndX, lenX _, flt_in, fun tx us2 Gd sgd tgd tdd => ?_⟩
  have Kd2 := Keeps.of_same (K := K) sgd
  have z2 : us2.length ≤ 100 := by
    rw [tdd.len, List.length_map]
    exact lenX _
  refine ⟨_, rfl, cat_rg (SqT.of tgd) (Kd2 _ _ hE) tdd (dE.keep Kd2) (by omega) fun vX G20 sge hX => ?_⟩
  have sg20 := sgd.trans sge
  refine ⟨_, rfl, x, T.C_Layout, dx, _, rfl, sg20 _ _ q20, T.cl_Layout, T.no_Layout_exit_ranges, (by omega), ?_⟩
  have ln21 : (putF "exit_ranges" vX fs20).length ≤ 21 := ln_put ln20
  replace lk_program : (putF "exit_ranges" vX fs20).lookup ("program" : Str) = some (.ref a) := lk_put lk_program (by decide +kernel)
  replace lk_name : (putF "exit_ranges" vX fs20).lookup ("name" : Str) = some (.str f.nm) := lk_put lk_name (by decide +kernel)
  replace lk_result : (putF "exit_ranges" vX fs20).lookup ("result" : Str) = some rv := lk_put lk_result (by decide +kernel)
  replace lk_exit : (putF "exit_ranges" vX fs20).lookup ("exit" : Str) = some (.int (f.bd.cnt : Int)) := lk_put lk_exit (by decide +kernel)
  replace lk_kinds : (putF "exit_ranges" vX fs20).lookup ("kinds" : Str) = some (.ref d) := lk_put lk_kinds (by decide +kernel)
  replace lk_discrete : (putF "exit_ranges" vX fs20).lookup ("discrete" : Str) = some (.ref t9) := lk_put lk_discrete (by decide +kernel)
  replace lk_large : (putF "exit_ranges" vX fs20).lookup ("large" : Str) = some (.ref t10) := lk_put lk_large (by decide +kernel)
  replace lk_entry_discrete : (putF "exit_ranges" vX fs20).lookup ("entry_discrete" : Str) = some (.ref t11) := lk_put lk_entry_discrete (by decide +kernel)
  replace lk_entry_large : (putF "exit_ranges" vX fs20).lookup ("entry_large" : Str) = some (.ref t12) := lk_put lk_entry_large (by decide +kernel)
  replace lk_exit_discrete : (putF "exit_ranges" vX fs20).lookup ("exit_discrete" : Str) = some (.ref t13) := lk_put lk_exit_discrete (by decide +kernel)
  replace lk_exit_large : (putF "exit_ranges" vX fs20).lookup ("exit_large" : Str) = some (.ref t14) := lk_put lk_exit_large (by decide +kernel)
  replace lk_ranges : (putF "exit_ranges" vX fs20).lookup ("ranges" : Str) = some vR := lk_put lk_ranges (by decide +kernel)
  have lk_exit_ranges : (putF "exit_ranges" vX fs20).lookup ("exit_ranges" : Str) = some vX := lk_new
  generalize (putF "exit_ranges" vX fs20) = fs21 at ln21 lk_program lk_name lk_result lk_exit lk_kinds lk_discrete lk_large lk_entry_discrete lk_entry_large lk_exit_discrete lk_exit_large lk_ranges lk_exit_ranges ⊢
  have Zx : Keeps K G20 (upd G20 x (.ins T.C_Layout dx fs21)) := (show SmX x G20 _ from SmX.refl.put).keeps (sg20 _ _ q20)
  replace hX := hX.keep Zx
  clear Zx
  have S21 : SmX x A20 (upd G20 x (.ins T.C_Layout dx fs21)) := (SmX.refl.same sg20).put
  have q21 : (upd G20 x (.ins T.C_Layout dx fs21)) x = some (.ins T.C_Layout dx fs21) := upd_same
  generalize (upd G20 x (.ins T.C_Layout dx fs21)) = A21 at S21 q21 hX ⊢
  have Z21 := S21.keeps (K := K) q20
  replace pg := pg.smx S21 q20
  replace fu := fu.keep Z21
  replace en := en.keep Z21
  replace gl := gl.keep Z21
  replace kx := kx.keep Z21
  replace f1 := Z21 _ _ f1
  replace f4 := f4.keep Z21
  replace f7 := Z21 _ _ f7
  replace f8 := TrL.keep Z21 f8
  replace b3 := S21 _ _ n3x b3
  replace b4 := S21 _ _ n4x b4
  replace b5 := S21 _ _ n5x b5
  replace hHB := hHB.trans S21
  replace hdd := S21 _ _ ndx hdd
  replace hkk := hkk.keep Z21
  replace nu9 := nu9.keep Z21
  replace nu10 := nu10.keep Z21
  replace nu11 := nu11.keep Z21
  replace nu12 := nu12.keep Z21
  replace nu13 := nu13.keep Z21
  replace nu14 := nu14.keep Z21
  replace nu15 := nu15.keep Z21
  replace hR := hR.keep Z21
  refine q A21 hHB ⟨dx, d, rv, _, _, _, _, _, _, _, _, fs21, kvK, q21, lk_program, lk_name, lk_result, f4, lk_exit, lk_kinds, hdd, hkk, ndK,
    lk_discrete, nu9, lk_large, nu10, lk_entry_discrete, nu11, lk_entry_large, nu12, lk_exit_discrete, nu13, lk_exit_large, nu14, lk_ranges, hR, lk_exit_ranges, hX⟩
end
/-! ### what the law tells of its own -/
theorem parts_ne : ∀ q ∈ tb_PARTS, ("body" : Str) ∉ q.2 → q.1 ≠ "while" ∧ q.1 ≠ "if" := by decide +kernel
theorem leaf_ne {w : Str} {d : List PyData} (h : LeafOk w d) : w ≠ "while" ∧ w ≠ "if" := by
  obtain ⟨roles, m, _, _, n⟩ := h
  exact parts_ne _ m n
def spLc (K : PySem.W.Frag) (m : Nat) : Sp := fun vs H Q _ => ∃ (q : Addr) (us : List V) (t : Tr), vs = [.ref q] ∧ SqT K H q us ∧ TrL K H t us ∧ t.dep m ∧ t.cnt ≤ 400 ∧ Q (.int (t.cnt : Int)) H
def spLcP (K : PySem.W.Frag) : Nat → Sp
  | 0 => fun _ _ _ _ => False
  | m + 1 => spLc K m
def spIL (K : PySem.W.Frag) : Sp := fun vs H Q _ => ∃ (v : V) (k : Kd), vs = [v] ∧ KdAt K H v k ∧ Q (.bl k.large) H
section
variable {P : Program} {w : World} {K : PySem.W.Frag} {mg : Str → Option Value} {base : Heap}
theorem ok_l_is_large (T : Txt w K mg) : FnOk P w K mg base CX0 1 T.a_l_is_large T.d_l_is_large p_l_is_large (spIL K) := by
  refine T.F_l_is_large.ok sc_l_is_large (fun vs H Q E h => ?_) (fun cdv A outer s H vs Q E hr h => ?_)
  · obtain ⟨v, k, rfl, _⟩ := h
    rfl
  obtain ⟨v, k, rfl, ⟨p, rfl, hp⟩, q⟩ := h
  refine ⟨_, (pss_one (ps_ret (pe_and (pe_cmpR op_eq (pe_ix ix_tup (pv 0) pe_int (fun _ _ => rfl)) pe_str (nomark _)) (pe_one (pe_cmpR op_gt (pe_op op_sub (pe_ix ix_tup (pv 0) pe_int (fun _ _ => rfl)) (pe_ix ix_tup (pv 0) pe_int (fun _ _ => rfl))) pe_int (nomark _)))))), ?_⟩
  cases k with
  | flag => exact ⟨_, rfl, p, _, 0, _, rfl, rfl, hp, rfl, rfl, _, rfl, ifF (by decide +kernel) q⟩
  | ref s => exact ⟨_, rfl, p, _, 0, _, rfl, rfl, hp, rfl, rfl, _, rfl, ifF (by decide +kernel) q⟩
  | num lo hi => exact ⟨_, rfl, p, _, 0, _, rfl, rfl, hp, rfl, rfl, _, rfl, ifT (by decide +kernel) ⟨_, rfl, p, _, 2, _, rfl, rfl, hp, rfl, _, rfl, p, _, 1, _, rfl, rfl, hp, rfl, _, _, rfl, rfl, _, _, rfl, rfl, q⟩⟩
theorem ok_lc0 (T : Txt w K mg) {k m : Nat} (g_l_count : FnOk P w K mg base CX0 k T.a_l_count T.d_l_count p_l_count (spLcP K m)) : FnOk P w K mg base CX0 (k + 1) T.a_l_count T.d_l_count p_l_count (spLc K m) := by
  refine T.F_l_count.ok sc_l_count (fun vs H Q E h => ?_) (fun cdv A outer s H vs Q E hr h => ?_)
  · obtain ⟨q, us, t, rfl, _⟩ := h
    rfl
  obtain ⟨q, us, t, rfl, hq, ht, hd, hc, k0⟩ := h
  refine ⟨_, (pss_cons (ps_set (i := 1) sc_l_count.nd rfl (Or.inl rfl) pe_int)
      (pss_cons (ps_for PassesOwn.never rfl (pi_tup (pv 0)) (pg_name (i := 2) sc_l_count.nd rfl (Or.inl rfl))
        (pss_cons (ps_set (i := 1) sc_l_count.nd rfl (Or.inl rfl) (pe_op op_add (pv 1) pe_int))
      (C8.pss_cut (ps_if (PW.pt (pw_or (pt_cmpR op_eq (pe_ix ix_tup (pv 2) pe_int (fun _ _ => rfl)) pe_str (nomark _)) (pw_or1 (pt_cmpR op_eq (pe_ix ix_tup (pv 2) pe_int (fun _ _ => rfl)) pe_str (nomark _))))) (pss_one (ps_set (i := 1) sc_l_count.nd rfl (Or.inl rfl) (pe_op op_add (pv 1) (pe_call g_l_count (hr.mono (by first | decide | omega)) rfl T.m_l_count T.F_l_count.kp T.b_l_count .nil pass0 (pa_cons (pe_ix ix_tup (pv 2) pe_int (fun _ _ => rfl)) pa_nil))))) pss_nil)
      (pss_one (ps_if (pt_cmpR op_eq (pe_ix ix_tup (pv 2) pe_int (fun _ _ => rfl)) pe_str (nomark _)) (pss_one (ps_set (i := 1) sc_l_count.nd rfl (Or.inl rfl) (pe_op op_add (pv 1) (pe_call g_l_count (hr.mono (by first | decide | omega)) rfl T.m_l_count T.F_l_count.kp T.b_l_count .nil pass0 (pa_cons (pe_ix ix_tup (pv 2) pe_int (fun _ _ => rfl)) pa_nil))))) pss_nil)))))
      (pss_one (ps_ret (pv 1))))), ?_⟩
  refine ⟨_, rfl, q, rfl, ⟨_, hq⟩, for_tup (K := K) (a := q) (xs := us) (fun i σ H' => H' = H ∧ ∃ (c : Nat) (r : Tr) (v2 : Option V), σ = [some (.ref q), some (.int (c : Int)), v2] ∧ TrL K H r (us.drop i) ∧ r.dep m ∧ t.cnt = c + r.cnt)
    ⟨rfl, 0, t, none, rfl, ht, hd, (Nat.zero_add _).symm⟩ (fun i σ H' _ ⟨e, _⟩ => by rw [e]; exact hq) ?_ ?_⟩
  · rintro i v σ H' hi ⟨rfl, c, r, v2, rfl, htr, hdr, ec⟩
    have hil : i < us.length := (List.getElem?_eq_some_iff.mp hi).1
    have dr : us.drop i = v :: us.drop (i + 1) := by
      rw [List.drop_eq_getElem_cons hil]
      congr 1
      exact (List.getElem?_eq_some_iff.mp hi).2
    rw [dr] at htr
    have T2 : ∀ {w z : Str}, w ≠ z → decide (V.str w = V.str z) = false := fun h => decide_eq_false fun e => h (V.str.inj e)
    refine ⟨_, rfl, _, _, rfl, rfl, ?_⟩
    cases r with
    | nil => cases htr
    | leaf wd d r =>
      obtain ⟨p, xs, ws, e, h1, _, lf, h4⟩ := htr
      obtain ⟨rfl, rfl⟩ := List.cons.inj e
      obtain ⟨nw, nf⟩ := leaf_ne lf
      refine ⟨fun σ H5 => H5 = H' ∧ σ = [some (.ref q), some (.int ((c : Int) + 1)), some (.ref p)], ⟨_, rfl, p, _, 0, _, rfl, rfl, h1, at0, rfl, _, rfl, ifF (T2 nw) ⟨_, rfl, p, _, 0, _, rfl, rfl, h1, at0, rfl, _, rfl, ifF (T2 nf) ⟨rfl, rfl⟩⟩⟩, ?_⟩
      rintro σ H5 ⟨rfl, rfl⟩
      refine ⟨_, rfl, p, _, 0, _, rfl, rfl, h1, at0, rfl, _, rfl, ifF (T2 nf) ⟨rfl, c + 1, r, _, rfl, h4, dep_leaf hdr, by rw [ec]; show c + (1 + r.cnt) = _; omega⟩⟩
    | loop e b r =>
      obtain ⟨p, y, q2, us2, ws, e, h1, _, h3, h4, h5⟩ := htr
      obtain ⟨rfl, rfl⟩ := List.cons.inj e
      obtain ⟨j, rfl, db, dr2⟩ := dep_loop hdr
      have cc : c + (1 + b.cnt + r.cnt) = t.cnt := ec.symm
      refine ⟨fun σ H5 => H5 = H' ∧ σ = [some (.ref q), some (.int ((c : Int) + 1 + (b.cnt : Int))), some (.ref p)], ⟨_, rfl, p, _, 0, _, rfl, rfl, h1, rfl, rfl, _, rfl, ifT (by decide +kernel) ⟨_, rfl, _, rfl, p, _, 2, _, rfl, rfl, h1, rfl, q2, us2, b, rfl, h3, h4, db, by omega, _, _, rfl, rfl, rfl, rfl⟩⟩, ?_⟩
      rintro σ H5 ⟨rfl, rfl⟩
      refine ⟨_, rfl, p, _, 0, _, rfl, rfl, h1, rfl, rfl, _, rfl, ifF (by decide +kernel) ⟨rfl, c + 1 + b.cnt, r, _, rfl, h5, dr2, by omega⟩⟩
    | iff e b b2 r =>
      obtain ⟨p, y, q2, us2, q3, us3, ws, e, h1, _, h3, h4, h5, h6, h7⟩ := htr
      obtain ⟨rfl, rfl⟩ := List.cons.inj e
      obtain ⟨j, rfl, db, db2, dr2⟩ := dep_iff hdr
      have cc : c + (1 + b.cnt + b2.cnt + r.cnt) = t.cnt := ec.symm
      refine ⟨fun σ H5 => H5 = H' ∧ σ = [some (.ref q), some (.int ((c : Int) + 1 + (b.cnt : Int))), some (.ref p)], ⟨_, rfl, p, _, 0, _, rfl, rfl, h1, rfl, rfl, _, rfl, ifF (by decide +kernel) ⟨_, rfl, p, _, 0, _, rfl, rfl, h1, rfl, rfl, _, rfl, ifT (by decide +kernel) ⟨_, rfl, _, rfl, p, _, 2, _, rfl, rfl, h1, rfl, q2, us2, b, rfl, h3, h4, db, by omega, _, _, rfl, rfl, rfl, rfl⟩⟩⟩, ?_⟩
      rintro σ H5 ⟨rfl, rfl⟩
      refine ⟨_, rfl, p, _, 0, _, rfl, rfl, h1, rfl, rfl, _, rfl, ifT (by decide +kernel) ⟨_, rfl, _, rfl, p, _, 3, _, rfl, rfl, h1, rfl, q3, us3, b2, rfl, h5, h6, db2, by omega, _, _, rfl, rfl, rfl, c + 1 + b.cnt + b2.cnt, r, _, rfl, h7, dr2, by omega⟩⟩
  · rintro σ H' ⟨rfl, c, r, v2, rfl, htr, hdr, ec⟩
    rw [List.drop_length] at htr
    have er : r = .nil := by
      cases r with
      | nil => rfl
      | leaf _ _ _ => obtain ⟨_, _, _, e, _⟩ := htr; cases e
      | loop _ _ _ => obtain ⟨_, _, _, _, _, e, _⟩ := htr; cases e
      | iff _ _ _ _ => obtain ⟨_, _, _, _, _, _, _, e, _⟩ := htr; cases e
    subst er
    have e : t.cnt = c := ec
    rw [e] at k0
    exact ⟨_, rfl, k0⟩
theorem ok_lc (T : Txt w K mg) : ∀ m : Nat, FnOk P w K mg base CX0 (m + 1) T.a_l_count T.d_l_count p_l_count (spLc K m)
  | 0 => ok_lc0 T (fn_vac fun _ _ _ _ h => h)
  | m + 1 => ok_lc0 T (m := m + 1) (ok_lc T m)
end
theorem disc_nl (k : Kd) : Kd.disc k = (Kd.large k == false) := by
  cases k with
  | flag => rfl
  | ref s => rfl
  | num lo hi =>
    show decide (hi - lo ≤ 7) = (decide (hi - lo > 7) == false)
    by_cases h : hi - lo ≤ 7
    · rw [decide_eq_true h, decide_eq_false (by omega)]; rfl
    · rw [decide_eq_false h, decide_eq_true (by omega)]; rfl
theorem large_l (k : Kd) : Kd.large k = (Kd.large k == true) := by cases Kd.large k <;> rfl
theorem PrAt.get {K : PySem.W.Frag} {H : Hp} : ∀ {ps : List Addr} {ks : List (Str × Kd)} {kvs : List (Key × V)} {i : Nat} {p : Addr}, PrAt K H ps ks kvs → ps[i]? = some p → ∃ a y, ks[i]? = some a ∧ SqT K H p [.str a.1, y] ∧ KdAt K H y a.2 := fun {ps ks kvs i p} h e => by
  obtain ⟨kv, e1, h1⟩ := paired_get h.1 e
  obtain ⟨a, e2, h2, h3⟩ := h.2.get e1
  refine ⟨a, kv.2, e2, ?_, h3⟩
  rw [h2] at h1
  exact h1
def spSmn (K : PySem.W.Frag) : Sp := fun vs H Q _ => ∃ (q : Addr) (ps : List Addr) (ks : List (Str × Kd)) (kvs : List (Key × V)) (b : Bool), vs = [.ref q, .bl b] ∧ SqT K H q (ps.map .ref) ∧ PrAt K H ps ks kvs ∧ ks.length ≤ 150 ∧
  ∀ (p : Addr) (H' : Hp), Same H H' → SqT K H' p (namesT (fun k => Kd.large k == b) ks) → Q (.ref p) H'
def spSr (K : PySem.W.Frag) : Sp := fun vs H Q _ => ∃ (q : Addr) (ps : List Addr) (ks : List (Str × Kd)) (kvs : List (Key × V)), vs = [.ref q] ∧ SqT K H q (ps.map .ref) ∧ PrAt K H ps ks kvs ∧ ks.length ≤ 150 ∧
  ∀ (p : Addr) (us : List V) (H' : Hp), Same H H' → SqT K H' p us → DTs K 3 H' us (rgsD ks) → us.length ≤ 150 → Q (.ref p) H'
section
variable {P : Program} {w : World} {K : PySem.W.Frag} {mg : Str → Option Value} {base : Heap}
theorem ok_l_some_names (T : Txt w K mg) : FnOk P w K mg base CX0 2 T.a_l_some_names T.d_l_some_names p_l_some_names (spSmn K) := by
  have g_l_is_large := ok_l_is_large (P := P) (w := w) (K := K) (base := base) T
  refine T.F_l_some_names.ok sc_l_some_names (fun vs H Q E h => ?_) (fun cdv A outer s H vs Q E hr h => ?_)
  · obtain ⟨q, ps, ks, kvs, b, rfl, _⟩ := h
    rfl
  obtain ⟨qa, ps, ks, kvs, b, rfl, hq, hp, hl, q⟩ := h
  refine ⟨_, (pss_one (ps_ret (pe_callTy call_tuple_of rfl T.z_tuple bt_tuple (pa_cons (pe_lc (own := [("_law_pair", 2)]) (g := gName 2) rfl sc_l_some_names.nd (pi_tup (pv 0)) (blkOk_by (own := [("_law_pair", 2)]) (N := n_l_some_names) (sc := defScope s_l_some_names) (by decide +kernel)) (fun _ _ _ _ _ => (pg_name (i := 2) sc_l_some_names.nd rfl (Or.inl rfl))) (fun _ _ _ _ _ => (pts_one (pt_cmpR op_eq (pe_call g_l_is_large (hr.mono (by first | decide | omega)) rfl T.m_l_is_large T.F_l_is_large.kp T.b_l_is_large .nil pass0 (pa_cons (pe_ix (show IxR _ (rIxT K) from ix_tup) (pv 2) pe_int (fun _ _ => rfl)) pa_nil)) (pv 1) (nomark _)))) (fun _ _ _ _ _ => (pe_ix (show IxR _ (rIxT K) from ix_tup) (pv 2) pe_int (fun _ _ => rfl)))) pa_nil)))), ?_⟩
  have pl := hp.len
  have ml : (ps.map V.ref).length = ps.length := List.length_map _
  refine ⟨_, rfl, qa, rfl, ⟨_, hq⟩, fun D hD => ?_⟩
  refine lc_it (walk_tup (K := K) (a := qa) (xs := ps.map V.ref)) (fun i H' => Same H H' ∧ H' D = some (.lst (namesT (fun k => Kd.large k == b) (ks.take i)))) ?_ ?_ ?_ ?_
  · exact ⟨Same.new hD _, upd_same⟩
  · rintro i H' _ ⟨h, _⟩
    exact Same.tup h hq
  · rintro i x H' H2 hi ⟨sm, h1⟩ ⟨rfl, hx⟩
    rw [ml] at hi
    rw [List.getElem?_map, List.getElem?_eq_getElem hi] at hx
    obtain rfl := Option.some.inj hx
    obtain ⟨a, y, ea, g1, g2⟩ := (hp.keep (Keeps.of_same sm)).get (List.getElem?_eq_getElem hi)
    have st := filt_snoc (p := fun a : Str × Kd => Kd.large a.2 == b) ea
    refine ⟨rfl, _, rfl, ps[i], _, 1, _, rfl, rfl, g1, rfl, y, a.2, rfl, g2, _, rfl, rfl, _, rfl, ?_⟩
    have ed : decide (V.bl (Kd.large a.2) = V.bl b) = (Kd.large a.2 == b) := by
      cases Kd.large a.2 <;> cases b <;> rfl
    rw [ed]
    cases e : (Kd.large a.2 == b) with
    | true =>
      refine ifT rfl ⟨_, rfl, ps[i], _, 0, _, rfl, rfl, g1, rfl, _, h1, ?_, Same.grow hD (sm), ?_⟩
      · unfold namesT
        rw [List.length_map]
        have z1 := List.length_filter_le (fun a : Str × Kd => (fun k => Kd.large k == b) a.2) (ks.take i)
        have z2 := List.length_take_le' i ks
        exact small1000 (by omega)
      · rw [if_pos e] at st
        rw [upd_same]
        unfold namesT
        rw [st, List.map_append]
        rfl
    | false =>
      refine ifF rfl ⟨sm, ?_⟩
      rw [if_neg (by rw [e]; exact Bool.false_ne_true), List.append_nil] at st
      rw [h1]
      unfold namesT
      rw [st]
  · rintro H5 ⟨sm, h1⟩
    rw [ml, pl, List.take_length] at h1
    refine ⟨D, _, rfl, .inl ⟨SqL.of h1, fun l hl0 => ?_⟩⟩
    exact q l _ (sm.trans (Same.new hl0 _)) (SqT.of upd_same)
theorem ok_l_some_ranges (T : Txt w K mg) : FnOk P w K mg base CX0 2 T.a_l_some_ranges T.d_l_some_ranges p_l_some_ranges (spSr K) := by
  have g_l_is_large := ok_l_is_large (P := P) (w := w) (K := K) (base := base) T
  refine T.F_l_some_ranges.ok sc_l_some_ranges (fun vs H Q E h => ?_) (fun cdv A outer s H vs Q E hr h => ?_)
  · obtain ⟨q, ps, ks, kvs, rfl, _⟩ := h
    rfl
  obtain ⟨qa, ps, ks, kvs, rfl, hq, hp, hl, q⟩ := h
  refine ⟨_, (pss_one (ps_ret (pe_callTy call_tuple_of rfl T.z_tuple bt_tuple (pa_cons (pe_lc (own := [("_law_pair", 1)]) (g := gName 1) rfl sc_l_some_ranges.nd (pi_tup (pv 0)) (blkOk_by (own := [("_law_pair", 1)]) (N := n_l_some_ranges) (sc := defScope s_l_some_ranges) (by decide +kernel)) (fun _ _ _ _ _ => (pg_name (i := 1) sc_l_some_ranges.nd rfl (Or.inl rfl))) (fun _ _ _ _ _ => (pts_one (pt_val (pe_call g_l_is_large (hr.mono (by first | decide | omega)) rfl T.m_l_is_large T.F_l_is_large.kp T.b_l_is_large .nil pass0 (pa_cons (pe_ix (show IxR _ (rIxT K) from ix_tup) (pv 1) pe_int (fun _ _ => rfl)) pa_nil))))) (fun _ _ _ _ _ => (pe_tup (pa_cons (pe_ix (show IxR _ (rIxT K) from ix_tup) (pe_ix (show IxR _ (rIxT K) from ix_tup) (pv 1) pe_int (fun _ _ => rfl)) pe_int (fun _ _ => rfl)) (pa_cons (pe_ix (show IxR _ (rIxT K) from ix_tup) (pe_ix (show IxR _ (rIxT K) from ix_tup) (pv 1) pe_int (fun _ _ => rfl)) pe_int (fun _ _ => rfl)) pa_nil))))) pa_nil)))), ?_⟩
  have pl := hp.len
  have ml : (ps.map V.ref).length = ps.length := List.length_map _
  refine ⟨_, rfl, qa, rfl, ⟨_, hq⟩, fun D hD => ?_⟩
  refine lc_it (walk_tup (K := K) (a := qa) (xs := ps.map V.ref)) (fun i H' => Same H H' ∧ ∃ us : List V, H' D = some (.lst us) ∧ DTs K 3 H' us (rgsD (ks.take i))) ?_ ?_ ?_ ?_
  · exact ⟨Same.new hD _, [], upd_same, trivial⟩
  · rintro i H' _ ⟨h, _⟩
    exact Same.tup h hq
  · rintro i x H' H2 hi ⟨sm, us, h1, h2⟩ ⟨rfl, hx⟩
    rw [ml] at hi
    rw [List.getElem?_map, List.getElem?_eq_getElem hi] at hx
    obtain rfl := Option.some.inj hx
    obtain ⟨a, y, ea, g1, g2⟩ := (hp.keep (Keeps.of_same sm)).get (List.getElem?_eq_getElem hi)
    have st := filt_snoc (p := fun a : Str × Kd => Kd.large a.2) ea
    refine ⟨rfl, ⟨_, rfl, ps[i], _, 1, _, rfl, rfl, g1, rfl, y, a.2, rfl, g2, ?_⟩⟩
    have ul : us.length ≤ 150 := by
      rw [h2.len]
      unfold rgsD
      rw [List.length_map]
      have z1 := List.length_filter_le (fun a : Str × Kd => Kd.large a.2) (ks.take i)
      have z2 := List.length_take_le' i ks
      omega
    cases e : Kd.large a.2 with
    | true =>
      rw [if_pos e] at st
      cases ek : a.2 with
      | flag => rw [ek] at e; cases e
      | ref s => rw [ek] at e; cases e
      | num lo hi2 =>
        rw [ek] at g2
        obtain ⟨pk, rfl, hpk⟩ := g2
        refine ⟨_, rfl, ifT rfl ⟨_, rfl, ps[i], _, 1, _, rfl, rfl, g1, rfl, pk, _, 1, _, rfl, rfl, hpk, rfl, _, rfl, ps[i], _, 1, _, rfl, rfl, g1, rfl, pk, _, 2, _, rfl, rfl, hpk, rfl, by show 2 ≤ sizeLine; decide, fun t ht => ?_⟩⟩
        have st2 := Same.new ht (.tup [.int lo, .int hi2])
        have hD2 := st2 _ _ h1
        refine ⟨us, hD2, small1000 (by omega), Same.grow hD (sm.trans st2), us ++ [.ref t], upd_same, ?_⟩
        have er : rgsD (ks.take (i + 1)) = rgsD (ks.take i) ++ [rgD (.num lo hi2)] := by
          unfold rgsD
          rw [st, List.map_append, ← ek]
          rfl
        rw [er]
        refine DTs.keep (keep_lst hD2) (DTs.app (us := [.ref t]) (es := [rgD (.num lo hi2)]) (h2.keep (Keeps.of_same st2)) ⟨?_, trivial⟩)
        exact DT.tup (n := 2) (SqT.of upd_same) ⟨⟨.int _, trivial⟩, ⟨.int _, trivial⟩, trivial⟩ (by show 2 ≤ 1000; decide)
    | false =>
      rw [if_neg (by rw [e]; exact Bool.false_ne_true), List.append_nil] at st
      refine ⟨_, rfl, ifF rfl ⟨sm, us, h1, ?_⟩⟩
      have er : rgsD (ks.take (i + 1)) = rgsD (ks.take i) := by unfold rgsD; rw [st]
      rw [er]
      exact h2
  · rintro H5 ⟨sm, us, h1, h2⟩
    rw [ml, pl, List.take_length] at h2
    refine ⟨D, us, rfl, .inl ⟨SqL.of h1, fun l hl0 => ?_⟩⟩
    refine q l us _ (sm.trans (Same.new hl0 _)) (SqT.of upd_same) (h2.keep (keeps_new hl0)) ?_
    rw [h2.len]
    unfold rgsD
    rw [List.length_map]
    have z1 := List.length_filter_le (fun a : Str × Kd => Kd.large a.2) ks
    omega
end
/-! ### what is due, as data -/
def kdD : Kd → PyData
  | .flag => .tuple [.str "flag"]
  | .ref s => .tuple [.str "ref", .str s]
  | .num lo hi => .tuple [.str "num", .int lo, .int hi]
def rsD : Option Kd → PyData
  | none => .none
  | some k => kdD k
def nmD (g : Kd → Bool) (l : List (Str × Kd)) : PyData := .tuple ((l.filter fun a => g a.2).map fun a => .str a.1)
def dueD (p : PgM) (f : FnM) : PyData := .tuple [.str f.nm, rsD f.rs, .int (f.bd.cnt : Int), nmD Kd.disc (vis p f), nmD Kd.large (vis p f), nmD Kd.disc (p.gl ++ f.pk), nmD Kd.large (p.gl ++ f.pk), nmD Kd.disc (exitK p f), nmD Kd.large (exitK p f),
  .tuple (rgsD (vis p f) ++ rgsD (p.gl ++ f.pk)), .tuple (rgsD (exitK p f) ++ rgsD (p.gl ++ f.pk))]
theorem kd_dt {K : PySem.W.Frag} {H : Hp} {v : V} {k : Kd} (h : KdAt K H v k) : DT K 2 H v (kdD k) := by
  obtain ⟨p, rfl, h⟩ := h
  cases k with
  | flag => exact DT.tup (n := 1) h ⟨⟨.str _, trivial⟩, trivial⟩ (by show 1 ≤ 1000; decide)
  | ref s => exact DT.tup (n := 1) h ⟨⟨.str _, trivial⟩, ⟨.str _, trivial⟩, trivial⟩ (by show 2 ≤ 1000; decide)
  | num lo hi => exact DT.tup (n := 1) h ⟨⟨.str _, trivial⟩, ⟨.int _, trivial⟩, ⟨.int _, trivial⟩, trivial⟩ (by show 3 ≤ 1000; decide)
theorem rs_dt {K : PySem.W.Frag} {H : Hp} {v : V} : ∀ {r : Option Kd}, RsAt K H v r → DT K 2 H v (rsD r)
  | none, h => by rw [show v = .non from h]; exact ⟨.non, trivial⟩
  | some _, h => kd_dt h
theorem strs_dt {K : PySem.W.Frag} {H : Hp} : ∀ l : List (Str × Kd), DTs K 1 H (l.map fun a => V.str a.1) (l.map fun a => PyData.str a.1)
  | [] => trivial
  | _ :: l => ⟨⟨.str _, trivial⟩, strs_dt l⟩
theorem nm_dt {K : PySem.W.Frag} {H : Hp} {p : Addr} {g : Kd → Bool} {l : List (Str × Kd)} (h : SqT K H p (namesT g l)) (hl : l.length ≤ 150) : DT K 2 H (.ref p) (nmD g l) :=
  DT.tup (n := 1) h (strs_dt _) (by
    rw [List.length_map]
    have := List.length_filter_le (fun a : Str × Kd => g a.2) l
    omega)
theorem rg_dt {K : PySem.W.Frag} {H : Hp} {v : V} {ds : List PyData} (h : RgT K H v ds) (hl : ds.length ≤ 1000) : DT K 4 H v (.tuple ds) := by
  obtain ⟨p, us, rfl, h1, h2⟩ := h
  exact DT.tup (n := 3) h1 h2 hl
theorem rgs_len (l : List (Str × Kd)) : (rgsD l).length ≤ l.length := by
  unfold rgsD
  rw [List.length_map]
  exact List.length_filter_le _ _
theorem cat_pr {K : PySem.W.Frag} {H : Hp} {a b : Addr} {ps ps2 : List Addr} {Q : VK} (ha : SqT K H a (ps.map V.ref)) (hb : SqT K H b (ps2.map V.ref)) (hz : ps.length + ps2.length ≤ 500) (q : ∀ c H', Same H H' → SqT K H' c ((ps ++ ps2).map V.ref) → Q (.ref c) H') : rCatA K (.ref a) (.ref b) H Q := by
  refine ⟨a, b, _, _, rfl, rfl, ha, hb, ?_, fun e => ?_, fun _ e => ?_, fun _ _ p hp => ?_⟩
  · rw [List.length_map, List.length_map]
    exact Nat.le_of_lt (small1000 (by omega))
  · have e' : ps = [] := List.map_eq_nil_iff.mp e
    subst e'
    exact q _ _ (Same.refl _) hb
  · have e' : ps2 = [] := List.map_eq_nil_iff.mp e
    subst e'
    exact q _ _ (Same.refl _) (by rw [List.append_nil]; exact ha)
  · exact q _ _ (Same.new hp _) (SqT.of (by rw [upd_same, List.map_append]))
theorem namesT_nl (l : List (Str × Kd)) : namesT (fun k => Kd.large k == false) l = namesT Kd.disc l := by
  have e : (fun k => Kd.large k == false) = Kd.disc := funext fun k => (disc_nl k).symm
  rw [e]
theorem namesT_l (l : List (Str × Kd)) : namesT (fun k => Kd.large k == true) l = namesT Kd.large l := by
  have e : (fun k => Kd.large k == true) = Kd.large := funext fun k => (large_l k).symm
  rw [e]
def spDue9 (K : PySem.W.Frag) : Sp := fun vs H Q _ => ∃ (v u : V) (p : PgM) (f : FnM), vs = [v, u] ∧ PgAt K H v p ∧ FuAt K H u f ∧ (vis p f).length ≤ 50 ∧ f.bd.dep 8 ∧ f.bd.cnt ≤ 400 ∧ ∀ (q : Addr) (H' : Hp), Same H H' → DT K 6 H' (.ref q) (dueD p f) → Q (.ref q) H'
section
variable {P : Program} {w : World} {K : PySem.W.Frag} {mg : Str → Option Value} {base : Heap}
theorem ok_l_due (T : Txt w K mg) : FnOk P w K mg base CX0 10 T.a_l_due T.d_l_due p_l_due (spDue9 K) := by
  have g_l_count := ok_lc (P := P) (w := w) (K := K) (base := base) T 8
  have g_l_some_names := ok_l_some_names (P := P) (w := w) (K := K) (base := base) T
  have g_l_some_ranges := ok_l_some_ranges (P := P) (w := w) (K := K) (base := base) T
  refine T.F_l_due.ok sc_l_due (fun vs H Q E h => ?_) (fun cdv A outer s H vs Q E hr h => ?_)
  · obtain ⟨v, u, p, f, rfl, _⟩ := h
    rfl
  obtain ⟨v, u, p, f, rfl, hp, fu, hvl, hdep, hcnt, q⟩ := h
  refine ⟨_, (pss_cons (ps_set (i := 2) sc_l_due.nd rfl (Or.inl rfl) (pe_op op_catA (pe_ix ix_tup (pv 0) pe_int (fun _ _ => rfl)) (pe_ix ix_tup (pv 1) pe_int (fun _ _ => rfl))))
      (pss_cons (ps_set (i := 3) sc_l_due.nd rfl (Or.inl rfl) (pe_op op_catA (pv 2) (pe_ix ix_tup (pv 1) pe_int (fun _ _ => rfl))))
      (pss_cons (ps_set (i := 4) sc_l_due.nd rfl (Or.inl rfl) (pe_ix ix_tup (pv 0) pe_int (fun _ _ => rfl)))
      (C8.pss_cut (ps_if (pt_cmpR op_notN (pe_ix ix_tup (pv 1) pe_int (fun _ _ => rfl)) pe_non (nomark _)) (pss_one (ps_set (i := 4) sc_l_due.nd rfl (Or.inl rfl) (pe_op op_catA (pv 4) (pe_tup (pa_cons (pe_tup (pa_cons pe_str (pa_cons (pe_ix ix_tup (pv 1) pe_int (fun _ _ => rfl)) pa_nil))) pa_nil))))) pss_nil)
      (pss_cons (ps_set (i := 5) sc_l_due.nd rfl (Or.inl rfl) (pe_lst (pa_cons (pe_ix ix_tup (pv 1) pe_int (fun _ _ => rfl)) (pa_cons (pe_ix ix_tup (pv 1) pe_int (fun _ _ => rfl)) (pa_cons (pe_call g_l_count (hr.mono (by first | decide | omega)) rfl T.m_l_count T.F_l_count.kp T.b_l_count .nil pass0 (pa_cons (pe_ix ix_tup (pv 1) pe_int (fun _ _ => rfl)) pa_nil)) (pa_cons (pe_call g_l_some_names (hr.mono (by first | decide | omega)) rfl T.m_l_some_names T.F_l_some_names.kp T.b_l_some_names .nil pass0 (pa_cons (pv 3) (pa_cons pe_bl pa_nil))) (pa_cons (pe_call g_l_some_names (hr.mono (by first | decide | omega)) rfl T.m_l_some_names T.F_l_some_names.kp T.b_l_some_names .nil pass0 (pa_cons (pv 3) (pa_cons pe_bl pa_nil))) pa_nil)))))))
      (pss_cons (ps_set (i := 5) sc_l_due.nd rfl (Or.inl rfl) (pe_op op_cat (pv 5) (pe_lst (pa_cons (pe_call g_l_some_names (hr.mono (by first | decide | omega)) rfl T.m_l_some_names T.F_l_some_names.kp T.b_l_some_names .nil pass0 (pa_cons (pv 2) (pa_cons pe_bl pa_nil))) (pa_cons (pe_call g_l_some_names (hr.mono (by first | decide | omega)) rfl T.m_l_some_names T.F_l_some_names.kp T.b_l_some_names .nil pass0 (pa_cons (pv 2) (pa_cons pe_bl pa_nil))) pa_nil)))))
      (pss_cons (ps_set (i := 5) sc_l_due.nd rfl (Or.inl rfl) (pe_op op_cat (pv 5) (pe_lst (pa_cons (pe_call g_l_some_names (hr.mono (by first | decide | omega)) rfl T.m_l_some_names T.F_l_some_names.kp T.b_l_some_names .nil pass0 (pa_cons (pv 4) (pa_cons pe_bl pa_nil))) (pa_cons (pe_call g_l_some_names (hr.mono (by first | decide | omega)) rfl T.m_l_some_names T.F_l_some_names.kp T.b_l_some_names .nil pass0 (pa_cons (pv 4) (pa_cons pe_bl pa_nil))) pa_nil)))))
      (pss_cons (ps_set (i := 5) sc_l_due.nd rfl (Or.inl rfl) (pe_op op_cat (pv 5) (pe_lst (pa_cons (pe_op op_catA (pe_call g_l_some_ranges (hr.mono (by first | decide | omega)) rfl T.m_l_some_ranges T.F_l_some_ranges.kp T.b_l_some_ranges .nil pass0 (pa_cons (pv 3) pa_nil)) (pe_call g_l_some_ranges (hr.mono (by first | decide | omega)) rfl T.m_l_some_ranges T.F_l_some_ranges.kp T.b_l_some_ranges .nil pass0 (pa_cons (pv 2) pa_nil))) (pa_cons (pe_op op_catA (pe_call g_l_some_ranges (hr.mono (by first | decide | omega)) rfl T.m_l_some_ranges T.F_l_some_ranges.kp T.b_l_some_ranges .nil pass0 (pa_cons (pv 4) pa_nil)) (pe_call g_l_some_ranges (hr.mono (by first | decide | omega)) rfl T.m_l_some_ranges T.F_l_some_ranges.kp T.b_l_some_ranges .nil pass0 (pa_cons (pv 2) pa_nil))) pa_nil)))))
      (pss_one (ps_ret (pe_callTy call_tuple_of rfl T.z_tuple bt_tuple (pa_cons (pv 5) pa_nil)))))))))))), ?_⟩
  obtain ⟨a, g, fa, r0, r1, fvs, rfl, h1, ⟨o, ps, kvs, g1, g2, g3⟩, h3, h4, h5⟩ := id hp
  obtain ⟨F, a1, a3, qq, ps1, ps3, kv1, kv3, rv, us, rfl, f1, f2, f3, f4, f5, f6, f7, f8⟩ := id fu
  have lv : (vis p f).length = p.gl.length + f.pk.length + f.ow.length := by unfold vis; rw [List.length_append, List.length_append]
  have lg := g3.len
  have lp := f3.len
  have lo := f6.len
  have hg : SqT K H g (ps.map V.ref) := .inl (.inr ⟨o, g1⟩)
  refine ⟨_, rfl, a, _, 2, _, rfl, rfl, h1, rfl, _, rfl, F, _, 1, _, rfl, rfl, f1, rfl, cat_pr hg f2 (by omega) fun c1 G1 s1 k1 => ?_⟩
  have kp1 := Keeps.of_same (K := K) s1
  refine ⟨_, rfl, _, rfl, F, _, 3, _, rfl, rfl, (kp1 _ _ f1), rfl, cat_pr k1 (kp1 _ _ f5) (by rw [List.length_append]; omega) fun c2 G2 s2 k2 => ?_⟩
  have kp2 := Keeps.of_same (K := K) (s1.trans s2)
  refine ⟨_, rfl, a, _, 2, _, rfl, rfl, (kp2 _ _ h1), rfl, ?_⟩
  have prE := g3.app f3
  have prV := prE.app f6
  refine ⟨fun σ HE => ∃ (ce : Addr) (pse : List Addr) (kve : List (Key × V)), Same G2 HE ∧ SqT K HE ce (pse.map V.ref) ∧ PrAt K HE pse (exitK p f) kve ∧ (exitK p f).length ≤ 51 ∧ σ = [some (.ref a), some (.ref F), some (.ref c1), some (.ref c2), some (.ref ce), none], ?_, ?_⟩
  · refine ⟨_, rfl, F, _, 2, _, rfl, rfl, (kp2 _ _ f1), rfl, rfl, _, rfl, ?_⟩
    cases hrs : f.rs with
    | none =>
      rw [hrs] at f4
      have f4 : rv = .non := f4
      subst f4
      have ee : exitK p f = p.gl := by unfold exitK; rw [hrs, List.append_nil]
      refine ifF (by decide +kernel) ⟨g, ps, kvs, Same.refl _, kp2 _ _ hg, ?_, ?_, rfl⟩
      · rw [ee]
        exact g3.keep kp2
      · rw [ee]
        omega
    | some kk =>
      rw [hrs] at f4
      obtain ⟨pk, rfl, hpk⟩ := id (show KdAt K H rv kk from f4)
      have ee : exitK p f = p.gl ++ [(("result" : Str), kk)] := by unfold exitK; rw [hrs]
      refine ifT (by rw [decide_eq_false (fun z => nomatch z)]; rfl) ⟨_, rfl, _, rfl, F, _, 2, _, rfl, rfl, (kp2 _ _ f1), rfl, by show 2 ≤ sizeLine; decide, fun t ht => ⟨by show 1 ≤ sizeLine; decide, fun t2 ht2 => ?_⟩⟩
      have st := (Same.new ht (.tup [.str "result", .ref pk])).trans (Same.new ht2 (.tup [.ref t]))
      have kst := Keeps.of_same (K := K) st
      have kt2 := Keeps.of_same (K := K) (Same.new ht2 (.tup [.ref t]))
      refine cat_pr (ps2 := [t]) (kst _ _ (kp2 _ _ hg)) (SqT.of upd_same) (by show ps.length + 1 ≤ 500; omega) fun ce HE sE kE => ?_
      have kE' := Keeps.of_same (K := K) sE
      refine ⟨ce, ps ++ [t], kvs ++ [((Sum.inr "result" : Key), V.ref pk)], st.trans sE, kE, ?_, ?_, rfl⟩
      · rw [ee]
        refine (((g3.keep kp2).keep kst).keep kE').app ⟨.cons ?_ .nil, ⟨rfl, ⟨pk, rfl, kE' _ _ (kst _ _ (kp2 _ _ hpk))⟩, trivial⟩⟩
        exact kE' _ _ (kt2 _ _ (SqT.of upd_same))
      · rw [ee, List.length_append]
        show p.gl.length + 1 ≤ 51
        omega
  rintro σ HE ⟨ce, pse, kve, sE, kE, prX, lx, rfl⟩
  have s2E := (s1.trans s2).trans sE
  have kpE := Keeps.of_same (K := K) s2E
  have k2E := Keeps.of_same (K := K) sE
  have k1E := Keeps.of_same (K := K) (s2.trans sE)
  have prV' : PrAt K HE (ps ++ ps1 ++ ps3) (vis p f) (kvs ++ kv1 ++ kv3) := prV.keep kpE
  have prE' := prE.keep kpE
  have f1E := kpE _ _ f1
  refine ⟨_, rfl, F, _, 0, _, rfl, rfl, f1E, rfl, _, rfl, F, _, 2, _, rfl, rfl, f1E, rfl, _, rfl, F, _, 4, _, rfl, rfl, f1E, rfl, qq, us, f.bd, rfl, kpE _ _ f7, TrL.keep kpE f8, hdep, hcnt, ?_⟩
  refine ⟨_, rfl, c2, _, _, _, false, rfl, k2E _ _ k2, prV', by omega, fun p1 G3 s3 n1 => ?_⟩
  have kp3 := Keeps.of_same (K := K) s3
  refine ⟨_, rfl, c2, _, _, _, true, rfl, kp3 _ _ (k2E _ _ k2), prV'.keep kp3, by omega, fun p2 G4 s4 n2 => ⟨by show 5 ≤ sizeLine; decide, fun L1 hL1 => ?_⟩⟩
  rw [namesT_nl] at n1
  rw [namesT_l] at n2
  have t4 := Same.new hL1 (.lst [.str f.nm, rv, .int (f.bd.cnt : Int), .ref p1, .ref p2])
  have e5 : (upd G4 L1 (.lst [.str f.nm, rv, .int (f.bd.cnt : Int), .ref p1, .ref p2])) L1 = _ := upd_same
  generalize (upd G4 L1 (.lst [.str f.nm, rv, .int (f.bd.cnt : Int), .ref p1, .ref p2])) = G5 at t4 e5 ⊢
  have sE5 := (s3.trans s4).trans t4
  have kE5 := Keeps.of_same (K := K) sE5
  -- of the entry
  refine ⟨_, rfl, _, rfl, c1, _, _, _, false, rfl, kE5 _ _ (k1E _ _ k1), prE'.keep kE5, by rw [List.length_append]; omega, fun p3 G6 s6 n3 => ?_⟩
  have kp6 := Keeps.of_same (K := K) s6
  refine ⟨_, rfl, c1, _, _, _, true, rfl, kp6 _ _ (kE5 _ _ (k1E _ _ k1)), (prE'.keep kE5).keep kp6, by rw [List.length_append]; omega, fun p4 G7 s7 n4 => ⟨by show 2 ≤ sizeLine; decide, fun L2 hL2 => ?_⟩⟩
  rw [namesT_nl] at n3
  rw [namesT_l] at n4
  have t7 := Same.new hL2 (.lst [.ref p3, .ref p4])
  have s57 := s6.trans s7
  refine ⟨L1, L2, _, _, rfl, rfl, t7 _ _ (s57 _ _ e5), upd_same, by show 7 ≤ sizeLine; decide, fun L3 hL3 => ?_⟩
  have t8 := t7.trans (Same.new hL3 (.lst ([.str f.nm, rv, .int (f.bd.cnt : Int), .ref p1, .ref p2] ++ [.ref p3, .ref p4])))
  have e8 : (upd (upd G7 L2 (.lst [.ref p3, .ref p4])) L3 (.lst ([.str f.nm, rv, .int (f.bd.cnt : Int), .ref p1, .ref p2] ++ [.ref p3, .ref p4]))) L3 = some (.lst [.str f.nm, rv, .int (f.bd.cnt : Int), .ref p1, .ref p2, .ref p3, .ref p4]) := upd_same
  generalize (upd (upd G7 L2 (.lst [.ref p3, .ref p4])) L3 (.lst ([.str f.nm, rv, .int (f.bd.cnt : Int), .ref p1, .ref p2] ++ [.ref p3, .ref p4]))) = G8 at t8 e8 ⊢
  have s58 := s57.trans t8
  have sE8 := sE5.trans s58
  have kE8 := Keeps.of_same (K := K) sE8
  -- of the end
  refine ⟨_, rfl, _, rfl, ce, _, _, _, false, rfl, kE8 _ _ kE, prX.keep kE8, by omega, fun p5 G9 s9 n5 => ?_⟩
  have kp9 := Keeps.of_same (K := K) s9
  refine ⟨_, rfl, ce, _, _, _, true, rfl, kp9 _ _ (kE8 _ _ kE), (prX.keep kE8).keep kp9, by omega, fun p6 GA sA n6 => ⟨by show 2 ≤ sizeLine; decide, fun L4 hL4 => ?_⟩⟩
  rw [namesT_nl] at n5
  rw [namesT_l] at n6
  have tA := Same.new hL4 (.lst [.ref p5, .ref p6])
  have s8A := s9.trans sA
  refine ⟨L3, L4, _, _, rfl, rfl, tA _ _ (s8A _ _ e8), upd_same, by show 9 ≤ sizeLine; decide, fun L5 hL5 => ?_⟩
  have tB := tA.trans (Same.new hL5 (.lst ([.str f.nm, rv, .int (f.bd.cnt : Int), .ref p1, .ref p2, .ref p3, .ref p4] ++ [.ref p5, .ref p6])))
  have eB : (upd (upd GA L4 (.lst [.ref p5, .ref p6])) L5 (.lst ([.str f.nm, rv, .int (f.bd.cnt : Int), .ref p1, .ref p2, .ref p3, .ref p4] ++ [.ref p5, .ref p6]))) L5 = some (.lst [.str f.nm, rv, .int (f.bd.cnt : Int), .ref p1, .ref p2, .ref p3, .ref p4, .ref p5, .ref p6]) := upd_same
  generalize (upd (upd GA L4 (.lst [.ref p5, .ref p6])) L5 (.lst ([.str f.nm, rv, .int (f.bd.cnt : Int), .ref p1, .ref p2, .ref p3, .ref p4] ++ [.ref p5, .ref p6]))) = GB at tB eB ⊢
  have s8B := s8A.trans tB
  have sEB := sE8.trans s8B
  have kEB := Keeps.of_same (K := K) sEB
  -- the ranges
  have lE : (p.gl ++ f.pk).length ≤ 150 := by rw [List.length_append]; omega
  refine ⟨_, rfl, _, rfl, c2, _, _, _, rfl, kEB _ _ (k2E _ _ k2), prV'.keep kEB, by omega, fun q1 u1 GC sC m1 d1 l1 => ?_⟩
  have kpC := Keeps.of_same (K := K) sC
  refine ⟨_, rfl, c1, _, _, _, rfl, kpC _ _ (kEB _ _ (k1E _ _ k1)), (prE'.keep kEB).keep kpC, lE, fun q2 u2 GD sD m2 d2 l2 => ?_⟩
  have kpD := Keeps.of_same (K := K) sD
  refine cat_rg (kpD _ _ m1) m2 (d1.keep kpD) d2 (by omega) fun v1 GF sF w1 => ?_
  have kpF := Keeps.of_same (K := K) sF
  have kBF := Keeps.of_same (K := K) ((sC.trans sD).trans sF)
  refine ⟨_, rfl, ce, _, _, _, rfl, kBF _ _ (kEB _ _ kE), (prX.keep kEB).keep kBF, by omega, fun q3 u3 GH sH m3 d3 l3 => ?_⟩
  have kpH := Keeps.of_same (K := K) sH
  refine ⟨_, rfl, c1, _, _, _, rfl, kpH _ _ (kBF _ _ (kEB _ _ (k1E _ _ k1))), ((prE'.keep kEB).keep kBF).keep kpH, lE, fun q4 u4 GI sI m4 d4 l4 => ?_⟩
  have kpI := Keeps.of_same (K := K) sI
  refine cat_rg (kpI _ _ m3) m4 (d3.keep kpI) d4 (by omega) fun v2 GJ sJ w2 => ⟨by show 2 ≤ sizeLine; decide, fun L6 hL6 => ?_⟩
  have tJ := Same.new hL6 (.lst [v1, v2])
  have sBJ := ((((sC.trans sD).trans sF).trans sH).trans sI).trans sJ
  refine ⟨L5, L6, _, _, rfl, rfl, tJ _ _ (sBJ _ _ eB), upd_same, by show 11 ≤ sizeLine; decide, fun L7 hL7 => ?_⟩
  have tK := tJ.trans (Same.new hL7 (.lst ([.str f.nm, rv, .int (f.bd.cnt : Int), .ref p1, .ref p2, .ref p3, .ref p4, .ref p5, .ref p6] ++ [v1, v2])))
  refine ⟨_, rfl, L7, _, rfl, .inl ⟨SqL.of upd_same, fun l hl0 => ?_⟩⟩
  have tL := tK.trans (Same.new hl0 (.tup ([.str f.nm, rv, .int (f.bd.cnt : Int), .ref p1, .ref p2, .ref p3, .ref p4, .ref p5, .ref p6] ++ [v1, v2])))
  have sJL := tL
  refine q l _ ((s2E.trans sEB).trans (sBJ.trans tL)) ?_
  have zf := Keeps.of_same (K := K) (sBJ.trans tL)
  have z8 := Keeps.of_same (K := K) (s8B.trans (sBJ.trans tL))
  have z5 := Keeps.of_same (K := K) (s58.trans (s8B.trans (sBJ.trans tL)))
  have l9 := rgs_len (vis p f)
  have l10 := rgs_len (p.gl ++ f.pk)
  have l11 := rgs_len (exitK p f)
  refine DT.tup (n := 5) (ds := [.str f.nm, rsD f.rs, .int (f.bd.cnt : Int), nmD Kd.disc (vis p f), nmD Kd.large (vis p f), nmD Kd.disc (p.gl ++ f.pk), nmD Kd.large (p.gl ++ f.pk), nmD Kd.disc (exitK p f), nmD Kd.large (exitK p f), .tuple (rgsD (vis p f) ++ rgsD (p.gl ++ f.pk)), .tuple (rgsD (exitK p f) ++ rgsD (p.gl ++ f.pk))]) (SqT.of upd_same) ?_ (by show 11 ≤ 1000; decide)
  refine ⟨⟨.str _, trivial⟩, ((rs_dt f4).keep (Keeps.of_same ((s2E.trans sEB).trans (sBJ.trans tL)))).up (by decide), ⟨.int _, trivial⟩, ?_, ?_, ?_, ?_, ?_, ?_, ?_, ?_, trivial⟩
  · exact ((nm_dt n1 (by omega)).keep (Keeps.of_same (s4.trans (t4.trans (s58.trans (s8B.trans (sBJ.trans tL))))))).up (by decide)
  · exact ((nm_dt n2 (by omega)).keep (Keeps.of_same (t4.trans (s58.trans (s8B.trans (sBJ.trans tL)))))).up (by decide)
  · exact ((nm_dt n3 lE).keep (Keeps.of_same (s7.trans (t8.trans (s8B.trans (sBJ.trans tL)))))).up (by decide)
  · exact ((nm_dt n4 lE).keep (Keeps.of_same (t8.trans (s8B.trans (sBJ.trans tL))))).up (by decide)
  · exact ((nm_dt n5 (by omega)).keep (Keeps.of_same (sA.trans (tB.trans (sBJ.trans tL))))).up (by decide)
  · exact ((nm_dt n6 (by omega)).keep (Keeps.of_same (tB.trans (sBJ.trans tL)))).up (by decide)
  · exact ((rg_dt w1 (by rw [List.length_append]; omega)).keep (Keeps.of_same ((sH.trans (sI.trans sJ)).trans tL))).up (by decide)
  · exact ((rg_dt w2 (by rw [List.length_append]; omega)).keep (Keeps.of_same tL)).up (by decide)
end
def spTold (K : PySem.W.Frag) (C : Addr) : Sp := fun vs H Q _ => ∃ (x : Addr) (v : V) (p : PgM) (f : FnM), vs = [.ref x] ∧ LyAt K C H x v p f ∧ (vis p f).length ≤ 50 ∧ (exitK p f).length ≤ 51 ∧ ∀ (q : Addr) (H' : Hp), Same H H' → DT K 6 H' (.ref q) (dueD p f) → Q (.ref q) H'
theorem nmT_dt {K : PySem.W.Frag} {H : Hp} {v : V} {g : Kd → Bool} {l : List (Str × Kd)} (h : NmT K H v (namesT g l)) (hl : l.length ≤ 150) : DT K 2 H v (nmD g l) := by
  obtain ⟨p, rfl, h⟩ := h
  exact nm_dt h hl
section
variable {P : Program} {w : World} {K : PySem.W.Frag} {mg : Str → Option Value} {base : Heap}
theorem ok_l_told (T : Txt w K mg) : FnOk P w K mg base CX0 1 T.a_l_told T.d_l_told p_l_told (spTold K T.C_Layout) := by
  refine T.F_l_told.ok sc_l_told (fun vs H Q E h => ?_) (fun cdv A outer s H vs Q E hr h => ?_)
  · obtain ⟨x, v, p, f, rfl, _⟩ := h
    rfl
  obtain ⟨x, v, p, f, rfl, L, hvl, hxl, q⟩ := h
  obtain ⟨dx, d, rv, v1, v2, v3, v4, v5, v6, v7, v8, fs, kvs, hx, x1, x2, x3, x4, x5, x6, x7, x8, x9, y1, n1, y2, n2, y3, n3, y4, n4, y5, n5, y6, n6, y7, n7, y8, n8⟩ := L.ex
  refine ⟨_, (pss_cons (ps_set (i := 1) sc_l_told.nd rfl (Or.inl rfl) (pe_lst (pa_cons (pe_fld (pv 0) rfl) (pa_cons (pe_fld (pv 0) rfl) (pa_cons (pe_fld (pv 0) rfl) (pa_cons (pe_fld (pv 0) rfl) (pa_cons (pe_fld (pv 0) rfl) (pa_cons (pe_fld (pv 0) rfl) pa_nil))))))))
      (pss_cons (ps_set (i := 1) sc_l_told.nd rfl (Or.inl rfl) (pe_op op_cat (pv 1) (pe_lst (pa_cons (pe_fld (pv 0) rfl) (pa_cons (pe_fld (pv 0) rfl) (pa_cons (pe_fld (pv 0) rfl) (pa_cons (pe_fld (pv 0) rfl) (pa_cons (pe_fld (pv 0) rfl) pa_nil))))))))
      (pss_one (ps_ret (pe_callTy call_tuple_of rfl T.z_tuple bt_tuple (pa_cons (pv 1) pa_nil)))))), ?_⟩
  refine ⟨_, rfl, x, _, dx, fs, _, rfl, hx, T.cl_Layout, T.no_Layout_name, x2, _, rfl, x, _, dx, fs, _, rfl, hx, T.cl_Layout, T.no_Layout_result, x3, _, rfl, x, _, dx, fs, _, rfl, hx, T.cl_Layout, T.no_Layout_exit, x5,
    _, rfl, x, _, dx, fs, _, rfl, hx, T.cl_Layout, T.no_Layout_discrete, y1, _, rfl, x, _, dx, fs, _, rfl, hx, T.cl_Layout, T.no_Layout_large, y2, _, rfl, x, _, dx, fs, _, rfl, hx, T.cl_Layout, T.no_Layout_entry_discrete, y3, by show 6 ≤ sizeLine; decide, fun L1 hL1 => ?_⟩
  have t1 := Same.new hL1 (.lst [.str f.nm, rv, .int (f.bd.cnt : Int), v1, v2, v3])
  have hx1 := t1 _ _ hx
  refine ⟨_, rfl, _, rfl, x, _, dx, fs, _, rfl, hx1, T.cl_Layout, T.no_Layout_entry_large, y4, _, rfl, x, _, dx, fs, _, rfl, hx1, T.cl_Layout, T.no_Layout_exit_discrete, y5, _, rfl, x, _, dx, fs, _, rfl, hx1, T.cl_Layout, T.no_Layout_exit_large, y6,
    _, rfl, x, _, dx, fs, _, rfl, hx1, T.cl_Layout, T.no_Layout_ranges, y7, _, rfl, x, _, dx, fs, _, rfl, hx1, T.cl_Layout, T.no_Layout_exit_ranges, y8, by show 5 ≤ sizeLine; decide, fun L2 hL2 => ?_⟩
  have t2 := Same.new hL2 (.lst [v4, v5, v6, v7, v8])
  refine ⟨L1, L2, _, _, rfl, rfl, t2 _ _ upd_same, upd_same, by show 11 ≤ sizeLine; decide, fun L3 hL3 => ?_⟩
  have t3 := Same.new hL3 (.lst ([.str f.nm, rv, .int (f.bd.cnt : Int), v1, v2, v3] ++ [v4, v5, v6, v7, v8]))
  refine ⟨_, rfl, L3, _, rfl, .inl ⟨SqL.of upd_same, fun l hl0 => ?_⟩⟩
  have tf := ((t1.trans t2).trans t3).trans (Same.new hl0 (.tup ([.str f.nm, rv, .int (f.bd.cnt : Int), v1, v2, v3] ++ [v4, v5, v6, v7, v8])))
  refine q l _ tf ?_
  have kf := Keeps.of_same (K := K) tf
  have lv : (vis p f).length = p.gl.length + f.pk.length + f.ow.length := by unfold vis; rw [List.length_append, List.length_append]
  have lE : (p.gl ++ f.pk).length ≤ 150 := by rw [List.length_append]; omega
  have l9 := rgs_len (vis p f)
  have l10 := rgs_len (p.gl ++ f.pk)
  have l11 := rgs_len (exitK p f)
  refine DT.tup (n := 5) (ds := [.str f.nm, rsD f.rs, .int (f.bd.cnt : Int), nmD Kd.disc (vis p f), nmD Kd.large (vis p f), nmD Kd.disc (p.gl ++ f.pk), nmD Kd.large (p.gl ++ f.pk), nmD Kd.disc (exitK p f), nmD Kd.large (exitK p f), .tuple (rgsD (vis p f) ++ rgsD (p.gl ++ f.pk)), .tuple (rgsD (exitK p f) ++ rgsD (p.gl ++ f.pk))]) (SqT.of upd_same) ?_ (by show 11 ≤ 1000; decide)
  exact ⟨⟨.str _, trivial⟩, ((rs_dt x4).keep kf).up (by decide), ⟨.int _, trivial⟩, ((nmT_dt n1 (by omega)).keep kf).up (by decide), ((nmT_dt n2 (by omega)).keep kf).up (by decide), ((nmT_dt n3 lE).keep kf).up (by decide), ((nmT_dt n4 lE).keep kf).up (by decide),
    ((nmT_dt n5 (by omega)).keep kf).up (by decide), ((nmT_dt n6 (by omega)).keep kf).up (by decide), ((rg_dt n7 (by rw [List.length_append]; omega)).keep kf).up (by decide), ((rg_dt n8 (by rw [List.length_append]; omega)).keep kf).up (by decide), trivial⟩
end
theorem kb_dd : kitB "dict" "dict" = some true := by decide +kernel
def PD (K : PySem.W.Frag) (H : Hp) (v : V) : Prop := ∃ d, DT K 40 H v d
structure FnOk9 (p : PgM) (f : FnM) : Prop where
  len : (vis p f).length ≤ 50
  lx : (exitK p f).length ≤ 51
  nd : ((vis p f).map (·.1)).Nodup
  dep : f.bd.dep 8
  cnt : f.bd.cnt ≤ 400
def spRight (K : PySem.W.Frag) (C : Addr) : Sp := fun vs H Q _ => ∃ (x : Addr) (v u : V) (p : PgM) (f : FnM), vs = [.ref x, v, u] ∧ LyAt K C H x v p f ∧ PgAt K H v p ∧ FuAt K H u f ∧ PD K H v ∧ FnOk9 p f ∧ ∀ H', Same H H' → Q (.bl true) H'
theorem kd_dok (k : Kd) : Dok 3 (kdD k) := by
  cases k with
  | flag => exact ⟨by show 1 ≤ 100000; decide, fun d hd => by simp at hd; rcases hd with rfl; trivial⟩
  | ref s => exact ⟨by show 2 ≤ 100000; decide, fun d hd => by simp at hd; rcases hd with rfl | rfl <;> trivial⟩
  | num lo hi => exact ⟨by show 3 ≤ 100000; decide, fun d hd => by simp at hd; rcases hd with rfl | rfl | rfl <;> trivial⟩
theorem Dok.up : ∀ {n m : Nat} {d : PyData}, n ≤ m → Dok n d → Dok m d
  | 0, _, _, _, h => h.elim
  | n + 1, 0, _, h, _ => by omega
  | n + 1, m + 1, .none, _, _ => trivial
  | n + 1, m + 1, .bool _, _, _ => trivial
  | n + 1, m + 1, .int _, _, _ => trivial
  | n + 1, m + 1, .str _, _, _ => trivial
  | n + 1, m + 1, .tuple ds, h, q => ⟨q.1, fun d hd => Dok.up (by omega) (q.2 d hd)⟩
  | n + 1, m + 1, .list ds, h, q => ⟨q.1, fun d hd => Dok.up (by omega) (q.2 d hd)⟩
  | n + 1, m + 1, .dict _, _, h => h.elim
theorem LyAt.same {K : PySem.W.Frag} {C : Addr} {H H' : Hp} {x : Addr} {v : V} {p : PgM} {f : FnM} (s : Same H H') (h : LyAt K C H x v p f) : LyAt K C H' x v p f := by
  obtain ⟨dx, d, rv, v1, v2, v3, v4, v5, v6, v7, v8, fs, kvs, hx, x1, x2, x3, x4, x5, x6, x7, x8, x9, y1, n1, y2, n2, y3, n3, y4, n4, y5, n5, y6, n6, y7, n7, y8, n8⟩ := h.ex
  have k := Keeps.of_same (K := K) s
  exact ⟨dx, d, rv, v1, v2, v3, v4, v5, v6, v7, v8, fs, kvs, s _ _ hx, x1, x2, x3, x4.keep k, x5, x6, s _ _ x7, x8.keep k, x9, y1, n1.keep k, y2, n2.keep k, y3, n3.keep k, y4, n4.keep k, y5, n5.keep k, y6, n6.keep k, y7, n7.keep k, y8, n8.keep k⟩
section
variable {P : Program} {w : World} {K : PySem.W.Frag} {mg : Str → Option Value} {base : Heap}
theorem ok_l_right (T : Txt w K mg) : FnOk P w K mg base CX0 45 T.a_l_right T.d_l_right p_l_right (spRight K T.C_Layout) := by
  have g_l_same := ok_l_same (P := P) (w := w) (K := K) (base := base) T 40
  have g_l_told := ok_l_told (P := P) (w := w) (K := K) (base := base) T
  have g_l_due := ok_l_due (P := P) (w := w) (K := K) (base := base) T
  refine T.F_l_right.ok sc_l_right (fun vs H Q E h => ?_) (fun cdv A outer s H vs Q E hr h => ?_)
  · obtain ⟨x, v, u, p, f, rfl, _⟩ := h
    rfl
  obtain ⟨x, v, u, p, f, rfl, L, hp, fu, pd, ok, q⟩ := h
  obtain ⟨dx, d, rv, v1, v2, v3, v4, v5, v6, v7, v8, fs, kvs, hx, x1, x2, x3, x4, x5, x6, x7, x8, x9, _⟩ := L.ex
  refine ⟨_, (pss_cons (ps_set (i := 3) sc_l_right.nd rfl (Or.inl rfl) (pe_op op_catA (pe_op op_catA (pe_ix ix_tup (pv 1) pe_int (fun _ _ => rfl)) (pe_ix ix_tup (pv 2) pe_int (fun _ _ => rfl))) (pe_ix ix_tup (pv 2) pe_int (fun _ _ => rfl))))
      (pss_cons (ps_set (i := 4) sc_l_right.nd rfl (Or.inl rfl) (pe_fld (pv 0) rfl))
      (pss_cons (ps_if (PW.pt (pw_or (pt_not (pt_val (pe_callB call_isi rfl T.z_isinstance bb_isinstance (pa_cons (pv 4) (pa_cons (pe_bltn (v := .ty "dict") rfl T.z_dict bt_dict rfl) pa_nil))))) (pw_or1 (pt_cmpR op_ne (pe_callB call_lenD rfl T.z_len PySem.boot_len (pa_cons (pv 4) pa_nil)) (pe_callB call_len_seq rfl T.z_len PySem.boot_len (pa_cons (pv 3) pa_nil)) (nomark _))))) (pss_one (ps_ret pe_bl)) pss_nil)
      (pss_cons (ps_for PassesOwn.never rfl (pi_tup (pv 3)) (pg_name (i := 5) sc_l_right.nd rfl (Or.inl rfl))
        (pss_one (ps_if (PW.pt (pw_or (pt_cmp (pc_dnotin (hu_of hr) (pe_ix ix_tup (pv 5) pe_int (fun _ _ => rfl)) (pv 4))) (pw_or1 (pt_not (pt_val (pe_call g_l_same (hr.mono (by first | decide | omega)) rfl T.m_l_same T.F_l_same.kp T.b_l_same .nil pass0 (pa_cons (pe_dget (hu_of hr) (pv 4) (pe_ix ix_tup (pv 5) pe_int (fun _ _ => rfl)) (fun _ _ => rfl)) (pa_cons (pe_ix ix_tup (pv 5) pe_int (fun _ _ => rfl)) pa_nil)))))))) (pss_one (ps_ret pe_bl)) pss_nil)))
      (pss_one (ps_ret (pe_and (pe_call g_l_same (hr.mono (by first | decide | omega)) rfl T.m_l_same T.F_l_same.kp T.b_l_same .nil pass0 (pa_cons (pe_fld (pv 0) rfl) (pa_cons (pv 1) pa_nil))) (pe_one (pe_call g_l_same (hr.mono (by first | decide | omega)) rfl T.m_l_same T.F_l_same.kp T.b_l_same .nil pass0 (pa_cons (pe_call g_l_told (hr.mono (by first | decide | omega)) rfl T.m_l_told T.F_l_told.kp T.b_l_told .nil pass0 (pa_cons (pv 0) pa_nil)) (pa_cons (pe_call g_l_due (hr.mono (by first | decide | omega)) rfl T.m_l_due T.F_l_due.kp T.b_l_due .nil pass0 (pa_cons (pv 1) (pa_cons (pv 2) pa_nil))) pa_nil))))))))))), ?_⟩
  obtain ⟨a, g, fa, r0, r1, fvs, rfl, h1, ⟨o, ps, kvs0, g1, g2, g3⟩, h3, h4, h5⟩ := id hp
  obtain ⟨F, a1, a3, qq, ps1, ps3, kv1, kv3, rv', us, rfl, f1, f2, f3, f4, f5, f6, f7, f8⟩ := id fu
  have lv : (vis p f).length = p.gl.length + f.pk.length + f.ow.length := by unfold vis; rw [List.length_append, List.length_append]
  have okl := ok.len
  have lg := g3.len
  have lp := f3.len
  have lo := f6.len
  have hg : SqT K H g (ps.map V.ref) := .inl (.inr ⟨o, g1⟩)
  refine ⟨_, rfl, a, _, 2, _, rfl, rfl, h1, rfl, _, rfl, F, _, 1, _, rfl, rfl, f1, rfl, cat_pr hg f2 (by omega) fun c1 G1 s1 k1 => ?_⟩
  have kp1 := Keeps.of_same (K := K) s1
  refine ⟨_, rfl, F, _, 3, _, rfl, rfl, (kp1 _ _ f1), rfl, cat_pr k1 (kp1 _ _ f5) (by rw [List.length_append]; omega) fun c2 G2 s2 k2 => ?_⟩
  have s12 := s1.trans s2
  have kp2 := Keeps.of_same (K := K) s12
  have prV : PrAt K G2 (ps ++ ps1 ++ ps3) (vis p f) (kvs0 ++ kv1 ++ kv3) := ((g3.app f3).app f6).keep kp2
  have hx2 := s12 _ _ hx
  have hd2 := s12 _ _ x7
  have x82 := x8.keep kp2
  refine ⟨_, rfl, x, _, dx, fs, _, rfl, hx2, T.cl_Layout, T.no_Layout_kinds, x6, ?_⟩
  have pll := prV.len
  have kll := x8.len
  refine ⟨_, rfl, _, _, _, _, true, rfl, .ty _, .base (.dK hd2), kit_ty kb_dd, ⟨_, rfl, iteF ?_⟩⟩
  refine ⟨_, rfl, d, kvs, rfl, hd2, _, rfl, c2, _, rfl, .inr k2, rfl, _, rfl, ?_⟩
  refine iteNS (congrArg V.int (by rw [List.length_map]; omega)) ?_
  refine ⟨_, rfl, c2, rfl, ⟨_, k2⟩, for_tup (K := K) (a := c2) (xs := (ps ++ ps1 ++ ps3).map V.ref) (fun i σ H' => H' = G2 ∧ ∃ v5 : Option V, σ = [some (.ref x), some (.ref a), some (.ref F), some (.ref c2), some (.ref d), v5])
    ⟨rfl, none, rfl⟩ (fun i σ H' _ ⟨e, _⟩ => by rw [e]; exact k2) ?_ ?_⟩
  · rintro i y σ H' hi ⟨rfl, v5, rfl⟩
    obtain ⟨pa, epa, rfl⟩ : ∃ pa, (ps ++ ps1 ++ ps3)[i]? = some pa ∧ y = .ref pa := by
      rw [List.getElem?_map] at hi
      cases e : (ps ++ ps1 ++ ps3)[i]? with
      | none => rw [e] at hi; cases hi
      | some z => rw [e] at hi; exact ⟨z, rfl, (Option.some.inj hi).symm⟩
    obtain ⟨b, z, eb, b1, b2⟩ := prV.get epa
    obtain ⟨kv, mkv, ek, hv⟩ := x82.mem (List.mem_of_getElem? eb)
    have ev := val_self x9 kv mkv
    rw [ek] at ev
    refine ⟨_, rfl, pa, _, 0, _, rfl, rfl, b1, rfl, _, rfl, d, some kv.2, rfl, .inl ⟨kvs, Sum.inr b.1, .inl hd2, rfl, ev.symm⟩, _, rfl, iteF ?_⟩
    refine ⟨_, rfl, _, rfl, pa, _, 0, _, rfl, rfl, b1, rfl, d, kv.2, rfl, .inl ⟨kvs, Sum.inr b.1, .inl hd2, rfl, ev.symm⟩, _, rfl, pa, _, 1, _, rfl, rfl, b1, rfl, kv.2, z, kdD b.2, rfl, (kd_dt hv).1, (kd_dt b2).1, Dok.up (by decide) (kd_dok b.2), _, rfl, iteF ?_⟩
    exact ⟨rfl, _, rfl⟩
  · rintro σ H' ⟨rfl, v5, rfl⟩
    obtain ⟨pdd, hpd⟩ := pd
    have hpd2 := hpd.keep kp2
    refine ⟨_, rfl, x, _, dx, fs, _, rfl, hx2, T.cl_Layout, T.no_Layout_program, x1, _, rfl, .ref a, .ref a, pdd, rfl, hpd2.1, hpd2.1, Tok.dok hpd2.2, ?_⟩
    refine ⟨true, rfl, iteT ⟨_, rfl, x, .ref a, p, f, rfl, L.same s12, okl, ok.lx, fun q1 G3 s3 dd1 => ?_⟩⟩
    have k3 := Keeps.of_same (K := K) s3
    refine ⟨_, rfl, _, rfl, .ref a, .ref F, p, f, rfl, hp.same (s12.trans s3), (fu.keep kp2).keep k3, okl, ok.dep, ok.cnt, fun q2 G4 s4 dd2 => ?_⟩
    exact ⟨_, _, dueD p f, rfl, (dd1.keep (Keeps.of_same s4)).1, dd2.1, Dok.up (by decide) (Tok.dok dd2.2), q _ ((s12.trans s3).trans s4)⟩
end
/-! ### the draws -/
theorem lst_ne {H : Hp} {a ln : Addr} {nz : List Str} (hs : Src H a) (h : H ln = some (.lst (nz.map V.str))) : ln ≠ a := by
  obtain ⟨c, m, k, hs⟩ := hs
  exact ne_of h hs (by
    intro z
    have z' := HO.lst.inj z
    cases nz with
    | nil => cases z'
    | cons x r =>
      have z2 := (List.cons.inj z').1
      cases z2)
theorem Stp.grow {H H' : Hp} {a l : Addr} {o : HO} (hl : H l = none) (na : l ≠ a) (x : Stp a H H') : Stp a H (upd H' l o) := ⟨by
  obtain ⟨c, m, k, h⟩ := x.s
  exact ⟨c, m, k, by rw [upd_ne na.symm]; exact h⟩, fun b u hb e => by
  rw [upd_ne (ne_of_none e hl)]
  exact x.k b u hb e⟩

/-- a source and a cell that holds a number may have changed, nothing else -/
structure St2 (a m : Addr) (H H' : Hp) : Prop where
  s : Src H' a
  c : ∃ n : Int, H' m = some (.lst [.int n])
  k : ∀ b o, b ≠ a → b ≠ m → H b = some o → H' b = some o
theorem cell_ne {H : Hp} {a m : Addr} {n : Int} (hs : Src H a) (h : H m = some (.lst [.int n])) : m ≠ a := by
  obtain ⟨c, d, k, hs⟩ := hs
  exact ne_of h hs (by
    intro z
    have z1 := HO.lst.inj z
    have z2 := (List.cons.inj z1).2
    cases z2)
theorem strs_ne {H : Hp} {l m : Addr} {n : Int} {zs : List Str} (h : H l = some (.lst (zs.map V.str))) (hm : H m = some (.lst [.int n])) : l ≠ m := ne_of h hm (by
  intro z
  have z1 := HO.lst.inj z
  cases zs with
  | nil => cases z1
  | cons x r => cases (List.cons.inj z1).1)
section
variable {H H' H2 : Hp} {a m : Addr}
theorem St2.ne (x : St2 a m H H') : m ≠ a := let ⟨_, h⟩ := x.c; cell_ne x.s h
theorem St2.refl {n : Int} (hs : Src H a) (h : H m = some (.lst [.int n])) : St2 a m H H := ⟨hs, ⟨n, h⟩, fun _ _ _ _ e => e⟩
theorem St2.trans (x : St2 a m H H') (y : St2 a m H' H2) : St2 a m H H2 := ⟨y.s, y.c, fun b o h1 h2 e => y.k b o h1 h2 (x.k b o h1 h2 e)⟩
theorem St2.stp (x : St2 a m H H') (y : Stp a H' H2) : St2 a m H H2 := ⟨y.s, let ⟨n, h⟩ := x.c; ⟨n, y.k _ _ x.ne h⟩, fun b o h1 h2 e => y.k b o h1 (x.k b o h1 h2 e)⟩
theorem St2.same (x : St2 a m H H') (y : Same H' H2) : St2 a m H H2 := x.stp (Stp.of_same x.s y)
theorem St2.put {n : Int} (x : St2 a m H H') : St2 a m H (upd H' m (.lst [.int n])) := ⟨by
  obtain ⟨c, d, k, h⟩ := x.s
  exact ⟨c, d, k, by rw [upd_ne x.ne.symm]; exact h⟩, ⟨n, upd_same⟩, fun b o h1 h2 e => by rw [upd_ne h2]; exact x.k b o h1 h2 e⟩
theorem St2.grow {l : Addr} {o : HO} (hl : H l = none) (la : l ≠ a) (lm : l ≠ m) (x : St2 a m H H') : St2 a m H (upd H' l o) := ⟨by
  obtain ⟨c, d, k, h⟩ := x.s
  exact ⟨c, d, k, by rw [upd_ne la.symm]; exact h⟩, let ⟨n, h⟩ := x.c; ⟨n, by rw [upd_ne lm.symm]; exact h⟩, fun b u h1 h2 e => by rw [upd_ne (ne_of_none e hl)]; exact x.k b u h1 h2 e⟩
theorem St2.keeps {K : PySem.W.Frag} {n : Int} (hs : Src H a) (hm : H m = some (.lst [.int n])) (x : St2 a m H H') : Keeps K H H' := fun q xs h => by
  obtain ⟨c, d, k, hs⟩ := hs
  rcases h with (h | ⟨o, h⟩) | h
  · exact .inl (.inl (x.k _ _ (ne_of h hs (by intro z; cases z)) (ne_of h hm (by intro z; cases z)) h))
  · exact .inl (.inr ⟨o, x.k _ _ (ne_of h hs (by intro z; cases z)) (ne_of h hm (by intro z; cases z)) h⟩)
  · exact .inr h
theorem St2.lst {n : Int} {l : Addr} {zs : List Str} (hs : Src H a) (hm : H m = some (.lst [.int n])) (x : St2 a m H H') (h : H l = some (.lst (zs.map V.str))) : H' l = some (.lst (zs.map V.str)) := x.k _ _ (lst_ne hs h) (strs_ne h hm) h
end
def spKind (K : PySem.W.Frag) : Sp := fun vs H Q _ => ∃ (a r : Addr) (zs : List Str) (lg : Bool), vs = [.ref a, .ref r, .bl lg] ∧ Src H a ∧ H r = some (.lst (zs.map V.str)) ∧ zs.length ≤ 20 ∧ ∀ v k H', Stp a H H' → KdAt K H' v k → Q v H'
def spPairs (K : PySem.W.Frag) : Sp := fun vs H Q _ => ∃ (a l r m : Addr) (ns zs : List Str) (n : Int), vs = [.ref a, .ref l, .ref r, .ref m] ∧ Src H a ∧ H l = some (.lst (ns.map V.str)) ∧ H r = some (.lst (zs.map V.str)) ∧ H m = some (.lst [.int n]) ∧ ns.length ≤ 20 ∧ zs.length ≤ 20 ∧
  ∀ (q : Addr) (ks : List (Str × Kd)) (j : Nat) (H' : Hp), St2 a m H H' → H q = none → GlAt K H' q ks → ks.map (·.1) = ns.take j → Q (.ref q) H'
section
variable {P : Program} {w : World} {K : PySem.W.Frag} {mg : Str → Option Value} {base : Heap}
theorem ints4 {a b c d : Int} {z : V} (h : z ∈ [V.int a, V.int b, V.int c, V.int d]) : ∃ i, z = .int i := by
  simp only [List.mem_cons, List.not_mem_nil, or_false] at h
  rcases h with rfl | rfl | rfl | rfl <;> exact ⟨_, rfl⟩
theorem ok_l_kind (T : Txt w K mg) : FnOk P w K mg base CX0 3 T.a_l_kind T.d_l_kind p_l_kind (spKind K) := by
  have g_l_pick := ok_l_pick (P := P) (w := w) (base := base) T
  have g_l_one := ok_l_one (P := P) (w := w) (K := K) (base := base) T
  refine T.F_l_kind.ok sc_l_kind (fun vs H Q E h => ?_) (fun cdv A outer s H vs Q E hr h => ?_)
  · obtain ⟨a, r, zs, lg, rfl, _⟩ := h
    rfl
  obtain ⟨a, r, zs, lg, rfl, hS, hr0, hz, q⟩ := h
  refine ⟨_, (pss_cons (ps_set (i := 3) sc_l_kind.nd rfl (Or.inl rfl) (pe_call g_l_pick (hr.mono (by first | decide | omega)) rfl T.m_l_pick T.F_l_pick.kp T.b_l_pick .nil pass0 (pa_cons (pv 0) (pa_cons pe_int pa_nil))))
      (pss_cons (ps_set (i := 4) sc_l_kind.nd rfl (Or.inl rfl) (pe_op op_sub (pe_call g_l_pick (hr.mono (by first | decide | omega)) rfl T.m_l_pick T.F_l_pick.kp T.b_l_pick .nil pass0 (pa_cons (pv 0) (pa_cons pe_int pa_nil))) pe_int))
      (pss_cons (ps_if (pt_cmpR op_lt (pv 3) pe_int (nomark _)) (pss_one (ps_ret (pe_tup (pa_cons pe_str pa_nil)))) pss_nil)
      (pss_cons (ps_if (PW.pt (pw_and (pt_cmpR op_lt (pv 3) pe_int (nomark _)) (pw_and1 (pt_cmpR (op_neL0 hr.units0) (pv 1) (pe_lst pa_nil) (nomark _))))) (pss_one (ps_ret (pe_tup (pa_cons pe_str (pa_cons (pe_call g_l_one (hr.mono (by first | decide | omega)) rfl T.m_l_one T.F_l_one.kp T.b_l_one .nil pass0 (pa_cons (pv 0) (pa_cons (pv 1) pa_nil))) pa_nil))))) pss_nil)
      (pss_cons (ps_if (PW.pt (pw_or (pt_cmpR op_lt (pv 3) pe_int (nomark _)) (pw_or1 (pt_not (pt_val (pv 2)))))) (pss_one (ps_ret (pe_tup (pa_cons pe_str (pa_cons (pv 4) (pa_cons (pe_op op_add (pv 4) (pe_call g_l_one (hr.mono (by first | decide | omega)) rfl T.m_l_one T.F_l_one.kp T.b_l_one .nil pass0 (pa_cons (pv 0) (pa_cons (pe_lst (pa_cons pe_int (pa_cons pe_int (pa_cons pe_int (pa_cons pe_int pa_nil))))) pa_nil)))) pa_nil)))))) pss_nil)
      (pss_one (ps_ret (pe_tup (pa_cons pe_str (pa_cons (pv 4) (pa_cons (pe_op op_add (pv 4) (pe_call g_l_one (hr.mono (by first | decide | omega)) rfl T.m_l_one T.F_l_one.kp T.b_l_one .nil pass0 (pa_cons (pv 0) (pa_cons (pe_lst (pa_cons pe_int (pa_cons pe_int (pa_cons pe_int (pa_cons (pe_op op_sub (pe_op op_pow pe_int pe_int) pe_int) pa_nil))))) pa_nil)))) pa_nil))))))))))), ?_⟩
  refine ⟨_, rfl, a, 8, rfl, hS, by decide, fun ch H1 st1 _ _ => ?_⟩
  refine ⟨_, rfl, a, 30, rfl, st1.s, by decide, fun lw H2 st2 _ _ => ⟨_, _, rfl, rfl, ?_⟩⟩
  have sA := st1.trans st2
  have hrA := sA.k _ _ (lst_ne hS hr0) hr0
  refine ⟨_, rfl, _, _, rfl, rfl, _, rfl, ite2 (fun _ => ⟨by show 1 ≤ sizeLine; decide, fun t ht => ?_⟩) (fun _ => ?_)⟩
  · exact q _ .flag _ (sA.new ht) ⟨t, rfl, SqT.of upd_same⟩
  refine ⟨_, rfl, _, _, rfl, rfl, _, rfl, ite2 (fun _ => ⟨_, rfl, by show 0 ≤ sizeLine; decide, fun e he => ?_⟩) (fun _ => ?_)⟩
  · have sE := sA.new (o := .lst []) he
    have hrE := Same.new he (.lst []) _ _ hrA
    refine ⟨r, e, _, rfl, rfl, SqL.of hrE, SqL.of upd_same, _, rfl, ?_⟩
    cases zs with
    | nil =>
      refine iteF ?_
      refine ⟨_, rfl, _, _, rfl, rfl, _, rfl, ite2 (fun _ => ?_) (fun _ => ⟨_, rfl, lg, rfl, ?_⟩)⟩
      · exact ⟨_, rfl, _, rfl, _, rfl, (by show 4 ≤ sizeLine; decide), fun l hl => ⟨a, .ref l, rfl, ((sE).new hl).s, .inl ⟨l, _, rfl, ((sE).s.ne hl).symm, SqL.of upd_same, Nat.succ_pos _, (by show 4 < 1000; decide), fun z H5 hz st5 => (ints4 hz).elim fun i e => by
            subst e
            exact ⟨_, _, rfl, rfl, (by show 3 ≤ sizeLine; decide), fun t ht => q _ (.num _ _) _ ((((sE).new hl).trans st5).new ht) ⟨t, rfl, SqT.of upd_same⟩⟩⟩⟩⟩
      · cases lg with
        | true =>
          refine iteF ?_
          exact ⟨_, rfl, _, rfl, _, rfl, 10, 9, rfl, rfl, ⟨by decide, by decide, by decide⟩, _, _, rfl, rfl, (by show 4 ≤ sizeLine; decide), fun l hl => ⟨a, .ref l, rfl, ((sE).new hl).s, .inl ⟨l, _, rfl, ((sE).s.ne hl).symm, SqL.of upd_same, Nat.succ_pos _, (by show 4 < 1000; decide), fun z H5 hz st5 => (ints4 hz).elim fun i e => by
            subst e
            exact ⟨_, _, rfl, rfl, (by show 3 ≤ sizeLine; decide), fun t ht => q _ (.num _ _) _ ((((sE).new hl).trans st5).new ht) ⟨t, rfl, SqT.of upd_same⟩⟩⟩⟩⟩
        | false =>
          refine iteT ?_
          exact ⟨_, rfl, _, rfl, _, rfl, (by show 4 ≤ sizeLine; decide), fun l hl => ⟨a, .ref l, rfl, ((sE).new hl).s, .inl ⟨l, _, rfl, ((sE).s.ne hl).symm, SqL.of upd_same, Nat.succ_pos _, (by show 4 < 1000; decide), fun z H5 hz st5 => (ints4 hz).elim fun i e => by
            subst e
            exact ⟨_, _, rfl, rfl, (by show 3 ≤ sizeLine; decide), fun t ht => q _ (.num _ _) _ ((((sE).new hl).trans st5).new ht) ⟨t, rfl, SqT.of upd_same⟩⟩⟩⟩⟩
    | cons z0 zr =>
      refine iteT ?_
      refine ⟨_, rfl, _, rfl, a, .ref r, rfl, sE.s, .inl ⟨r, _, rfl, lst_ne sE.s hrE, SqL.of hrE, Nat.succ_pos _, (by rw [List.length_map]; omega), fun z H5 hz st5 => ?_⟩⟩
      obtain ⟨y, _, rfl⟩ := List.mem_map.mp hz
      exact ⟨by show 2 ≤ sizeLine; decide, fun t ht => q _ (.ref y) _ ((sE.trans st5).new ht) ⟨t, rfl, SqT.of upd_same⟩⟩
  · refine ⟨_, rfl, _, _, rfl, rfl, _, rfl, ite2 (fun _ => ?_) (fun _ => ⟨_, rfl, lg, rfl, ?_⟩)⟩
    · exact ⟨_, rfl, _, rfl, _, rfl, (by show 4 ≤ sizeLine; decide), fun l hl => ⟨a, .ref l, rfl, ((sA).new hl).s, .inl ⟨l, _, rfl, ((sA).s.ne hl).symm, SqL.of upd_same, Nat.succ_pos _, (by show 4 < 1000; decide), fun z H5 hz st5 => (ints4 hz).elim fun i e => by
            subst e
            exact ⟨_, _, rfl, rfl, (by show 3 ≤ sizeLine; decide), fun t ht => q _ (.num _ _) _ ((((sA).new hl).trans st5).new ht) ⟨t, rfl, SqT.of upd_same⟩⟩⟩⟩⟩
    · cases lg with
      | true =>
        refine iteF ?_
        exact ⟨_, rfl, _, rfl, _, rfl, 10, 9, rfl, rfl, ⟨by decide, by decide, by decide⟩, _, _, rfl, rfl, (by show 4 ≤ sizeLine; decide), fun l hl => ⟨a, .ref l, rfl, ((sA).new hl).s, .inl ⟨l, _, rfl, ((sA).s.ne hl).symm, SqL.of upd_same, Nat.succ_pos _, (by show 4 < 1000; decide), fun z H5 hz st5 => (ints4 hz).elim fun i e => by
            subst e
            exact ⟨_, _, rfl, rfl, (by show 3 ≤ sizeLine; decide), fun t ht => q _ (.num _ _) _ ((((sA).new hl).trans st5).new ht) ⟨t, rfl, SqT.of upd_same⟩⟩⟩⟩⟩
      | false =>
        refine iteT ?_
        exact ⟨_, rfl, _, rfl, _, rfl, (by show 4 ≤ sizeLine; decide), fun l hl => ⟨a, .ref l, rfl, ((sA).new hl).s, .inl ⟨l, _, rfl, ((sA).s.ne hl).symm, SqL.of upd_same, Nat.succ_pos _, (by show 4 < 1000; decide), fun z H5 hz st5 => (ints4 hz).elim fun i e => by
            subst e
            exact ⟨_, _, rfl, rfl, (by show 3 ≤ sizeLine; decide), fun t ht => q _ (.num _ _) _ ((((sA).new hl).trans st5).new ht) ⟨t, rfl, SqT.of upd_same⟩⟩⟩⟩⟩
end
theorem take_snoc {α : Type} {xs : List α} {i : Nat} {x : α} (h : xs[i]? = some x) : xs.take (i + 1) = xs.take i ++ [x] := by
  rw [List.take_add_one, h]
  rfl
section
variable {P : Program} {w : World} {K : PySem.W.Frag} {mg : Str → Option Value} {base : Heap}
theorem ok_l_pairs (T : Txt w K mg) : FnOk P w K mg base CX0 4 T.a_l_pairs T.d_l_pairs p_l_pairs (spPairs K) := by
  have g_l_pick := ok_l_pick (P := P) (w := w) (base := base) T
  have g_l_kind := ok_l_kind (P := P) (w := w) (K := K) (base := base) T
  have g_l_is_large := ok_l_is_large (P := P) (w := w) (K := K) (base := base) T
  refine T.F_l_pairs.ok sc_l_pairs (fun vs H Q E h => ?_) (fun cdv A outer s H vs Q E hr h => ?_)
  · obtain ⟨a, l, r, m, ns, zs, n, rfl, _⟩ := h
    rfl
  obtain ⟨a, l, r, m, ns, zs, n, rfl, hS, hl, hr0, hm, hns, hzs, q⟩ := h
  refine ⟨_, (pss_cons (ps_set (i := 4) sc_l_pairs.nd rfl (Or.inl rfl) (pe_lst pa_nil))
      (pss_cons (ps_for PassesOwn.never rfl (pi_range1 rfl T.z_range (pa_cons (pe_call g_l_pick (hr.mono (by first | decide | omega)) rfl T.m_l_pick T.F_l_pick.kp T.b_l_pick .nil pass0 (pa_cons (pv 0) (pa_cons (pe_op op_add (pe_callB call_len_seq rfl T.z_len PySem.boot_len (pa_cons (pv 1) pa_nil)) pe_int) pa_nil))) pa_nil)) (pg_name (i := 5) sc_l_pairs.nd rfl (Or.inl rfl))
        (pss_cons (ps_set (i := 6) sc_l_pairs.nd rfl (Or.inl rfl) (pe_call g_l_kind (hr.mono (by first | decide | omega)) rfl T.m_l_kind T.F_l_kind.kp T.b_l_kind .nil pass0 (pa_cons (pv 0) (pa_cons (pv 2) (pa_cons (pe_cmpR op_gt (pe_ix ix_list (pv 3) pe_int (fun _ _ => rfl)) pe_int (nomark _)) pa_nil)))))
      (pss_cons (ps_asg (pe_op op_sub (pe_ix ix_list (pv 3) pe_int (fun _ _ => rfl)) (pe_callTy call_int1 rfl T.z_int bt_int (pa_cons (pe_call g_l_is_large (hr.mono (by first | decide | omega)) rfl T.m_l_is_large T.F_l_is_large.kp T.b_l_is_large .nil pass0 (pa_cons (pv 6) pa_nil)) pa_nil))) (pg_sub (pv 3) pe_int set_list))
      (pss_one (ps_expr (pe_bm PySem.F.plainAttrs_list PySem.F.slot_list_append PySem.F.type_list_append mt_append (pv 4) (pa_cons (pe_tup (pa_cons (pe_ix ix_list (pv 1) (pv 5) (fun _ _ => rfl)) (pa_cons (pv 6) pa_nil))) pa_nil)))))))
      (pss_one (ps_ret (pe_callTy DTL.call_tuple_fz rfl T.z_tuple bt_tuple (pa_cons (pv 4) pa_nil)))))), ?_⟩
  have nma := cell_ne hS hm
  have nml : (ns.map V.str).length = ns.length := List.length_map _
  refine ⟨by show 0 ≤ sizeLine; decide, fun L hL => ?_⟩
  have La : L ≠ a := (hS.ne hL).symm
  have Lm : L ≠ m := (ne_of_none hm hL).symm
  have s0 := (St2.refl hS hm).same (Same.new hL (.lst []))
  have hl0 := Same.new hL (.lst []) _ _ hl
  refine ⟨_, rfl, _, rfl, l, _, rfl, .inl (SqL.of hl0), _, _, rfl, rfl, a, _, rfl, s0.s, by rw [nml]; omega, fun rr H1 st1 r0 r1 => ?_⟩
  have s1 := s0.stp st1
  have hL1 : H1 L = some (.lst []) := st1.k _ _ La upd_same
  rw [nml] at r1
  refine ⟨rr, rfl, by omega, by omega, for_range (lo := 0) (fun i σ H' => St2 a m H H' ∧ ∃ (ps : List Addr) (ks : List (Str × Kd)) (kvs : List (Key × V)) (v5 v6 : Option V), σ = [some (.ref a), some (.ref l), some (.ref r), some (.ref m), some (.ref L), v5, v6] ∧ H' L = some (.lst (ps.map V.ref)) ∧ PrAt K H' ps ks kvs ∧ ks.map (·.1) = ns.take i ∧ ps.length = i)
    ⟨s1, [], [], [], none, none, rfl, hL1, ⟨.nil, trivial⟩, rfl, rfl⟩ ?_ ?_⟩
  · rintro i σ H' hi ⟨st, ps, ks, kvs, v5, v6, rfl, hL', pr, ek, epl⟩
    have hiN : i < ns.length := by omega
    obtain ⟨n1, hm1⟩ := st.c
    refine ⟨_, rfl, _, rfl, _, rfl, m, _, 0, _, rfl, rfl, SqL.of hm1, rfl, _, _, rfl, rfl, a, r, zs, _, rfl, st.s, st.lst hS hm hr0, hzs, fun v k H2 st2 kd => ?_⟩
    have sA := st.stp st2
    have hm2 := st2.k _ _ st.ne hm1
    have kA := Keeps.of_stp (K := K) st2 st.s
    refine ⟨_, rfl, m, _, 0, _, rfl, rfl, SqL.of hm2, rfl, _, rfl, v, k, rfl, kd, .inr ⟨_, rfl, _, _, rfl, rfl, ?_⟩⟩
    refine ⟨_, rfl, m, _, 0, 0, rfl, rfl, hm2, rfl, ?_⟩
    have sB : St2 a m H (upd H2 m (.lst [.int (n1 - if Kd.large k = true then 1 else 0)])) := sA.put
    have kB : Keeps K H2 (upd H2 m (.lst [.int (n1 - if Kd.large k = true then 1 else 0)])) := keep_lst hm2
    have hLB : (upd H2 m (.lst [.int (n1 - if Kd.large k = true then 1 else 0)])) L = some (.lst (ps.map V.ref)) := by
      rw [upd_ne Lm]
      exact st2.k _ _ La hL'
    have hlB := sB.lst hS hm hl
    have eat : atI (ns.map V.str) (0 + (i : Int)) = some (.str ns[i]) := by
      rw [Int.zero_add]
      exact atI_nat (by rw [List.getElem?_map, List.getElem?_eq_getElem hiN]; rfl)
    refine ⟨_, rfl, .inl ⟨rfl, _, SqL.of hLB⟩, _, rfl, _, rfl, l, _, _, _, rfl, rfl, SqL.of hlB, eat, _, rfl, by show 2 ≤ sizeLine; decide, fun t ht => ?_⟩
    have st3 := Same.new ht (.tup [.str ns[i], v])
    have k3 := Keeps.of_same (K := K) st3
    have hL3 := st3 _ _ hLB
    have kL := keep_lst (K := K) (o := .lst (ps.map V.ref ++ [.ref t])) hL3
    refine ⟨L, _, _, rfl, rfl, hL3, by rw [List.length_map]; exact small1000 (by omega), St2.grow hL La Lm (sB.same st3), ps ++ [t], ks ++ [(ns[i], k)], kvs ++ [((Sum.inr ns[i] : Key), v)], _, _, rfl, ?_, ?_, ?_, ?_⟩
    · rw [upd_same, List.map_append]
      rfl
    · refine ((((pr.keep kA).keep kB).keep k3).keep kL).app ⟨.cons (kL _ _ (SqT.of upd_same)) .nil, ⟨rfl, (((kd.keep kB).keep k3).keep kL), trivial⟩⟩
    · rw [List.map_append, ek, take_snoc (List.getElem?_eq_getElem hiN)]
      rfl
    · rw [List.length_append, epl]
      rfl
  · rintro σ H' ⟨st, ps, ks, kvs, v5, v6, rfl, hL', pr, ek, epl⟩
    refine ⟨_, rfl, L, _, rfl, SqL.of hL', fun t o ht _ od => ?_⟩
    have stt := Same.new ht (.frz o (.tup (ps.map V.ref)))
    have ht0 : H t = none := by
      cases e : H t with
      | none => rfl
      | some u =>
        have z1 : t ≠ a := fun z => by
          rw [z] at ht
          obtain ⟨_, _, _, hh⟩ := st.s
          rw [hh] at ht
          cases ht
        have z2 : t ≠ m := fun z => by
          rw [z] at ht
          obtain ⟨_, hh⟩ := st.c
          rw [hh] at ht
          cases ht
        rw [st.k _ _ z1 z2 e] at ht
        cases ht
    exact q t ks _ _ (st.same stt) ht0 ⟨o, ps, kvs, upd_same, od, pr.keep (Keeps.of_same stt)⟩ ek
end
def spBd (K : PySem.W.Frag) (M : Nat) : Sp := fun vs H Q _ => ∃ (a m : Addr) (n : Int) (D : Nat) (lp : Bool), vs = [.ref a, .ref m, .int (D : Int), .bl lp] ∧ Src H a ∧ H m = some (.lst [.int n]) ∧ D < M ∧ 0 ≤ n ∧
  ∀ (q : Addr) (us : List V) (t : Tr) (n' : Int) (H' : Hp), St2 a m H H' → H' m = some (.lst [.int n']) → SqT K H' q us → TrL K H' t us → t.dep D → 0 ≤ n' → (t.cnt : Int) + n' ≤ n → us.length ≤ 4 → Q (.ref q) H'
theorem fl_dt {K : PySem.W.Frag} {H : Hp} {p : Addr} {b : Bool} (h : SqT K H p [.str "flag", .bl b]) : DT K 6 H (.ref p) (.tuple [.str "flag", .bool b]) :=
  DT.tup (n := 5) h ⟨⟨.str _, trivial⟩, ⟨.bl _, trivial⟩, trivial⟩ (by show 2 ≤ 1000; decide)
section
variable {P : Program} {w : World} {K : PySem.W.Frag} {mg : Str → Option Value} {base : Heap}
theorem ok_bd0 (T : Txt w K mg) {M : Nat} (g_l_body : FnOk P w K mg base CX0 (M + 1) T.a_l_body T.d_l_body p_l_body (spBd K M)) :
    FnOk P w K mg base CX0 (M + 2) T.a_l_body T.d_l_body p_l_body (spBd K (M + 1)) := by
  have g_l_pick := ok_l_pick (P := P) (w := w) (base := base) T
  refine T.F_l_body.ok sc_l_body (fun vs H Q E h => ?_) (fun cdv A outer s H vs Q E hr h => ?_)
  · obtain ⟨a, m, n, D, lp, rfl, _⟩ := h
    rfl
  obtain ⟨a, m, n, D, lp, rfl, hS, hm, hD, hn, q⟩ := h
  refine ⟨_, (pss_cons (ps_set (i := 4) sc_l_body.nd rfl (Or.inl rfl) (pe_tup pa_nil))
      (pss_cons (ps_for PassesOwn.never rfl (pi_range1 rfl T.z_range (pa_cons (pe_call g_l_pick (hr.mono (by first | decide | omega)) rfl T.m_l_pick T.F_l_pick.kp T.b_l_pick .nil pass0 (pa_cons (pv 0) (pa_cons pe_int pa_nil))) pa_nil)) (pg_name (i := 5) sc_l_body.nd rfl (Or.inl rfl))
        (pss_one (ps_if (pt_cmpR op_gt (pe_ix ix_list (pv 1) pe_int (fun _ _ => rfl)) pe_int (nomark _)) (pss_cons (ps_asg (pe_op op_sub (pe_ix ix_list (pv 1) pe_int (fun _ _ => rfl)) pe_int) (pg_sub (pv 1) pe_int set_list))
      (pss_cons (ps_set (i := 6) sc_l_body.nd rfl (Or.inl rfl) (pe_call g_l_pick (hr.mono (by first | decide | omega)) rfl T.m_l_pick T.F_l_pick.kp T.b_l_pick .nil pass0 (pa_cons (pv 0) (pa_cons pe_int pa_nil))))
      (pss_cons (ps_set (i := 7) sc_l_body.nd rfl (Or.inl rfl) (pe_tup (pa_cons pe_str (pa_cons (pe_tup (pa_cons pe_str (pa_cons pe_bl pa_nil))) pa_nil))))
      (C8.pss_cut (ps_if (PW.pt (pw_and (pt_cmpR op_gt (pv 2) pe_int (nomark _)) (pw_and1 (pt_cmpR op_eq (pv 6) pe_int (nomark _))))) (pss_one (ps_set (i := 7) sc_l_body.nd rfl (Or.inl rfl) (pe_tup (pa_cons pe_str (pa_cons (pe_tup (pa_cons pe_str (pa_cons pe_bl pa_nil))) (pa_cons (pe_call g_l_body (hr.mono (by first | decide | omega)) rfl T.m_l_body T.F_l_body.kp T.b_l_body .nil pass0 (pa_cons (pv 0) (pa_cons (pv 1) (pa_cons (pe_op op_sub (pv 2) pe_int) (pa_cons pe_bl pa_nil))))) pa_nil)))))) (pss_one (ps_if (PW.pt (pw_and (pt_cmpR op_gt (pv 2) pe_int (nomark _)) (pw_and1 (pt_cmpR op_lt (pv 6) pe_int (nomark _))))) (pss_cons (ps_set (i := 8) sc_l_body.nd rfl (Or.inl rfl) (pe_call g_l_body (hr.mono (by first | decide | omega)) rfl T.m_l_body T.F_l_body.kp T.b_l_body .nil pass0 (pa_cons (pv 0) (pa_cons (pv 1) (pa_cons (pe_op op_sub (pv 2) pe_int) (pa_cons (pv 3) pa_nil))))))
      (pss_one (ps_set (i := 7) sc_l_body.nd rfl (Or.inl rfl) (pe_tup (pa_cons pe_str (pa_cons (pe_tup (pa_cons pe_str (pa_cons pe_bl pa_nil))) (pa_cons (pv 8) (pa_cons (pe_call g_l_body (hr.mono (by first | decide | omega)) rfl T.m_l_body T.F_l_body.kp T.b_l_body .nil pass0 (pa_cons (pv 0) (pa_cons (pv 1) (pa_cons (pe_op op_sub (pv 2) pe_int) (pa_cons (pv 3) pa_nil))))) pa_nil)))))))) (pss_one (ps_if (PW.pt (pw_and (pt_val (pv 3)) (pw_and1 (pt_cmpR op_lt (pv 6) pe_int (nomark _))))) (pss_one (ps_set (i := 7) sc_l_body.nd rfl (Or.inl rfl) (pe_tup (pa_cons pe_str pa_nil)))) pss_nil)))))
      (pss_one (ps_set (i := 4) sc_l_body.nd rfl (Or.inl rfl) (pe_op op_catA (pv 4) (pe_tup (pa_cons (pv 7) pa_nil))))))))) pss_nil)))
      (pss_one (ps_ret (pv 4))))), ?_⟩
  refine ⟨by show 0 ≤ sizeLine; decide, fun b0 hb0 => ?_⟩
  have s0 := (St2.refl hS hm).same (Same.new hb0 (.tup []))
  have hm0 := Same.new hb0 (.tup []) _ _ hm
  refine ⟨_, rfl, a, 4, rfl, s0.s, by decide, fun r H1 st1 r0 r1 => ?_⟩
  have s1 := s0.stp st1
  have hb1 : SqT K H1 b0 [] := st1.rd (SqT.of upd_same) s0.s
  have hm1 := st1.k _ _ s0.ne hm0
  refine ⟨r, rfl, by omega, by omega, for_range (lo := 0) (fun i σ H' => ∃ (n' : Int) (bq : Addr) (us : List V) (t : Tr) (v5 v6 v7 v8 : Option V), St2 a m H H' ∧ H' m = some (.lst [.int n']) ∧ SqT K H' bq us ∧ TrL K H' t us ∧ us.length ≤ i ∧ t.dep D ∧ 0 ≤ n' ∧ (t.cnt : Int) + n' ≤ n ∧ σ = [some (.ref a), some (.ref m), some (.int (D : Int)), some (.bl lp), some (.ref bq), v5, v6, v7, v8])
    ⟨n, b0, [], .nil, none, none, none, none, s1, hm1, hb1, rfl, Nat.le_refl _, by cases D <;> trivial, hn, by show ((0 : Nat) : Int) + n ≤ n; omega, rfl⟩ ?_ ?_⟩
  · rintro i σ H' hi ⟨n', bq, us, t, v5, v6, v7, v8, st, hm', hq, ht, hui, dt, hn', hc, rfl⟩
    refine ⟨_, rfl, m, _, 0, _, rfl, rfl, SqL.of hm', rfl, _, _, rfl, rfl, _, rfl, ite2 (fun c => ?_) (fun c => ?_)⟩
    · have c' : 0 < n' := of_decide_eq_true c
      refine ⟨_, rfl, m, _, 0, _, rfl, rfl, SqL.of hm', rfl, _, _, rfl, rfl, _, rfl, m, _, 0, 0, rfl, rfl, hm', rfl, ?_⟩
      have sA : St2 a m H (upd H' m (.lst [.int (n' - 1)])) := st.put
      have kB : Keeps K H' (upd H' m (.lst [.int (n' - 1)])) := keep_lst hm'
      have hmA : (upd H' m (.lst [.int (n' - 1)])) m = some (.lst [.int (n' - 1)]) := upd_same
      show _
      refine ⟨_, rfl, a, 8, rfl, sA.s, by decide, fun ch H2 st2 _ _ => ?_⟩
      have sA2 := sA.stp st2
      have hm2 := st2.k _ _ sA.ne hmA
      have k2 : Keeps K H' H2 := fun p xs h => Keeps.of_stp (K := K) st2 sA.s _ _ (kB _ _ h)
      refine ⟨by show 2 ≤ sizeLine; decide, fun e1 he1 => ⟨by show 2 ≤ sizeLine; decide, fun e2 he2 => ?_⟩⟩
      have z1 := Same.new he1 (.tup [.str "flag", .bl true])
      have z2 := z1.trans (Same.new he2 (.tup [.str "assert", .ref e1]))
      have f3 : SqT K (upd (upd H2 e1 (.tup [.str "flag", .bl true])) e2 (.tup [.str "assert", .ref e1])) e1 [.str "flag", .bl true] := Keeps.of_same (Same.new he2 _) _ _ (SqT.of upd_same)
      have g3 : SqT K (upd (upd H2 e1 (.tup [.str "flag", .bl true])) e2 (.tup [.str "assert", .ref e1])) e2 [.str "assert", .ref e1] := SqT.of upd_same
      generalize (upd (upd H2 e1 (.tup [.str "flag", .bl true])) e2 (.tup [.str "assert", .ref e1])) = H3 at z2 f3 g3 ⊢
      have s3 := sA2.same z2
      have hm3 := z2 _ _ hm2
      have k3 : Keeps K H' H3 := fun p xs h => Keeps.of_same (K := K) z2 _ _ (k2 _ _ h)
      refine ⟨fun σ H4 => ∃ (n4 : Int) (vm : V) (tm : Tr) (w8 : Option V), St2 a m H H4 ∧ H4 m = some (.lst [.int n4]) ∧ Keeps K H' H4 ∧ TrL K H4 tm [vm] ∧ tm.dep D ∧ 0 ≤ n4 ∧ (tm.cnt : Int) + n4 ≤ n' ∧ σ = [some (.ref a), some (.ref m), some (.int (D : Int)), some (.bl lp), some (.ref bq), some (.int (0 + (i : Int))), some (.int ch), some vm, w8], ?_, ?_⟩
      · have lf : ∃ (n4 : Int) (vm : V) (tm : Tr) (w8 : Option V), St2 a m H H3 ∧ H3 m = some (.lst [.int n4]) ∧ Keeps K H' H3 ∧ TrL K H3 tm [vm] ∧ tm.dep D ∧ 0 ≤ n4 ∧ (tm.cnt : Int) + n4 ≤ n' ∧ ([some (.ref a), some (.ref m), some (.int (D : Int)), some (.bl lp), some (.ref bq), some (.int (0 + (i : Int))), some (.int ch), some (.ref e2), v8] : List (Option V)) = [some (.ref a), some (.ref m), some (.int (D : Int)), some (.bl lp), some (.ref bq), some (.int (0 + (i : Int))), some (.int ch), some vm, w8] :=
          ⟨n' - 1, .ref e2, .leaf "assert" [.tuple [.str "flag", .bool true]] .nil, v8, s3, hm3, k3, ⟨e2, _, [], rfl, g3, ⟨fl_dt f3, trivial⟩, ⟨["expression"], by decide +kernel, rfl, by decide, by decide +kernel⟩, rfl⟩, by cases D <;> trivial, by omega, by show ((1 + 0 : Nat) : Int) + (n' - 1) ≤ n'; omega, rfl⟩
        have brk : ∀ e3 : Addr, H3 e3 = none → ∃ (n4 : Int) (vm : V) (tm : Tr) (w8 : Option V), St2 a m H (upd H3 e3 (.tup [.str "break"])) ∧ (upd H3 e3 (.tup [.str "break"])) m = some (.lst [.int n4]) ∧ Keeps K H' (upd H3 e3 (.tup [.str "break"])) ∧ TrL K (upd H3 e3 (.tup [.str "break"])) tm [vm] ∧ tm.dep D ∧ 0 ≤ n4 ∧ (tm.cnt : Int) + n4 ≤ n' ∧ ([some (.ref a), some (.ref m), some (.int (D : Int)), some (.bl lp), some (.ref bq), some (.int (0 + (i : Int))), some (.int ch), some (.ref e3), v8] : List (Option V)) = [some (.ref a), some (.ref m), some (.int (D : Int)), some (.bl lp), some (.ref bq), some (.int (0 + (i : Int))), some (.int ch), some vm, w8] := fun e3 he3 =>
          ⟨n' - 1, .ref e3, .leaf "break" [] .nil, v8, s3.same (Same.new he3 _), Same.new he3 _ _ _ hm3, fun p xs h => Keeps.of_same (K := K) (Same.new he3 _) _ _ (k3 _ _ h), ⟨e3, [], [], rfl, SqT.of upd_same, trivial, ⟨[], by decide +kernel, rfl, by decide, by decide +kernel⟩, rfl⟩, by cases D <;> trivial, by omega, by show ((1 + 0 : Nat) : Int) + (n' - 1) ≤ n'; omega, rfl⟩
        cases D with
        | zero =>
          refine ⟨_, rfl, _, _, rfl, rfl, _, rfl, ifF (by decide) (iteF ⟨_, rfl, _, _, rfl, rfl, _, rfl, ifF (by decide) (iteF ?_)⟩)⟩
          exact ⟨_, rfl, lp, rfl, ite2 (fun _ => ⟨_, rfl, _, _, rfl, rfl, _, rfl, ite2 (fun _ => ⟨by show 1 ≤ sizeLine; decide, brk⟩) (fun _ => lf)⟩) (fun _ => iteF lf)⟩
        | succ D1 =>
          have eD : ((D1 + 1 : Nat) : Int) - 1 = (D1 : Int) := by omega
          have pos : decide ((0 : Int) < ((D1 + 1 : Nat) : Int)) = true := decide_eq_true (by omega)
          refine ⟨_, rfl, _, _, rfl, rfl, _, rfl, ifT pos ⟨_, rfl, rfl, _, rfl, ite2 (fun _ => ?_) (fun _ => ?_)⟩⟩
          · -- while
            refine ⟨by show 2 ≤ sizeLine; decide, fun t1 ht1 => ?_⟩
            have st1 := Same.new ht1 (.tup [.str "flag", .bl true])
            have sF := s3.same st1
            refine ⟨_, rfl, _, rfl, _, rfl, _, _, rfl, rfl, a, m, n' - 1, D1, true, by show [V.ref a, V.ref m, V.int (((D1 + 1 : Nat) : Int) - 1), V.bl true] = _; rw [eD], sF.s, st1 _ _ hm3, by omega, by omega, fun q1 us1 b1 n1 H5 st5 hm5 hq1 hb1 dp1 n10 c1 _ => ⟨by show 3 ≤ sizeLine; decide, fun z hz => ?_⟩⟩
            have kz := keeps_new (K := K) (o := .tup [.str "while", .ref t1, .ref q1]) hz
            have k5 := st5.keeps (K := K) sF.s (st1 _ _ hm3)
            refine ⟨n1, .ref z, .loop (.tuple [.str "flag", .bool true]) b1 .nil, _, (sF.trans st5).same (Same.new hz _), Same.new hz _ _ _ hm5, fun p xs h => kz _ _ (k5 _ _ (Keeps.of_same (K := K) st1 _ _ (k3 _ _ h))), ⟨z, .ref t1, q1, us1, [], rfl, SqT.of upd_same, fl_dt (kz _ _ (k5 _ _ (SqT.of upd_same))), kz _ _ hq1, TrL.keep kz hb1, rfl⟩, ⟨dp1, trivial⟩, n10, by show ((1 + b1.cnt + 0 : Nat) : Int) + n1 ≤ n'; omega, rfl⟩
          refine ⟨_, rfl, _, _, rfl, rfl, _, rfl, ifT pos ⟨_, rfl, _, _, rfl, rfl, _, rfl, ite2 (fun _ => ?_) (fun _ => ?_)⟩⟩
          · -- if
            refine ⟨_, rfl, _, rfl, _, rfl, _, _, rfl, rfl, _, rfl, a, m, n' - 1, D1, lp, by show [V.ref a, V.ref m, V.int (((D1 + 1 : Nat) : Int) - 1), V.bl lp] = _; rw [eD], s3.s, hm3, by omega, by omega, fun q1 us1 b1 n1 H5 st5 hm5 hq1 hb1 dp1 n10 c1 _ => ?_⟩
            have k5 := st5.keeps (K := K) s3.s hm3
            refine ⟨by show 2 ≤ sizeLine; decide, fun t1 ht1 => ?_⟩
            have st1 := Same.new ht1 (.tup [.str "flag", .bl false])
            have kt1 := Keeps.of_same (K := K) st1
            have sF := (s3.trans st5).same st1
            refine ⟨_, rfl, _, rfl, _, rfl, _, rfl, _, _, rfl, rfl, _, rfl, a, m, n1, D1, lp, by show [V.ref a, V.ref m, V.int (((D1 + 1 : Nat) : Int) - 1), V.bl lp] = _; rw [eD], sF.s, st1 _ _ hm5, by omega, n10, fun q2 us2 b2 n2 H6 st6 hm6 hq2 hb2 dp2 n20 c2 _ => ⟨by show 4 ≤ sizeLine; decide, fun z hz => ?_⟩⟩
            have kz := keeps_new (K := K) (o := .tup [.str "if", .ref t1, .ref q1, .ref q2]) hz
            have k6 := st6.keeps (K := K) sF.s (st1 _ _ hm5)
            refine ⟨n2, .ref z, .iff (.tuple [.str "flag", .bool false]) b1 b2 .nil, _, (sF.trans st6).same (Same.new hz _), Same.new hz _ _ _ hm6, fun p xs h => kz _ _ (k6 _ _ (kt1 _ _ (k5 _ _ (k3 _ _ h)))), ⟨z, .ref t1, q1, us1, q2, us2, [], rfl, SqT.of upd_same, fl_dt (kz _ _ (k6 _ _ (SqT.of upd_same))), kz _ _ (k6 _ _ (kt1 _ _ hq1)), TrL.keep kz (TrL.keep k6 (TrL.keep kt1 hb1)), kz _ _ hq2, TrL.keep kz hb2, rfl⟩, ⟨dp1, dp2, trivial⟩, n20, by show ((1 + b1.cnt + b2.cnt + 0 : Nat) : Int) + n2 ≤ n'; omega, rfl⟩
          · exact ⟨_, rfl, lp, rfl, ite2 (fun _ => ⟨_, rfl, _, _, rfl, rfl, _, rfl, ite2 (fun _ => ⟨by show 1 ≤ sizeLine; decide, brk⟩) (fun _ => lf)⟩) (fun _ => iteF lf)⟩
      · rintro σ H4 ⟨n4, vm, tm, w8, st4, hm4, k4, htm, dtm, hn4, hc4, rfl⟩
        have hq4 := k4 _ _ hq
        have ht4 := TrL.keep k4 ht
        refine ⟨_, rfl, _, rfl, by show 1 ≤ sizeLine; decide, fun z1 hz1 => ?_⟩
        have k1 := keeps_new (K := K) (o := .tup [vm]) hz1
        have hz4 := TrL.keep k1 htm
        have g4 : (21 : Nat) ≤ sizeLine := by decide
        refine ⟨bq, z1, us, [vm], rfl, rfl, k1 _ _ hq4, SqT.of upd_same, by show us.length + 1 ≤ sizeLine; omega, fun e => ?_, fun _ e => (List.cons_ne_nil _ _ e).elim, fun _ _ p0 hp0 => ?_⟩
        · have e2 : TrL K (upd H4 z1 (HO.tup [vm])) (t.app tm) [vm] := by
            have := TrL.app hz4 (TrL.keep k1 ht4)
            rw [e] at this
            exact this
          exact ⟨n4, z1, [vm], t.app tm, _, _, _, _, st4.same (Same.new hz1 _), Same.new hz1 _ _ _ hm4, SqT.of upd_same, e2, by show 1 ≤ i + 1; omega, Tr.dep_app dt dtm, hn4, by rw [Tr.cnt_app]; omega, rfl⟩
        · have kp := keeps_new (K := K) (o := .tup (us ++ [vm])) hp0
          exact ⟨n4, p0, us ++ [vm], t.app tm, _, _, _, _, (st4.same (Same.new hz1 _)).same (Same.new hp0 _), Same.new hp0 _ _ _ (Same.new hz1 _ _ _ hm4), SqT.of upd_same, TrL.keep kp (TrL.app hz4 (TrL.keep k1 ht4)), by rw [List.length_append]; show us.length + 1 ≤ i + 1; omega, Tr.dep_app dt dtm, hn4, by rw [Tr.cnt_app]; omega, rfl⟩
    · exact ⟨n', bq, us, t, _, v6, v7, v8, st, hm', hq, ht, by omega, dt, hn', hc, rfl⟩
  · rintro σ H' ⟨n', bq, us, t, v5, v6, v7, v8, st, hm', hq, ht, hui, dt, hn', hc, rfl⟩
    exact ⟨_, rfl, q bq us t n' H' st hm' hq ht dt hn' hc (by omega)⟩
theorem ok_bd (T : Txt w K mg) : ∀ M, FnOk P w K mg base CX0 (M + 1) T.a_l_body T.d_l_body p_l_body (spBd K M)
  | 0 => fn_vac (fun vs H Q E ⟨a, m, n, D, lp, e1, e2, e3, e4, _⟩ => by omega)
  | M + 1 => ok_bd0 T (ok_bd T M)
end
/-! ### a program is data -/
theorem len_cnt : ∀ t : Tr, t.len ≤ t.cnt
  | .nil => Nat.le_refl _
  | .leaf _ _ r => by have := len_cnt r; simp only [Tr.len, Tr.cnt]; omega
  | .loop _ _ r => by have := len_cnt r; simp only [Tr.len, Tr.cnt]; omega
  | .iff _ _ _ r => by have := len_cnt r; simp only [Tr.len, Tr.cnt]; omega
theorem DTs.up {K : PySem.W.Frag} {n m : Nat} {H : Hp} (l : n ≤ m) : ∀ {vs : List V} {ds : List PyData}, DTs K n H vs ds → DTs K m H vs ds
  | [], [], _ => trivial
  | _ :: _, _ :: _, h => ⟨h.1.up l, DTs.up l h.2⟩
  | [], _ :: _, h => h.elim
  | _ :: _, [], h => h.elim
theorem tr_dt {K : PySem.W.Frag} {H : Hp} : ∀ {t : Tr} {us : List V} {m : Nat}, TrL K H t us → t.dep m → t.cnt ≤ 1000 → ∃ ds, DTs K (8 + 2 * m) H us ds
  | .nil, us, m, h, _, _ => by
    have e : us = [] := h
    subst e
    exact ⟨[], trivial⟩
  | .leaf w d r, us, m, h, hd, hc => by
    obtain ⟨p, xs, ws, rfl, h1, h2, lf, h4⟩ := h
    have hc' : 1 + r.cnt ≤ 1000 := hc
    obtain ⟨ds, q⟩ := tr_dt h4 (dep_leaf hd) (by omega)
    refine ⟨.tuple (.str w :: d) :: ds, ?_, q⟩
    obtain ⟨roles, _, e1, e2, _⟩ := lf
    exact (DT.tup (n := 6) (ds := .str w :: d) h1 ⟨⟨.str _, trivial⟩, h2⟩ (by show d.length + 1 ≤ 1000; omega)).up (by omega)
  | .loop e b r, us, m, h, hd, hc => by
    obtain ⟨p, x, q, u1, ws, rfl, h1, hx, h3, h4, h5⟩ := h
    obtain ⟨j, rfl, d1, d2⟩ := dep_loop hd
    have hc' : 1 + b.cnt + r.cnt ≤ 1000 := hc
    obtain ⟨ds, q5⟩ := tr_dt h5 d2 (by omega)
    obtain ⟨bs, q4⟩ := tr_dt h4 d1 (by omega)
    refine ⟨.tuple [.str "while", e, .tuple bs] :: ds, ?_, q5⟩
    have l4 := q4.len
    have l5 := h4.len
    have l6 := len_cnt b
    have dq := DT.tup h3 q4 (by omega)
    exact (DT.tup (n := 2 * j + 9) (ds := [.str "while", e, .tuple bs]) h1 ⟨⟨.str _, trivial⟩, hx.up (by omega), dq.up (by omega), trivial⟩ (by show 3 ≤ 1000; decide)).up (by omega)
  | .iff e b c r, us, m, h, hd, hc => by
    obtain ⟨p, x, q, u1, q2, u2, ws, rfl, h1, hx, h3, h4, h5, h6, h7⟩ := h
    obtain ⟨j, rfl, d1, d2, d3⟩ := dep_iff hd
    have hc' : 1 + b.cnt + c.cnt + r.cnt ≤ 1000 := hc
    obtain ⟨ds, q7⟩ := tr_dt h7 d3 (by omega)
    obtain ⟨bs, q4⟩ := tr_dt h4 d1 (by omega)
    obtain ⟨cs, q6⟩ := tr_dt h6 d2 (by omega)
    refine ⟨.tuple [.str "if", e, .tuple bs, .tuple cs] :: ds, ?_, q7⟩
    have l1 := q4.len
    have l2 := h4.len
    have l3 := len_cnt b
    have l4 := q6.len
    have l5 := h6.len
    have l6 := len_cnt c
    have dq := DT.tup h3 q4 (by omega)
    have dq2 := DT.tup h5 q6 (by omega)
    exact (DT.tup (n := 2 * j + 9) (ds := [.str "if", e, .tuple bs, .tuple cs]) h1 ⟨⟨.str _, trivial⟩, hx.up (by omega), dq.up (by omega), dq2.up (by omega), trivial⟩ (by show 4 ≤ 1000; decide)).up (by omega)
theorem pr_dts {K : PySem.W.Frag} {H : Hp} : ∀ {ps : List Addr} {ks : List (Str × Kd)} {kvs : List (Key × V)}, PrAt K H ps ks kvs → DTs K 3 H (ps.map V.ref) (ks.map fun a => .tuple [.str a.1, kdD a.2])
  | _, [], [], ⟨.nil, _⟩ => trivial
  | _, a :: ks, kv :: kvs, ⟨.cons h t, ⟨e, hv, r⟩⟩ => by
    rw [e] at h
    exact ⟨DT.tup (n := 2) h ⟨⟨.str _, trivial⟩, kd_dt hv, trivial⟩ (by show 2 ≤ 1000; decide), pr_dts ⟨t, r⟩⟩
  | _, [], _ :: _, ⟨_, h⟩ => h.elim
  | _, _ :: _, [], ⟨_, h⟩ => h.elim
theorem pr_dt {K : PySem.W.Frag} {H : Hp} {q : Addr} {ps : List Addr} {ks : List (Str × Kd)} {kvs : List (Key × V)} (h : PrAt K H ps ks kvs) (hq : SqT K H q (ps.map V.ref)) (l : ks.length ≤ 1000) : DT K 4 H (.ref q) (.tuple (ks.map fun a => .tuple [.str a.1, kdD a.2])) :=
  DT.tup (n := 3) hq (pr_dts h) (by rw [List.length_map]; exact l)
theorem fu_dt {K : PySem.W.Frag} {H : Hp} {v : V} {f : FnM} (h : FuAt K H v f) (hd : f.bd.dep 8) (hc : f.bd.cnt ≤ 400) (l1 : f.pk.length ≤ 100) (l2 : f.ow.length ≤ 100) : ∃ d, DT K 30 H v d := by
  obtain ⟨F, a1, a3, q, ps1, ps3, kv1, kv3, rv, us, rfl, h1, h2, h3, h4, h5, h6, h7, h8⟩ := h
  obtain ⟨ds, q8⟩ := tr_dt h8 hd (by omega)
  have e1 := q8.len
  have e2 := h8.len
  have e3 := len_cnt f.bd
  have dq := DT.tup h7 q8 (by omega)
  exact ⟨.tuple [.str f.nm, .tuple (f.pk.map fun a => .tuple [.str a.1, kdD a.2]), rsD f.rs, .tuple (f.ow.map fun a => .tuple [.str a.1, kdD a.2]), .tuple ds], DT.tup (n := 29) (ds := [.str f.nm, .tuple (f.pk.map fun a => .tuple [.str a.1, kdD a.2]), rsD f.rs, .tuple (f.ow.map fun a => .tuple [.str a.1, kdD a.2]), .tuple ds]) h1 ⟨⟨.str _, trivial⟩, (pr_dt h3 h2 (by omega)).up (by omega), (rs_dt h4).up (by omega), (pr_dt h6 h5 (by omega)).up (by omega), dq.up (by omega), trivial⟩ (by show 5 ≤ 1000; decide)⟩
theorem dts_ex {K : PySem.W.Frag} {n : Nat} {H : Hp} : ∀ {vs : List V}, (∀ v ∈ vs, ∃ d, DT K n H v d) → ∃ ds, DTs K n H vs ds
  | [], _ => ⟨[], trivial⟩
  | v :: vs, h => by
    obtain ⟨d, h1⟩ := h v List.mem_cons_self
    obtain ⟨ds, h2⟩ := dts_ex (vs := vs) fun u hu => h u (List.mem_cons_of_mem _ hu)
    exact ⟨d :: ds, h1, h2⟩
theorem rot_len {α : Type} {xs : List α} {r n : Nat} (hn : xs.length = n) (hr : r ≤ n) : (xs.drop r ++ xs.take r).length = n := by
  rw [List.length_append, List.length_drop, List.length_take]
  omega
theorem cut_lo {xs : List V} {r : Int} (h0 : 0 ≤ r) (h : r.toNat ≤ xs.length) : cutV xs (some r) none = xs.drop r.toNat := by
  have e : HT.sIx xs.length 0 (some r) = r.toNat := by
    show (if r < 0 then (r + (xs.length : Int)).toNat else min r.toNat xs.length) = r.toNat
    rw [if_neg (by omega), Nat.min_eq_left h]
  unfold cutV
  rw [e]
  show (xs.drop r.toNat).take (xs.length - r.toNat) = _
  exact List.take_of_length_le (by rw [List.length_drop]; omega)
theorem cut_hi {xs : List V} {r : Int} (h0 : 0 ≤ r) (h : r.toNat ≤ xs.length) : cutV xs none (some r) = xs.take r.toNat := by
  have e : HT.sIx xs.length xs.length (some r) = r.toNat := by
    show (if r < 0 then (r + (xs.length : Int)).toNat else min r.toNat xs.length) = r.toNat
    rw [if_neg (by omega), Nat.min_eq_left h]
  unfold cutV
  rw [e]
  show (xs.drop 0).take (r.toNat - 0) = _
  rw [List.drop_zero, Nat.sub_zero]

theorem names_ok {st : Int} (h0 : 0 ≤ st) (h4 : st < 4) : (namesOf st).Nodup ∧ ("result" : Str) ∉ namesOf st ∧ ("main" : Str) ∉ namesOf st ∧ (namesOf st).length = 20 := by
  have h : st = 0 ∨ st = 1 ∨ st = 2 ∨ st = 3 := by omega
  rcases h with rfl | rfl | rfl | rfl <;> decide +kernel
/-- twenty names, none twice -/
structure Tw (zs : List Str) : Prop where
  nd : zs.Nodup
  nr : ("result" : Str) ∉ zs
  nm : ("main" : Str) ∉ zs
  len : zs.length = 20
theorem Tw.rot {zs : List Str} (h : Tw zs) (r : Nat) (hr : r ≤ 20) : Tw (zs.drop r ++ zs.take r) := by
  have p : (zs.drop r ++ zs.take r).Perm zs := by
    have := @List.perm_append_comm _ (zs.drop r) (zs.take r)
    rw [List.take_append_drop] at this
    exact this
  exact ⟨p.nodup_iff.mpr h.nd, fun z => h.nr (p.mem_iff.mp z), fun z => h.nm (p.mem_iff.mp z), rot_len h.len hr⟩
theorem Stp.st2 {H0 H H' : Hp} {a m : Addr} (hm : H0 m = none) (x : Stp a H0 H) (y : St2 a m H H') : Stp a H0 H' := ⟨y.s, fun b o h e => y.k b o h (ne_of_none e hm) (x.k b o h e)⟩
theorem app_sub {zs rest : List Str} {a i b : Nat} (h : a + i ≤ b) (s : rest.Sublist (zs.drop b)) : ((zs.drop a).take i ++ rest).Sublist (zs.drop a) := by
  have e : zs.drop a = (zs.drop a).take i ++ zs.drop (a + i) := by rw [← List.drop_drop, List.take_append_drop]
  have s2 : ((zs.drop a).take i ++ rest).Sublist ((zs.drop a).take i ++ zs.drop (a + i)) := List.Sublist.append (List.Sublist.refl _) (s.trans (List.drop_sublist_drop_left zs h))
  rwa [← e] at s2
theorem sub_names {zs g p o : List Str} {i j k : Nat} (h : Tw zs) (hg : g = ((zs.drop 5).take 4).take i) (hp : p = ((zs.drop 12).take 3).take j ∨ p = []) (ho : o = ((zs.drop 15).take 4).take k) : (g ++ p ++ o).Nodup ∧ (g ++ p ++ o).length ≤ 20 := by
  have so : o.Sublist (zs.drop 15) := by rw [ho]; exact (List.take_sublist _ _).trans (List.take_sublist _ _)
  have sp : (p ++ o).Sublist (zs.drop 12) := by
    have s1 := app_sub (zs := zs) (a := 12) (i := 3) (b := 15) (by decide) so
    refine List.Sublist.trans (List.Sublist.append ?_ (List.Sublist.refl _)) s1
    rcases hp with e | e
    · rw [e]; exact List.take_sublist _ _
    · rw [e]; exact List.nil_sublist _
  have sg : (g ++ (p ++ o)).Sublist (zs.drop 5) := by
    have s1 := app_sub (zs := zs) (a := 5) (i := 4) (b := 12) (by decide) sp
    refine List.Sublist.trans (List.Sublist.append ?_ (List.Sublist.refl _)) s1
    rw [hg]
    exact List.take_sublist _ _
  rw [List.append_assoc]
  have sz := sg.trans (List.drop_sublist _ _)
  refine ⟨sz.nodup h.nd, ?_⟩
  have := sz.length_le
  have := h.len
  omega
theorem cut_mid {xs : List V} {i j : Nat} (h : i ≤ j) (hj : j ≤ xs.length) : cutV xs (some (i : Int)) (some (j : Int)) = (xs.drop i).take (j - i) := by
  unfold cutV
  rw [HT.sIx_nat, HT.sIx_nat, Nat.min_eq_left hj, Nat.min_eq_left (Nat.le_trans h hj)]
/-- what the law keeps of the drawn functions -/
def FnsAt (K : PySem.W.Frag) (H : Hp) (gl : List (Str × Kd)) (fvs : List V) (fms : List FnM) : Prop := fvs.length = fms.length ∧ ∀ (i : Nat) (f : FnM), fms[i]? = some f → ∃ u : V, fvs[i]? = some u ∧ FuAt K H u f ∧ FnOk9 ⟨gl, []⟩ f
theorem FnsAt.keep {K : PySem.W.Frag} {H H' : Hp} {gl : List (Str × Kd)} {fvs : List V} {fms : List FnM} (k : Keeps K H H') (h : FnsAt K H gl fvs fms) : FnsAt K H' gl fvs fms := ⟨h.1, fun i f e => by
  obtain ⟨u, h1, h2, h3⟩ := h.2 i f e
  exact ⟨u, h1, h2.keep k, h3⟩⟩
theorem FnsAt.snoc {K : PySem.W.Frag} {H : Hp} {gl : List (Str × Kd)} {fvs : List V} {fms : List FnM} {v : V} {f : FnM} (h : FnsAt K H gl fvs fms) (hv : FuAt K H v f) (ok : FnOk9 ⟨gl, []⟩ f) : FnsAt K H gl (fvs ++ [v]) (fms ++ [f]) := by
  refine ⟨by rw [List.length_append, List.length_append, h.1]; rfl, fun i g e => ?_⟩
  rcases Nat.lt_or_ge i fms.length with hi | hi
  · rw [List.getElem?_append_left hi] at e
    obtain ⟨u, h1, h2⟩ := h.2 i g e
    exact ⟨u, by rw [List.getElem?_append_left (by rw [h.1]; exact hi)]; exact h1, h2⟩
  · rw [List.getElem?_append_right hi] at e
    have e0 : i - fms.length = 0 := by
      have := (List.getElem?_eq_some_iff.mp e).1
      simp at this
      omega
    rw [e0] at e
    obtain rfl := Option.some.inj e
    refine ⟨v, ?_, hv, ok⟩
    rw [List.getElem?_append_right (by rw [h.1]; exact hi), h.1, e0]
    rfl
theorem FnsAt.drop {K : PySem.W.Frag} {H : Hp} {gl : List (Str × Kd)} {fvs : List V} {fms : List FnM} (h : FnsAt K H gl fvs fms) (k : Nat) : FnsAt K H gl (fvs.drop k) (fms.drop k) := ⟨by rw [List.length_drop, List.length_drop, h.1], fun i f e => by
  rw [List.getElem?_drop] at e
  obtain ⟨u, h1, h2⟩ := h.2 _ f e
  exact ⟨u, by rw [List.getElem?_drop]; exact h1, h2⟩⟩
theorem FnsAt.take {K : PySem.W.Frag} {H : Hp} {gl : List (Str × Kd)} {fvs : List V} {fms : List FnM} (h : FnsAt K H gl fvs fms) (k : Nat) : FnsAt K H gl (fvs.take k) (fms.take k) := ⟨by rw [List.length_take, List.length_take, h.1], fun i f e => by
  rw [List.getElem?_take] at e
  by_cases hi : i < k
  · rw [if_pos hi] at e
    obtain ⟨u, h1, h2⟩ := h.2 _ f e
    exact ⟨u, by rw [List.getElem?_take, if_pos hi]; exact h1, h2⟩
  · rw [if_neg hi] at e
    cases e⟩
theorem FnsAt.app {K : PySem.W.Frag} {H : Hp} {gl : List (Str × Kd)} {fvs gvs : List V} {fms gms : List FnM} (h : FnsAt K H gl fvs fms) (q : FnsAt K H gl gvs gms) : FnsAt K H gl (fvs ++ gvs) (fms ++ gms) := ⟨by rw [List.length_append, List.length_append, h.1, q.1], fun i f e => by
  rcases Nat.lt_or_ge i fms.length with hi | hi
  · rw [List.getElem?_append_left hi] at e
    obtain ⟨u, h1, h2⟩ := h.2 i f e
    exact ⟨u, by rw [List.getElem?_append_left (by rw [h.1]; exact hi)]; exact h1, h2⟩
  · rw [List.getElem?_append_right hi] at e
    obtain ⟨u, h1, h2⟩ := q.2 _ f e
    exact ⟨u, by rw [List.getElem?_append_right (by rw [h.1]; exact hi), h.1]; exact h1, h2⟩⟩
theorem Tr.dep_up : ∀ {m k : Nat} {t : Tr}, m ≤ k → t.dep m → t.dep k
  | m, k, .nil, _, _ => by cases k <;> trivial
  | m, k, .leaf w d r, h, q => by
    have := Tr.dep_up h (dep_leaf q)
    cases k <;> exact this
  | m, k, .loop e b r, h, q => by
    obtain ⟨j, rfl, d1, d2⟩ := dep_loop q
    cases k with
    | zero => omega
    | succ k => exact ⟨Tr.dep_up (by omega) d1, Tr.dep_up h d2⟩
  | m, k, .iff e b c r, h, q => by
    obtain ⟨j, rfl, d1, d2, d3⟩ := dep_iff q
    cases k with
    | zero => omega
    | succ k => exact ⟨Tr.dep_up (by omega) d1, Tr.dep_up (by omega) d2, Tr.dep_up h d3⟩
theorem cat_tr {K : PySem.W.Frag} {H : Hp} {a b : Addr} {us us2 : List V} {t t2 : Tr} {Q : VK} (ha : SqT K H a us) (hb : SqT K H b us2) (h1 : TrL K H t us) (h2 : TrL K H t2 us2) (hz : us.length + us2.length ≤ 500) (q : ∀ c H', Same H H' → SqT K H' c (us ++ us2) → TrL K H' (t.app t2) (us ++ us2) → Q (.ref c) H') : rCatA K (.ref a) (.ref b) H Q := by
  have h12 := TrL.app h2 h1
  refine ⟨a, b, _, _, rfl, rfl, ha, hb, Nat.le_of_lt (small1000 (by omega)), fun e => ?_, fun _ e => ?_, fun _ _ p hp => ?_⟩
  · subst e
    exact q _ _ (Same.refl _) hb h12
  · subst e
    rw [List.append_nil] at h12 q
    exact q _ _ (Same.refl _) ha h12
  · exact q _ _ (Same.new hp _) (SqT.of upd_same) (TrL.keep (keeps_new hp) h12)
def spDrawn (K : PySem.W.Frag) : Sp := fun vs H Q _ => ∃ c : Int, vs = [.int c] ∧ ∀ (v : V) (p : PgM) (H' : Hp), Same H H' → PgAt K H' v p → PD K H' v → (p.fs.map (·.nm)).Nodup → (∀ f ∈ p.fs, FnOk9 p f) → ("result" : Str) ∉ p.gl.map (·.1) → p.fs.length ≤ 10 → Q v H'
section
variable {P : Program} {w : World} {K : PySem.W.Frag} {mg : Str → Option Value} {base : Heap}
theorem ok_l_drawn (T : Txt w K mg) : FnOk P w K mg base CX0 15 T.a_l_drawn T.d_l_drawn p_l_drawn (spDrawn K) := by
  have g_l_pick := ok_l_pick (P := P) (w := w) (base := base) T
  have g_l_one := ok_l_one (P := P) (w := w) (K := K) (base := base) T
  have g_l_names := ok_l_names (P := P) (w := w) (K := K) (base := base) T
  have g_l_source := ok_l_source (P := P) (w := w) (K := K) (base := base) T
  have g_l_kind := ok_l_kind (P := P) (w := w) (K := K) (base := base) T
  have g_l_pairs := ok_l_pairs (P := P) (w := w) (K := K) (base := base) T
  have g_l_body := ok_bd (P := P) (w := w) (K := K) (base := base) T 4
  refine T.F_l_drawn.ok sc_l_drawn (fun vs H Q E h => ?_) (fun cdv A outer s H vs Q E hr h => ?_)
  · obtain ⟨c, rfl, _⟩ := h
    rfl
  obtain ⟨c, rfl, q⟩ := h
  refine ⟨_, (pss_cons (ps_set (i := 1) sc_l_drawn.nd rfl (Or.inr rfl) (pe_call g_l_source (hr.mono (by first | decide | omega)) rfl T.m_l_source T.F_l_source.kp T.b_l_source .nil pass0 (pa_cons (pv 0) pa_nil)))
      (pss_cons (ps_set (i := 2) sc_l_drawn.nd rfl (Or.inr rfl) (pe_call g_l_names (hr.mono (by first | decide | omega)) rfl T.m_l_names T.F_l_names.kp T.b_l_names .nil pass0 (pa_cons (pv 1) pa_nil)))
      (pss_cons (ps_set (i := 3) sc_l_drawn.nd rfl (Or.inl rfl) (pe_call g_l_pick (hr.mono (by first | decide | omega)) rfl T.m_l_pick T.F_l_pick.kp T.b_l_pick .nil pass0 (pa_cons (pv 1) (pa_cons pe_int pa_nil))))
      (pss_cons (ps_set (i := 2) sc_l_drawn.nd rfl (Or.inr rfl) (pe_op op_cat (pe_slice sl_list (pv 2) (po_some (pv 3)) po_none) (pe_slice sl_list (pv 2) po_none (po_some (pv 3)))))
      (pss_cons (ps_set (i := 4) sc_l_drawn.nd rfl (Or.inl rfl) (pe_slice sl_list (pv 2) po_none (po_some (pe_call g_l_pick (hr.mono (by first | decide | omega)) rfl T.m_l_pick T.F_l_pick.kp T.b_l_pick .nil pass0 (pa_cons (pv 1) (pa_cons pe_int pa_nil))))))
      (pss_cons (ps_set (i := 5) sc_l_drawn.nd rfl (Or.inl rfl) (pe_lst pa_nil))
      (pss_cons (ps_for PassesOwn.never rfl (pi_list (pv 4)) (pg_name (i := 6) sc_l_drawn.nd rfl (Or.inl rfl))
        (pss_cons (ps_setLc (i := 7) (own := [("_law_k", 8)]) (g := gName 8) (tt := tYes) rfl sc_l_drawn.nd rfl rfl (sw_true rfl rfl rfl (by decide +kernel)) (pi_range1 rfl T.z_range (pa_cons (pe_call g_l_pick (hr.mono (by first | decide | omega)) rfl T.m_l_pick T.F_l_pick.kp T.b_l_pick .nil pass0 (pa_cons (pv 1) (pa_cons pe_int pa_nil))) pa_nil)) (blkOk_by (own := [("_law_k", 8)]) (N := n_l_drawn) (sc := defScope s_l_drawn) (by decide +kernel)) (fun _ _ _ _ _ => (pg_name (i := 8) sc_l_drawn.nd rfl (Or.inl rfl))) (fun _ _ _ _ _ => pts_nil) (fun _ _ _ _ _ => (pe_tup (pa_cons (pe_ix (show IxR _ (rIxL K) from ix_list) (pv 2) (pe_op op_add pe_int (pv 8)) (fun _ _ => rfl)) (pa_cons (pe_tup (pa_cons pe_str pa_nil)) pa_nil)))))
      (pss_one (ps_expr (pe_bm PySem.F.plainAttrs_list PySem.F.slot_list_append PySem.F.type_list_append mt_append (pv 5) (pa_cons (pe_tup (pa_cons (pv 6) (pa_cons (pe_callTy call_tuple_of rfl T.z_tuple bt_tuple (pa_cons (pv 7) pa_nil)) pa_nil))) pa_nil))))))
      (pss_cons (ps_setLc (i := 9) (own := [("_law_k", 8)]) (g := gName 8) (tt := tYes) rfl sc_l_drawn.nd rfl rfl (sw_true rfl rfl rfl (by decide +kernel)) (pi_range1 rfl T.z_range (pa_cons (pe_call g_l_pick (hr.mono (by first | decide | omega)) rfl T.m_l_pick T.F_l_pick.kp T.b_l_pick .nil pass0 (pa_cons (pv 1) (pa_cons pe_int pa_nil))) pa_nil)) (blkOk_by (own := [("_law_k", 8)]) (N := n_l_drawn) (sc := defScope s_l_drawn) (by decide +kernel)) (fun _ _ _ _ _ => (pg_name (i := 8) sc_l_drawn.nd rfl (Or.inl rfl))) (fun _ _ _ _ _ => pts_nil) (fun _ _ _ _ _ => (pe_tup (pa_cons (pe_ix (show IxR _ (rIxL K) from ix_list) (pv 2) (pe_op op_add pe_int (pv 8)) (fun _ _ => rfl)) (pa_cons (pe_op op_add pe_int (pe_call g_l_pick (hr.mono (by first | decide | omega)) rfl T.m_l_pick T.F_l_pick.kp T.b_l_pick .nil pass0 (pa_cons (pv 1) (pa_cons pe_int pa_nil)))) (pa_cons (pe_op op_sub pe_int (pv 8)) (pa_cons pe_int pa_nil)))))))
      (pss_cons (ps_set (i := 10) sc_l_drawn.nd rfl (Or.inl rfl) (pe_lst (pa_cons pe_int pa_nil)))
      (pss_cons (ps_set (i := 11) sc_l_drawn.nd rfl (Or.inl rfl) (pe_call g_l_pairs (hr.mono (by first | decide | omega)) rfl T.m_l_pairs T.F_l_pairs.kp T.b_l_pairs .nil pass0 (pa_cons (pv 1) (pa_cons (pe_slice sl_list (pv 2) (po_some pe_int) (po_some pe_int)) (pa_cons (pv 4) (pa_cons (pv 10) pa_nil))))))
      (pss_cons (ps_set (i := 12) sc_l_drawn.nd rfl (Or.inl rfl) (pe_lst pa_nil))
      (pss_cons (ps_for PassesOwn.never rfl (pi_list (pe_op op_cat (pe_lst (pa_cons pe_str pa_nil)) (pe_slice sl_list (pv 2) (po_some pe_int) (po_some (pe_op op_add pe_int (pe_call g_l_pick (hr.mono (by first | decide | omega)) rfl T.m_l_pick T.F_l_pick.kp T.b_l_pick .nil pass0 (pa_cons (pv 1) (pa_cons pe_int pa_nil)))))))) (pg_name (i := 6) sc_l_drawn.nd rfl (Or.inl rfl))
        (pss_cons (ps_set (i := 13) sc_l_drawn.nd rfl (Or.inl rfl) (pe_lst (pa_cons (pe_op op_add (pe_ix (show IxR _ (rIxL K) from ix_list) (pv 10) pe_int (fun _ _ => rfl)) pe_int) pa_nil)))
      (pss_cons (ps_set (i := 14) sc_l_drawn.nd rfl (Or.inl rfl) (pe_call g_l_pairs (hr.mono (by first | decide | omega)) rfl T.m_l_pairs T.F_l_pairs.kp T.b_l_pairs .nil pass0 (pa_cons (pv 1) (pa_cons (pe_slice sl_list (pv 2) (po_some pe_int) (po_some pe_int)) (pa_cons (pv 4) (pa_cons (pv 13) pa_nil))))))
      (pss_cons (ps_set (i := 15) sc_l_drawn.nd rfl (Or.inl rfl) (pe_call g_l_one (hr.mono (by first | decide | omega)) rfl T.m_l_one T.F_l_one.kp T.b_l_one .nil pass0 (pa_cons (pv 1) (pa_cons (pe_lst (pa_cons pe_non (pa_cons (pe_tup (pa_cons pe_str pa_nil)) (pa_cons (pe_tup (pa_cons pe_str (pa_cons pe_int (pa_cons pe_int pa_nil)))) (pa_cons (pe_call g_l_kind (hr.mono (by first | decide | omega)) rfl T.m_l_kind T.F_l_kind.kp T.b_l_kind .nil pass0 (pa_cons (pv 1) (pa_cons (pv 4) (pa_cons pe_bl pa_nil)))) pa_nil))))) pa_nil))))
      (C8.pss_cut (ps_if (pt_cmpR op_eq (pv 6) pe_str (nomark _)) (pss_cons (ps_set (i := 14) sc_l_drawn.nd rfl (Or.inl rfl) (pe_tup pa_nil))
      (pss_one (ps_set (i := 15) sc_l_drawn.nd rfl (Or.inl rfl) pe_non))) pss_nil)
      (pss_cons (ps_set (i := 16) sc_l_drawn.nd rfl (Or.inl rfl) (pe_call g_l_pairs (hr.mono (by first | decide | omega)) rfl T.m_l_pairs T.F_l_pairs.kp T.b_l_pairs .nil pass0 (pa_cons (pv 1) (pa_cons (pe_slice sl_list (pv 2) (po_some pe_int) (po_some pe_int)) (pa_cons (pv 4) (pa_cons (pv 13) pa_nil))))))
      (pss_cons (ps_set (i := 17) sc_l_drawn.nd rfl (Or.inl rfl) (pe_op op_catA (pe_call g_l_body (hr.mono (by first | decide | omega)) rfl T.m_l_body T.F_l_body.kp T.b_l_body .nil pass0 (pa_cons (pv 1) (pa_cons (pe_lst (pa_cons pe_int pa_nil)) (pa_cons pe_int (pa_cons pe_bl pa_nil))))) (pe_call g_l_body (hr.mono (by first | decide | omega)) rfl T.m_l_body T.F_l_body.kp T.b_l_body .nil pass0 (pa_cons (pv 1) (pa_cons (pe_lst (pa_cons pe_int pa_nil)) (pa_cons pe_int (pa_cons pe_bl pa_nil)))))))
      (C8.pss_cut (ps_if (PW.pt (pw_and (pt_cmpR op_isN (pv 15) pe_non (nomark _)) (pw_and1 (pt_cmpR op_eq (pe_call g_l_pick (hr.mono (by first | decide | omega)) rfl T.m_l_pick T.F_l_pick.kp T.b_l_pick .nil pass0 (pa_cons (pv 1) (pa_cons pe_int pa_nil))) pe_int (nomark _))))) (pss_one (ps_set (i := 17) sc_l_drawn.nd rfl (Or.inl rfl) (pe_op op_catA (pv 17) (pe_tup (pa_cons (pe_tup (pa_cons pe_str (pa_cons pe_non pa_nil))) pa_nil))))) pss_nil)
      (pss_one (ps_expr (pe_bm PySem.F.plainAttrs_list PySem.F.slot_list_append PySem.F.type_list_append mt_append (pv 12) (pa_cons (pe_tup (pa_cons (pv 6) (pa_cons (pv 14) (pa_cons (pv 15) (pa_cons (pv 16) (pa_cons (pv 17) pa_nil)))))) pa_nil))))))))))))
      (pss_cons (ps_set (i := 3) sc_l_drawn.nd rfl (Or.inl rfl) (pe_call g_l_pick (hr.mono (by first | decide | omega)) rfl T.m_l_pick T.F_l_pick.kp T.b_l_pick .nil pass0 (pa_cons (pv 1) (pa_cons (pe_callB call_len_seq rfl T.z_len PySem.boot_len (pa_cons (pv 12) pa_nil)) pa_nil))))
      (pss_one (ps_ret (pe_tup (pa_cons (pe_callTy call_tuple_of rfl T.z_tuple bt_tuple (pa_cons (pv 5) pa_nil)) (pa_cons (pe_callTy call_tuple_of rfl T.z_tuple bt_tuple (pa_cons (pv 9) pa_nil)) (pa_cons (pv 11) (pa_cons (pe_callTy call_tuple_of rfl T.z_tuple bt_tuple (pa_cons (pe_op op_cat (pe_slice sl_list (pv 12) (po_some (pv 3)) po_none) (pe_slice sl_list (pv 12) po_none (po_some (pv 3)))) pa_nil)) pa_nil)))))))))))))))))))), ?_⟩
  refine ⟨_, rfl, c, rfl, fun a H1 ha1 s1 hS => ?_⟩
  refine ⟨_, rfl, a, rfl, hS, fun st p H2 st2 hp2 st0 st4 hN => ?_⟩
  refine ⟨_, rfl, a, 20, rfl, st2.s, by decide, fun r H3 st3 r0 r1 => ?_⟩
  have hr2 : r.toNat ≤ ((namesOf st).map V.str).length := by
    rw [List.length_map]
    show r.toNat ≤ 20
    omega
  have hp3 : H3 p = some (.lst ((namesOf st).map V.str)) := st3.k _ _ (lst_ne st2.s hN) hN
  refine ⟨_, rfl, _, rfl, r, rfl, p, _, rfl, SqL.of hp3, fun q1 hq1 => ?_⟩
  have k1 := Same.new hq1 (.lst (cutV ((namesOf st).map V.str) (some r) none))
  refine ⟨_, rfl, _, rfl, r, rfl, p, _, rfl, SqL.of (k1 _ _ hp3), fun q2 hq2 => ?_⟩
  have k2 := k1.trans (Same.new hq2 (.lst (cutV ((namesOf st).map V.str) none (some r))))
  have n12 : q1 ≠ q2 := ne_of_none upd_same hq2
  refine ⟨q1, q2, _, _, rfl, rfl, by rw [upd_ne n12, upd_same], upd_same, ?_, fun ln hln => ?_⟩
  · have c1 := cutV_length ((namesOf st).map V.str) (some r) none
    have c2 := cutV_length ((namesOf st).map V.str) none (some r)
    have c3 : ((namesOf st).map V.str).length = 20 := by rw [List.length_map]; rfl
    have c4 : (40 : Nat) ≤ sizeLine := by decide
    omega
  rw [cut_lo r0 hr2, cut_hi r0 hr2, ← List.map_drop, ← List.map_take, ← List.map_append]
  have zl : Tw ((namesOf st).drop r.toNat ++ (namesOf st).take r.toNat) := Tw.rot ⟨(names_ok st0 st4).1, (names_ok st0 st4).2.1, (names_ok st0 st4).2.2.1, (names_ok st0 st4).2.2.2⟩ _ (by omega)
  generalize ((namesOf st).drop r.toNat ++ (namesOf st).take r.toNat) = zs at zl
  rw [cut_lo r0 hr2, cut_hi r0 hr2, ← List.map_drop, ← List.map_take] at k2 hln
  have hln2 : ∃ G, G = (upd (upd (upd H3 q1 (.lst (((namesOf st).drop r.toNat).map V.str))) q2 (.lst (((namesOf st).take r.toNat).map V.str))) ln (.lst (zs.map V.str))) ∧ G ln = some (.lst (zs.map V.str)) ∧ Stp a H1 G := ⟨_, rfl, upd_same, ((st2.trans st3).same k2).new hln⟩
  obtain ⟨G, eG, hG, stA⟩ := hln2
  rw [← eG]
  -- the records' names
  refine ⟨_, rfl, _, rfl, a, 4, rfl, stA.s, by decide, fun rk H5 st5 rk0 rk1 => ?_⟩
  have hG5 := st5.k _ _ (lst_ne stA.s hG) hG
  have stB := stA.trans st5
  have zlen : (zs.map V.str).length = 20 := by rw [List.length_map]; exact zl.len
  refine ⟨rk, rfl, ln, _, rfl, SqL.of hG5, fun rc hrc => ?_⟩
  rw [cut_hi rk0 (by rw [zlen]; omega), ← List.map_take]
  have stC := stB.new (o := .lst ((zs.take rk.toNat).map V.str)) hrc
  have hGC := Same.new hrc (.lst ((zs.take rk.toNat).map V.str)) _ _ hG5
  have hRC : (upd H5 rc (.lst ((zs.take rk.toNat).map V.str))) rc = some (.lst ((zs.take rk.toNat).map V.str)) := upd_same
  have rcl : (zs.take rk.toNat).length ≤ 20 := by
    have := List.length_take_le' rk.toNat zs
    have := zl.len
    omega
  generalize (zs.take rk.toNat) = rcs at stC hGC hRC rcl ⊢
  generalize (upd H5 rc (.lst (rcs.map V.str))) = HC at stC hGC hRC ⊢
  -- the record kinds
  refine ⟨by show 0 ≤ sizeLine; decide, fun kd hkd => ?_⟩
  have kda : kd ≠ a := (stC.s.ne hkd).symm
  have stD := stC.new (o := .lst []) hkd
  have kd1 : H1 kd = none := stC.free hkd
  have nlk : ln ≠ kd := ne_of_none hGC hkd
  have nrk : rc ≠ kd := ne_of_none hRC hkd
  have nla := lst_ne stA.s hG
  have nra := lst_ne stC.s hRC
  refine ⟨_, rfl, rc, rfl, ⟨_, SqL.of (Same.new hkd (.lst []) _ _ hRC)⟩, for_list (K := K) (a := rc) (xs := rcs.map V.str) (fun i σ H' => Stp a H1 H' ∧ H' ln = some (.lst (zs.map V.str)) ∧ H' rc = some (.lst (rcs.map V.str)) ∧ ∃ (us : List V) (v6 v7 v8 : Option V), σ = [some (.int c), some (.ref a), some (.ref ln), some (.int r), some (.ref rc), some (.ref kd), v6, v7, v8, none, none, none, none, none, none, none, none, none] ∧ H' kd = some (.lst us) ∧ us.length ≤ i ∧ ∃ ds, DTs K 5 H' us ds)
    ⟨stD, Same.new hkd (.lst []) _ _ hGC, Same.new hkd (.lst []) _ _ hRC, [], none, none, none, rfl, upd_same, Nat.le_refl _, [], trivial⟩ (fun i σ H' _ ⟨_, _, h, _⟩ => SqL.of h) ?_ ?_⟩
  · rintro i y σ H' hi ⟨st0', hl', hr', us, v6, v7, v8, rfl, hk', hul, ds, hds⟩
    obtain ⟨ny, eny, rfl⟩ : ∃ ny, rcs[i]? = some ny ∧ y = .str ny := by
      rw [List.getElem?_map] at hi
      cases e : rcs[i]? with
      | none => rw [e] at hi; cases hi
      | some z => rw [e] at hi; exact ⟨z, rfl, (Option.some.inj hi).symm⟩
    have hi20 : i < 20 := by
      have := (List.getElem?_eq_some_iff.mp eny).1
      omega
    refine ⟨_, rfl, a, 3, rfl, st0'.s, by decide, fun n3 H6 st6 n30 n31 => ⟨n3, rfl, by omega, by omega, fun D hD => ?_⟩⟩
    have hl6 := st6.k _ _ nla hl'
    have hr6 := st6.k _ _ nra hr'
    have hk6 := st6.k _ _ kda hk'
    have k6 := Keeps.of_stp (K := K) st6 st0'.s
    have Dk : kd ≠ D := ne_of_none hk6 hD
    refine lc_it (walk_range (lo := 0)) (fun j H' => Same H6 H' ∧ ∃ us : List V, H' D = some (.lst us) ∧ us.length = j ∧ ∃ ds, DTs K 3 H' us ds) ?_ ?_ ?_ ?_
    · exact ⟨Same.new hD _, [], upd_same, rfl, [], trivial⟩
    · exact fun _ _ _ _ => trivial
    · rintro j x H7 H8 hj ⟨sm, u7, h7, l7, d7, q7⟩ ⟨rfl, rfl⟩
      have hl7 := sm _ _ hl6
      have hj20 : 3 + j < 20 := by omega
      have eat : atI (zs.map V.str) (3 + (0 + (j : Int))) = some (.str (zs[3 + j]'(by rw [zl.len]; exact hj20))) := by
        have e : (3 : Int) + (0 + (j : Int)) = ((3 + j : Nat) : Int) := by omega
        rw [e]
        exact atI_nat (by rw [List.getElem?_map, List.getElem?_eq_getElem (by rw [zl.len]; exact hj20)]; rfl)
      refine ⟨rfl, ?_⟩
      dsimp only [tYes]
      rw [if_pos rfl]
      refine ⟨_, rfl, _, rfl, _, _, rfl, rfl, ln, _, _, _, rfl, rfl, SqL.of hl7, eat, by show 1 ≤ sizeLine; decide, fun t1 ht1 => ⟨by show 2 ≤ sizeLine; decide, fun t2 ht2 => ?_⟩⟩
      have z1 := Same.new ht1 (.tup [.str "flag"])
      have z2 := Same.new ht2 (.tup [.str (zs[3 + j]'(by rw [zl.len]; exact hj20)), .ref t1])
      have z12 := z1.trans z2
      have h72 := z12 _ _ h7
      refine ⟨u7, h72, small1000 (by omega), Same.grow hD (sm.trans z12), u7 ++ [.ref t2], upd_same, by rw [List.length_append]; show u7.length + 1 = j + 1; omega, d7 ++ [.tuple [.str (zs[3 + j]'(by rw [zl.len]; exact hj20)), .tuple [.str "flag"]]], ?_⟩
      refine DTs.keep (keep_lst h72) (DTs.app (q7.keep (Keeps.of_same z12)) ⟨?_, trivial⟩)
      exact DT.tup (n := 2) (SqT.of upd_same) ⟨⟨.str _, trivial⟩, DT.tup (n := 1) (ds := [.str "flag"]) (Keeps.of_same z2 _ _ (SqT.of upd_same)) ⟨⟨.str _, trivial⟩, trivial⟩ (by show 1 ≤ 1000; decide), trivial⟩ (by show 2 ≤ 1000; decide)
    · rintro H9 ⟨sm, u7, h7, l7, d7, q7⟩
      refine ⟨_, rfl, .inl ⟨rfl, _, SqL.of (sm _ _ hk6)⟩, _, rfl, _, rfl, D, _, rfl, .inl ⟨SqL.of h7, fun l hl0 => ⟨by show 2 ≤ sizeLine; decide, fun t ht => ?_⟩⟩⟩
      have z1 := Same.new hl0 (.tup u7)
      have z2 := Same.new ht (.tup [.str ny, .ref l])
      have z6 := (sm.trans z1).trans z2
      have k9 := z6 _ _ hk6
      have stE := (st0'.trans st6).same z6
      refine ⟨kd, _, _, rfl, rfl, k9, small1000 (by omega), Stp.grow kd1 kda stE, ?_, ?_, us ++ [.ref t], _, _, _, rfl, upd_same, by rw [List.length_append]; show us.length + 1 ≤ i + 1; omega, ds ++ [.tuple [.str ny, .tuple d7]], ?_⟩
      · rw [upd_ne nlk]
        exact z6 _ _ hl6
      · rw [upd_ne nrk]
        exact z6 _ _ hr6
      · refine DTs.keep (keep_lst k9) (DTs.app ((hds.keep k6).keep (Keeps.of_same z6)) ⟨?_, trivial⟩)
        have lq := q7.len
        exact DT.tup (n := 4) (SqT.of upd_same) ⟨⟨.str _, trivial⟩, DT.tup (n := 3) (ds := d7) (Keeps.of_same z2 _ _ (SqT.of upd_same)) (q7.keep (Keeps.of_same (z1.trans z2))) (by omega), trivial⟩ (by show 2 ≤ 1000; decide)
  · rintro σ HE ⟨stE, hlE, hrE, us, v6, v7, v8, rfl, hkE, hul, ds, hds⟩
    -- the arrays
    refine ⟨_, rfl, a, 3, rfl, stE.s, by decide, fun n3 H6 st6 n30 n31 => ⟨n3, rfl, by omega, by omega, fun D hD => ?_⟩⟩
    have stF := stE.trans st6
    have hl6 := st6.k _ _ nla hlE
    have hr6 := st6.k _ _ nra hrE
    have hk6 := st6.k _ _ kda hkE
    have k6 := Keeps.of_stp (K := K) st6 stE.s
    have Da : D ≠ a := (stF.s.ne hD).symm
    have D1 : H1 D = none := stF.free hD
    have Dk : kd ≠ D := ne_of_none hk6 hD
    have Dl : ln ≠ D := ne_of_none hl6 hD
    have Dr : rc ≠ D := ne_of_none hr6 hD
    refine lc_it (walk_range (lo := 0)) (fun j H' => Stp a H1 H' ∧ H' ln = some (.lst (zs.map V.str)) ∧ H' rc = some (.lst (rcs.map V.str)) ∧ H' kd = some (.lst us) ∧ DTs K 5 H' us ds ∧ ∃ ua : List V, H' D = some (.lst ua) ∧ ua.length = j ∧ ∃ da, DTs K 3 H' ua da) ?_ ?_ ?_ ?_
    · exact ⟨stF.new hD, Same.new hD _ _ _ hl6, Same.new hD _ _ _ hr6, Same.new hD _ _ _ hk6, (hds.keep k6).keep (keeps_new hD), [], upd_same, rfl, [], trivial⟩
    · exact fun _ _ _ _ => trivial
    · rintro j x H7 H8 hj ⟨st7, hl7, hr7, hk7, hds7, u7, h7, l7, d7, q7⟩ ⟨rfl, rfl⟩
      have hj20 : 3 + j < 20 := by omega
      have eat : atI (zs.map V.str) (3 + (0 + (j : Int))) = some (.str (zs[3 + j]'(by rw [zl.len]; exact hj20))) := by
        have e : (3 : Int) + (0 + (j : Int)) = ((3 + j : Nat) : Int) := by omega
        rw [e]
        exact atI_nat (by rw [List.getElem?_map, List.getElem?_eq_getElem (by rw [zl.len]; exact hj20)]; rfl)
      refine ⟨rfl, ?_⟩
      dsimp only [tYes]
      rw [if_pos rfl]
      refine ⟨_, rfl, _, rfl, _, _, rfl, rfl, ln, _, _, _, rfl, rfl, SqL.of hl7, eat, _, rfl, a, 64, rfl, st7.s, by decide, fun m6 H9 st9 _ _ => ⟨_, _, rfl, rfl, _, rfl, _, _, rfl, rfl, by show 4 ≤ sizeLine; decide, fun t ht => ?_⟩⟩
      have z := Same.new ht (.tup [.str (zs[3 + j]'(by rw [zl.len]; exact hj20)), .int (1 + m6), .int (0 - (0 + (j : Int))), .int 9])
      have k9 := Keeps.of_stp (K := K) st9 st7.s
      have h9 := z _ _ (st9.k _ _ Da h7)
      have kz := Keeps.of_same (K := K) z
      have kD := keep_lst (K := K) (o := .lst (u7 ++ [.ref t])) h9
      refine ⟨u7, h9, small1000 (by omega), Stp.grow D1 Da ((st7.trans st9).same z), ?_, ?_, ?_, ((((hds7.keep k9).keep kz)).keep kD), u7 ++ [.ref t], upd_same, by rw [List.length_append]; show u7.length + 1 = j + 1; omega, d7 ++ [.tuple [.str (zs[3 + j]'(by rw [zl.len]; exact hj20)), .int (1 + m6), .int (0 - (0 + (j : Int))), .int 9]], ?_⟩
      · rw [upd_ne Dl]
        exact z _ _ (st9.k _ _ nla hl7)
      · rw [upd_ne Dr]
        exact z _ _ (st9.k _ _ nra hr7)
      · rw [upd_ne Dk]
        exact z _ _ (st9.k _ _ kda hk7)
      · refine DTs.keep kD (DTs.app ((q7.keep k9).keep kz) ⟨?_, trivial⟩)
        exact DT.tup (n := 2) (SqT.of upd_same) ⟨⟨.str _, trivial⟩, ⟨.int _, trivial⟩, ⟨.int _, trivial⟩, ⟨.int _, trivial⟩, trivial⟩ (by show 4 ≤ 1000; decide)
    · rintro HG ⟨stG, hlG, hrG, hkG, hdsG, ua, hDG, hua, da, qa⟩
      have nDk : D ≠ kd := Dk.symm
      refine ⟨by show 1 ≤ sizeLine; decide, fun sh hsh => ?_⟩
      have zs1 := Same.new hsh (.lst [.int 2])
      have stH := stG.same zs1
      have sh1 : H1 sh = none := stG.free hsh
      have csh : (upd HG sh (.lst [.int 2])) sh = some (.lst [.int 2]) := upd_same
      generalize (upd HG sh (.lst [.int 2])) = HH at zs1 stH csh ⊢
      refine ⟨_, rfl, _, rfl, 5, rfl, 9, rfl, ln, _, rfl, SqL.of (zs1 _ _ hlG), fun n5 hn5 => ?_⟩
      rw [show cutV (zs.map V.str) (some 5) (some 9) = ((zs.drop 5).take 4).map V.str from by
        rw [show cutV (zs.map V.str) (some 5) (some 9) = ((zs.map V.str).drop 5).take 4 from cut_mid (i := 5) (j := 9) (by decide) (by rw [zlen]; decide), List.map_take, List.map_drop]]
      have z5 := Same.new hn5 (.lst (((zs.drop 5).take 4).map V.str))
      refine ⟨_, rfl, _, rfl, a, n5, rc, sh, (zs.drop 5).take 4, rcs, 2, rfl, (stH.same z5).s, upd_same, z5 _ _ (zs1 _ _ hrG), z5 _ _ csh, by rw [List.length_take]; omega, rcl, fun g ksg jg HI st2' hgn hgl ekg => ?_⟩
      have stI := Stp.st2 sh1 (stH.same z5) st2'
      have k5 := Keeps.of_same (K := K) z5
      have kI := st2'.keeps (K := K) (stH.same z5).s (z5 _ _ csh)
      have nls : ln ≠ sh := ne_of_none hlG hsh
      have nrs : rc ≠ sh := ne_of_none hrG hsh
      have nks : kd ≠ sh := ne_of_none hkG hsh
      have nDs : D ≠ sh := ne_of_none hDG hsh
      have hlI := st2'.k _ _ nla nls (z5 _ _ (zs1 _ _ hlG))
      have hrI := st2'.k _ _ nra nrs (z5 _ _ (zs1 _ _ hrG))
      have hkI := st2'.k _ _ kda nks (z5 _ _ (zs1 _ _ hkG))
      have hDI := st2'.k _ _ Da nDs (z5 _ _ (zs1 _ _ hDG))
      have dsI := (((hdsG.keep (Keeps.of_same zs1)).keep k5).keep kI)
      have daI := (((qa.keep (Keeps.of_same zs1)).keep k5).keep kI)
      obtain ⟨nsh, hshI⟩ := st2'.c
      have nsa : sh ≠ a := st2'.ne
      clear z5 k5 kI st2' csh zs1
      -- the functions
      refine ⟨by show 0 ≤ sizeLine; decide, fun fl hfl => ?_⟩
      have zf := Same.new hfl (.lst [])
      have fla : fl ≠ a := (stI.s.ne hfl).symm
      have stJ := Stp.of_same stI.s zf
      refine ⟨by show 1 ≤ sizeLine; decide, fun l1 hl1 => ?_⟩
      have z1 := Same.new hl1 (.lst [.str "main"])
      refine ⟨_, rfl, 9, rfl, _, rfl, a, 4, rfl, (stJ.same z1).s, by decide, fun r4 HK st7 r40 r41 => ⟨_, _, rfl, rfl, _, rfl, ln, _, rfl, SqL.of (st7.k _ _ nla (z1 _ _ (zf _ _ hlI))), fun s1' hs1 => ?_⟩⟩
      have e9 : (9 : Int) + r4 = ((9 + r4.toNat : Nat) : Int) := by omega
      rw [show cutV (zs.map V.str) (some 9) (some (9 + r4)) = ((zs.drop 9).take r4.toNat).map V.str from by
        rw [e9, show cutV (zs.map V.str) (some 9) (some ((9 + r4.toNat : Nat) : Int)) = ((zs.map V.str).drop 9).take (9 + r4.toNat - 9) from cut_mid (i := 9) (j := 9 + r4.toNat) (by omega) (by rw [zlen]; omega), Nat.add_sub_cancel_left, List.map_take, List.map_drop]]
      have z8 := Same.new hs1 (.lst (((zs.drop 9).take r4.toNat).map V.str))
      have l1a : l1 ≠ a := ((stJ.s).ne hl1).symm
      have hl1K : HK l1 = some (.lst [.str "main"]) := st7.k _ _ l1a upd_same
      refine ⟨l1, s1', _, _, rfl, rfl, z8 _ _ hl1K, upd_same, ?_, fun L hL => ?_⟩
      · rw [List.length_map, List.length_take]
        show 1 + _ ≤ sizeLine
        have : (100 : Nat) ≤ sizeLine := by decide
        omega
      have z9 := Same.new hL (.lst ([.str "main"] ++ ((zs.drop 9).take r4.toNat).map V.str))
      have stL := ((stJ.same z1).trans st7).same (z8.trans z9)
      have hflL := z9 _ _ (z8 _ _ (st7.k _ _ fla (z1 _ _ (show (upd HI fl (.lst [])) fl = some (.lst []) from upd_same))))
      have nm0 : [V.str "main"] ++ ((zs.drop 9).take r4.toNat).map V.str = (("main" : Str) :: (zs.drop 9).take r4.toNat).map V.str := rfl
      have hLL : (upd (upd HK s1' (.lst (((zs.drop 9).take r4.toNat).map V.str))) L (.lst ([.str "main"] ++ ((zs.drop 9).take r4.toNat).map V.str))) L = some (.lst ((("main" : Str) :: (zs.drop 9).take r4.toNat).map V.str)) := upd_same
      have nfL : fl ≠ L := ne_of_none (z8 _ _ (st7.k _ _ fla (z1 _ _ (show (upd HI fl (.lst [])) fl = some (.lst []) from upd_same)))) hL
      have ndF : (("main" : Str) :: (zs.drop 9).take r4.toNat).Nodup := List.nodup_cons.mpr ⟨fun z => zl.nm (List.mem_of_mem_drop (List.mem_of_mem_take z)), ((List.take_sublist _ _).trans (List.drop_sublist _ _)).nodup zl.nd⟩
      have lnF : (("main" : Str) :: (zs.drop 9).take r4.toNat).length ≤ 10 := by
        rw [List.length_cons, List.length_take]
        omega
      generalize (("main" : Str) :: (zs.drop 9).take r4.toNat) = fns at hLL ndF lnF
      generalize (upd (upd HK s1' (.lst (((zs.drop 9).take r4.toNat).map V.str))) L (.lst ([.str "main"] ++ ((zs.drop 9).take r4.toNat).map V.str))) = HL at stL hflL hLL ⊢
      have nLa := lst_ne stL.s hLL
      have kIL := Keeps.of_stp (K := K) stL stI.s
      refine ⟨L, rfl, ⟨_, SqL.of hLL⟩, for_list (K := K) (a := L) (xs := fns.map V.str) (fun i σ H' => Stp a HI H' ∧ H' L = some (.lst (fns.map V.str)) ∧ ∃ (fvs : List V) (fms : List FnM) (v6 v7 v8 v13 v14 v15 v16 v17 : Option V), σ = [some (.int c), some (.ref a), some (.ref ln), some (.int r), some (.ref rc), some (.ref kd), v6, v7, v8, some (.ref D), some (.ref sh), some (.ref g), some (.ref fl), v13, v14, v15, v16, v17] ∧ H' fl = some (.lst fvs) ∧ FnsAt K H' ksg fvs fms ∧ fms.map (·.nm) = fns.take i)
        ⟨stL, hLL, [], [], _, _, _, _, _, _, _, _, rfl, hflL, ⟨rfl, fun i f e => by simp at e⟩, rfl⟩ (fun i σ H' _ ⟨_, h, _⟩ => SqL.of h) ?_ ?_⟩
      · rintro i y σ H' hi ⟨st, hL', fvs, fms, v6, v7, v8, v13, v14, v15, v16, v17, rfl, hf', fns', enm⟩
        obtain ⟨ny, eny, rfl⟩ : ∃ ny, fns[i]? = some ny ∧ y = .str ny := by
          rw [List.getElem?_map] at hi
          cases e : fns[i]? with
          | none => rw [e] at hi; cases hi
          | some z => rw [e] at hi; exact ⟨z, rfl, (Option.some.inj hi).symm⟩
        have i10 : i < 10 := by
          have := (List.getElem?_eq_some_iff.mp eny).1
          omega
        have hsh' := st.k _ _ nsa hshI
        refine ⟨_, rfl, sh, _, 0, _, rfl, rfl, SqL.of hsh', rfl, _, _, rfl, rfl, by show 1 ≤ sizeLine; decide, fun rm hrm => ?_⟩
        have zr := Same.new hrm (.lst [.int (nsh + 2)])
        have rm1 : HI rm = none := st.free hrm
        have stR := st.same zr
        have rma : rm ≠ a := (st.s.ne hrm).symm
        have nLr : L ≠ rm := ne_of_none hL' hrm
        have nfr : fl ≠ rm := ne_of_none hf' hrm
        have cr : (upd H' rm (.lst [.int (nsh + 2)])) rm = some (.lst [.int (nsh + 2)]) := upd_same
        have hLR := zr _ _ hL'
        have hfR := zr _ _ hf'
        have fnsR := fns'.keep (Keeps.of_same zr)
        generalize (upd H' rm (.lst [.int (nsh + 2)])) = HR at zr stR cr hLR hfR fnsR ⊢
        -- the parameters
        refine ⟨_, rfl, _, rfl, 12, rfl, 15, rfl, ln, _, rfl, SqL.of (stR.k _ _ nla hlI), fun n6 hn6 => ?_⟩
        rw [show cutV (zs.map V.str) (some 12) (some 15) = ((zs.drop 12).take 3).map V.str from by
          rw [show cutV (zs.map V.str) (some 12) (some 15) = ((zs.map V.str).drop 12).take 3 from cut_mid (i := 12) (j := 15) (by decide) (by rw [zlen]; decide), List.map_take, List.map_drop]]
        have z6 := Same.new hn6 (.lst (((zs.drop 12).take 3).map V.str))
        refine ⟨_, rfl, _, rfl, a, n6, rc, rm, (zs.drop 12).take 3, rcs, _, rfl, (stR.same z6).s, upd_same, z6 _ _ (stR.k _ _ nra hrI), z6 _ _ cr, by rw [List.length_take]; omega, rcl, fun pp ksp jp HP st2p _ glp ekp => ?_⟩
        have stP := Stp.st2 rm1 (stR.same z6) st2p
        have kRP : Keeps K HR HP := fun b xs h => st2p.keeps (K := K) (stR.same z6).s (z6 _ _ cr) _ _ (Keeps.of_same (K := K) z6 _ _ h)
        have hLP := st2p.k _ _ nLa nLr (z6 _ _ hLR)
        have hfP := st2p.k _ _ fla nfr (z6 _ _ hfR)
        obtain ⟨nrP, crP⟩ := st2p.c
        have fnsP := fnsR.keep kRP
        -- the result
        refine ⟨_, rfl, by show 1 ≤ sizeLine; decide, fun t1 ht1 => ⟨by show 3 ≤ sizeLine; decide, fun t2 ht2 => ?_⟩⟩
        have y1 := Same.new ht1 (.tup [.str "flag"])
        have y2 := Same.new ht2 (.tup [.str "num", .int 0, .int 7])
        have y12 := y1.trans y2
        have stQ := stP.same y12
        refine ⟨_, rfl, _, rfl, a, rc, rcs, true, rfl, stQ.s, stQ.k _ _ nra hrI, rcl, fun kv kk HC stc kdc => ⟨by show 4 ≤ sizeLine; decide, fun lq hlq => ?_⟩⟩
        have kc := Keeps.of_stp (K := K) stc stQ.s
        have y3 := Same.new hlq (.lst [.non, .ref t1, .ref t2, kv])
        have stS := (stQ.trans stc).same y3
        refine ⟨a, .ref lq, rfl, stS.s, .inl ⟨lq, _, rfl, ((stQ.trans stc).s.ne hlq).symm, SqL.of upd_same, Nat.succ_pos _, by show 4 < 1000; decide, fun rv HD hrv std => ?_⟩⟩
        have kd' := Keeps.of_stp (K := K) std stS.s
        have k3 : Keeps K HC HD := fun b xs h => kd' _ _ (Keeps.of_same (K := K) y3 _ _ h)
        have kPD : Keeps K HP HD := fun b xs h => k3 _ _ (kc _ _ (Keeps.of_same (K := K) y12 _ _ h))
        have sPD : Stp a HP HD := (((Stp.of_same stP.s y12).trans stc).same y3).trans std
        have hro : ∃ ro, RsAt K HD rv ro := by
          simp only [List.mem_cons, List.not_mem_nil, or_false] at hrv
          rcases hrv with rfl | rfl | rfl | rfl
          · exact ⟨none, rfl⟩
          · exact ⟨some .flag, t1, rfl, k3 _ _ (kc _ _ (Keeps.of_same (K := K) y2 _ _ (SqT.of upd_same)))⟩
          · exact ⟨some (.num 0 7), t2, rfl, k3 _ _ (kc _ _ (SqT.of upd_same))⟩
          · exact ⟨some kk, kdc.keep k3⟩
        obtain ⟨ro, hro⟩ := hro
        have stT := stP.trans sPD
        obtain ⟨op, psp, kvp, gp1, gp2, gp3⟩ := id glp
        have sqp : SqT K HP pp (psp.map V.ref) := .inl (.inr ⟨op, gp1⟩)
        have lg4 : ksg.length ≤ 20 := by
          have e := congrArg List.length ekg
          rw [List.length_map, List.length_take, List.length_take] at e
          omega
        refine ⟨fun σ HE => ∃ (pa : Addr) (ksp' : List (Str × Kd)) (ps' : List Addr) (kv' : List (Key × V)) (rv' : V) (ro' : Option Kd), Stp a HP HE ∧ SqT K HE pa (ps'.map V.ref) ∧ PrAt K HE ps' ksp' kv' ∧ (ksp'.map (·.1) = ((zs.drop 12).take 3).take jp ∨ ksp'.map (·.1) = []) ∧ RsAt K HE rv' ro' ∧ σ = [some (.int c), some (.ref a), some (.ref ln), some (.int r), some (.ref rc), some (.ref kd), some (.str ny), v7, v8, some (.ref D), some (.ref sh), some (.ref g), some (.ref fl), some (.ref rm), some (.ref pa), some rv', v16, v17], ?_, ?_⟩
        · refine ⟨_, rfl, rfl, _, rfl, ite2 (fun _ => ⟨by show 0 ≤ sizeLine; decide, fun pe hpe => ?_⟩) (fun _ => ?_)⟩
          · exact ⟨pe, [], [], [], .non, none, sPD.same (Same.new hpe _), SqT.of upd_same, ⟨.nil, trivial⟩, .inr rfl, rfl, rfl⟩
          · exact ⟨pp, ksp, psp, kvp, rv, ro, sPD, kPD _ _ sqp, gp3.keep kPD, .inl ekp, hro, rfl⟩
        rintro σ HE ⟨pa, ksq, psq, kvq, rvq, roq, sPE, q1, q2, q3, q4, rfl⟩
        have kPE := Keeps.of_stp (K := K) sPE stP.s
        have stE2 := stP.trans sPE
        have crE := sPE.k _ _ rma crP
        have hLE := sPE.k _ _ nLa hLP
        have hfE := sPE.k _ _ fla hfP
        have fnsE := fnsP.keep kPE
        clear hro kPD kd' k3 kc
        -- its own
        refine ⟨_, rfl, _, rfl, 15, rfl, 19, rfl, ln, _, rfl, SqL.of (stE2.k _ _ nla hlI), fun n7 hn7 => ?_⟩
        rw [show cutV (zs.map V.str) (some 15) (some 19) = ((zs.drop 15).take 4).map V.str from by
          rw [show cutV (zs.map V.str) (some 15) (some 19) = ((zs.map V.str).drop 15).take 4 from cut_mid (i := 15) (j := 19) (by decide) (by rw [zlen]; decide), List.map_take, List.map_drop]]
        have z7 := Same.new hn7 (.lst (((zs.drop 15).take 4).map V.str))
        refine ⟨_, rfl, _, rfl, a, n7, rc, rm, (zs.drop 15).take 4, rcs, _, rfl, (stE2.same z7).s, upd_same, z7 _ _ (stE2.k _ _ nra hrI), z7 _ _ crE, by rw [List.length_take]; omega, rcl, fun oo kso jo HO2 st2o _ glo eko => ?_⟩
        have stO := Stp.st2 rm1 (stE2.same z7) st2o
        have kEO : Keeps K HE HO2 := fun b xs h => st2o.keeps (K := K) (stE2.same z7).s (z7 _ _ crE) _ _ (Keeps.of_same (K := K) z7 _ _ h)
        have hLO := st2o.k _ _ nLa nLr (z7 _ _ hLE)
        have hfO := st2o.k _ _ fla nfr (z7 _ _ hfE)
        have fnsO := fnsE.keep kEO
        obtain ⟨oo2, pso, kvo, go1, go2, go3⟩ := id glo
        have sqo : SqT K HO2 oo (pso.map V.ref) := .inl (.inr ⟨oo2, go1⟩)
        -- its body
        refine ⟨_, rfl, by show 1 ≤ sizeLine; decide, fun c8 hc8 => ?_⟩
        have y8 := Same.new hc8 (.lst [.int 8])
        have st8 := stO.same y8
        have c81 : HI c8 = none := stO.free hc8
        have fl8 : fl ≠ c8 := ne_of_none hfO hc8
        have L8 : L ≠ c8 := ne_of_none hLO hc8
        refine ⟨a, c8, 8, 3, false, rfl, st8.s, upd_same, by decide, by decide, fun b1 w1 tr1 m1 HU su cu bq1 bt1 bd1 bm1 bc1 bl1 => ?_⟩
        have k8 : Keeps K HO2 HU := fun b xs h => su.keeps (K := K) st8.s upd_same _ _ (Keeps.of_same (K := K) y8 _ _ h)
        have stU := Stp.st2 c81 st8 su
        have hLU := su.k _ _ nLa L8 (y8 _ _ hLO)
        have hfU := su.k _ _ fla fl8 (y8 _ _ hfO)
        refine ⟨_, rfl, by show 1 ≤ sizeLine; decide, fun c6 hc6 => ?_⟩
        have y6 := Same.new hc6 (.lst [.int 6])
        have st6' := stU.same y6
        have c61 : HI c6 = none := stU.free hc6
        have fl6 : fl ≠ c6 := ne_of_none hfU hc6
        have L6 : L ≠ c6 := ne_of_none hLU hc6
        refine ⟨a, c6, 6, 3, false, rfl, st6'.s, upd_same, by decide, by decide, fun b2 w2 tr2 m2 HV sv cv bq2 bt2 bd2 bm2 bc2 bl2 => ?_⟩
        have k9 : Keeps K HU HV := fun b xs h => sv.keeps (K := K) st6'.s upd_same _ _ (Keeps.of_same (K := K) y6 _ _ h)
        have stV := Stp.st2 c61 st6' sv
        have hLV := sv.k _ _ nLa L6 (y6 _ _ hLU)
        have hfV := sv.k _ _ fla fl6 (y6 _ _ hfU)
        refine cat_tr (k9 _ _ bq1) bq2 (TrL.keep k9 bt1) bt2 (by omega) fun bb HW sw bbq bbt => ?_
        have kW := Keeps.of_same (K := K) sw
        have kOW : Keeps K HO2 HW := fun b xs h => kW _ _ (k9 _ _ (k8 _ _ h))
        have stW := stV.same sw
        have hLW := sw _ _ hLV
        have hfW := sw _ _ hfV
        have kEW : Keeps K HE HW := fun b xs h => kOW _ _ (kEO _ _ h)
        have cc : (tr1.app tr2).cnt ≤ 20 := by rw [Tr.cnt_app]; omega
        have dd : (tr1.app tr2).dep 8 := Tr.dep_app (Tr.dep_up (by decide) bd1) (Tr.dep_up (by decide) bd2)
        have ll : (w1 ++ w2).length ≤ 10 := by rw [List.length_append]; omega
        -- a return at its end
        refine ⟨fun σ HX => ∃ (bx : Addr) (wx : List V) (tx : Tr), Stp a HI HX ∧ Keeps K HW HX ∧ HX L = some (.lst (fns.map V.str)) ∧ HX fl = some (.lst fvs) ∧ SqT K HX bx wx ∧ TrL K HX tx wx ∧ tx.dep 8 ∧ tx.cnt ≤ 400 ∧ σ = [some (.int c), some (.ref a), some (.ref ln), some (.int r), some (.ref rc), some (.ref kd), some (.str ny), v7, v8, some (.ref D), some (.ref sh), some (.ref g), some (.ref fl), some (.ref rm), some (.ref pa), some rvq, some (.ref oo), some (.ref bx)], ?_, ?_⟩
        · have same : ∀ HX, Stp a HW HX → ∃ (bx : Addr) (wx : List V) (tx : Tr), Stp a HI HX ∧ Keeps K HW HX ∧ HX L = some (.lst (fns.map V.str)) ∧ HX fl = some (.lst fvs) ∧ SqT K HX bx wx ∧ TrL K HX tx wx ∧ tx.dep 8 ∧ tx.cnt ≤ 400 ∧ ([some (.int c), some (.ref a), some (.ref ln), some (.int r), some (.ref rc), some (.ref kd), some (.str ny), v7, v8, some (.ref D), some (.ref sh), some (.ref g), some (.ref fl), some (.ref rm), some (.ref pa), some rvq, some (.ref oo), some (.ref bb)] : List (Option V)) = [some (.int c), some (.ref a), some (.ref ln), some (.int r), some (.ref rc), some (.ref kd), some (.str ny), v7, v8, some (.ref D), some (.ref sh), some (.ref g), some (.ref fl), some (.ref rm), some (.ref pa), some rvq, some (.ref oo), some (.ref bx)] := fun HX sx =>
            have kx := Keeps.of_stp (K := K) sx stW.s
            ⟨bb, _, _, stW.trans sx, kx, sx.k _ _ nLa hLW, sx.k _ _ fla hfW, kx _ _ bbq, TrL.keep kx bbt, dd, by omega, rfl⟩
          refine ⟨_, rfl, rfl, _, rfl, ite2 (fun _ => ⟨_, rfl, a, 3, rfl, stW.s, by decide, fun rr HX sx _ _ => ⟨rfl, _, rfl, ite2 (fun _ => ?_) (fun _ => same HX sx)⟩⟩) (fun _ => iteF (same HW (Stp.refl stW.s)))⟩
          have kx := Keeps.of_stp (K := K) sx stW.s
          refine ⟨_, rfl, by show 2 ≤ sizeLine; decide, fun u1 hu1 => ⟨by show 1 ≤ sizeLine; decide, fun u2 hu2 => ?_⟩⟩
          have x1 := Same.new hu1 (.tup [.str "return", .non])
          have x2 := Same.new hu2 (.tup [.ref u1])
          have kx12 := Keeps.of_same (K := K) (x1.trans x2)
          refine cat_tr (t2 := .leaf "return" [.none] .nil) (us2 := [.ref u1]) (kx12 _ _ (kx _ _ bbq)) (SqT.of upd_same) (TrL.keep kx12 (TrL.keep kx bbt)) ⟨u1, _, [], rfl, Keeps.of_same (K := K) x2 _ _ (SqT.of upd_same), ⟨⟨.non, trivial⟩, trivial⟩, ⟨["expression"], by decide +kernel, rfl, by decide, by decide +kernel⟩, rfl⟩ (by show _ + 1 ≤ 500; omega) fun bx HY sy byq byt => ?_
          have ky := Keeps.of_same (K := K) sy
          have sxy := (x1.trans x2).trans sy
          refine ⟨bx, _, _, (stW.trans sx).same sxy, fun b xs h => ky _ _ (kx12 _ _ (kx _ _ h)), sxy _ _ (sx.k _ _ nLa hLW), sxy _ _ (sx.k _ _ fla hfW), byq, byt, Tr.dep_app dd (by trivial), ?_, rfl⟩
          rw [Tr.cnt_app]
          show (tr1.app tr2).cnt + 1 ≤ 400
          omega
        rintro σ HX ⟨bx, wx, tx, stX, kWX, hLX, hfX, bxq, bxt, dx8, cx, rfl⟩
        have kEX : Keeps K HE HX := fun b xs h => kWX _ _ (kEW _ _ h)
        have kOX : Keeps K HO2 HX := fun b xs h => kWX _ _ (kOW _ _ h)
        refine ⟨_, rfl, .inl ⟨rfl, _, SqL.of hfX⟩, _, rfl, _, rfl, _, rfl, _, rfl, _, rfl, by show 5 ≤ sizeLine; decide, fun F hF => ?_⟩
        have xf := Same.new hF (.tup [.str ny, .ref pa, rvq, .ref oo, .ref bx])
        have kf := Keeps.of_same (K := K) xf
        have hfF := xf _ _ hfX
        have kl := keep_lst (K := K) (o := .lst (fvs ++ [.ref F])) hfF
        have fl1 : HI fl = none := hfl
        have nfLL : L ≠ fl := nfL.symm
        have ek : (ksg.map (·.1) ++ ksq.map (·.1) ++ kso.map (·.1)).Nodup ∧ (ksg.map (·.1) ++ ksq.map (·.1) ++ kso.map (·.1)).length ≤ 20 := sub_names zl ekg q3 eko
        have vv : (vis ⟨ksg, []⟩ ⟨ny, ksq, roq, kso, tx⟩).map (·.1) = ksg.map (·.1) ++ ksq.map (·.1) ++ kso.map (·.1) := by
          show (ksg ++ ksq ++ kso).map (·.1) = _
          rw [List.map_append, List.map_append]
        have okF : FnOk9 ⟨ksg, []⟩ ⟨ny, ksq, roq, kso, tx⟩ := by
          refine ⟨?_, ?_, by rw [vv]; exact ek.1, dx8, cx⟩
          · have e := congrArg List.length vv
            rw [List.length_map] at e
            have := ek.2
            omega
          · show (exitK ⟨ksg, []⟩ ⟨ny, ksq, roq, kso, tx⟩).length ≤ 51
            unfold exitK
            cases roq with
            | none => show (ksg ++ []).length ≤ 51; rw [List.append_nil]; omega
            | some k => show (ksg ++ [_]).length ≤ 51; rw [List.length_append]; show ksg.length + 1 ≤ 51; omega
        have lfv : fvs.length < 100 := by
          have e := congrArg List.length enm
          rw [List.length_map, List.length_take] at e
          have := fns'.1
          omega
        refine ⟨fl, _, _, rfl, rfl, hfF, small1000 (by omega), Stp.grow fl1 fla (stX.same xf), by rw [upd_ne nfLL]; exact xf _ _ hLX, fvs ++ [.ref F], fms ++ [⟨ny, ksq, roq, kso, tx⟩], _, _, _, _, _, _, _, _, rfl, upd_same, ?_, ?_⟩
        · refine FnsAt.snoc ((((fnsO.keep kOX).keep kf)).keep kl) ?_ okF
          refine FuAt.keep kl ⟨F, pa, oo, bx, psq, pso, kvq, kvo, rvq, wx, rfl, SqT.of upd_same, kf _ _ (kEX _ _ q1), (q2.keep kEX).keep kf, (q4.keep kEX).keep kf, kf _ _ (kOX _ _ sqo), (go3.keep kOX).keep kf, kf _ _ bxq, TrL.keep kf bxt⟩
        · rw [List.map_append, enm, take_snoc eny]
          rfl
      · rintro σ H' ⟨st, hL', fvs, fms, v6, v7, v8, v13, v14, v15, v16, v17, rfl, hf', fns', enm⟩
        rw [List.length_map, List.take_length] at enm
        have fl2 := fns'.1
        have fm10 : fms.length ≤ 10 := by
          have e := congrArg List.length enm
          rw [List.length_map] at e
          omega
        refine ⟨_, rfl, _, rfl, fl, _, rfl, .inl (SqL.of hf'), a, _, rfl, st.s, by omega, fun s9 HM stM s90 s91 => ?_⟩
        have kM := Keeps.of_stp (K := K) stM st.s
        have stIM := st.trans stM
        have kIM := Keeps.of_stp (K := K) stIM stI.s
        have hkM := stIM.k _ _ kda hkI
        have hDM := stIM.k _ _ Da hDI
        have hfM := stM.k _ _ fla hf'
        refine ⟨_, rfl, kd, _, rfl, .inl ⟨SqL.of hkM, fun k1 hk1 => ?_⟩⟩
        have x1 := Same.new hk1 (.tup us)
        refine ⟨_, rfl, D, _, rfl, .inl ⟨SqL.of (x1 _ _ hDM), fun k2' hk2 => ?_⟩⟩
        have x2 := x1.trans (Same.new hk2 (.tup ua))
        have s9n : s9.toNat ≤ fvs.length := by omega
        refine ⟨_, rfl, _, rfl, _, rfl, s9, rfl, fl, _, rfl, SqL.of (x2 _ _ hfM), fun w1 hw1 => ?_⟩
        rw [cut_lo s90 s9n]
        have x3 := x2.trans (Same.new hw1 (.lst (fvs.drop s9.toNat)))
        refine ⟨_, rfl, _, rfl, s9, rfl, fl, _, rfl, SqL.of (x3 _ _ hfM), fun w2 hw2 => ?_⟩
        rw [cut_hi s90 s9n]
        have x4 := x3.trans (Same.new hw2 (.lst (fvs.take s9.toNat)))
        have hw12 := Same.new hw2 (.lst (fvs.take s9.toNat)) w1 _ upd_same
        have rl : (fvs.drop s9.toNat ++ fvs.take s9.toNat).length = fvs.length := rot_len rfl s9n
        refine ⟨w1, w2, _, _, rfl, rfl, hw12, upd_same, by rw [← List.length_append, rl]; exact Nat.le_of_lt (small1000 (by omega)), fun w3 hw3 => ?_⟩
        have x5 := x4.trans (Same.new hw3 (.lst (fvs.drop s9.toNat ++ fvs.take s9.toNat)))
        refine ⟨w3, _, rfl, .inl ⟨SqL.of upd_same, fun fa hfa => ⟨by show 4 ≤ sizeLine; decide, fun R hR => ?_⟩⟩⟩
        have x6 := x5.trans (Same.new hfa (.tup (fvs.drop s9.toNat ++ fvs.take s9.toNat)))
        have x7 := x6.trans (Same.new hR (.tup [.ref k1, .ref k2', .ref g, .ref fa]))
        have kx := Keeps.of_same (K := K) x7
        have kR := keeps_new (K := K) (o := .tup [.ref k1, .ref k2', .ref g, .ref fa]) hR
        have glM : GlAt K HM g ksg := by
          obtain ⟨o9, ps9, kv9, e1, e2, e3⟩ := hgl
          refine ⟨o9, ps9, kv9, stIM.k _ _ (fun z => ?_) e1, e2, e3.keep kIM⟩
          obtain ⟨_, _, _, hh⟩ := stI.s
          rw [z, hh] at e1
          cases e1
        have glR := glM.same x7
        have fnR := ((fns'.keep kM).keep kx)
        have fnRot := (fnR.drop s9.toNat).app (fnR.take s9.toNat)
        have hfaR := kR fa _ (SqT.of upd_same)
        have okR : ∀ f ∈ fms.drop s9.toNat ++ fms.take s9.toNat, FnOk9 ⟨ksg, fms.drop s9.toNat ++ fms.take s9.toNat⟩ f := fun f hf => by
          obtain ⟨j, hj, ej⟩ := List.getElem_of_mem hf
          obtain ⟨u, _, _, o⟩ := fnRot.2 j f (by rw [List.getElem?_eq_getElem hj, ej])
          exact ⟨o.len, o.lx, o.nd, o.dep, o.cnt⟩
        have smR := (Stp.fresh s1 ha1 (stI.trans stIM)).trans x7
        refine q (.ref R) ⟨ksg, fms.drop s9.toNat ++ fms.take s9.toNat⟩ _ smR ⟨R, g, fa, _, _, _, rfl, SqT.of upd_same, glR, hfaR, fnRot.1, fun j f e => ?_⟩ ?_ ?_ okR ?_ ?_
        · obtain ⟨u, e1, e2, _⟩ := fnRot.2 j f e
          exact ⟨u, e1, e2⟩
        · -- all of it is data
          have d1 := (dsI.keep kIM).keep kx
          have d2 := (daI.keep kIM).keep kx
          obtain ⟨o9, ps9, kv9, e1, e2, e3⟩ := id glR
          have lk := d1.len
          have lD := d2.len
          have lg20 : ksg.length ≤ 20 := by
            have e := congrArg List.length ekg
            rw [List.length_map, List.length_take, List.length_take] at e
            omega
          obtain ⟨dfs, hdf⟩ : ∃ dfs, DTs K 30 _ (fvs.drop s9.toNat ++ fvs.take s9.toNat) dfs := dts_ex fun v hv => by
            obtain ⟨j, hj, ej⟩ := List.getElem_of_mem hv
            have hj' : j < (fms.drop s9.toNat ++ fms.take s9.toNat).length := by rw [← fnRot.1]; exact hj
            obtain ⟨u, u1, u2, u3⟩ := fnRot.2 j _ (List.getElem?_eq_getElem hj')
            rw [List.getElem?_eq_getElem hj, ej] at u1
            obtain rfl := Option.some.inj u1
            have ol := u3.len
            have vl : (vis ⟨ksg, []⟩ (fms.drop s9.toNat ++ fms.take s9.toNat)[j]).length = ksg.length + (fms.drop s9.toNat ++ fms.take s9.toNat)[j].pk.length + (fms.drop s9.toNat ++ fms.take s9.toNat)[j].ow.length := by unfold vis; rw [List.length_append, List.length_append]
            exact fu_dt u2 u3.dep u3.cnt (by omega) (by omega)
          have lf := hdf.len
          rw [rl] at lf
          have hul2 : us.length ≤ 20 := by rw [List.length_map] at hul; omega
          have yB := ((((Same.new hw1 (.lst (fvs.drop s9.toNat))).trans (Same.new hw2 (.lst (fvs.take s9.toNat)))).trans (Same.new hw3 (.lst (fvs.drop s9.toNat ++ fvs.take s9.toNat)))).trans (Same.new hfa (.tup (fvs.drop s9.toNat ++ fvs.take s9.toNat)))).trans (Same.new hR (.tup [.ref k1, .ref k2', .ref g, .ref fa]))
          have yA := (Same.new hk2 (.tup ua)).trans yB
          have gA := DT.tup (n := 5) (Keeps.of_same (K := K) yA k1 us (SqT.of upd_same)) d1 (by omega)
          have gB := DT.tup (n := 3) (Keeps.of_same (K := K) yB k2' ua (SqT.of upd_same)) d2 (by omega)
          have gC := pr_dt e3 (.inl (.inr ⟨o9, e1⟩)) (by omega)
          have gD := DT.tup (n := 30) hfaR hdf (by omega)
          exact ⟨.tuple [.tuple ds, .tuple da, .tuple (ksg.map fun (a : Str × Kd) => PyData.tuple [.str a.1, kdD a.2]), .tuple dfs], DT.tup (n := 39) (p := R) (vs := [.ref k1, .ref k2', .ref g, .ref fa]) (ds := [.tuple ds, .tuple da, .tuple (ksg.map fun (a : Str × Kd) => PyData.tuple [.str a.1, kdD a.2]), .tuple dfs]) (SqT.of upd_same) ⟨gA.up (by decide), gB.up (by decide), gC.up (by decide), gD.up (by decide), trivial⟩ (by show 4 ≤ 1000; decide)⟩
        · show ((fms.drop s9.toNat ++ fms.take s9.toNat).map (·.nm)).Nodup
          have p : (fms.drop s9.toNat ++ fms.take s9.toNat).Perm fms := by
            have := @List.perm_append_comm _ (fms.drop s9.toNat) (fms.take s9.toNat)
            rw [List.take_append_drop] at this
            exact this
          rw [(p.map (·.nm)).nodup_iff, enm]
          exact ndF
        · show ("result" : Str) ∉ ksg.map (·.1)
          rw [ekg]
          exact fun z => zl.nr (List.mem_of_mem_drop (List.mem_of_mem_take (List.mem_of_mem_take z)))
        · show (fms.drop s9.toNat ++ fms.take s9.toNat).length ≤ 10
          rw [rot_len rfl (by omega)]
          exact fm10
end
/-! ### the law -/
def spLaw (K : PySem.W.Frag) : Sp := fun vs H Q _ => ∃ (a : Addr) (ns : List Int), vs = [.ref a] ∧ SqL K H a (ns.map V.int) ∧ ns.length ≤ 63 ∧ ∀ H', Q (.bl true) H'
/-- a program and a function of it -/
def AsAt (K : PySem.W.Frag) (H : Hp) (y : V) (v u : V) (p : PgM) (f : FnM) : Prop := (∃ pr, y = .ref pr ∧ SqT K H pr [v, u]) ∧ PgAt K H v p ∧ PD K H v ∧ FuAt K H u f ∧ FnOk9 p f ∧ (p.fs.map (·.nm)).Nodup ∧ ("result" : Str) ∉ p.gl.map (·.1) ∧ ∃ i : Nat, p.fs[i]? = some f
theorem AsAt.same {K : PySem.W.Frag} {H H' : Hp} {y v u : V} {p : PgM} {f : FnM} (s : Same H H') (h : AsAt K H y v u p f) : AsAt K H' y v u p f := by
  obtain ⟨⟨pr, e, h1⟩, h2, ⟨d, h3⟩, h4, h5⟩ := h
  have k := Keeps.of_same (K := K) s
  exact ⟨⟨pr, e, k _ _ h1⟩, h2.same s, ⟨d, h3.keep k⟩, h4.keep k, h5⟩
/-- all but lists stands -/
def NL (H H' : Hp) : Prop := ∀ b o, (∀ xs, o ≠ .lst xs) → H b = some o → H' b = some o
theorem NL.lst {H : Hp} {D : Addr} {xs : List V} {o : HO} (h : H D = some (.lst xs)) : NL H (upd H D o) := fun b u n e => by
  rw [upd_ne (fun z => by rw [z, h] at e; exact n _ (Option.some.inj e).symm)]
  exact e
theorem NL.keeps {K : PySem.W.Frag} {H H' : Hp} (s : NL H H') : Keeps K H H' := fun p xs h => by
  rcases h with (h | ⟨o, h⟩) | h
  · exact .inl (.inl (s _ _ (fun _ z => nomatch z) h))
  · exact .inl (.inr ⟨o, s _ _ (fun _ z => nomatch z) h⟩)
  · exact .inr h
theorem PgAt.nl {K : PySem.W.Frag} {H H' : Hp} {v : V} {p : PgM} (s : NL H H') (h : PgAt K H v p) : PgAt K H' v p := by
  obtain ⟨a, g, fa, r0, r1, fvs, e, h1, ⟨o, ps, kvs, c1, c2, c3⟩, h3, h4, h5⟩ := h
  have k := s.keeps (K := K)
  refine ⟨a, g, fa, r0, r1, fvs, e, k _ _ h1, ⟨o, ps, kvs, s _ _ (fun _ z => nomatch z) c1, c2, c3.keep k⟩, k _ _ h3, h4, fun i f e => ?_⟩
  obtain ⟨u, h6, h7⟩ := h5 i f e
  exact ⟨u, h6, h7.keep k⟩
theorem AsAt.nl {K : PySem.W.Frag} {H H' : Hp} {y v u : V} {p : PgM} {f : FnM} (s : NL H H') (h : AsAt K H y v u p f) : AsAt K H' y v u p f := by
  obtain ⟨⟨pr, e, h1⟩, h2, ⟨d, h3⟩, h4, h5⟩ := h
  have k := s.keeps (K := K)
  exact ⟨⟨pr, e, k _ _ h1⟩, h2.nl s, ⟨d, h3.keep k⟩, h4.keep k, h5⟩
theorem LyAt.nl {K : PySem.W.Frag} {C : Addr} {H H' : Hp} {x : Addr} {v : V} {p : PgM} {f : FnM} (s : NL H H') (h : LyAt K C H x v p f) : LyAt K C H' x v p f := by
  obtain ⟨dx, d, rv, v1, v2, v3, v4, v5, v6, v7, v8, fs, kvs, hx, x1, x2, x3, x4, x5, x6, x7, x8, x9, y1, n1, y2, n2, y3, n3, y4, n4, y5, n5, y6, n6, y7, n7, y8, n8⟩ := h.ex
  have k := s.keeps (K := K)
  exact ⟨dx, d, rv, v1, v2, v3, v4, v5, v6, v7, v8, fs, kvs, s _ _ (fun _ z => nomatch z) hx, x1, x2, x3, x4.keep k, x5, x6, s _ _ (fun _ z => nomatch z) x7, x8.keep k, x9, y1, n1.keep k, y2, n2.keep k, y3, n3.keep k, y4, n4.keep k, y5, n5.keep k, y6, n6.keep k, y7, n7.keep k, y8, n8.keep k⟩
def AL (K : PySem.W.Frag) (C : Addr) (H : Hp) (ls xs : List V) (j : Nat) : Prop := ls.length = j ∧ ∀ (k : Nat) (y : V), k < j → xs[k]? = some y → ∃ (x : Addr) (v u : V) (p : PgM) (f : FnM), ls[k]? = some (.ref x) ∧ AsAt K H y v u p f ∧ LyAt K C H x v p f
theorem AL.same {K : PySem.W.Frag} {C : Addr} {H H' : Hp} {ls xs : List V} {j : Nat} (s : Same H H') (h : AL K C H ls xs j) : AL K C H' ls xs j := ⟨h.1, fun k y hk e => by
  obtain ⟨x, v, u, p, f, e1, h1, h2⟩ := h.2 k y hk e
  exact ⟨x, v, u, p, f, e1, h1.same s, h2.same s⟩⟩
section
variable {P : Program} {w : World} {K : PySem.W.Frag} {mg : Str → Option Value} {base : Heap}
theorem ok_law (T : Txt w K mg) : FnOk P w K mg base CX0 47 T.a_law T.d_law p_law (spLaw K) := by
  have g_l_cell := ok_l_cell (P := P) (w := w) (K := K) (base := base) T
  have g_l_drawn := ok_l_drawn (P := P) (w := w) (K := K) (base := base) T
  have g_Layout_init := ok_Layout_init (P := P) (w := w) (K := K) (base := base) T
  have g_l_right := ok_l_right (P := P) (w := w) (K := K) (base := base) T
  refine T.F_law.ok sc_law (fun vs H Q E h => ?_) (fun cdv A outer s H vs Q E hr h => ?_)
  · obtain ⟨a, ns, rfl, _⟩ := h
    rfl
  obtain ⟨a, ns, rfl, hS, h63, q⟩ := h
  refine ⟨_, (pss_cons (ps_set (i := 1) sc_law.nd rfl (Or.inl rfl) (pe_lst pa_nil))
      (pss_cons (ps_for PassesOwn.never rfl (pi_range1 rfl T.z_range (pa_cons (pe_callB (call_max2 rfl) rfl T.z_max bb_max (pa_cons pe_int (pa_cons (pe_callB (call_min2 rfl) rfl T.z_min bb_min (pa_cons (pe_callB call_len_seq rfl T.z_len PySem.boot_len (pa_cons (pv 0) pa_nil)) (pa_cons pe_int pa_nil))) pa_nil))) pa_nil)) (pg_name (i := 2) sc_law.nd rfl (Or.inl rfl))
        (pss_cons (ps_set (i := 3) sc_law.nd rfl (Or.inr rfl) (pe_call g_l_drawn (hr.mono (by first | decide | omega)) rfl T.m_l_drawn T.F_l_drawn.kp T.b_l_drawn .nil pass0 (pa_cons (pe_call g_l_cell (hr.mono (by first | decide | omega)) rfl T.m_l_cell T.F_l_cell.kp T.b_l_cell .nil pass0 (pa_cons (pv 0) (pa_cons (pv 2) pa_nil))) pa_nil)))
      (pss_one (ps_set (i := 1) sc_law.nd rfl (Or.inl rfl) (pe_op op_cat (pv 1) (pe_lc (own := [("_law_head", 4)]) (g := gName 4) (tt := tYes) rfl sc_law.nd (pi_tup (pe_ix ix_tup (pv 3) pe_int (fun _ _ => rfl))) (blkOk_by (own := [("_law_head", 4)]) (N := n_law) (sc := defScope s_law) (by decide +kernel)) (fun _ _ _ _ _ => (pg_name (i := 4) sc_law.nd rfl (Or.inl rfl))) (fun _ _ _ _ _ => pts_nil) (fun _ _ _ _ _ => (pe_tup (pa_cons (pv 3) (pa_cons (pv 4) pa_nil))))))))))
      (pss_cons (ps_setLc (i := 5) (own := [("_law_pair", 6)]) (g := gName 6) (tt := tYes) rfl sc_law.nd rfl rfl (sw_true rfl rfl rfl (by decide +kernel)) (pi_list (pv 1)) (blkOk_by (own := [("_law_pair", 6)]) (N := n_law) (sc := defScope s_law) (by decide +kernel)) (fun _ _ _ _ _ => (pg_name (i := 6) sc_law.nd rfl (Or.inl rfl))) (fun _ _ _ _ _ => pts_nil) (fun _ _ _ _ _ => (pe_make T.mk_Layout g_Layout_init (hr.mono (by first | decide | omega)) rfl T.mgc_Layout T.b_Layout_init .nil pass0 (pa_cons (pe_ix (show IxR _ (rIxT K) from ix_tup) (pv 6) pe_int (fun _ _ => rfl)) (pa_cons (pe_ix (show IxR _ (rIxT K) from ix_tup) (pe_ix (show IxR _ (rIxT K) from ix_tup) (pv 6) pe_int (fun _ _ => rfl)) pe_int (fun _ _ => rfl)) pa_nil)))))
      (pss_cons (ps_for PassesOwn.never rfl (pi_range1 rfl T.z_range (pa_cons (pe_callB call_len_seq rfl T.z_len PySem.boot_len (pa_cons (pv 1) pa_nil)) pa_nil)) (pg_name (i := 7) sc_law.nd rfl (Or.inl rfl))
        (pss_one (ps_if (pt_not (pt_val (pe_call g_l_right (hr.mono (by first | decide | omega)) rfl T.m_l_right T.F_l_right.kp T.b_l_right .nil pass0 (pa_cons (pe_ix ix_list (pv 5) (pv 7) (fun _ _ => rfl)) (pa_cons (pe_ix ix_tup (pe_ix ix_list (pv 1) (pv 7) (fun _ _ => rfl)) pe_int (fun _ _ => rfl)) (pa_cons (pe_ix ix_tup (pe_ix ix_list (pv 1) (pv 7) (fun _ _ => rfl)) pe_int (fun _ _ => rfl)) pa_nil)))))) (pss_one (ps_ret pe_bl)) pss_nil)))
      (pss_cons (ps_for PassesOwn.never rfl (pi_range1 rfl T.z_range (pa_cons (pe_callB call_len_seq rfl T.z_len PySem.boot_len (pa_cons (pv 1) pa_nil)) pa_nil)) (pg_name (i := 7) sc_law.nd rfl (Or.inl rfl))
        (pss_cons (ps_set (i := 2) sc_law.nd rfl (Or.inl rfl) (pe_op op_sub (pe_op op_sub (pe_callB call_len_seq rfl T.z_len PySem.boot_len (pa_cons (pv 1) pa_nil)) pe_int) (pv 7)))
      (pss_cons (ps_set (i := 8) sc_law.nd rfl (Or.inl rfl) (pe_make T.mk_Layout g_Layout_init (hr.mono (by first | decide | omega)) rfl T.mgc_Layout T.b_Layout_init .nil pass0 (pa_cons (pe_ix ix_tup (pe_ix ix_list (pv 1) (pv 2) (fun _ _ => rfl)) pe_int (fun _ _ => rfl)) (pa_cons (pe_ix ix_tup (pe_ix ix_tup (pe_ix ix_list (pv 1) (pv 2) (fun _ _ => rfl)) pe_int (fun _ _ => rfl)) pe_int (fun _ _ => rfl)) pa_nil))))
      (pss_one (ps_if (PW.pt (pw_or (pt_not (pt_val (pe_call g_l_right (hr.mono (by first | decide | omega)) rfl T.m_l_right T.F_l_right.kp T.b_l_right .nil pass0 (pa_cons (pv 8) (pa_cons (pe_ix ix_tup (pe_ix ix_list (pv 1) (pv 2) (fun _ _ => rfl)) pe_int (fun _ _ => rfl)) (pa_cons (pe_ix ix_tup (pe_ix ix_list (pv 1) (pv 2) (fun _ _ => rfl)) pe_int (fun _ _ => rfl)) pa_nil)))))) (pw_or1 (pt_not (pt_val (pe_call g_l_right (hr.mono (by first | decide | omega)) rfl T.m_l_right T.F_l_right.kp T.b_l_right .nil pass0 (pa_cons (pe_ix ix_list (pv 5) (pv 7) (fun _ _ => rfl)) (pa_cons (pe_ix ix_tup (pe_ix ix_list (pv 1) (pv 7) (fun _ _ => rfl)) pe_int (fun _ _ => rfl)) (pa_cons (pe_ix ix_tup (pe_ix ix_list (pv 1) (pv 7) (fun _ _ => rfl)) pe_int (fun _ _ => rfl)) pa_nil))))))))) (pss_one (ps_ret pe_bl)) pss_nil)))))
      (pss_one (ps_ret pe_bl))))))), ?_⟩
  have hl : (ns.map V.int).length = ns.length := List.length_map _
  refine ⟨by show 0 ≤ sizeLine; decide, fun l hl0 => ?_⟩
  refine ⟨_, rfl, a, _, rfl, .inl ((Same.new hl0 _).seq hS), _, _, rfl, _, _, rfl, _, rfl, ?_, ?_, for_range (lo := 0) (fun i σ H' => Same H H' ∧ ∃ (l : Addr) (xs : List V) (v2 v3 v4 : Option V), σ = [some (.ref a), some (.ref l), v2, v3, v4, none, none, none, none] ∧
    H' l = some (.lst xs) ∧ xs.length ≤ 10 * i ∧ ∀ y ∈ xs, ∃ v u p f, AsAt K H' y v u p f) ⟨Same.new hl0 _, l, [], none, none, none, rfl, upd_same, Nat.le_refl _, fun v hv => nomatch hv⟩ ?_ ?_⟩
  · repeat' split
    all_goals omega
  · rw [hl]
    repeat' split
    all_goals omega
  · rintro i σ H' hi ⟨sm, l, xs, v2, v3, v4, rfl, hl', hx2, hx⟩
    have hi63 : i < 63 := by
      rw [hl] at hi
      revert hi
      repeat' split
      all_goals omega
    refine ⟨_, rfl, _, rfl, a, ns, _, rfl, sm.seq hS, by omega, fun ci => ?_⟩
    refine ⟨ci, rfl, fun v p H1 s1 hp pd hnd hok hres hlen => ?_⟩
    obtain ⟨pa, g, fa, r0, r1, fvs, rfl, h1, h2, h3, h4, h5⟩ := id hp
    have hl1 := s1 _ _ hl'
    have sm1 := sm.trans s1
    refine ⟨_, rfl, _, rfl, pa, _, 3, _, rfl, rfl, h1, rfl, fa, rfl, ⟨_, h3⟩, fun D hD => ?_⟩
    have nlD : l ≠ D := ne_of_none hl1 hD
    refine lc_it (walk_tup (K := K) (a := fa) (xs := fvs)) (fun j H' => Same H1 H' ∧ ∃ ys : List V, H' D = some (.lst ys) ∧ ys.length = j ∧ ∀ y ∈ ys, ∃ v u p f, AsAt K H' y v u p f) ?_ ?_ ?_ ?_
    · exact ⟨Same.new hD _, [], upd_same, rfl, fun _ z => nomatch z⟩
    · rintro j H' _ ⟨h, _⟩
      exact Same.tup h h3
    · rintro j x H2 H3 hj ⟨sm2, ys, y1, y2, y3⟩ ⟨rfl, hx9⟩
      have hjp : j < p.fs.length := by omega
      obtain ⟨u, hu, fu⟩ := h5 j _ (List.getElem?_eq_getElem hjp)
      rw [hx9] at hu
      obtain rfl := Option.some.inj hu
      refine ⟨rfl, ?_⟩
      dsimp only [tYes]
      rw [if_pos rfl]
      refine ⟨_, rfl, _, rfl, by show 2 ≤ sizeLine; decide, fun t ht => ?_⟩
      have zt := Same.new ht (.tup [.ref pa, x])
      have yD := zt _ _ y1
      have sG : Same H3 (upd (upd H3 t (.tup [.ref pa, x])) D (.lst (ys ++ [.ref t]))) → True := fun _ => trivial
      have sO : Same H1 (upd (upd H3 t (.tup [.ref pa, x])) D (.lst (ys ++ [.ref t]))) := Same.grow hD (sm2.trans zt)
      have kO : Keeps K H3 (upd (upd H3 t (.tup [.ref pa, x])) D (.lst (ys ++ [.ref t]))) := fun b zs h => keep_lst yD _ _ (Keeps.of_same (K := K) zt _ _ h)
      have asK : ∀ {y v u : V} {p : PgM} {f : FnM}, AsAt K H3 y v u p f → AsAt K (upd (upd H3 t (.tup [.ref pa, x])) D (.lst (ys ++ [.ref t]))) y v u p f := fun {y v u p f} h => by
        obtain ⟨⟨pr, e, a1⟩, a2, ⟨d, a3⟩, a4, a5⟩ := h
        obtain ⟨b, g', fa', r0', r1', fvs', e', b1, ⟨o, ps, kvs, c1, c2, c3⟩, b3, b4, b5⟩ := a2
        have gD : g' ≠ D := fun z => by
          rw [z, y1] at c1
          cases c1
        refine ⟨⟨pr, e, kO _ _ a1⟩, ⟨b, g', fa', r0', r1', fvs', e', kO _ _ b1, ⟨o, ps, kvs, by rw [upd_ne gD]; exact zt _ _ c1, c2, c3.keep kO⟩, kO _ _ b3, b4, fun i f e => ?_⟩, ⟨d, a3.keep kO⟩, a4.keep kO, a5⟩
        obtain ⟨u', e1, e2⟩ := b5 i f e
        exact ⟨u', e1, e2.keep kO⟩
      refine ⟨ys, yD, small1000 (by omega), sO, ys ++ [.ref t], upd_same, by rw [List.length_append, y2]; rfl, fun y hy => ?_⟩
      rcases List.mem_append.mp hy with hy | hy
      · obtain ⟨v', u', p', f', h⟩ := y3 y hy
        exact ⟨v', u', p', f', asK h⟩
      · obtain rfl := List.mem_singleton.mp hy
        obtain ⟨pd', hpd⟩ := pd
        refine ⟨.ref pa, x, p, _, ⟨t, rfl, keep_lst yD _ _ (SqT.of upd_same)⟩, hp.same sO, ⟨pd', hpd.keep (Keeps.of_same sO)⟩, fu.keep (Keeps.of_same sO), hok _ (List.getElem_mem hjp), hnd, hres, j, List.getElem?_eq_getElem hjp⟩
    · rintro H9 ⟨sm2, ys, y1, y2, y3⟩
      have hl9 := sm2 _ _ hl1
      refine ⟨l, D, _, _, rfl, rfl, hl9, y1, Nat.le_of_lt (small1000 (by omega)), fun L hL => ?_⟩
      have zL := Same.new hL (.lst (xs ++ ys))
      refine ⟨(sm1.trans sm2).trans zL, L, xs ++ ys, _, _, _, rfl, upd_same, by rw [List.length_append]; omega, fun y hy => ?_⟩
      rcases List.mem_append.mp hy with hy | hy
      · obtain ⟨v', u', p', f', h⟩ := hx y hy
        exact ⟨v', u', p', f', h.same ((s1.trans sm2).trans zL)⟩
      · obtain ⟨v', u', p', f', h⟩ := y3 y hy
        exact ⟨v', u', p', f', h.same zL⟩
  · rintro σ H' ⟨sm, l, xs, v2, v3, v4, rfl, hl', hx2, hx⟩
    have hx60 : xs.length ≤ 630 := by
      rw [hl] at hx2
      revert hx2
      repeat' split
      all_goals omega
    -- the layouts
    refine ⟨_, rfl, l, rfl, ⟨_, SqL.of hl'⟩, fun D hD => ?_⟩
    have nlD : l ≠ D := ne_of_none hl' hD
    refine lc_it (walk_list (K := K) (a := l) (xs := xs)) (fun j H2 => Same H' H2 ∧ ∃ ls : List V, H2 D = some (.lst ls) ∧ AL K T.C_Layout H2 ls xs j) ?_ ?_ ?_ ?_
    · exact ⟨Same.new hD _, [], upd_same, rfl, fun k y hk => by omega⟩
    · rintro j H2 _ ⟨h, _⟩
      exact h.seq (SqL.of hl')
    · rintro j x H2 H3 hj ⟨sm2, ls, e1, al⟩ ⟨rfl, hx9⟩
      obtain ⟨v, u, p, f, as⟩ := hx x (List.mem_of_getElem? hx9)
      have as3 := as.same sm2
      obtain ⟨⟨pr, rfl, a1⟩, a2, a3, a4, a5, a6, a7, i0, a8⟩ := id as3
      obtain ⟨F, b1, b3, bq, bps1, bps3, bkv1, bkv3, brv, bus, rfl, f1, _⟩ := id a4
      refine ⟨rfl, ?_⟩
      dsimp only [tYes]
      rw [if_pos rfl]
      refine ⟨_, rfl, pr, _, 0, _, rfl, rfl, a1, rfl, _, rfl, pr, _, 1, _, rfl, rfl, a1, rfl, F, _, 0, _, rfl, rfl, f1, rfl, fun x dx nx ndx nex => ?_⟩
      have s0 : Same H3 (upd (upd H3 dx (.own x)) x (.ins T.C_Layout dx [])) := fun b o e => by
        rw [upd_ne (ne_of_none e nx), upd_ne (ne_of_none e ndx)]
        exact e
      refine ⟨x, dx, v, p, i0, f, rfl, upd_same, a2.same s0, a8, a6, a5.nd, a5.len, a7, a5.dep, a5.cnt, fun H4 sx ly => ⟨rfl, ?_⟩⟩
      have s4 : Same H3 H4 := fun b o e => sx b o (ne_of_none e nx) (s0 b o e)
      have eD := s4 _ _ e1
      have lsl := al.1
      have hD0 : H' D = none := hD
      have nl := NL.lst (o := .lst (ls ++ [.ref x])) eD
      have as4 := (as3.same s4).nl nl
      refine ⟨ls, eD, small1000 (by omega), Same.grow hD0 (sm2.trans s4), ls ++ [.ref x], upd_same, by rw [List.length_append, lsl]; rfl, fun k y hk ey => ?_⟩
      rcases Nat.lt_or_ge k j with hkj | hkj
      · obtain ⟨x', v', u', p', f', g1, g2, g3⟩ := al.2 k y hkj ey
        exact ⟨x', v', u', p', f', by rw [List.getElem?_append_left (by omega)]; exact g1, (g2.same s4).nl nl, (g3.same s4).nl nl⟩
      · have ekj : k = j := by omega
        subst ekj
        rw [hx9] at ey
        obtain rfl := Option.some.inj ey
        exact ⟨x, v, .ref F, p, f, by rw [List.getElem?_append_right (by omega), lsl, Nat.sub_self]; rfl, as4, ly.nl nl⟩
    · rintro HL ⟨smL, ls, e1, al⟩
      have hlL := smL _ _ hl'
      have lsl := al.1
      -- a look at one of them
      have pick : ∀ (k : Nat) (H2 : Hp), k < xs.length → Same HL H2 → ∃ (y : Addr) (x : Addr) (v u : V) (p : PgM) (f : FnM), xs[k]? = some (.ref y) ∧ ls[k]? = some (.ref x) ∧ SqT K H2 y [v, u] ∧ PgAt K H2 v p ∧ PD K H2 v ∧ FuAt K H2 u f ∧ FnOk9 p f ∧ LyAt K T.C_Layout H2 x v p f ∧ (p.fs.map (·.nm)).Nodup ∧ ("result" : Str) ∉ p.gl.map (·.1) ∧ ∃ i : Nat, p.fs[i]? = some f := fun k H2 hk s2 => by
        obtain ⟨x, v, u, p, f, g1, g2, g3⟩ := al.2 k _ hk (List.getElem?_eq_getElem hk)
        obtain ⟨⟨pr, e, a1⟩, a2, a3, a4, a5, a6, a7, a8⟩ := g2.same s2
        exact ⟨pr, x, v, u, p, f, by rw [List.getElem?_eq_getElem hk, e], g1, a1, a2, a3, a4, a5, g3.same s2, a6, a7, a8⟩
      have at9 : ∀ {k : Nat} {zs : List V} {z : V}, zs[k]? = some z → atI zs (0 + (k : Int)) = some z := fun e => by rw [Int.zero_add]; exact atI_nat e
      refine ⟨_, rfl, l, _, rfl, .inl (SqL.of hlL), _, rfl, by omega, by omega, for_range (lo := 0) (fun i σ H' => Same HL H' ∧ ∃ v7 : Option V, σ = [some (.ref a), some (.ref l), v2, v3, v4, some (.ref D), none, v7, none]) ⟨Same.refl _, none, rfl⟩ ?_ ?_⟩
      · rintro k σ H2 hk ⟨s2, v7, rfl⟩
        have hkx : k < xs.length := by omega
        obtain ⟨y, x, v, u, p, f, gy, gx, a1, a2, a3, a4, a5, a6, _⟩ := pick k H2 hkx s2
        have hl2 := s2 _ _ hlL
        refine ⟨_, rfl, _, rfl, D, _, _, _, rfl, rfl, SqL.of (s2 _ _ e1), at9 gx, _, rfl, _, rfl, l, _, _, _, rfl, rfl, SqL.of hl2, at9 gy, y, _, 0, _, rfl, rfl, a1, rfl, _, rfl, _, rfl, l, _, _, _, rfl, rfl, SqL.of hl2, at9 gy, y, _, 1, _, rfl, rfl, a1, rfl, x, v, u, p, f, rfl, a6, a2, a4, a3, a5, fun H3 s3 => ⟨_, rfl, iteF ?_⟩⟩
        exact ⟨s2.trans s3, _, rfl⟩
      · rintro σ H2 ⟨s2, v7, rfl⟩
        refine ⟨_, rfl, l, _, rfl, .inl (SqL.of (s2 _ _ hlL)), _, rfl, by omega, by omega, for_range (lo := 0) (fun i σ H' => Same HL H' ∧ ∃ v2 v7 v8 : Option V, σ = [some (.ref a), some (.ref l), v2, v3, v4, some (.ref D), none, v7, v8]) ⟨s2, _, _, _, rfl⟩ ?_ ?_⟩
        · rintro k σ H3 hk ⟨s3, v2', v7', v8, rfl⟩
          have hkx : k < xs.length := by omega
          have hl3 := s3 _ _ hlL
          obtain ⟨y, x, v, u, p, f, gy, _, a1, a2, a3, a4, a5, _, a6, a7, i0, a8⟩ := pick (xs.length - 1 - k) H3 (by omega) s3
          have atB : atI xs ((xs.length : Int) - 1 - (0 + (k : Int))) = some (.ref y) := by
            have e : (xs.length : Int) - 1 - (0 + (k : Int)) = ((xs.length - 1 - k : Nat) : Int) := by omega
            rw [e]
            exact atI_nat gy
          obtain ⟨F, b1, b3, bq, bps1, bps3, bkv1, bkv3, brv, bus, rfl, f1, _⟩ := id a4
          refine ⟨_, rfl, l, _, rfl, .inl (SqL.of hl3), _, _, rfl, rfl, _, rfl, _, _, rfl, rfl, ?_⟩
          refine ⟨_, rfl, _, rfl, l, _, _, _, rfl, rfl, SqL.of hl3, atB, y, _, 0, _, rfl, rfl, a1, rfl, _, rfl, _, rfl, l, _, _, _, rfl, rfl, SqL.of hl3, atB, y, _, 1, _, rfl, rfl, a1, rfl, F, _, 0, _, rfl, rfl, f1, rfl, fun x9 dx nx ndx nex => ?_⟩
          have s0 : Same H3 (upd (upd H3 dx (.own x9)) x9 (.ins T.C_Layout dx [])) := fun b o e => by
            rw [upd_ne (ne_of_none e nx), upd_ne (ne_of_none e ndx)]
            exact e
          refine ⟨x9, dx, v, p, i0, f, rfl, upd_same, a2.same s0, a8, a6, a5.nd, a5.len, a7, a5.dep, a5.cnt, fun H4 sx ly => ⟨rfl, ?_⟩⟩
          have s4 : Same H3 H4 := fun b o e => sx b o (ne_of_none e nx) (s0 b o e)
          have hl4 := s4 _ _ hl3
          have k4 := Keeps.of_same (K := K) s4
          obtain ⟨pd', hpd⟩ := a3
          refine ⟨_, rfl, _, rfl, _, rfl, l, _, _, _, rfl, rfl, SqL.of hl4, atB, y, _, 0, _, rfl, rfl, k4 _ _ a1, rfl, _, rfl, _, rfl, l, _, _, _, rfl, rfl, SqL.of hl4, atB, y, _, 1, _, rfl, rfl, k4 _ _ a1, rfl, x9, v, .ref F, p, f, rfl, ly, a2.same s4, a4.keep k4, ⟨pd', hpd.keep k4⟩, a5, fun H5 s5 => ⟨_, rfl, iteF ?_⟩⟩
          have s35 := (s3.trans s4).trans s5
          obtain ⟨y2, x2, v2'', u2, p2, f2, gy2, gx2, c1, c2, c3, c4, c5, c6, _⟩ := pick k H5 hkx s35
          have hl5 := s35 _ _ hlL
          refine ⟨_, rfl, _, rfl, D, _, _, _, rfl, rfl, SqL.of (s35 _ _ e1), at9 gx2, _, rfl, _, rfl, l, _, _, _, rfl, rfl, SqL.of hl5, at9 gy2, y2, _, 0, _, rfl, rfl, c1, rfl, _, rfl, _, rfl, l, _, _, _, rfl, rfl, SqL.of hl5, at9 gy2, y2, _, 1, _, rfl, rfl, c1, rfl, x2, v2'', u2, p2, f2, rfl, c6, c2, c4, c3, c5, fun H6 s6 => ⟨_, rfl, iteF ?_⟩⟩
          exact ⟨s35.trans s6, _, _, _, rfl⟩
        · rintro σ H3 ⟨_, _⟩
          exact q H3
end
theorem all_mk {l : PySem.W.OpenLaw} {w : World} {K : PySem.W.Frag} {h : Heap} {mg : Str → Option Value} {fa : Addr} (X : K.In h) (G : h.Ns mainGlobals mg) (hfa : mg "law" = some (.ref fa))
    {f_bodies_of : Addr} {od_bodies_of an_bodies_of : Option Addr} {sl_bodies_of : Array (Option Value)} {oc_bodies_of kV_bodies_of dc_bodies_of pm_bodies_of cd_bodies_of ct_bodies_of : Value}
    (A_bodies_of : PySem.W.nsIn K mainGlobals "bodies_of" = some (some (.ref f_bodies_of))) (L_bodies_of : K.lookup f_bodies_of = some ⟨oc_bodies_of, od_bodies_of, .func (PySem.W.fnOf "bodies_of" "bodies_of" (defArgs s_bodies_of) (defBody s_bodies_of) (defScope s_bodies_of) .none kV_bodies_of dc_bodies_of pm_bodies_of an_bodies_of cd_bodies_of ct_bodies_of), sl_bodies_of⟩) (C_bodies_of : PySem.W.codeIn K cd_bodies_of "bodies_of" = true) (K_bodies_of : PySem.W.keepIn K (.ref f_bodies_of) = true)
    {f_list_statements td_list_statements : Addr} {od_list_statements an_list_statements dd_list_statements : Option Addr} {sl_list_statements sk_list_statements : Array (Option Value)} {its_list_statements : Array Value} {n_list_statements : Nat} {oc_list_statements kV_list_statements dc_list_statements pm_list_statements cd_list_statements ct_list_statements tt_list_statements : Value}
    (A_list_statements : PySem.W.nsIn K mainGlobals "list_statements" = some (some (.ref f_list_statements))) (L_list_statements : K.lookup f_list_statements = some ⟨oc_list_statements, od_list_statements, .func (PySem.W.fnOf "list_statements" "list_statements" (defArgs s_list_statements) (defBody s_list_statements) (defScope s_list_statements) (.ref td_list_statements) kV_list_statements dc_list_statements pm_list_statements an_list_statements cd_list_statements ct_list_statements), sl_list_statements⟩) (R_list_statements : K.lookup td_list_statements = some ⟨tt_list_statements, dd_list_statements, .seq its_list_statements n_list_statements, sk_list_statements⟩) (W_list_statements : isVs [.bl false] its_list_statements.toList = true) (C_list_statements : PySem.W.codeIn K cd_list_statements "list_statements" = true) (K_list_statements : PySem.W.keepIn K (.ref f_list_statements) = true)
    {f_count_statements : Addr} {od_count_statements an_count_statements : Option Addr} {sl_count_statements : Array (Option Value)} {oc_count_statements kV_count_statements dc_count_statements pm_count_statements cd_count_statements ct_count_statements : Value}
    (A_count_statements : PySem.W.nsIn K mainGlobals "count_statements" = some (some (.ref f_count_statements))) (L_count_statements : K.lookup f_count_statements = some ⟨oc_count_statements, od_count_statements, .func (PySem.W.fnOf "count_statements" "count_statements" (defArgs s_count_statements) (defBody s_count_statements) (defScope s_count_statements) .none kV_count_statements dc_count_statements pm_count_statements an_count_statements cd_count_statements ct_count_statements), sl_count_statements⟩) (C_count_statements : PySem.W.codeIn K cd_count_statements "count_statements" = true) (K_count_statements : PySem.W.keepIn K (.ref f_count_statements) = true)
    {f_nodes : Addr} {od_nodes an_nodes : Option Addr} {sl_nodes : Array (Option Value)} {oc_nodes kV_nodes dc_nodes pm_nodes cd_nodes ct_nodes : Value}
    (A_nodes : PySem.W.nsIn K mainGlobals "nodes" = some (some (.ref f_nodes))) (L_nodes : K.lookup f_nodes = some ⟨oc_nodes, od_nodes, .func (PySem.W.fnOf "nodes" "nodes" (defArgs s_nodes) (defBody s_nodes) (defScope s_nodes) .none kV_nodes dc_nodes pm_nodes an_nodes cd_nodes ct_nodes), sl_nodes⟩) (C_nodes : PySem.W.codeIn K cd_nodes "nodes" = true) (K_nodes : PySem.W.keepIn K (.ref f_nodes) = true)
    {f_heads : Addr} {od_heads an_heads : Option Addr} {sl_heads : Array (Option Value)} {oc_heads kV_heads dc_heads pm_heads cd_heads ct_heads : Value}
    (A_heads : PySem.W.nsIn K mainGlobals "heads" = some (some (.ref f_heads))) (L_heads : K.lookup f_heads = some ⟨oc_heads, od_heads, .func (PySem.W.fnOf "heads" "heads" (defArgs s_heads) (defBody s_heads) (defScope s_heads) .none kV_heads dc_heads pm_heads an_heads cd_heads ct_heads), sl_heads⟩) (C_heads : PySem.W.codeIn K cd_heads "heads" = true) (K_heads : PySem.W.keepIn K (.ref f_heads) = true)
    {f_body_nodes : Addr} {od_body_nodes an_body_nodes : Option Addr} {sl_body_nodes : Array (Option Value)} {oc_body_nodes kV_body_nodes dc_body_nodes pm_body_nodes cd_body_nodes ct_body_nodes : Value}
    (A_body_nodes : PySem.W.nsIn K mainGlobals "body_nodes" = some (some (.ref f_body_nodes))) (L_body_nodes : K.lookup f_body_nodes = some ⟨oc_body_nodes, od_body_nodes, .func (PySem.W.fnOf "body_nodes" "body_nodes" (defArgs s_body_nodes) (defBody s_body_nodes) (defScope s_body_nodes) .none kV_body_nodes dc_body_nodes pm_body_nodes an_body_nodes cd_body_nodes ct_body_nodes), sl_body_nodes⟩) (C_body_nodes : PySem.W.codeIn K cd_body_nodes "body_nodes" = true) (K_body_nodes : PySem.W.keepIn K (.ref f_body_nodes) = true)
    {f_statement_nodes : Addr} {od_statement_nodes an_statement_nodes : Option Addr} {sl_statement_nodes : Array (Option Value)} {oc_statement_nodes kV_statement_nodes dc_statement_nodes pm_statement_nodes cd_statement_nodes ct_statement_nodes : Value}
    (A_statement_nodes : PySem.W.nsIn K mainGlobals "statement_nodes" = some (some (.ref f_statement_nodes))) (L_statement_nodes : K.lookup f_statement_nodes = some ⟨oc_statement_nodes, od_statement_nodes, .func (PySem.W.fnOf "statement_nodes" "statement_nodes" (defArgs s_statement_nodes) (defBody s_statement_nodes) (defScope s_statement_nodes) .none kV_statement_nodes dc_statement_nodes pm_statement_nodes an_statement_nodes cd_statement_nodes ct_statement_nodes), sl_statement_nodes⟩) (C_statement_nodes : PySem.W.codeIn K cd_statement_nodes "statement_nodes" = true) (K_statement_nodes : PySem.W.keepIn K (.ref f_statement_nodes) = true)
    {f_if_nodes : Addr} {od_if_nodes an_if_nodes : Option Addr} {sl_if_nodes : Array (Option Value)} {oc_if_nodes kV_if_nodes dc_if_nodes pm_if_nodes cd_if_nodes ct_if_nodes : Value}
    (A_if_nodes : PySem.W.nsIn K mainGlobals "if_nodes" = some (some (.ref f_if_nodes))) (L_if_nodes : K.lookup f_if_nodes = some ⟨oc_if_nodes, od_if_nodes, .func (PySem.W.fnOf "if_nodes" "if_nodes" (defArgs s_if_nodes) (defBody s_if_nodes) (defScope s_if_nodes) .none kV_if_nodes dc_if_nodes pm_if_nodes an_if_nodes cd_if_nodes ct_if_nodes), sl_if_nodes⟩) (C_if_nodes : PySem.W.codeIn K cd_if_nodes "if_nodes" = true) (K_if_nodes : PySem.W.keepIn K (.ref f_if_nodes) = true)
    {f_first_place : Addr} {od_first_place an_first_place : Option Addr} {sl_first_place : Array (Option Value)} {oc_first_place kV_first_place dc_first_place pm_first_place cd_first_place ct_first_place : Value}
    (A_first_place : PySem.W.nsIn K mainGlobals "first_place" = some (some (.ref f_first_place))) (L_first_place : K.lookup f_first_place = some ⟨oc_first_place, od_first_place, .func (PySem.W.fnOf "first_place" "first_place" (defArgs s_first_place) (defBody s_first_place) (defScope s_first_place) .none kV_first_place dc_first_place pm_first_place an_first_place cd_first_place ct_first_place), sl_first_place⟩) (C_first_place : PySem.W.codeIn K cd_first_place "first_place" = true) (K_first_place : PySem.W.keepIn K (.ref f_first_place) = true)
    {f_is_small : Addr} {od_is_small an_is_small : Option Addr} {sl_is_small : Array (Option Value)} {oc_is_small kV_is_small dc_is_small pm_is_small cd_is_small ct_is_small : Value}
    (A_is_small : PySem.W.nsIn K mainGlobals "is_small" = some (some (.ref f_is_small))) (L_is_small : K.lookup f_is_small = some ⟨oc_is_small, od_is_small, .func (PySem.W.fnOf "is_small" "is_small" (defArgs s_is_small) (defBody s_is_small) (defScope s_is_small) .none kV_is_small dc_is_small pm_is_small an_is_small cd_is_small ct_is_small), sl_is_small⟩) (C_is_small : PySem.W.codeIn K cd_is_small "is_small" = true) (K_is_small : PySem.W.keepIn K (.ref f_is_small) = true)
    {f_is_large : Addr} {od_is_large an_is_large : Option Addr} {sl_is_large : Array (Option Value)} {oc_is_large kV_is_large dc_is_large pm_is_large cd_is_large ct_is_large : Value}
    (A_is_large : PySem.W.nsIn K mainGlobals "is_large" = some (some (.ref f_is_large))) (L_is_large : K.lookup f_is_large = some ⟨oc_is_large, od_is_large, .func (PySem.W.fnOf "is_large" "is_large" (defArgs s_is_large) (defBody s_is_large) (defScope s_is_large) .none kV_is_large dc_is_large pm_is_large an_is_large cd_is_large ct_is_large), sl_is_large⟩) (C_is_large : PySem.W.codeIn K cd_is_large "is_large" = true) (K_is_large : PySem.W.keepIn K (.ref f_is_large) = true)
    {f_is_discrete : Addr} {od_is_discrete an_is_discrete : Option Addr} {sl_is_discrete : Array (Option Value)} {oc_is_discrete kV_is_discrete dc_is_discrete pm_is_discrete cd_is_discrete ct_is_discrete : Value}
    (A_is_discrete : PySem.W.nsIn K mainGlobals "is_discrete" = some (some (.ref f_is_discrete))) (L_is_discrete : K.lookup f_is_discrete = some ⟨oc_is_discrete, od_is_discrete, .func (PySem.W.fnOf "is_discrete" "is_discrete" (defArgs s_is_discrete) (defBody s_is_discrete) (defScope s_is_discrete) .none kV_is_discrete dc_is_discrete pm_is_discrete an_is_discrete cd_is_discrete ct_is_discrete), sl_is_discrete⟩) (C_is_discrete : PySem.W.codeIn K cd_is_discrete "is_discrete" = true) (K_is_discrete : PySem.W.keepIn K (.ref f_is_discrete) = true)
    {f_find_declared : Addr} {od_find_declared an_find_declared : Option Addr} {sl_find_declared : Array (Option Value)} {oc_find_declared kV_find_declared dc_find_declared pm_find_declared cd_find_declared ct_find_declared : Value}
    (A_find_declared : PySem.W.nsIn K mainGlobals "find_declared" = some (some (.ref f_find_declared))) (L_find_declared : K.lookup f_find_declared = some ⟨oc_find_declared, od_find_declared, .func (PySem.W.fnOf "find_declared" "find_declared" (defArgs s_find_declared) (defBody s_find_declared) (defScope s_find_declared) .none kV_find_declared dc_find_declared pm_find_declared an_find_declared cd_find_declared ct_find_declared), sl_find_declared⟩) (C_find_declared : PySem.W.codeIn K cd_find_declared "find_declared" = true) (K_find_declared : PySem.W.keepIn K (.ref f_find_declared) = true)
    {f_function_named : Addr} {od_function_named an_function_named : Option Addr} {sl_function_named : Array (Option Value)} {oc_function_named kV_function_named dc_function_named pm_function_named cd_function_named ct_function_named : Value}
    (A_function_named : PySem.W.nsIn K mainGlobals "function_named" = some (some (.ref f_function_named))) (L_function_named : K.lookup f_function_named = some ⟨oc_function_named, od_function_named, .func (PySem.W.fnOf "function_named" "function_named" (defArgs s_function_named) (defBody s_function_named) (defScope s_function_named) .none kV_function_named dc_function_named pm_function_named an_function_named cd_function_named ct_function_named), sl_function_named⟩) (C_function_named : PySem.W.codeIn K cd_function_named "function_named" = true) (K_function_named : PySem.W.keepIn K (.ref f_function_named) = true)
    {f_visible_kinds : Addr} {od_visible_kinds an_visible_kinds : Option Addr} {sl_visible_kinds : Array (Option Value)} {oc_visible_kinds kV_visible_kinds dc_visible_kinds pm_visible_kinds cd_visible_kinds ct_visible_kinds : Value}
    (A_visible_kinds : PySem.W.nsIn K mainGlobals "visible_kinds" = some (some (.ref f_visible_kinds))) (L_visible_kinds : K.lookup f_visible_kinds = some ⟨oc_visible_kinds, od_visible_kinds, .func (PySem.W.fnOf "visible_kinds" "visible_kinds" (defArgs s_visible_kinds) (defBody s_visible_kinds) (defScope s_visible_kinds) .none kV_visible_kinds dc_visible_kinds pm_visible_kinds an_visible_kinds cd_visible_kinds ct_visible_kinds), sl_visible_kinds⟩) (C_visible_kinds : PySem.W.codeIn K cd_visible_kinds "visible_kinds" = true) (K_visible_kinds : PySem.W.keepIn K (.ref f_visible_kinds) = true)
    {f_discrete_names : Addr} {od_discrete_names an_discrete_names : Option Addr} {sl_discrete_names : Array (Option Value)} {oc_discrete_names kV_discrete_names dc_discrete_names pm_discrete_names cd_discrete_names ct_discrete_names : Value}
    (A_discrete_names : PySem.W.nsIn K mainGlobals "discrete_names" = some (some (.ref f_discrete_names))) (L_discrete_names : K.lookup f_discrete_names = some ⟨oc_discrete_names, od_discrete_names, .func (PySem.W.fnOf "discrete_names" "discrete_names" (defArgs s_discrete_names) (defBody s_discrete_names) (defScope s_discrete_names) .none kV_discrete_names dc_discrete_names pm_discrete_names an_discrete_names cd_discrete_names ct_discrete_names), sl_discrete_names⟩) (C_discrete_names : PySem.W.codeIn K cd_discrete_names "discrete_names" = true) (K_discrete_names : PySem.W.keepIn K (.ref f_discrete_names) = true)
    {f_large_names : Addr} {od_large_names an_large_names : Option Addr} {sl_large_names : Array (Option Value)} {oc_large_names kV_large_names dc_large_names pm_large_names cd_large_names ct_large_names : Value}
    (A_large_names : PySem.W.nsIn K mainGlobals "large_names" = some (some (.ref f_large_names))) (L_large_names : K.lookup f_large_names = some ⟨oc_large_names, od_large_names, .func (PySem.W.fnOf "large_names" "large_names" (defArgs s_large_names) (defBody s_large_names) (defScope s_large_names) .none kV_large_names dc_large_names pm_large_names an_large_names cd_large_names ct_large_names), sl_large_names⟩) (C_large_names : PySem.W.codeIn K cd_large_names "large_names" = true) (K_large_names : PySem.W.keepIn K (.ref f_large_names) = true)
    {f_kinds_of : Addr} {od_kinds_of an_kinds_of : Option Addr} {sl_kinds_of : Array (Option Value)} {oc_kinds_of kV_kinds_of dc_kinds_of pm_kinds_of cd_kinds_of ct_kinds_of : Value}
    (A_kinds_of : PySem.W.nsIn K mainGlobals "kinds_of" = some (some (.ref f_kinds_of))) (L_kinds_of : K.lookup f_kinds_of = some ⟨oc_kinds_of, od_kinds_of, .func (PySem.W.fnOf "kinds_of" "kinds_of" (defArgs s_kinds_of) (defBody s_kinds_of) (defScope s_kinds_of) .none kV_kinds_of dc_kinds_of pm_kinds_of an_kinds_of cd_kinds_of ct_kinds_of), sl_kinds_of⟩) (C_kinds_of : PySem.W.codeIn K cd_kinds_of "kinds_of" = true) (K_kinds_of : PySem.W.keepIn K (.ref f_kinds_of) = true)
    {f_ranges_of : Addr} {od_ranges_of an_ranges_of : Option Addr} {sl_ranges_of : Array (Option Value)} {oc_ranges_of kV_ranges_of dc_ranges_of pm_ranges_of cd_ranges_of ct_ranges_of : Value}
    (A_ranges_of : PySem.W.nsIn K mainGlobals "ranges_of" = some (some (.ref f_ranges_of))) (L_ranges_of : K.lookup f_ranges_of = some ⟨oc_ranges_of, od_ranges_of, .func (PySem.W.fnOf "ranges_of" "ranges_of" (defArgs s_ranges_of) (defBody s_ranges_of) (defScope s_ranges_of) .none kV_ranges_of dc_ranges_of pm_ranges_of an_ranges_of cd_ranges_of ct_ranges_of), sl_ranges_of⟩) (C_ranges_of : PySem.W.codeIn K cd_ranges_of "ranges_of" = true) (K_ranges_of : PySem.W.keepIn K (.ref f_ranges_of) = true)
    {f_l_cell : Addr} {od_l_cell an_l_cell : Option Addr} {sl_l_cell : Array (Option Value)} {oc_l_cell kV_l_cell dc_l_cell pm_l_cell cd_l_cell ct_l_cell : Value}
    (A_l_cell : PySem.W.nsIn K mainGlobals "_law_cell" = some (some (.ref f_l_cell))) (L_l_cell : K.lookup f_l_cell = some ⟨oc_l_cell, od_l_cell, .func (PySem.W.fnOf "_law_cell" "_law_cell" (defArgs s_l_cell) (defBody s_l_cell) (defScope s_l_cell) .none kV_l_cell dc_l_cell pm_l_cell an_l_cell cd_l_cell ct_l_cell), sl_l_cell⟩) (C_l_cell : PySem.W.codeIn K cd_l_cell "_law_cell" = true) (K_l_cell : PySem.W.keepIn K (.ref f_l_cell) = true)
    {f_l_source : Addr} {od_l_source an_l_source : Option Addr} {sl_l_source : Array (Option Value)} {oc_l_source kV_l_source dc_l_source pm_l_source cd_l_source ct_l_source : Value}
    (A_l_source : PySem.W.nsIn K mainGlobals "_law_source" = some (some (.ref f_l_source))) (L_l_source : K.lookup f_l_source = some ⟨oc_l_source, od_l_source, .func (PySem.W.fnOf "_law_source" "_law_source" (defArgs s_l_source) (defBody s_l_source) (defScope s_l_source) .none kV_l_source dc_l_source pm_l_source an_l_source cd_l_source ct_l_source), sl_l_source⟩) (C_l_source : PySem.W.codeIn K cd_l_source "_law_source" = true) (K_l_source : PySem.W.keepIn K (.ref f_l_source) = true)
    {f_l_pick : Addr} {od_l_pick an_l_pick : Option Addr} {sl_l_pick : Array (Option Value)} {oc_l_pick kV_l_pick dc_l_pick pm_l_pick cd_l_pick ct_l_pick : Value}
    (A_l_pick : PySem.W.nsIn K mainGlobals "_law_pick" = some (some (.ref f_l_pick))) (L_l_pick : K.lookup f_l_pick = some ⟨oc_l_pick, od_l_pick, .func (PySem.W.fnOf "_law_pick" "_law_pick" (defArgs s_l_pick) (defBody s_l_pick) (defScope s_l_pick) .none kV_l_pick dc_l_pick pm_l_pick an_l_pick cd_l_pick ct_l_pick), sl_l_pick⟩) (C_l_pick : PySem.W.codeIn K cd_l_pick "_law_pick" = true) (K_l_pick : PySem.W.keepIn K (.ref f_l_pick) = true)
    {f_l_one : Addr} {od_l_one an_l_one : Option Addr} {sl_l_one : Array (Option Value)} {oc_l_one kV_l_one dc_l_one pm_l_one cd_l_one ct_l_one : Value}
    (A_l_one : PySem.W.nsIn K mainGlobals "_law_one" = some (some (.ref f_l_one))) (L_l_one : K.lookup f_l_one = some ⟨oc_l_one, od_l_one, .func (PySem.W.fnOf "_law_one" "_law_one" (defArgs s_l_one) (defBody s_l_one) (defScope s_l_one) .none kV_l_one dc_l_one pm_l_one an_l_one cd_l_one ct_l_one), sl_l_one⟩) (C_l_one : PySem.W.codeIn K cd_l_one "_law_one" = true) (K_l_one : PySem.W.keepIn K (.ref f_l_one) = true)
    {f_l_names : Addr} {od_l_names an_l_names : Option Addr} {sl_l_names : Array (Option Value)} {oc_l_names kV_l_names dc_l_names pm_l_names cd_l_names ct_l_names : Value}
    (A_l_names : PySem.W.nsIn K mainGlobals "_law_names" = some (some (.ref f_l_names))) (L_l_names : K.lookup f_l_names = some ⟨oc_l_names, od_l_names, .func (PySem.W.fnOf "_law_names" "_law_names" (defArgs s_l_names) (defBody s_l_names) (defScope s_l_names) .none kV_l_names dc_l_names pm_l_names an_l_names cd_l_names ct_l_names), sl_l_names⟩) (C_l_names : PySem.W.codeIn K cd_l_names "_law_names" = true) (K_l_names : PySem.W.keepIn K (.ref f_l_names) = true)
    {f_l_same : Addr} {od_l_same an_l_same : Option Addr} {sl_l_same : Array (Option Value)} {oc_l_same kV_l_same dc_l_same pm_l_same cd_l_same ct_l_same : Value}
    (A_l_same : PySem.W.nsIn K mainGlobals "_law_same" = some (some (.ref f_l_same))) (L_l_same : K.lookup f_l_same = some ⟨oc_l_same, od_l_same, .func (PySem.W.fnOf "_law_same" "_law_same" (defArgs s_l_same) (defBody s_l_same) (defScope s_l_same) .none kV_l_same dc_l_same pm_l_same an_l_same cd_l_same ct_l_same), sl_l_same⟩) (C_l_same : PySem.W.codeIn K cd_l_same "_law_same" = true) (K_l_same : PySem.W.keepIn K (.ref f_l_same) = true)
    {f_l_kind : Addr} {od_l_kind an_l_kind : Option Addr} {sl_l_kind : Array (Option Value)} {oc_l_kind kV_l_kind dc_l_kind pm_l_kind cd_l_kind ct_l_kind : Value}
    (A_l_kind : PySem.W.nsIn K mainGlobals "_law_kind" = some (some (.ref f_l_kind))) (L_l_kind : K.lookup f_l_kind = some ⟨oc_l_kind, od_l_kind, .func (PySem.W.fnOf "_law_kind" "_law_kind" (defArgs s_l_kind) (defBody s_l_kind) (defScope s_l_kind) .none kV_l_kind dc_l_kind pm_l_kind an_l_kind cd_l_kind ct_l_kind), sl_l_kind⟩) (C_l_kind : PySem.W.codeIn K cd_l_kind "_law_kind" = true) (K_l_kind : PySem.W.keepIn K (.ref f_l_kind) = true)
    {f_l_is_large : Addr} {od_l_is_large an_l_is_large : Option Addr} {sl_l_is_large : Array (Option Value)} {oc_l_is_large kV_l_is_large dc_l_is_large pm_l_is_large cd_l_is_large ct_l_is_large : Value}
    (A_l_is_large : PySem.W.nsIn K mainGlobals "_law_is_large" = some (some (.ref f_l_is_large))) (L_l_is_large : K.lookup f_l_is_large = some ⟨oc_l_is_large, od_l_is_large, .func (PySem.W.fnOf "_law_is_large" "_law_is_large" (defArgs s_l_is_large) (defBody s_l_is_large) (defScope s_l_is_large) .none kV_l_is_large dc_l_is_large pm_l_is_large an_l_is_large cd_l_is_large ct_l_is_large), sl_l_is_large⟩) (C_l_is_large : PySem.W.codeIn K cd_l_is_large "_law_is_large" = true) (K_l_is_large : PySem.W.keepIn K (.ref f_l_is_large) = true)
    {f_l_pairs : Addr} {od_l_pairs an_l_pairs : Option Addr} {sl_l_pairs : Array (Option Value)} {oc_l_pairs kV_l_pairs dc_l_pairs pm_l_pairs cd_l_pairs ct_l_pairs : Value}
    (A_l_pairs : PySem.W.nsIn K mainGlobals "_law_pairs" = some (some (.ref f_l_pairs))) (L_l_pairs : K.lookup f_l_pairs = some ⟨oc_l_pairs, od_l_pairs, .func (PySem.W.fnOf "_law_pairs" "_law_pairs" (defArgs s_l_pairs) (defBody s_l_pairs) (defScope s_l_pairs) .none kV_l_pairs dc_l_pairs pm_l_pairs an_l_pairs cd_l_pairs ct_l_pairs), sl_l_pairs⟩) (C_l_pairs : PySem.W.codeIn K cd_l_pairs "_law_pairs" = true) (K_l_pairs : PySem.W.keepIn K (.ref f_l_pairs) = true)
    {f_l_body : Addr} {od_l_body an_l_body : Option Addr} {sl_l_body : Array (Option Value)} {oc_l_body kV_l_body dc_l_body pm_l_body cd_l_body ct_l_body : Value}
    (A_l_body : PySem.W.nsIn K mainGlobals "_law_body" = some (some (.ref f_l_body))) (L_l_body : K.lookup f_l_body = some ⟨oc_l_body, od_l_body, .func (PySem.W.fnOf "_law_body" "_law_body" (defArgs s_l_body) (defBody s_l_body) (defScope s_l_body) .none kV_l_body dc_l_body pm_l_body an_l_body cd_l_body ct_l_body), sl_l_body⟩) (C_l_body : PySem.W.codeIn K cd_l_body "_law_body" = true) (K_l_body : PySem.W.keepIn K (.ref f_l_body) = true)
    {f_l_drawn : Addr} {od_l_drawn an_l_drawn : Option Addr} {sl_l_drawn : Array (Option Value)} {oc_l_drawn kV_l_drawn dc_l_drawn pm_l_drawn cd_l_drawn ct_l_drawn : Value}
    (A_l_drawn : PySem.W.nsIn K mainGlobals "_law_drawn" = some (some (.ref f_l_drawn))) (L_l_drawn : K.lookup f_l_drawn = some ⟨oc_l_drawn, od_l_drawn, .func (PySem.W.fnOf "_law_drawn" "_law_drawn" (defArgs s_l_drawn) (defBody s_l_drawn) (defScope s_l_drawn) .none kV_l_drawn dc_l_drawn pm_l_drawn an_l_drawn cd_l_drawn ct_l_drawn), sl_l_drawn⟩) (C_l_drawn : PySem.W.codeIn K cd_l_drawn "_law_drawn" = true) (K_l_drawn : PySem.W.keepIn K (.ref f_l_drawn) = true)
    {f_l_count : Addr} {od_l_count an_l_count : Option Addr} {sl_l_count : Array (Option Value)} {oc_l_count kV_l_count dc_l_count pm_l_count cd_l_count ct_l_count : Value}
    (A_l_count : PySem.W.nsIn K mainGlobals "_law_count" = some (some (.ref f_l_count))) (L_l_count : K.lookup f_l_count = some ⟨oc_l_count, od_l_count, .func (PySem.W.fnOf "_law_count" "_law_count" (defArgs s_l_count) (defBody s_l_count) (defScope s_l_count) .none kV_l_count dc_l_count pm_l_count an_l_count cd_l_count ct_l_count), sl_l_count⟩) (C_l_count : PySem.W.codeIn K cd_l_count "_law_count" = true) (K_l_count : PySem.W.keepIn K (.ref f_l_count) = true)
    {f_l_some_names : Addr} {od_l_some_names an_l_some_names : Option Addr} {sl_l_some_names : Array (Option Value)} {oc_l_some_names kV_l_some_names dc_l_some_names pm_l_some_names cd_l_some_names ct_l_some_names : Value}
    (A_l_some_names : PySem.W.nsIn K mainGlobals "_law_some_names" = some (some (.ref f_l_some_names))) (L_l_some_names : K.lookup f_l_some_names = some ⟨oc_l_some_names, od_l_some_names, .func (PySem.W.fnOf "_law_some_names" "_law_some_names" (defArgs s_l_some_names) (defBody s_l_some_names) (defScope s_l_some_names) .none kV_l_some_names dc_l_some_names pm_l_some_names an_l_some_names cd_l_some_names ct_l_some_names), sl_l_some_names⟩) (C_l_some_names : PySem.W.codeIn K cd_l_some_names "_law_some_names" = true) (K_l_some_names : PySem.W.keepIn K (.ref f_l_some_names) = true)
    {f_l_some_ranges : Addr} {od_l_some_ranges an_l_some_ranges : Option Addr} {sl_l_some_ranges : Array (Option Value)} {oc_l_some_ranges kV_l_some_ranges dc_l_some_ranges pm_l_some_ranges cd_l_some_ranges ct_l_some_ranges : Value}
    (A_l_some_ranges : PySem.W.nsIn K mainGlobals "_law_some_ranges" = some (some (.ref f_l_some_ranges))) (L_l_some_ranges : K.lookup f_l_some_ranges = some ⟨oc_l_some_ranges, od_l_some_ranges, .func (PySem.W.fnOf "_law_some_ranges" "_law_some_ranges" (defArgs s_l_some_ranges) (defBody s_l_some_ranges) (defScope s_l_some_ranges) .none kV_l_some_ranges dc_l_some_ranges pm_l_some_ranges an_l_some_ranges cd_l_some_ranges ct_l_some_ranges), sl_l_some_ranges⟩) (C_l_some_ranges : PySem.W.codeIn K cd_l_some_ranges "_law_some_ranges" = true) (K_l_some_ranges : PySem.W.keepIn K (.ref f_l_some_ranges) = true)
    {f_l_due : Addr} {od_l_due an_l_due : Option Addr} {sl_l_due : Array (Option Value)} {oc_l_due kV_l_due dc_l_due pm_l_due cd_l_due ct_l_due : Value}
    (A_l_due : PySem.W.nsIn K mainGlobals "_law_due" = some (some (.ref f_l_due))) (L_l_due : K.lookup f_l_due = some ⟨oc_l_due, od_l_due, .func (PySem.W.fnOf "_law_due" "_law_due" (defArgs s_l_due) (defBody s_l_due) (defScope s_l_due) .none kV_l_due dc_l_due pm_l_due an_l_due cd_l_due ct_l_due), sl_l_due⟩) (C_l_due : PySem.W.codeIn K cd_l_due "_law_due" = true) (K_l_due : PySem.W.keepIn K (.ref f_l_due) = true)
    {f_l_told : Addr} {od_l_told an_l_told : Option Addr} {sl_l_told : Array (Option Value)} {oc_l_told kV_l_told dc_l_told pm_l_told cd_l_told ct_l_told : Value}
    (A_l_told : PySem.W.nsIn K mainGlobals "_law_told" = some (some (.ref f_l_told))) (L_l_told : K.lookup f_l_told = some ⟨oc_l_told, od_l_told, .func (PySem.W.fnOf "_law_told" "_law_told" (defArgs s_l_told) (defBody s_l_told) (defScope s_l_told) .none kV_l_told dc_l_told pm_l_told an_l_told cd_l_told ct_l_told), sl_l_told⟩) (C_l_told : PySem.W.codeIn K cd_l_told "_law_told" = true) (K_l_told : PySem.W.keepIn K (.ref f_l_told) = true)
    {f_l_right : Addr} {od_l_right an_l_right : Option Addr} {sl_l_right : Array (Option Value)} {oc_l_right kV_l_right dc_l_right pm_l_right cd_l_right ct_l_right : Value}
    (A_l_right : PySem.W.nsIn K mainGlobals "_law_right" = some (some (.ref f_l_right))) (L_l_right : K.lookup f_l_right = some ⟨oc_l_right, od_l_right, .func (PySem.W.fnOf "_law_right" "_law_right" (defArgs s_l_right) (defBody s_l_right) (defScope s_l_right) .none kV_l_right dc_l_right pm_l_right an_l_right cd_l_right ct_l_right), sl_l_right⟩) (C_l_right : PySem.W.codeIn K cd_l_right "_law_right" = true) (K_l_right : PySem.W.keepIn K (.ref f_l_right) = true)
    {f_law : Addr} {od_law an_law : Option Addr} {sl_law : Array (Option Value)} {oc_law kV_law dc_law pm_law cd_law ct_law : Value}
    (A_law : PySem.W.nsIn K mainGlobals "law" = some (some (.ref f_law))) (L_law : K.lookup f_law = some ⟨oc_law, od_law, .func (PySem.W.fnOf "law" "law" (defArgs s_law) (defBody s_law) (defScope s_law) .none kV_law dc_law pm_law an_law cd_law ct_law), sl_law⟩) (C_law : PySem.W.codeIn K cd_law "law" = true) (K_law : PySem.W.keepIn K (.ref f_law) = true)
    {C_Layout : Addr} (A_Layout : PySem.W.nsIn K mainGlobals "Layout" = some (some (.ref C_Layout))) (pg_Layout : PySem.W.plainGet K C_Layout Str.empty = true) (hd_Layout : PySem.W.hasDictIn K C_Layout = true) (po_Layout : PySem.W.plainOver K C_Layout = true) (sa_Layout : PySem.W.findIn K (.ref C_Layout) "__setattr__" = some (some (.builtin "object.__setattr__"))) (kc_Layout : PySem.W.keepIn K (.ref C_Layout) = true)
    (no_Layout_program : PySem.W.findIn K (.ref C_Layout) "program" = some none)
    (no_Layout_name : PySem.W.findIn K (.ref C_Layout) "name" = some none)
    (no_Layout_params : PySem.W.findIn K (.ref C_Layout) "params" = some none)
    (no_Layout_result : PySem.W.findIn K (.ref C_Layout) "result" = some none)
    (no_Layout_body : PySem.W.findIn K (.ref C_Layout) "body" = some none)
    (no_Layout_exit : PySem.W.findIn K (.ref C_Layout) "exit" = some none)
    (no_Layout_graph : PySem.W.findIn K (.ref C_Layout) "graph" = some none)
    (no_Layout_heads : PySem.W.findIn K (.ref C_Layout) "heads" = some none)
    (no_Layout_kinds : PySem.W.findIn K (.ref C_Layout) "kinds" = some none)
    (no_Layout_discrete : PySem.W.findIn K (.ref C_Layout) "discrete" = some none)
    (no_Layout_large : PySem.W.findIn K (.ref C_Layout) "large" = some none)
    (no_Layout_entry_discrete : PySem.W.findIn K (.ref C_Layout) "entry_discrete" = some none)
    (no_Layout_entry_large : PySem.W.findIn K (.ref C_Layout) "entry_large" = some none)
    (no_Layout_exit_discrete : PySem.W.findIn K (.ref C_Layout) "exit_discrete" = some none)
    (no_Layout_exit_large : PySem.W.findIn K (.ref C_Layout) "exit_large" = some none)
    (no_Layout_shared_large : PySem.W.findIn K (.ref C_Layout) "shared_large" = some none)
    (no_Layout_discrete_kinds : PySem.W.findIn K (.ref C_Layout) "discrete_kinds" = some none)
    (no_Layout_entry_kinds : PySem.W.findIn K (.ref C_Layout) "entry_kinds" = some none)
    (no_Layout_exit_kinds : PySem.W.findIn K (.ref C_Layout) "exit_kinds" = some none)
    (no_Layout_ranges : PySem.W.findIn K (.ref C_Layout) "ranges" = some none)
    (no_Layout_exit_ranges : PySem.W.findIn K (.ref C_Layout) "exit_ranges" = some none)
    (mi_Layout : PySem.W.makesIn K C_Layout = true)
    {f_Layout_init : Addr} {od_Layout_init an_Layout_init : Option Addr} {sl_Layout_init : Array (Option Value)} {oc_Layout_init kV_Layout_init dc_Layout_init pm_Layout_init cd_Layout_init ct_Layout_init : Value}
    (A_Layout_init : PySem.W.findIn K (.ref C_Layout) "__init__" = some (some (.ref f_Layout_init))) (I_Layout_init : PySem.W.isFn K (.ref f_Layout_init) = true) (L_Layout_init : K.lookup f_Layout_init = some ⟨oc_Layout_init, od_Layout_init, .func (PySem.W.fnOf "__init__" "Layout.__init__" (defArgs s_Layout_init) (defBody s_Layout_init) (defScope s_Layout_init) .none kV_Layout_init dc_Layout_init pm_Layout_init an_Layout_init cd_Layout_init ct_Layout_init), sl_Layout_init⟩) (C_Layout_init : PySem.W.codeIn K cd_Layout_init "Layout.__init__" = true) (K_Layout_init : PySem.W.keepIn K (.ref f_Layout_init) = true)
    {d_PARTS : Addr} {es_PARTS : Array DictEntry} {n_PARTS : Nat} (A_PARTS : PySem.W.nsIn K mainGlobals "PARTS" = some (some (.ref d_PARTS))) (D_PARTS : K.lookup d_PARTS = some ⟨.type "dict", none, .dict es_PARTS n_PARTS, #[]⟩) (Y_PARTS : PySem.W.KeysLit w.params es_PARTS.toList)
    {r_PARTS_0 : Addr} {dd_PARTS_0 : Option Addr} {its_PARTS_0 : Array Value} {n_PARTS_0 : Nat} {sl_PARTS_0 : Array (Option Value)} (N_PARTS_0 : PySem.W.nsIn K d_PARTS "set" = some (some (.ref r_PARTS_0))) (R_PARTS_0 : K.lookup r_PARTS_0 = some ⟨.type "tuple", dd_PARTS_0, .seq its_PARTS_0 n_PARTS_0, sl_PARTS_0⟩) (V_PARTS_0 : isStrs ["variable", "expression"] its_PARTS_0.toList = true)
    {r_PARTS_1 : Addr} {dd_PARTS_1 : Option Addr} {its_PARTS_1 : Array Value} {n_PARTS_1 : Nat} {sl_PARTS_1 : Array (Option Value)} (N_PARTS_1 : PySem.W.nsIn K d_PARTS "input" = some (some (.ref r_PARTS_1))) (R_PARTS_1 : K.lookup r_PARTS_1 = some ⟨.type "tuple", dd_PARTS_1, .seq its_PARTS_1 n_PARTS_1, sl_PARTS_1⟩) (V_PARTS_1 : isStrs ["variable"] its_PARTS_1.toList = true)
    {r_PARTS_2 : Addr} {dd_PARTS_2 : Option Addr} {its_PARTS_2 : Array Value} {n_PARTS_2 : Nat} {sl_PARTS_2 : Array (Option Value)} (N_PARTS_2 : PySem.W.nsIn K d_PARTS "new" = some (some (.ref r_PARTS_2))) (R_PARTS_2 : K.lookup r_PARTS_2 = some ⟨.type "tuple", dd_PARTS_2, .seq its_PARTS_2 n_PARTS_2, sl_PARTS_2⟩) (V_PARTS_2 : isStrs ["variable"] its_PARTS_2.toList = true)
    {r_PARTS_3 : Addr} {dd_PARTS_3 : Option Addr} {its_PARTS_3 : Array Value} {n_PARTS_3 : Nat} {sl_PARTS_3 : Array (Option Value)} (N_PARTS_3 : PySem.W.nsIn K d_PARTS "free" = some (some (.ref r_PARTS_3))) (R_PARTS_3 : K.lookup r_PARTS_3 = some ⟨.type "tuple", dd_PARTS_3, .seq its_PARTS_3 n_PARTS_3, sl_PARTS_3⟩) (V_PARTS_3 : isStrs ["variable"] its_PARTS_3.toList = true)
    {r_PARTS_4 : Addr} {dd_PARTS_4 : Option Addr} {its_PARTS_4 : Array Value} {n_PARTS_4 : Nat} {sl_PARTS_4 : Array (Option Value)} (N_PARTS_4 : PySem.W.nsIn K d_PARTS "load" = some (some (.ref r_PARTS_4))) (R_PARTS_4 : K.lookup r_PARTS_4 = some ⟨.type "tuple", dd_PARTS_4, .seq its_PARTS_4 n_PARTS_4, sl_PARTS_4⟩) (V_PARTS_4 : isStrs ["variable", "variable", "field"] its_PARTS_4.toList = true)
    {r_PARTS_5 : Addr} {dd_PARTS_5 : Option Addr} {its_PARTS_5 : Array Value} {n_PARTS_5 : Nat} {sl_PARTS_5 : Array (Option Value)} (N_PARTS_5 : PySem.W.nsIn K d_PARTS "store" = some (some (.ref r_PARTS_5))) (R_PARTS_5 : K.lookup r_PARTS_5 = some ⟨.type "tuple", dd_PARTS_5, .seq its_PARTS_5 n_PARTS_5, sl_PARTS_5⟩) (V_PARTS_5 : isStrs ["variable", "field", "expression"] its_PARTS_5.toList = true)
    {r_PARTS_6 : Addr} {dd_PARTS_6 : Option Addr} {its_PARTS_6 : Array Value} {n_PARTS_6 : Nat} {sl_PARTS_6 : Array (Option Value)} (N_PARTS_6 : PySem.W.nsIn K d_PARTS "get" = some (some (.ref r_PARTS_6))) (R_PARTS_6 : K.lookup r_PARTS_6 = some ⟨.type "tuple", dd_PARTS_6, .seq its_PARTS_6 n_PARTS_6, sl_PARTS_6⟩) (V_PARTS_6 : isStrs ["variable", "array", "expression"] its_PARTS_6.toList = true)
    {r_PARTS_7 : Addr} {dd_PARTS_7 : Option Addr} {its_PARTS_7 : Array Value} {n_PARTS_7 : Nat} {sl_PARTS_7 : Array (Option Value)} (N_PARTS_7 : PySem.W.nsIn K d_PARTS "put" = some (some (.ref r_PARTS_7))) (R_PARTS_7 : K.lookup r_PARTS_7 = some ⟨.type "tuple", dd_PARTS_7, .seq its_PARTS_7 n_PARTS_7, sl_PARTS_7⟩) (V_PARTS_7 : isStrs ["array", "expression", "expression"] its_PARTS_7.toList = true)
    {r_PARTS_8 : Addr} {dd_PARTS_8 : Option Addr} {its_PARTS_8 : Array Value} {n_PARTS_8 : Nat} {sl_PARTS_8 : Array (Option Value)} (N_PARTS_8 : PySem.W.nsIn K d_PARTS "call" = some (some (.ref r_PARTS_8))) (R_PARTS_8 : K.lookup r_PARTS_8 = some ⟨.type "tuple", dd_PARTS_8, .seq its_PARTS_8 n_PARTS_8, sl_PARTS_8⟩) (V_PARTS_8 : isStrs ["variable", "function", "arguments"] its_PARTS_8.toList = true)
    {r_PARTS_9 : Addr} {dd_PARTS_9 : Option Addr} {its_PARTS_9 : Array Value} {n_PARTS_9 : Nat} {sl_PARTS_9 : Array (Option Value)} (N_PARTS_9 : PySem.W.nsIn K d_PARTS "return" = some (some (.ref r_PARTS_9))) (R_PARTS_9 : K.lookup r_PARTS_9 = some ⟨.type "tuple", dd_PARTS_9, .seq its_PARTS_9 n_PARTS_9, sl_PARTS_9⟩) (V_PARTS_9 : isStrs ["expression"] its_PARTS_9.toList = true)
    {r_PARTS_10 : Addr} {dd_PARTS_10 : Option Addr} {its_PARTS_10 : Array Value} {n_PARTS_10 : Nat} {sl_PARTS_10 : Array (Option Value)} (N_PARTS_10 : PySem.W.nsIn K d_PARTS "if" = some (some (.ref r_PARTS_10))) (R_PARTS_10 : K.lookup r_PARTS_10 = some ⟨.type "tuple", dd_PARTS_10, .seq its_PARTS_10 n_PARTS_10, sl_PARTS_10⟩) (V_PARTS_10 : isStrs ["expression", "body", "body"] its_PARTS_10.toList = true)
    {r_PARTS_11 : Addr} {dd_PARTS_11 : Option Addr} {its_PARTS_11 : Array Value} {n_PARTS_11 : Nat} {sl_PARTS_11 : Array (Option Value)} (N_PARTS_11 : PySem.W.nsIn K d_PARTS "while" = some (some (.ref r_PARTS_11))) (R_PARTS_11 : K.lookup r_PARTS_11 = some ⟨.type "tuple", dd_PARTS_11, .seq its_PARTS_11 n_PARTS_11, sl_PARTS_11⟩) (V_PARTS_11 : isStrs ["expression", "body"] its_PARTS_11.toList = true)
    {r_PARTS_12 : Addr} {dd_PARTS_12 : Option Addr} {its_PARTS_12 : Array Value} {n_PARTS_12 : Nat} {sl_PARTS_12 : Array (Option Value)} (N_PARTS_12 : PySem.W.nsIn K d_PARTS "break" = some (some (.ref r_PARTS_12))) (R_PARTS_12 : K.lookup r_PARTS_12 = some ⟨.type "tuple", dd_PARTS_12, .seq its_PARTS_12 n_PARTS_12, sl_PARTS_12⟩) (V_PARTS_12 : isStrs [] its_PARTS_12.toList = true)
    {r_PARTS_13 : Addr} {dd_PARTS_13 : Option Addr} {its_PARTS_13 : Array Value} {n_PARTS_13 : Nat} {sl_PARTS_13 : Array (Option Value)} (N_PARTS_13 : PySem.W.nsIn K d_PARTS "assert" = some (some (.ref r_PARTS_13))) (R_PARTS_13 : K.lookup r_PARTS_13 = some ⟨.type "tuple", dd_PARTS_13, .seq its_PARTS_13 n_PARTS_13, sl_PARTS_13⟩) (V_PARTS_13 : isStrs ["expression"] its_PARTS_13.toList = true)
    {u_WIDEST_SMALL : Value} (A_WIDEST_SMALL : PySem.W.nsIn K mainGlobals "WIDEST_SMALL" = some (some u_WIDEST_SMALL)) (U_WIDEST_SMALL : ∃ t, u_WIDEST_SMALL = .int 7 t)
    {u_RESULT : Value} (A_RESULT : PySem.W.nsIn K mainGlobals "RESULT" = some (some u_RESULT)) (U_RESULT : ∃ t, u_RESULT = .str "result" t)
    (Z_bool : PySem.W.nsIn K mainGlobals "bool" = some none)
    (Z_dict : PySem.W.nsIn K mainGlobals "dict" = some none)
    (Z_enumerate : PySem.W.nsIn K mainGlobals "enumerate" = some none)
    (Z_int : PySem.W.nsIn K mainGlobals "int" = some none)
    (Z_isinstance : PySem.W.nsIn K mainGlobals "isinstance" = some none)
    (Z_len : PySem.W.nsIn K mainGlobals "len" = some none)
    (Z_list : PySem.W.nsIn K mainGlobals "list" = some none)
    (Z_max : PySem.W.nsIn K mainGlobals "max" = some none)
    (Z_min : PySem.W.nsIn K mainGlobals "min" = some none)
    (Z_range : PySem.W.nsIn K mainGlobals "range" = some none)
    (Z_str : PySem.W.nsIn K mainGlobals "str" = some none)
    (Z_tuple : PySem.W.nsIn K mainGlobals "tuple" = some none)
    (Z_zip : PySem.W.nsIn K mainGlobals "zip" = some none) :
    ∃ fd : FuncData, (∀ (s : Shared) (v : Value), BindsTo s fd ⟨[v], []⟩ [("_law_script", v)]) ∧ ∀ base : Heap, K.In base → base.Ns mainGlobals mg → FnOk l.prog w K mg base CX0 47 fa fd ["_law_script"] (spLaw K) := by
  have e := hfa.symm.trans (PySem.W.mg_of X G A_law)
  cases e
  let T : Txt w K mg := {
    a_bodies_of := f_bodies_of, d_bodies_of := _, F_bodies_of := fun_mk (st := s_bodies_of) L_bodies_of C_bodies_of K_bodies_of, b_bodies_of := (fun_mk (st := s_bodies_of) L_bodies_of C_bodies_of K_bodies_of).binds (ps := p_bodies_of) (fun _ _ _ _ _ _ us hl => match us, hl with | [_], _ => rfl), m_bodies_of := PySem.W.mg_of X G A_bodies_of,
    a_list_statements := f_list_statements, d_list_statements := _, F_list_statements := (fund_mk (st := s_list_statements) L_list_statements R_list_statements (isVs_vals W_list_statements) (by decide) C_list_statements K_list_statements), b_list_statements := FunD.binds1 (fund_mk (st := s_list_statements) L_list_statements R_list_statements (isVs_vals W_list_statements) (by decide) C_list_statements K_list_statements) 2 1 (by decide) rfl (fun T kV doc pm an cdv ct us its h1 h2 => match us, its, h1, h2 with | [_, _], [_], _, _ => ⟨_, rfl, rfl⟩), e_list_statements := FunD.binds1 (fund_mk (st := s_list_statements) L_list_statements R_list_statements (isVs_vals W_list_statements) (by decide) C_list_statements K_list_statements) 1 0 (by decide) rfl (fun T kV doc pm an cdv ct us its h1 h2 => match us, its, h1, h2 with | [_], [_], _, _ => ⟨_, rfl, rfl⟩), m_list_statements := PySem.W.mg_of X G A_list_statements,
    a_count_statements := f_count_statements, d_count_statements := _, F_count_statements := fun_mk (st := s_count_statements) L_count_statements C_count_statements K_count_statements, b_count_statements := (fun_mk (st := s_count_statements) L_count_statements C_count_statements K_count_statements).binds (ps := p_count_statements) (fun _ _ _ _ _ _ us hl => match us, hl with | [_], _ => rfl), m_count_statements := PySem.W.mg_of X G A_count_statements,
    a_nodes := f_nodes, d_nodes := _, F_nodes := fun_mk (st := s_nodes) L_nodes C_nodes K_nodes, b_nodes := (fun_mk (st := s_nodes) L_nodes C_nodes K_nodes).binds (ps := p_nodes) (fun _ _ _ _ _ _ us hl => match us, hl with | [_], _ => rfl), m_nodes := PySem.W.mg_of X G A_nodes,
    a_heads := f_heads, d_heads := _, F_heads := fun_mk (st := s_heads) L_heads C_heads K_heads, b_heads := (fun_mk (st := s_heads) L_heads C_heads K_heads).binds (ps := p_heads) (fun _ _ _ _ _ _ us hl => match us, hl with | [_], _ => rfl), m_heads := PySem.W.mg_of X G A_heads,
    a_body_nodes := f_body_nodes, d_body_nodes := _, F_body_nodes := fun_mk (st := s_body_nodes) L_body_nodes C_body_nodes K_body_nodes, b_body_nodes := (fun_mk (st := s_body_nodes) L_body_nodes C_body_nodes K_body_nodes).binds (ps := p_body_nodes) (fun _ _ _ _ _ _ us hl => match us, hl with | [_, _, _], _ => rfl), m_body_nodes := PySem.W.mg_of X G A_body_nodes,
    a_statement_nodes := f_statement_nodes, d_statement_nodes := _, F_statement_nodes := fun_mk (st := s_statement_nodes) L_statement_nodes C_statement_nodes K_statement_nodes, b_statement_nodes := (fun_mk (st := s_statement_nodes) L_statement_nodes C_statement_nodes K_statement_nodes).binds (ps := p_statement_nodes) (fun _ _ _ _ _ _ us hl => match us, hl with | [_, _, _], _ => rfl), m_statement_nodes := PySem.W.mg_of X G A_statement_nodes,
    a_if_nodes := f_if_nodes, d_if_nodes := _, F_if_nodes := fun_mk (st := s_if_nodes) L_if_nodes C_if_nodes K_if_nodes, b_if_nodes := (fun_mk (st := s_if_nodes) L_if_nodes C_if_nodes K_if_nodes).binds (ps := p_if_nodes) (fun _ _ _ _ _ _ us hl => match us, hl with | [_, _, _], _ => rfl), m_if_nodes := PySem.W.mg_of X G A_if_nodes,
    a_first_place := f_first_place, d_first_place := _, F_first_place := fun_mk (st := s_first_place) L_first_place C_first_place K_first_place, b_first_place := (fun_mk (st := s_first_place) L_first_place C_first_place K_first_place).binds (ps := p_first_place) (fun _ _ _ _ _ _ us hl => match us, hl with | [_, _, _], _ => rfl), m_first_place := PySem.W.mg_of X G A_first_place,
    a_is_small := f_is_small, d_is_small := _, F_is_small := fun_mk (st := s_is_small) L_is_small C_is_small K_is_small, b_is_small := (fun_mk (st := s_is_small) L_is_small C_is_small K_is_small).binds (ps := p_is_small) (fun _ _ _ _ _ _ us hl => match us, hl with | [_], _ => rfl), m_is_small := PySem.W.mg_of X G A_is_small,
    a_is_large := f_is_large, d_is_large := _, F_is_large := fun_mk (st := s_is_large) L_is_large C_is_large K_is_large, b_is_large := (fun_mk (st := s_is_large) L_is_large C_is_large K_is_large).binds (ps := p_is_large) (fun _ _ _ _ _ _ us hl => match us, hl with | [_], _ => rfl), m_is_large := PySem.W.mg_of X G A_is_large,
    a_is_discrete := f_is_discrete, d_is_discrete := _, F_is_discrete := fun_mk (st := s_is_discrete) L_is_discrete C_is_discrete K_is_discrete, b_is_discrete := (fun_mk (st := s_is_discrete) L_is_discrete C_is_discrete K_is_discrete).binds (ps := p_is_discrete) (fun _ _ _ _ _ _ us hl => match us, hl with | [_], _ => rfl), m_is_discrete := PySem.W.mg_of X G A_is_discrete,
    a_find_declared := f_find_declared, d_find_declared := _, F_find_declared := fun_mk (st := s_find_declared) L_find_declared C_find_declared K_find_declared, b_find_declared := (fun_mk (st := s_find_declared) L_find_declared C_find_declared K_find_declared).binds (ps := p_find_declared) (fun _ _ _ _ _ _ us hl => match us, hl with | [_, _], _ => rfl), m_find_declared := PySem.W.mg_of X G A_find_declared,
    a_function_named := f_function_named, d_function_named := _, F_function_named := fun_mk (st := s_function_named) L_function_named C_function_named K_function_named, b_function_named := (fun_mk (st := s_function_named) L_function_named C_function_named K_function_named).binds (ps := p_function_named) (fun _ _ _ _ _ _ us hl => match us, hl with | [_, _], _ => rfl), m_function_named := PySem.W.mg_of X G A_function_named,
    a_visible_kinds := f_visible_kinds, d_visible_kinds := _, F_visible_kinds := fun_mk (st := s_visible_kinds) L_visible_kinds C_visible_kinds K_visible_kinds, b_visible_kinds := (fun_mk (st := s_visible_kinds) L_visible_kinds C_visible_kinds K_visible_kinds).binds (ps := p_visible_kinds) (fun _ _ _ _ _ _ us hl => match us, hl with | [_, _], _ => rfl), m_visible_kinds := PySem.W.mg_of X G A_visible_kinds,
    a_discrete_names := f_discrete_names, d_discrete_names := _, F_discrete_names := fun_mk (st := s_discrete_names) L_discrete_names C_discrete_names K_discrete_names, b_discrete_names := (fun_mk (st := s_discrete_names) L_discrete_names C_discrete_names K_discrete_names).binds (ps := p_discrete_names) (fun _ _ _ _ _ _ us hl => match us, hl with | [_], _ => rfl), m_discrete_names := PySem.W.mg_of X G A_discrete_names,
    a_large_names := f_large_names, d_large_names := _, F_large_names := fun_mk (st := s_large_names) L_large_names C_large_names K_large_names, b_large_names := (fun_mk (st := s_large_names) L_large_names C_large_names K_large_names).binds (ps := p_large_names) (fun _ _ _ _ _ _ us hl => match us, hl with | [_], _ => rfl), m_large_names := PySem.W.mg_of X G A_large_names,
    a_kinds_of := f_kinds_of, d_kinds_of := _, F_kinds_of := fun_mk (st := s_kinds_of) L_kinds_of C_kinds_of K_kinds_of, b_kinds_of := (fun_mk (st := s_kinds_of) L_kinds_of C_kinds_of K_kinds_of).binds (ps := p_kinds_of) (fun _ _ _ _ _ _ us hl => match us, hl with | [_, _], _ => rfl), m_kinds_of := PySem.W.mg_of X G A_kinds_of,
    a_ranges_of := f_ranges_of, d_ranges_of := _, F_ranges_of := fun_mk (st := s_ranges_of) L_ranges_of C_ranges_of K_ranges_of, b_ranges_of := (fun_mk (st := s_ranges_of) L_ranges_of C_ranges_of K_ranges_of).binds (ps := p_ranges_of) (fun _ _ _ _ _ _ us hl => match us, hl with | [_, _], _ => rfl), m_ranges_of := PySem.W.mg_of X G A_ranges_of,
    a_l_cell := f_l_cell, d_l_cell := _, F_l_cell := fun_mk (st := s_l_cell) L_l_cell C_l_cell K_l_cell, b_l_cell := (fun_mk (st := s_l_cell) L_l_cell C_l_cell K_l_cell).binds (ps := p_l_cell) (fun _ _ _ _ _ _ us hl => match us, hl with | [_, _], _ => rfl), m_l_cell := PySem.W.mg_of X G A_l_cell,
    a_l_source := f_l_source, d_l_source := _, F_l_source := fun_mk (st := s_l_source) L_l_source C_l_source K_l_source, b_l_source := (fun_mk (st := s_l_source) L_l_source C_l_source K_l_source).binds (ps := p_l_source) (fun _ _ _ _ _ _ us hl => match us, hl with | [_], _ => rfl), m_l_source := PySem.W.mg_of X G A_l_source,
    a_l_pick := f_l_pick, d_l_pick := _, F_l_pick := fun_mk (st := s_l_pick) L_l_pick C_l_pick K_l_pick, b_l_pick := (fun_mk (st := s_l_pick) L_l_pick C_l_pick K_l_pick).binds (ps := p_l_pick) (fun _ _ _ _ _ _ us hl => match us, hl with | [_, _], _ => rfl), m_l_pick := PySem.W.mg_of X G A_l_pick,
    a_l_one := f_l_one, d_l_one := _, F_l_one := fun_mk (st := s_l_one) L_l_one C_l_one K_l_one, b_l_one := (fun_mk (st := s_l_one) L_l_one C_l_one K_l_one).binds (ps := p_l_one) (fun _ _ _ _ _ _ us hl => match us, hl with | [_, _], _ => rfl), m_l_one := PySem.W.mg_of X G A_l_one,
    a_l_names := f_l_names, d_l_names := _, F_l_names := fun_mk (st := s_l_names) L_l_names C_l_names K_l_names, b_l_names := (fun_mk (st := s_l_names) L_l_names C_l_names K_l_names).binds (ps := p_l_names) (fun _ _ _ _ _ _ us hl => match us, hl with | [_], _ => rfl), m_l_names := PySem.W.mg_of X G A_l_names,
    a_l_same := f_l_same, d_l_same := _, F_l_same := fun_mk (st := s_l_same) L_l_same C_l_same K_l_same, b_l_same := (fun_mk (st := s_l_same) L_l_same C_l_same K_l_same).binds (ps := p_l_same) (fun _ _ _ _ _ _ us hl => match us, hl with | [_, _], _ => rfl), m_l_same := PySem.W.mg_of X G A_l_same,
    a_l_kind := f_l_kind, d_l_kind := _, F_l_kind := fun_mk (st := s_l_kind) L_l_kind C_l_kind K_l_kind, b_l_kind := (fun_mk (st := s_l_kind) L_l_kind C_l_kind K_l_kind).binds (ps := p_l_kind) (fun _ _ _ _ _ _ us hl => match us, hl with | [_, _, _], _ => rfl), m_l_kind := PySem.W.mg_of X G A_l_kind,
    a_l_is_large := f_l_is_large, d_l_is_large := _, F_l_is_large := fun_mk (st := s_l_is_large) L_l_is_large C_l_is_large K_l_is_large, b_l_is_large := (fun_mk (st := s_l_is_large) L_l_is_large C_l_is_large K_l_is_large).binds (ps := p_l_is_large) (fun _ _ _ _ _ _ us hl => match us, hl with | [_], _ => rfl), m_l_is_large := PySem.W.mg_of X G A_l_is_large,
    a_l_pairs := f_l_pairs, d_l_pairs := _, F_l_pairs := fun_mk (st := s_l_pairs) L_l_pairs C_l_pairs K_l_pairs, b_l_pairs := (fun_mk (st := s_l_pairs) L_l_pairs C_l_pairs K_l_pairs).binds (ps := p_l_pairs) (fun _ _ _ _ _ _ us hl => match us, hl with | [_, _, _, _], _ => rfl), m_l_pairs := PySem.W.mg_of X G A_l_pairs,
    a_l_body := f_l_body, d_l_body := _, F_l_body := fun_mk (st := s_l_body) L_l_body C_l_body K_l_body, b_l_body := (fun_mk (st := s_l_body) L_l_body C_l_body K_l_body).binds (ps := p_l_body) (fun _ _ _ _ _ _ us hl => match us, hl with | [_, _, _, _], _ => rfl), m_l_body := PySem.W.mg_of X G A_l_body,
    a_l_drawn := f_l_drawn, d_l_drawn := _, F_l_drawn := fun_mk (st := s_l_drawn) L_l_drawn C_l_drawn K_l_drawn, b_l_drawn := (fun_mk (st := s_l_drawn) L_l_drawn C_l_drawn K_l_drawn).binds (ps := p_l_drawn) (fun _ _ _ _ _ _ us hl => match us, hl with | [_], _ => rfl), m_l_drawn := PySem.W.mg_of X G A_l_drawn,
    a_l_count := f_l_count, d_l_count := _, F_l_count := fun_mk (st := s_l_count) L_l_count C_l_count K_l_count, b_l_count := (fun_mk (st := s_l_count) L_l_count C_l_count K_l_count).binds (ps := p_l_count) (fun _ _ _ _ _ _ us hl => match us, hl with | [_], _ => rfl), m_l_count := PySem.W.mg_of X G A_l_count,
    a_l_some_names := f_l_some_names, d_l_some_names := _, F_l_some_names := fun_mk (st := s_l_some_names) L_l_some_names C_l_some_names K_l_some_names, b_l_some_names := (fun_mk (st := s_l_some_names) L_l_some_names C_l_some_names K_l_some_names).binds (ps := p_l_some_names) (fun _ _ _ _ _ _ us hl => match us, hl with | [_, _], _ => rfl), m_l_some_names := PySem.W.mg_of X G A_l_some_names,
    a_l_some_ranges := f_l_some_ranges, d_l_some_ranges := _, F_l_some_ranges := fun_mk (st := s_l_some_ranges) L_l_some_ranges C_l_some_ranges K_l_some_ranges, b_l_some_ranges := (fun_mk (st := s_l_some_ranges) L_l_some_ranges C_l_some_ranges K_l_some_ranges).binds (ps := p_l_some_ranges) (fun _ _ _ _ _ _ us hl => match us, hl with | [_], _ => rfl), m_l_some_ranges := PySem.W.mg_of X G A_l_some_ranges,
    a_l_due := f_l_due, d_l_due := _, F_l_due := fun_mk (st := s_l_due) L_l_due C_l_due K_l_due, b_l_due := (fun_mk (st := s_l_due) L_l_due C_l_due K_l_due).binds (ps := p_l_due) (fun _ _ _ _ _ _ us hl => match us, hl with | [_, _], _ => rfl), m_l_due := PySem.W.mg_of X G A_l_due,
    a_l_told := f_l_told, d_l_told := _, F_l_told := fun_mk (st := s_l_told) L_l_told C_l_told K_l_told, b_l_told := (fun_mk (st := s_l_told) L_l_told C_l_told K_l_told).binds (ps := p_l_told) (fun _ _ _ _ _ _ us hl => match us, hl with | [_], _ => rfl), m_l_told := PySem.W.mg_of X G A_l_told,
    a_l_right := f_l_right, d_l_right := _, F_l_right := fun_mk (st := s_l_right) L_l_right C_l_right K_l_right, b_l_right := (fun_mk (st := s_l_right) L_l_right C_l_right K_l_right).binds (ps := p_l_right) (fun _ _ _ _ _ _ us hl => match us, hl with | [_, _, _], _ => rfl), m_l_right := PySem.W.mg_of X G A_l_right,
    a_law := fa, d_law := _, F_law := fun_mk (st := s_law) L_law C_law K_law, b_law := (fun_mk (st := s_law) L_law C_law K_law).binds (ps := p_law) (fun _ _ _ _ _ _ us hl => match us, hl with | [_], _ => rfl), m_law := PySem.W.mg_of X G A_law,
    C_Layout := C_Layout, cl_Layout := ⟨pg_Layout, hd_Layout, po_Layout, sa_Layout⟩, mgc_Layout := PySem.W.mg_of X G A_Layout, ki_Layout := kc_Layout,
    no_Layout_program := no_Layout_program,
    no_Layout_name := no_Layout_name,
    no_Layout_params := no_Layout_params,
    no_Layout_result := no_Layout_result,
    no_Layout_body := no_Layout_body,
    no_Layout_exit := no_Layout_exit,
    no_Layout_graph := no_Layout_graph,
    no_Layout_heads := no_Layout_heads,
    no_Layout_kinds := no_Layout_kinds,
    no_Layout_discrete := no_Layout_discrete,
    no_Layout_large := no_Layout_large,
    no_Layout_entry_discrete := no_Layout_entry_discrete,
    no_Layout_entry_large := no_Layout_entry_large,
    no_Layout_exit_discrete := no_Layout_exit_discrete,
    no_Layout_exit_large := no_Layout_exit_large,
    no_Layout_shared_large := no_Layout_shared_large,
    no_Layout_discrete_kinds := no_Layout_discrete_kinds,
    no_Layout_entry_kinds := no_Layout_entry_kinds,
    no_Layout_exit_kinds := no_Layout_exit_kinds,
    no_Layout_ranges := no_Layout_ranges,
    no_Layout_exit_ranges := no_Layout_exit_ranges,
    a_Layout_init := f_Layout_init, d_Layout_init := _, F_Layout_init := fun_mk (st := s_Layout_init) L_Layout_init C_Layout_init K_Layout_init, b_Layout_init := (fun_mk (st := s_Layout_init) L_Layout_init C_Layout_init K_Layout_init).binds (ps := p_Layout_init) (fun _ _ _ _ _ _ us hl => match us, hl with | [_, _, _], _ => rfl),
    mk_Layout := ⟨mi_Layout, A_Layout_init, I_Layout_init, kc_Layout⟩,
    c_PARTS := ⟨d_PARTS, PySem.W.mg_of X G A_PARTS, by
      intro q hq
      simp only [tb_PARTS, List.mem_cons, List.not_mem_nil, or_false] at hq
      rcases hq with rfl | rfl | rfl | rfl | rfl | rfl | rfl | rfl | rfl | rfl | rfl | rfl | rfl | rfl
      · exact kpart D_PARTS Y_PARTS N_PARTS_0 R_PARTS_0 (by decide) V_PARTS_0
      · exact kpart D_PARTS Y_PARTS N_PARTS_1 R_PARTS_1 (by decide) V_PARTS_1
      · exact kpart D_PARTS Y_PARTS N_PARTS_2 R_PARTS_2 (by decide) V_PARTS_2
      · exact kpart D_PARTS Y_PARTS N_PARTS_3 R_PARTS_3 (by decide) V_PARTS_3
      · exact kpart D_PARTS Y_PARTS N_PARTS_4 R_PARTS_4 (by decide) V_PARTS_4
      · exact kpart D_PARTS Y_PARTS N_PARTS_5 R_PARTS_5 (by decide) V_PARTS_5
      · exact kpart D_PARTS Y_PARTS N_PARTS_6 R_PARTS_6 (by decide) V_PARTS_6
      · exact kpart D_PARTS Y_PARTS N_PARTS_7 R_PARTS_7 (by decide) V_PARTS_7
      · exact kpart D_PARTS Y_PARTS N_PARTS_8 R_PARTS_8 (by decide) V_PARTS_8
      · exact kpart D_PARTS Y_PARTS N_PARTS_9 R_PARTS_9 (by decide) V_PARTS_9
      · exact kpart D_PARTS Y_PARTS N_PARTS_10 R_PARTS_10 (by decide) V_PARTS_10
      · exact kpart D_PARTS Y_PARTS N_PARTS_11 R_PARTS_11 (by decide) V_PARTS_11
      · exact kpart D_PARTS Y_PARTS N_PARTS_12 R_PARTS_12 (by decide) V_PARTS_12
      · exact kpart D_PARTS Y_PARTS N_PARTS_13 R_PARTS_13 (by decide) V_PARTS_13⟩,
    c_WIDEST_SMALL := by obtain ⟨t, e⟩ := U_WIDEST_SMALL; exact ⟨t, by rw [← e]; exact PySem.W.mg_of X G A_WIDEST_SMALL⟩,
    c_RESULT := by obtain ⟨t, e⟩ := U_RESULT; exact ⟨t, by rw [← e]; exact PySem.W.mg_of X G A_RESULT⟩,
    z_bool := PySem.W.mg_none_of X G Z_bool,
    z_dict := PySem.W.mg_none_of X G Z_dict,
    z_enumerate := PySem.W.mg_none_of X G Z_enumerate,
    z_int := PySem.W.mg_none_of X G Z_int,
    z_isinstance := PySem.W.mg_none_of X G Z_isinstance,
    z_len := PySem.W.mg_none_of X G Z_len,
    z_list := PySem.W.mg_none_of X G Z_list,
    z_max := PySem.W.mg_none_of X G Z_max,
    z_min := PySem.W.mg_none_of X G Z_min,
    z_range := PySem.W.mg_none_of X G Z_range,
    z_str := PySem.W.mg_none_of X G Z_str,
    z_tuple := PySem.W.mg_none_of X G Z_tuple,
    z_zip := PySem.W.mg_none_of X G Z_zip }
  refine ⟨PySem.W.fnOf "law" "law" (defArgs s_law) (defBody s_law) (defScope s_law) .none kV_law dc_law pm_law an_law cd_law ct_law, fun s v => .of_eq rfl, fun base _ _ => ok_law T⟩
theorem walk {l : PySem.W.OpenLaw} {q : Program} {loose : List Str} {XP : (Str → Option Value) → Heap → Prop} {YP : World → Heap → Prop} {d : DefRec} {K : Params → PySem.W.Frag} (hn : l.most = some 63) (hdf : d.params.defaults = [])
    (hY : ∀ (w : World) (h : Heap), YP w h → (K w.params).In h)
    (F : ∀ (w : World) (mg : Str → Option Value) (fa : Addr) (h : Heap), (K w.params).In h → h.Ns mainGlobals mg → mg d.name = some (.ref fa) →
      ∃ fd : FuncData, (∀ (s : Shared) (u : Value), BindsTo s fd ⟨[u], []⟩ [("_law_script", u)]) ∧ ∀ base : Heap, (K w.params).In base → base.Ns mainGlobals mg → FnOk l.prog w (K w.params) mg base CX0 47 fa fd ["_law_script"] (spLaw (K w.params))) :
    PySem.W.WalkO q loose XP YP l.row.toRowW d [] (fun f vs => PySem.call f vs) :=
  L2.walk_of (n := 63) (k := 47) (x := "_law_script") (CX := fun _ => CX0) (sp := fun w => spLaw (K w.params)) hn (by decide) hdf ⟨rfl, by decide, by decide⟩ hY F (fun _ _ a ns hl _ hS => ⟨a, ns, rfl, hS, hl, fun _ => rfl⟩) fun _ _ _ _ _ z => z
end Mine
open PySem PySem.W PyProof.Rows
set_option maxRecDepth 100000 in
set_option maxHeartbeats 0 in
theorem PySem.Challenge.cw_neverhappens_k09_layout_holds : PySem.Challenge.rw_neverhappens_k09_layout.Holds := by
  w_on; o_law; k_head; (case hw => w_witness2)
  k_fill
  refine Mine.walk (l := PySem.Challenge.rw_neverhappens_k09_layout) rfl rfl (fun w h Y => PySem.W.kIn_of Y) ?F
  case F =>
    intro w mg fa h KX G hmg
    refine' Mine.all_mk KX G hmg ?A_bodies_of ?L_bodies_of ?C_bodies_of ?K_bodies_of ?A_list_statements ?L_list_statements ?R_list_statements ?W_list_statements ?C_list_statements ?K_list_statements ?A_count_statements ?L_count_statements ?C_count_statements ?K_count_statements ?A_nodes ?L_nodes ?C_nodes ?K_nodes ?A_heads ?L_heads ?C_heads ?K_heads ?A_body_nodes ?L_body_nodes ?C_body_nodes ?K_body_nodes ?A_statement_nodes ?L_statement_nodes ?C_statement_nodes ?K_statement_nodes ?A_if_nodes ?L_if_nodes ?C_if_nodes ?K_if_nodes ?A_first_place ?L_first_place ?C_first_place ?K_first_place ?A_is_small ?L_is_small ?C_is_small ?K_is_small ?A_is_large ?L_is_large ?C_is_large ?K_is_large ?A_is_discrete ?L_is_discrete ?C_is_discrete ?K_is_discrete ?A_find_declared ?L_find_declared ?C_find_declared ?K_find_declared ?A_function_named ?L_function_named ?C_function_named ?K_function_named ?A_visible_kinds ?L_visible_kinds ?C_visible_kinds ?K_visible_kinds ?A_discrete_names ?L_discrete_names ?C_discrete_names ?K_discrete_names ?A_large_names ?L_large_names ?C_large_names ?K_large_names ?A_kinds_of ?L_kinds_of ?C_kinds_of ?K_kinds_of ?A_ranges_of ?L_ranges_of ?C_ranges_of ?K_ranges_of ?A_l_cell ?L_l_cell ?C_l_cell ?K_l_cell ?A_l_source ?L_l_source ?C_l_source ?K_l_source ?A_l_pick ?L_l_pick ?C_l_pick ?K_l_pick ?A_l_one ?L_l_one ?C_l_one ?K_l_one ?A_l_names ?L_l_names ?C_l_names ?K_l_names ?A_l_same ?L_l_same ?C_l_same ?K_l_same ?A_l_kind ?L_l_kind ?C_l_kind ?K_l_kind ?A_l_is_large ?L_l_is_large ?C_l_is_large ?K_l_is_large ?A_l_pairs ?L_l_pairs ?C_l_pairs ?K_l_pairs ?A_l_body ?L_l_body ?C_l_body ?K_l_body ?A_l_drawn ?L_l_drawn ?C_l_drawn ?K_l_drawn ?A_l_count ?L_l_count ?C_l_count ?K_l_count ?A_l_some_names ?L_l_some_names ?C_l_some_names ?K_l_some_names ?A_l_some_ranges ?L_l_some_ranges ?C_l_some_ranges ?K_l_some_ranges ?A_l_due ?L_l_due ?C_l_due ?K_l_due ?A_l_told ?L_l_told ?C_l_told ?K_l_told ?A_l_right ?L_l_right ?C_l_right ?K_l_right ?A_law ?L_law ?C_law ?K_law ?A_Layout ?pg_Layout ?hd_Layout ?po_Layout ?sa_Layout ?kc_Layout ?no_Layout_program ?no_Layout_name ?no_Layout_params ?no_Layout_result ?no_Layout_body ?no_Layout_exit ?no_Layout_graph ?no_Layout_heads ?no_Layout_kinds ?no_Layout_discrete ?no_Layout_large ?no_Layout_entry_discrete ?no_Layout_entry_large ?no_Layout_exit_discrete ?no_Layout_exit_large ?no_Layout_shared_large ?no_Layout_discrete_kinds ?no_Layout_entry_kinds ?no_Layout_exit_kinds ?no_Layout_ranges ?no_Layout_exit_ranges ?mi_Layout ?A_Layout_init ?I_Layout_init ?L_Layout_init ?C_Layout_init ?K_Layout_init ?A_PARTS ?D_PARTS ?Y_PARTS ?N_PARTS_0 ?R_PARTS_0 ?V_PARTS_0 ?N_PARTS_1 ?R_PARTS_1 ?V_PARTS_1 ?N_PARTS_2 ?R_PARTS_2 ?V_PARTS_2 ?N_PARTS_3 ?R_PARTS_3 ?V_PARTS_3 ?N_PARTS_4 ?R_PARTS_4 ?V_PARTS_4 ?N_PARTS_5 ?R_PARTS_5 ?V_PARTS_5 ?N_PARTS_6 ?R_PARTS_6 ?V_PARTS_6 ?N_PARTS_7 ?R_PARTS_7 ?V_PARTS_7 ?N_PARTS_8 ?R_PARTS_8 ?V_PARTS_8 ?N_PARTS_9 ?R_PARTS_9 ?V_PARTS_9 ?N_PARTS_10 ?R_PARTS_10 ?V_PARTS_10 ?N_PARTS_11 ?R_PARTS_11 ?V_PARTS_11 ?N_PARTS_12 ?R_PARTS_12 ?V_PARTS_12 ?N_PARTS_13 ?R_PARTS_13 ?V_PARTS_13 ?A_WIDEST_SMALL ?U_WIDEST_SMALL ?A_RESULT ?U_RESULT ?Z_bool ?Z_dict ?Z_enumerate ?Z_int ?Z_isinstance ?Z_len ?Z_list ?Z_max ?Z_min ?Z_range ?Z_str ?Z_tuple ?Z_zip
    (case A_bodies_of => k_is)
    (case L_bodies_of => k_is)
    (case C_bodies_of => k_is)
    (case K_bodies_of => k_is)
    (case A_list_statements => k_is)
    (case L_list_statements => k_is)
    (case R_list_statements => k_is)
    (case W_list_statements => first | rfl | decide +kernel)
    (case C_list_statements => k_is)
    (case K_list_statements => k_is)
    (case A_count_statements => k_is)
    (case L_count_statements => k_is)
    (case C_count_statements => k_is)
    (case K_count_statements => k_is)
    (case A_nodes => k_is)
    (case L_nodes => k_is)
    (case C_nodes => k_is)
    (case K_nodes => k_is)
    (case A_heads => k_is)
    (case L_heads => k_is)
    (case C_heads => k_is)
    (case K_heads => k_is)
    (case A_body_nodes => k_is)
    (case L_body_nodes => k_is)
    (case C_body_nodes => k_is)
    (case K_body_nodes => k_is)
    (case A_statement_nodes => k_is)
    (case L_statement_nodes => k_is)
    (case C_statement_nodes => k_is)
    (case K_statement_nodes => k_is)
    (case A_if_nodes => k_is)
    (case L_if_nodes => k_is)
    (case C_if_nodes => k_is)
    (case K_if_nodes => k_is)
    (case A_first_place => k_is)
    (case L_first_place => k_is)
    (case C_first_place => k_is)
    (case K_first_place => k_is)
    (case A_is_small => k_is)
    (case L_is_small => k_is)
    (case C_is_small => k_is)
    (case K_is_small => k_is)
    (case A_is_large => k_is)
    (case L_is_large => k_is)
    (case C_is_large => k_is)
    (case K_is_large => k_is)
    (case A_is_discrete => k_is)
    (case L_is_discrete => k_is)
    (case C_is_discrete => k_is)
    (case K_is_discrete => k_is)
    (case A_find_declared => k_is)
    (case L_find_declared => k_is)
    (case C_find_declared => k_is)
    (case K_find_declared => k_is)
    (case A_function_named => k_is)
    (case L_function_named => k_is)
    (case C_function_named => k_is)
    (case K_function_named => k_is)
    (case A_visible_kinds => k_is)
    (case L_visible_kinds => k_is)
    (case C_visible_kinds => k_is)
    (case K_visible_kinds => k_is)
    (case A_discrete_names => k_is)
    (case L_discrete_names => k_is)
    (case C_discrete_names => k_is)
    (case K_discrete_names => k_is)
    (case A_large_names => k_is)
    (case L_large_names => k_is)
    (case C_large_names => k_is)
    (case K_large_names => k_is)
    (case A_kinds_of => k_is)
    (case L_kinds_of => k_is)
    (case C_kinds_of => k_is)
    (case K_kinds_of => k_is)
    (case A_ranges_of => k_is)
    (case L_ranges_of => k_is)
    (case C_ranges_of => k_is)
    (case K_ranges_of => k_is)
    (case A_l_cell => k_is)
    (case L_l_cell => k_is)
    (case C_l_cell => k_is)
    (case K_l_cell => k_is)
    (case A_l_source => k_is)
    (case L_l_source => k_is)
    (case C_l_source => k_is)
    (case K_l_source => k_is)
    (case A_l_pick => k_is)
    (case L_l_pick => k_is)
    (case C_l_pick => k_is)
    (case K_l_pick => k_is)
    (case A_l_one => k_is)
    (case L_l_one => k_is)
    (case C_l_one => k_is)
    (case K_l_one => k_is)
    (case A_l_names => k_is)
    (case L_l_names => k_is)
    (case C_l_names => k_is)
    (case K_l_names => k_is)
    (case A_l_same => k_is)
    (case L_l_same => k_is)
    (case C_l_same => k_is)
    (case K_l_same => k_is)
    (case A_l_kind => k_is)
    (case L_l_kind => k_is)
    (case C_l_kind => k_is)
    (case K_l_kind => k_is)
    (case A_l_is_large => k_is)
    (case L_l_is_large => k_is)
    (case C_l_is_large => k_is)
    (case K_l_is_large => k_is)
    (case A_l_pairs => k_is)
    (case L_l_pairs => k_is)
    (case C_l_pairs => k_is)
    (case K_l_pairs => k_is)
    (case A_l_body => k_is)
    (case L_l_body => k_is)
    (case C_l_body => k_is)
    (case K_l_body => k_is)
    (case A_l_drawn => k_is)
    (case L_l_drawn => k_is)
    (case C_l_drawn => k_is)
    (case K_l_drawn => k_is)
    (case A_l_count => k_is)
    (case L_l_count => k_is)
    (case C_l_count => k_is)
    (case K_l_count => k_is)
    (case A_l_some_names => k_is)
    (case L_l_some_names => k_is)
    (case C_l_some_names => k_is)
    (case K_l_some_names => k_is)
    (case A_l_some_ranges => k_is)
    (case L_l_some_ranges => k_is)
    (case C_l_some_ranges => k_is)
    (case K_l_some_ranges => k_is)
    (case A_l_due => k_is)
    (case L_l_due => k_is)
    (case C_l_due => k_is)
    (case K_l_due => k_is)
    (case A_l_told => k_is)
    (case L_l_told => k_is)
    (case C_l_told => k_is)
    (case K_l_told => k_is)
    (case A_l_right => k_is)
    (case L_l_right => k_is)
    (case C_l_right => k_is)
    (case K_l_right => k_is)
    (case A_law => k_is)
    (case L_law => k_is)
    (case C_law => k_is)
    (case K_law => k_is)
    (case A_Layout => k_is)
    (case pg_Layout => k_is)
    (case hd_Layout => k_is)
    (case po_Layout => k_is)
    (case sa_Layout => k_is)
    (case kc_Layout => k_is)
    (case no_Layout_program => k_is)
    (case no_Layout_name => k_is)
    (case no_Layout_params => k_is)
    (case no_Layout_result => k_is)
    (case no_Layout_body => k_is)
    (case no_Layout_exit => k_is)
    (case no_Layout_graph => k_is)
    (case no_Layout_heads => k_is)
    (case no_Layout_kinds => k_is)
    (case no_Layout_discrete => k_is)
    (case no_Layout_large => k_is)
    (case no_Layout_entry_discrete => k_is)
    (case no_Layout_entry_large => k_is)
    (case no_Layout_exit_discrete => k_is)
    (case no_Layout_exit_large => k_is)
    (case no_Layout_shared_large => k_is)
    (case no_Layout_discrete_kinds => k_is)
    (case no_Layout_entry_kinds => k_is)
    (case no_Layout_exit_kinds => k_is)
    (case no_Layout_ranges => k_is)
    (case no_Layout_exit_ranges => k_is)
    (case mi_Layout => k_is)
    (case A_Layout_init => k_is)
    (case I_Layout_init => k_is)
    (case L_Layout_init => k_is)
    (case C_Layout_init => k_is)
    (case K_Layout_init => k_is)
    (case A_PARTS => k_is)
    (case D_PARTS => k_is)
    (case Y_PARTS => (repeat' (first | exact True.intro | (refine ⟨⟨_, _, rfl, rfl⟩, ?_⟩))))
    (case N_PARTS_0 => k_is)
    (case R_PARTS_0 => k_is)
    (case V_PARTS_0 => first | rfl | decide +kernel)
    (case N_PARTS_1 => k_is)
    (case R_PARTS_1 => k_is)
    (case V_PARTS_1 => first | rfl | decide +kernel)
    (case N_PARTS_2 => k_is)
    (case R_PARTS_2 => k_is)
    (case V_PARTS_2 => first | rfl | decide +kernel)
    (case N_PARTS_3 => k_is)
    (case R_PARTS_3 => k_is)
    (case V_PARTS_3 => first | rfl | decide +kernel)
    (case N_PARTS_4 => k_is)
    (case R_PARTS_4 => k_is)
    (case V_PARTS_4 => first | rfl | decide +kernel)
    (case N_PARTS_5 => k_is)
    (case R_PARTS_5 => k_is)
    (case V_PARTS_5 => first | rfl | decide +kernel)
    (case N_PARTS_6 => k_is)
    (case R_PARTS_6 => k_is)
    (case V_PARTS_6 => first | rfl | decide +kernel)
    (case N_PARTS_7 => k_is)
    (case R_PARTS_7 => k_is)
    (case V_PARTS_7 => first | rfl | decide +kernel)
    (case N_PARTS_8 => k_is)
    (case R_PARTS_8 => k_is)
    (case V_PARTS_8 => first | rfl | decide +kernel)
    (case N_PARTS_9 => k_is)
    (case R_PARTS_9 => k_is)
    (case V_PARTS_9 => first | rfl | decide +kernel)
    (case N_PARTS_10 => k_is)
    (case R_PARTS_10 => k_is)
    (case V_PARTS_10 => first | rfl | decide +kernel)
    (case N_PARTS_11 => k_is)
    (case R_PARTS_11 => k_is)
    (case V_PARTS_11 => first | rfl | decide +kernel)
    (case N_PARTS_12 => k_is)
    (case R_PARTS_12 => k_is)
    (case V_PARTS_12 => first | rfl | decide +kernel)
    (case N_PARTS_13 => k_is)
    (case R_PARTS_13 => k_is)
    (case V_PARTS_13 => first | rfl | decide +kernel)
    (case A_WIDEST_SMALL => k_is)
    (case U_WIDEST_SMALL => exact ⟨_, rfl⟩)
    (case A_RESULT => k_is)
    (case U_RESULT => exact ⟨_, rfl⟩)
    (case Z_bool => k_is)
    (case Z_dict => k_is)
    (case Z_enumerate => k_is)
    (case Z_int => k_is)
    (case Z_isinstance => k_is)
    (case Z_len => k_is)
    (case Z_list => k_is)
    (case Z_max => k_is)
    (case Z_min => k_is)
    (case Z_range => k_is)
    (case Z_str => k_is)
    (case Z_tuple => k_is)
    (case Z_zip => k_is)
#print axioms PySem.Challenge.cw_neverhappens_k09_layout_holds
