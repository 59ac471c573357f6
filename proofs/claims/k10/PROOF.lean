import PyProof.Rows.All
import Wide.All
import OpenK.AllK
import Wide.FinOn
import HandS.ForMost
import HandS.IsInst
import HandS.FStr
import HandS.Codes
import HandS.Star
import HandS.Zip
import HandS.More
import HandS.Defaults
import HandS.Rev
import HandS.Walk
import HandS.TupAny
import HandS.Style
import KE.GoesMore
import PySem.Challenge.RW_neverhappens_k10_nodes
set_option Elab.async false
set_option linter.all false
set_option maxRecDepth 100000
set_option maxHeartbeats 4000000
namespace EnT
open PySem PySem.Spec PyProof.Rows L2
/-! ### enumerate over a tuple -/
theorem meets_enumT (l : Addr) (items : Array Value) :
    Meets (Builtin.«enumerate.__new__» ⟨[.type "enumerate", .ref l], []⟩) (fun _ R s => s.heap.IsTuple l items ∧
      R (.ok (.ret (.ref (s.heap.push { cls := .type "tuple_iterator", data := .fields #[.ref l, .int 0 0] }).objs.size)))
        { s with heap := (s.heap.push { cls := .type "tuple_iterator", data := .fields #[.ref l, .int 0 0] }).push { cls := .type "enumerate", data := .fields #[.none, .bool false, .ref s.heap.objs.size, rawInt 0, .none, .none] } }) :=
  .of_wp fun prog w A R s h => by
    obtain ⟨hp, g, d, tk, os⟩ := s; obtain ⟨hl, h⟩ := h
    have hsub := sub_enumerate
    have q1 : ∀ {A' : Around} {E : Value → Shared → Prop} {Q : Value → Shared → Prop}, Q (.ref hp.objs.size) ⟨hp.push { cls := .type "tuple_iterator", data := .fields #[.ref l, .int 0 0] }, g, d, tk, os⟩ → wpAny (model prog w) A' (pyIter (.ref l)) Q E ⟨hp, g, d, tk, os⟩ :=
      fun q => wpAny_pyIter_tuple (s := ⟨hp, g, d, tk, os⟩) hl q
    wp_walk using q1
    refine wpAny_stack_any fun st => wpAny_pure ?_
    split
    · rename_i c _ _ _ _ _
      cases (c == Value.type "enumerate")
      · wp_walk using q1
        exact ⟨_, rfl, h⟩
      · wp_walk using q1
        exact ⟨_, rfl, h⟩
    · wp_walk using q1
      exact ⟨_, rfl, h⟩
theorem call_enumT {prog : Program} {w : World} {A : Around} {E : Value → Shared → Prop} {s : Shared} {l : Addr} {items : Array Value} {Q : Value → Shared → Prop} (hL : s.heap.IsTuple l items)
    (h : ∀ h', IsEnum h' (s.heap.objs.size + 1) s.heap.objs.size 0 .none → h'.IsTupleIter s.heap.objs.size l 0 → h'.objs.size = s.heap.objs.size + 2 →
      (∀ b o, s.heap.get? b = some o → h'.get? b = some o) → Q (.ref (s.heap.objs.size + 1)) { s with heap := h' }) :
    wpAny (model prog w) A (call (.type "enumerate") [.ref l]) Q E s := by
  refine callType_new F.called_enumerate (by decide) (F.typeCall_enumerate_1 _) (F.newCall_enumerate_1 _) (fun obj => F.args_object_init_2 obj _) F.entry_enumerate_new
    (meets_enumT l items) ⟨hL, ?_⟩
  have hz : (s.heap.push { cls := .type "tuple_iterator", data := .fields #[.ref l, .int 0 0] }).objs.size = s.heap.objs.size + 1 := Heap.size_push ..
  show _ ∧ _
  rw [hz]
  have he : IsEnum ((s.heap.push { cls := .type "tuple_iterator", data := .fields #[.ref l, .int 0 0] }).push
      { cls := .type "enumerate", data := .fields #[.none, .bool false, .ref s.heap.objs.size, rawInt 0, .none, .none] }) (s.heap.objs.size + 1) s.heap.objs.size 0 .none := by
    have := Heap.get?_push_size (s.heap.push { cls := .type "tuple_iterator", data := .fields #[.ref l, .int 0 0] })
      (o := { cls := .type "enumerate", data := .fields #[.none, .bool false, .ref s.heap.objs.size, rawInt 0, .none, .none] }) rfl
    rw [hz] at this; exact this
  refine ⟨⟨_, he, rfl⟩, h _ he ⟨_, Heap.get?_push_of_some _ (Heap.get?_push_size _ rfl), rfl, rfl⟩ (by rw [Heap.size_push, hz]) fun b o x => Heap.get?_push_of_some _ (Heap.get?_push_of_some _ x)⟩
/-- the tuple at a as it stands at each turn, each item in a new pair -/
def IteT (K : PySem.W.Frag) (a : Addr) : It :=
  ⟨fun i H => ∃ (xs : List V) (x : V), SqT K H a xs ∧ xs[i]? = some x, fun i H v H' => ∃ T x, v = .ref T ∧ H T = none ∧ H' = upd H T (.tup [.int (i : Nat), x]) ∧ ∀ xs, SqT K H a xs → xs[i]? = some x, fun i H => ∃ xs : List V, SqT K H a xs ∧ xs.length ≤ i⟩
theorem enumT_end {prog : Program} {w : World} {A : Around} {E : Value → Shared → Prop} {s : Shared} {e it t : Addr} {i : Nat} {items : Array Value} {old : Value} {Q : Option Value → Shared → Prop} (hh : A.handled = none)
    (he : IsEnum s.heap e it i old) (hit : s.heap.IsTupleIter it t i) (ht : s.heap.IsTuple t items) (hx : items[i]? = none)
    (hQ : ∀ h', Heap.ExtBut it s.heap h' → Q none { s with heap := h' }) : wpAny (model prog w) A (pyNext (.ref e)) Q E s := by
  have hT : s.TypeIs (.ref e) "enumerate" := ⟨_, he, rfl⟩
  unfold pyNext
  refine wpAny_bind (wpAny_attempt (wpAny_callSpecial?_slot (name := Str.ofString "__next__") hT F.slot_enumerate_next
    (wpAny_call_entry F.slot_enumerate_next hT F.entry_enumerate_next ?_ (F.args_enumerate_next_1 _))))
  show wpAny _ _ (field (.ref e) 2 >>= _) _ _ _
  refine wpAny_bind (wpAny_field he rfl (x := .ref it) rfl ?_)
  refine wpAny_bind (wpAny_nextOf_tuple_end (A := A.in1) hh hit ht hx fun h' x he' hx' => ?_)
  obtain ⟨o, ho, hc⟩ := hx'
  refine wpAny_bind (wpAny_isInstance (T := "StopIteration") (b := true) ⟨o, ho, hc⟩ isSubtype_stop ?_)
  exact wpAny_pure (hQ _ he')
theorem turn_enumT {P : Program} {w : World} {K : PySem.W.Frag} {elts : List Expr} {kk : Nat} {tpos : Pos} (a e it : Addr) :
    Turn P w K (.Tuple elts kk tpos) (IteT K a) [e, it] e (fun i h => (∃ old, IsEnum h e it ((i : Nat) : Int) old) ∧ h.IsTupleIter it a i ∧ e ≠ it) where
  mem := by simp
  obj := fun i h st b hb => by
    obtain ⟨⟨old, he⟩, ⟨o, ho, hc, hd⟩, _⟩ := st
    have e' : b = e ∨ b = it := by simpa using hb
    rcases e' with z | z
    · rw [z]; exact ⟨_, he, fun v q => nomatch q⟩
    · rw [z]; exact ⟨o, ho, fun v q => by rw [hd] at q; cases q⟩
  keep := fun i h h' st k => let ⟨⟨old, he⟩, hi, hne⟩ := st; ⟨⟨old, k e (by simp) _ he⟩, hi.at fun o q => k it (by simp) o q, hne⟩
  item := by
    intro X hP hw hK hc i pins s σ H E I hf st hg
    subst hP hw hK
    obtain ⟨⟨old, he⟩, hit, hne⟩ := st
    obtain ⟨xs, x, hq, hx⟩ := hg
    obtain ⟨its, rv, p, hz⟩ := I.tuple hq
    obtain ⟨u, hu, ru⟩ := rv.get hx
    have hel : e < s.heap.objs.size := Heap.lt_size he
    have hil : it < s.heap.objs.size := by obtain ⟨_, q, _⟩ := hit; exact Heap.lt_size q
    have hT0 : s.heap.IsTuple a its.toArray := p
    have nae : e ≠ a := fun z => by
      obtain ⟨o, ho, hcl, _⟩ := hT0
      rw [← z, he] at ho
      obtain rfl := Option.some.inj ho
      exact absurd (show Value.type "enumerate" = Value.type "tuple" from hcl) (by decide)
    have nai : a ≠ it := fun z => by
      obtain ⟨o, ho, hcl, _⟩ := hT0
      obtain ⟨o2, ho2, hcl2, _⟩ := hit
      rw [z, ho2] at ho
      obtain rfl := Option.some.inj ho
      rw [hcl2] at hcl
      exact absurd (show Value.type "tuple_iterator" = Value.type "tuple" from hcl) (by decide)
    refine wpAny_pyNext_enum_itemD (i := i) (Draws.tuple (A := X.A.in1) (I.ok.hd hc) it a nai its.toArray) he ⟨hit, hT0⟩ (by
      have := (List.getElem?_eq_some_iff.mp hu).1
      simpa using this) hne (by simp [hne, nae]) fun y h' tk hy ho hst' hT hsz hk => ?_
    have ey : y = u := by
      have hy' : its[i]? = some y := by simpa using hy
      rw [hu] at hy'
      exact (Option.some.inj hy').symm
    subst ey
    refine ⟨_, rfl, wpAny_letOwnedTupleGo_enum (s := { s with heap := h', toks := tk + 1 }) ho fun h'' he' sb => ?_⟩
    have hT2 : h''.get? s.heap.objs.size = some { cls := .type "tuple", data := .seq #[.int i tk, y] } := (sb.2 _ (Nat.ne_of_gt hel)).trans hT
    have new : ObjOk X.prog X.w (upd H s.heap.objs.size (.tup [.int (i : Nat), x])) h'' s.heap.objs.size (.tup [.int (i : Nat), x]) :=
      ⟨by show 2 ≤ sizeLine; decide, [.int i tk, y], .cons ⟨_, rfl⟩ (.cons ru .nil), ⟨_, hT2, rfl, _, rfl⟩⟩
    have I1 : Inv X pins σ (upd H s.heap.objs.size (.tup [.int (i : Nat), x])) { s with heap := h'', toks := tk + 1 } :=
      I.turnedNew (ch := [e, it]) (fun b ob hb q => (sb.2 b (fun z => hb (by simp [z]))).trans (hk b ob (fun z => hb (by simp [z])) (fun z => hb (by simp [z])) q)) hf (Nat.le_refl _) new
    refine ⟨.ref s.heap.objs.size, _, I1, rfl, ⟨_, x, rfl, I.hok.fresh (Nat.le_refl _), rfl, fun ys hy => by rw [I.tuple_inj hy hq]; exact hx⟩, ⟨⟨y, ?_⟩, hst'.1.at fun o q => (sb.2 it (Ne.symm hne)).trans q, hne⟩, fun b hb => ?_⟩
    · have e1 : ((i + 1 : Nat) : Int) = (i : Int) + 1 := by omega
      rw [e1]; exact he'
    · have hb' : b < s.heap.objs.size := by
        have e' : b = e ∨ b = it := by simpa using hb
        rcases e' with z | z
        · rw [z]; exact hel
        · rw [z]; exact hil
      rw [upd_ne (Nat.ne_of_lt hb')]
      exact (hf b hb).1
  done := by
    intro X hP hw hK hc i pins s σ H E I hf st hg
    subst hP hw hK
    obtain ⟨⟨old, he⟩, hit, hne⟩ := st
    obtain ⟨xs, hq, hx⟩ := hg
    obtain ⟨its, rv, p, hz⟩ := I.tuple hq
    obtain ⟨f0, f1, f2, f3, f4, f5⟩ := hf it (by simp)
    have hl := rv.length
    exact enumT_end (I.ok.hd hc) he hit p (by simp; omega) fun h' eb => ⟨rfl, I.turned (t' := s.toks) (fun b o hb q => eb b o hb q) f0 f1 f3 f4 f5⟩
  self := fun A i s Q E st h => let ⟨⟨_, he⟩, _⟩ := st; wpAny_pyIter_enum he h
def iEnumT (K : PySem.W.Frag) (ta : TA) : TI := fun σ H R => ta σ H fun vs H1 => ∃ a xs, vs = [.ref a] ∧ SqT K H1 a xs ∧ R (IteT K a) H1
theorem pi_enumT {X : Cx} {e : Expr} {ta : TA} {p pos tpos : Pos} {elts : List Expr} {kk : Nat} (hg : Gl X "enumerate") (hm : X.mg "enumerate" = none) (ha : PA X [e] ta) (hs : starEach [e] X.env = [(false, eval e X.env)] := by rfl) :
    PI X (.Tuple elts kk tpos) (.Call (.Name "enumerate" p) [e] [] pos) (iEnumT X.K ta) := by
  refine ⟨fun pins s σ H R I h => ?_⟩
  refine Call_ (ld_blt I hg hm boot_enumerate (PyProof.Rows.callWith_type1 (thn (ha.run pos pins s σ H _ I h) fun us s1 ⟨vs, H1, I1, r1, q1⟩ => ?_) hs rfl))
  obtain ⟨a, xs, ex, hq, q⟩ := q1
  subst ex
  cases r1 with
  | cons r rr =>
    cases rr
    cases r
    obtain ⟨its, rv, p', hz⟩ := I1.tuple hq
    refine call_enumT (show s1.heap.IsTuple a its.toArray from p') fun h' he hit hsz hk => wpAny_pyIter_enum he ?_
    have I2 : Inv X pins σ H1 { s1 with heap := h' } := I1.kept (t' := s1.toks) hk
    refine ⟨s1.heap.objs.size + 1, [s1.heap.objs.size + 1, s1.heap.objs.size], _, _, H1, rfl, I2, turn_enumT a (s1.heap.objs.size + 1) s1.heap.objs.size, ⟨⟨.none, he⟩, hit, Nat.succ_ne_self _⟩, fun b hb => ?_, q⟩
    have e' : b = s1.heap.objs.size + 1 ∨ b = s1.heap.objs.size := by simpa using hb
    have hle : s1.heap.objs.size ≤ b := by
      rcases e' with z | z
      · rw [z]; exact Nat.le_add_right _ _
      · rw [z]; exact Nat.le_refl _
    exact I1.fpOk hle (I1.hok.fresh hle)
/-- a loop over enumerate of a tuple -/
theorem for_enumT {K : PySem.W.Frag} {a : Addr} {xs : List V} {g : TG} {tb : TS} {D : Ends} {σ : L2.St} {H : Hp} (Pv : Nat → L2.St → Hp → Prop) (h0 : Pv 0 σ H) (hq : ∀ i σ H, Pv i σ H → SqT K H a xs)
    (hs : ∀ (i : Nat) (x : V) (T : Addr) (σ : L2.St) (H : Hp), xs[i]? = some x → Pv i σ H → H T = none → g (.ref T) σ (upd H T (.tup [.int (i : Nat), x])) fun σ2 H2 => tb { D with nx := Pv (i + 1), ct := Pv (i + 1), bk := D.nx } σ2 H2) (hd : ∀ σ H, Pv xs.length σ H → D.nx σ H) :
    ∃ W : Nat → Nat → L2.St → Hp → Prop, (∃ m, W 0 m σ H) ∧ ∀ i m σ H, W i m σ H →
      ((IteT K a).stop i H ∧ D.nx σ H) ∨ ((IteT K a).go i H ∧ ∃ N : L2.St → Hp → Prop, (∀ σ' H', N σ' H' → ∃ m', m' < m ∧ W (i + 1) m' σ' H') ∧ ∀ v H', (IteT K a).yld i H v H' → g v σ H' fun σ2 H2 => tb { D with nx := N, ct := N, bk := D.nx } σ2 H2) := by
  refine ⟨fun i m σ H => m = xs.length - i ∧ i ≤ xs.length ∧ Pv i σ H, ⟨xs.length, rfl, Nat.zero_le _, h0⟩, ?_⟩
  rintro i m σ H ⟨rfl, hi, p⟩
  have q := hq i σ H p
  rcases Nat.lt_or_ge i xs.length with hlt | hge
  · have ex := List.getElem?_eq_getElem hlt
    refine .inr ⟨⟨xs, _, q, ex⟩, Pv (i + 1), fun σ' H' p' => ⟨xs.length - (i + 1), by omega, rfl, hlt, p'⟩, ?_⟩
    rintro v H' ⟨T, x, rfl, hT, rfl, f1⟩
    exact hs i x T σ H (f1 xs q) p hT
  · have e : i = xs.length := by omega
    subst e
    exact .inl ⟨⟨xs, q, hge⟩, hd σ H p⟩
end EnT
namespace Mine
open PySem L2
def top (i : Nat) : Stmt := PySem.Challenge.pw_neverhappens_k10_nodes.main.body.getD i (.Pass ⟨0, 0, 0, 0⟩)
abbrev s_bodies_of : Stmt := top 2
abbrev s_list_statements : Stmt := top 3
abbrev s_count_statements : Stmt := top 4
abbrev s_nodes : Stmt := top 6
abbrev s_heads : Stmt := top 7
abbrev s_body_nodes : Stmt := top 8
abbrev s_statement_nodes : Stmt := top 9
abbrev s_if_nodes : Stmt := top 10
abbrev s_first_place : Stmt := top 11
abbrev s_l_cell : Stmt := top 13
abbrev s_l_source : Stmt := top 14
abbrev s_l_pick : Stmt := top 15
abbrev s_l_one : Stmt := top 16
abbrev s_l_names : Stmt := top 17
abbrev s_l_pile_at : Stmt := top 18
abbrev s_l_listed : Stmt := top 19
abbrev s_l_same : Stmt := top 20
abbrev s_l_number : Stmt := top 21
abbrev s_l_truth : Stmt := top 22
abbrev s_l_leaf : Stmt := top 23
abbrev s_l_body : Stmt := top 24
abbrev s_l_function : Stmt := top 25
abbrev s_l_settled : Stmt := top 26
abbrev s_l_follow : Stmt := top 27
abbrev s_l_due : Stmt := top 28
abbrev s_law : Stmt := top 29
abbrev p_bodies_of : List Str := ["statement"]
abbrev p_list_statements : List Str := ["body", "in_while"]
abbrev p_count_statements : List Str := ["body"]
abbrev p_nodes : List Str := ["function"]
abbrev p_heads : List Str := ["function"]
abbrev p_body_nodes : List Str := ["body", "place", "ways"]
abbrev p_statement_nodes : List Str := ["statement", "place", "ways"]
abbrev p_if_nodes : List Str := ["statement", "place", "ways"]
abbrev p_first_place : List Str := ["body", "place", "after"]
abbrev p_l_cell : List Str := ["_law_script", "_law_at"]
abbrev p_l_source : List Str := ["_law_cell_here"]
abbrev p_l_pick : List Str := ["_law_source_here", "_law_size"]
abbrev p_l_one : List Str := ["_law_source_here", "_law_row"]
abbrev p_l_names : List Str := ["_law_source_here"]
abbrev p_l_pile_at : List Str := ["_law_listed_here", "_law_place", "_law_sign"]
abbrev p_l_listed : List Str := ["_law_body_here", "_law_place"]
abbrev p_l_same : List Str := ["_law_actual", "_law_due_here"]
abbrev p_l_number : List Str := ["_law_source_here", "_law_names_here"]
abbrev p_l_truth : List Str := ["_law_source_here", "_law_names_here"]
abbrev p_l_leaf : List Str := ["_law_source_here", "_law_world", "_law_loop"]
abbrev p_l_body : List Str := ["_law_source_here", "_law_world", "_law_upto", "_law_depth", "_law_loop"]
abbrev p_l_function : List Str := ["_law_cell_here"]
abbrev p_l_settled : List Str := ["_law_pile", "_law_end"]
abbrev p_l_follow : List Str := ["_law_listed_here", "_law_place", "_law_end", "_law_holds"]
abbrev p_l_due : List Str := ["_law_function_here"]
abbrev p_law : List Str := ["_law_script"]
/-- what the program's top leaves: where each def stands -/
def tb_PARTS : List (Str × List Str) := [("set", ["variable", "expression"]), ("input", ["variable"]), ("new", ["variable"]), ("free", ["variable"]), ("load", ["variable", "variable", "field"]), ("store", ["variable", "field", "expression"]), ("get", ["variable", "array", "expression"]), ("put", ["array", "expression", "expression"]), ("call", ["variable", "function", "arguments"]), ("return", ["expression"]), ("if", ["expression", "body", "body"]), ("while", ["expression", "body"]), ("break", []), ("assert", ["expression"])]
/-- a list of strings, as values -/
def isStrs : List Str → List Value → Bool
  | [], [] => true
  | x :: xs, v :: vs => Value.isStrOf x v && isStrs xs vs
  | _, _ => false
theorem isStrs_vals : ∀ {xs : List Str} {vs : List Value}, isStrs xs vs = true → Vals (xs.map V.str) vs
  | [], [], _ => .nil
  | [], _ :: _, h => by cases h
  | _ :: _, [], h => by cases h
  | x :: xs, v :: vs, h => by
    have h' := (Bool.and_eq_true_iff).mp h
    obtain ⟨t, e⟩ := Value.isStrOf_shape (x := x) (v := v) h'.1
    exact .cons ⟨t, e⟩ (isStrs_vals h'.2)
/-- an entry of a written dict: a tuple of strings -/
def KPart (w : World) (K : PySem.W.Frag) (d : Addr) (x : Str) (rs : List Str) : Prop := ∃ r, KDct K w d x (.ref r) ∧ ∀ H, SqT K H r (rs.map V.str)
theorem kpart {w : World} {K : PySem.W.Frag} {d r : Addr} {es : Array DictEntry} {n m : Nat} {x : Str} {rs : List Str} {dd : Option Addr} {its : Array Value} {sl : Array (Option Value)} (D : K.lookup d = some ⟨.type "dict", none, .dict es n, #[]⟩) (Y : PySem.W.KeysLit w.params es.toList)
    (N : PySem.W.nsIn K d x = some (some (.ref r))) (R : K.lookup r = some ⟨.type "tuple", dd, .seq its m, sl⟩) (z : rs.length ≤ 1000) (v : isStrs rs its.toList = true) : KPart w K d x rs := by
  have r1 := isStrs_vals v
  refine ⟨r, ⟨es, n, .ref r, D, Y, N, rfl⟩, fun H => .inr ⟨_, its, m, R, rfl, rfl, ?_, r1⟩⟩
  have e := r1.length
  rw [List.length_map] at e
  have e2 : its.toList.length = its.size := by simp
  rw [sizeLine_eq]
  omega
/-- values of defaults -/
def isV : V → Value → Bool
  | .bl b, .bool c => b == c
  | .non, .none => true
  | _, _ => false
def isVs : List V → List Value → Bool
  | [], [] => true
  | x :: xs, v :: vs => isV x v && isVs xs vs
  | _, _ => false
theorem isV_rel : ∀ {x : V} {v : Value}, isV x v = true → RelV x v
  | .bl b, .bool c, h => by
    have e : b = c := by simpa [isV] using h
    subst e
    rfl
  | .non, .none, _ => rfl
theorem isVs_vals : ∀ {xs : List V} {vs : List Value}, isVs xs vs = true → Vals xs vs
  | [], [], _ => .nil
  | [], _ :: _, h => by cases h
  | _ :: _, [], h => by cases h
  | x :: xs, v :: vs, h => by
    have h' := (Bool.and_eq_true_iff).mp h
    exact .cons (isV_rel h'.1) (isVs_vals h'.2)
theorem fund_mk {K : PySem.W.Frag} {x qual : Str} {st : Stmt} {f td : Addr} {oc tt : Value} {od an dd : Option Addr} {osl sk : Array (Option Value)} {kV doc pm cdv ct : Value} {its : Array Value} {n : Nat} {dvs : List V}
    (l : K.lookup f = some ⟨oc, od, .func (PySem.W.fnOf x qual (defArgs st) (defBody st) (defScope st) (.ref td) kV doc pm an cdv ct), osl⟩) (r : K.lookup td = some ⟨tt, dd, .seq its n, sk⟩) (v : Vals dvs its.toList) (ne : dvs ≠ [])
    (c : PySem.W.codeIn K cdv qual = true) (k : PySem.W.keepIn K (.ref f) = true) : FunD K x qual (defArgs st) (defBody st) (defScope st) dvs [] f (PySem.W.fnOf x qual (defArgs st) (defBody st) (defScope st) (.ref td) kV doc pm an cdv ct) :=
  ⟨⟨oc, od, .ref td, kV, doc, pm, an, cdv, ct, osl, rfl, l, c, .inr ⟨ne, td, _, its.toList, n, rfl, r, by simp, v⟩, .inl rfl⟩, k⟩
theorem fund_ok {P : Program} {w : World} {K : PySem.W.Frag} {mg : Str → Option Value} {base : Heap} {x qual : Str} {params : Arguments} {body : List Stmt} {scope : Scope} {dvs : List V} {kws : List (Str × V)} {f : Addr} {fd : FuncData} {N ps : List Str} {k : Nat} {sp : Sp} (F : FunD K x qual params body scope dvs kws f fd) (S : FnScope N ps scope) (len : ∀ vs H Q E, sp vs H Q E → vs.length = ps.length)
    (hbody : ∀ (cdv : Value) (A : Around) (outer : List Env) (s : Shared) (H : Hp) (vs : List V) (Q : VK) (E : XK), Room k (A.deeper (PyProof.Rows.envOfC qual scope s.heap.objs.size f cdv)) → sp vs H Q E →
      ∃ t, PSs (cxOf CX0 P w K mg base N qual scope f cdv A outer s H E).nox body t ∧ t { nx := fun _ H' => Q .non H', rt := Q } (L2.start N vs) H) : FnOk P w K mg base CX0 (k + 1) f fd ps sp :=
  F.ok S len fun cdv A outer s H vs Q E hr h => by
    obtain ⟨t, h, q⟩ := hbody cdv A outer s H vs Q E hr h
    exact ⟨t, h.nox, q⟩
structure Txt (w : World) (K : PySem.W.Frag) (mg : Str → Option Value) where
  a_bodies_of : Addr
  d_bodies_of : FuncData
  F_bodies_of : Fun K "bodies_of" "bodies_of" s_bodies_of a_bodies_of d_bodies_of
  b_bodies_of : Binds K d_bodies_of p_bodies_of []
  m_bodies_of : mg "bodies_of" = some (.ref a_bodies_of)
  a_list_statements : Addr
  d_list_statements : FuncData
  F_list_statements : FunD K "list_statements" "list_statements" (defArgs s_list_statements) (defBody s_list_statements) (defScope s_list_statements) [.bl false] [] a_list_statements d_list_statements
  b_list_statements : ∃ ds, Vals [] ds ∧ Binds K d_list_statements p_list_statements ds
  e_list_statements : ∃ ds, Vals [.bl false] ds ∧ Binds K d_list_statements p_list_statements ds
  m_list_statements : mg "list_statements" = some (.ref a_list_statements)
  a_count_statements : Addr
  d_count_statements : FuncData
  F_count_statements : Fun K "count_statements" "count_statements" s_count_statements a_count_statements d_count_statements
  b_count_statements : Binds K d_count_statements p_count_statements []
  m_count_statements : mg "count_statements" = some (.ref a_count_statements)
  a_nodes : Addr
  d_nodes : FuncData
  F_nodes : Fun K "nodes" "nodes" s_nodes a_nodes d_nodes
  b_nodes : Binds K d_nodes p_nodes []
  m_nodes : mg "nodes" = some (.ref a_nodes)
  a_heads : Addr
  d_heads : FuncData
  F_heads : Fun K "heads" "heads" s_heads a_heads d_heads
  b_heads : Binds K d_heads p_heads []
  m_heads : mg "heads" = some (.ref a_heads)
  a_body_nodes : Addr
  d_body_nodes : FuncData
  F_body_nodes : Fun K "body_nodes" "body_nodes" s_body_nodes a_body_nodes d_body_nodes
  b_body_nodes : Binds K d_body_nodes p_body_nodes []
  m_body_nodes : mg "body_nodes" = some (.ref a_body_nodes)
  a_statement_nodes : Addr
  d_statement_nodes : FuncData
  F_statement_nodes : Fun K "statement_nodes" "statement_nodes" s_statement_nodes a_statement_nodes d_statement_nodes
  b_statement_nodes : Binds K d_statement_nodes p_statement_nodes []
  m_statement_nodes : mg "statement_nodes" = some (.ref a_statement_nodes)
  a_if_nodes : Addr
  d_if_nodes : FuncData
  F_if_nodes : Fun K "if_nodes" "if_nodes" s_if_nodes a_if_nodes d_if_nodes
  b_if_nodes : Binds K d_if_nodes p_if_nodes []
  m_if_nodes : mg "if_nodes" = some (.ref a_if_nodes)
  a_first_place : Addr
  d_first_place : FuncData
  F_first_place : Fun K "first_place" "first_place" s_first_place a_first_place d_first_place
  b_first_place : Binds K d_first_place p_first_place []
  m_first_place : mg "first_place" = some (.ref a_first_place)
  a_l_cell : Addr
  d_l_cell : FuncData
  F_l_cell : Fun K "_law_cell" "_law_cell" s_l_cell a_l_cell d_l_cell
  b_l_cell : Binds K d_l_cell p_l_cell []
  m_l_cell : mg "_law_cell" = some (.ref a_l_cell)
  a_l_source : Addr
  d_l_source : FuncData
  F_l_source : Fun K "_law_source" "_law_source" s_l_source a_l_source d_l_source
  b_l_source : Binds K d_l_source p_l_source []
  m_l_source : mg "_law_source" = some (.ref a_l_source)
  a_l_pick : Addr
  d_l_pick : FuncData
  F_l_pick : Fun K "_law_pick" "_law_pick" s_l_pick a_l_pick d_l_pick
  b_l_pick : Binds K d_l_pick p_l_pick []
  m_l_pick : mg "_law_pick" = some (.ref a_l_pick)
  a_l_one : Addr
  d_l_one : FuncData
  F_l_one : Fun K "_law_one" "_law_one" s_l_one a_l_one d_l_one
  b_l_one : Binds K d_l_one p_l_one []
  m_l_one : mg "_law_one" = some (.ref a_l_one)
  a_l_names : Addr
  d_l_names : FuncData
  F_l_names : Fun K "_law_names" "_law_names" s_l_names a_l_names d_l_names
  b_l_names : Binds K d_l_names p_l_names []
  m_l_names : mg "_law_names" = some (.ref a_l_names)
  a_l_pile_at : Addr
  d_l_pile_at : FuncData
  F_l_pile_at : Fun K "_law_pile_at" "_law_pile_at" s_l_pile_at a_l_pile_at d_l_pile_at
  b_l_pile_at : Binds K d_l_pile_at p_l_pile_at []
  m_l_pile_at : mg "_law_pile_at" = some (.ref a_l_pile_at)
  a_l_listed : Addr
  d_l_listed : FuncData
  F_l_listed : Fun K "_law_listed" "_law_listed" s_l_listed a_l_listed d_l_listed
  b_l_listed : Binds K d_l_listed p_l_listed []
  m_l_listed : mg "_law_listed" = some (.ref a_l_listed)
  a_l_same : Addr
  d_l_same : FuncData
  F_l_same : Fun K "_law_same" "_law_same" s_l_same a_l_same d_l_same
  b_l_same : Binds K d_l_same p_l_same []
  m_l_same : mg "_law_same" = some (.ref a_l_same)
  a_l_number : Addr
  d_l_number : FuncData
  F_l_number : Fun K "_law_number" "_law_number" s_l_number a_l_number d_l_number
  b_l_number : Binds K d_l_number p_l_number []
  m_l_number : mg "_law_number" = some (.ref a_l_number)
  a_l_truth : Addr
  d_l_truth : FuncData
  F_l_truth : Fun K "_law_truth" "_law_truth" s_l_truth a_l_truth d_l_truth
  b_l_truth : Binds K d_l_truth p_l_truth []
  m_l_truth : mg "_law_truth" = some (.ref a_l_truth)
  a_l_leaf : Addr
  d_l_leaf : FuncData
  F_l_leaf : Fun K "_law_leaf" "_law_leaf" s_l_leaf a_l_leaf d_l_leaf
  b_l_leaf : Binds K d_l_leaf p_l_leaf []
  m_l_leaf : mg "_law_leaf" = some (.ref a_l_leaf)
  a_l_body : Addr
  d_l_body : FuncData
  F_l_body : Fun K "_law_body" "_law_body" s_l_body a_l_body d_l_body
  b_l_body : Binds K d_l_body p_l_body []
  m_l_body : mg "_law_body" = some (.ref a_l_body)
  a_l_function : Addr
  d_l_function : FuncData
  F_l_function : Fun K "_law_function" "_law_function" s_l_function a_l_function d_l_function
  b_l_function : Binds K d_l_function p_l_function []
  m_l_function : mg "_law_function" = some (.ref a_l_function)
  a_l_settled : Addr
  d_l_settled : FuncData
  F_l_settled : Fun K "_law_settled" "_law_settled" s_l_settled a_l_settled d_l_settled
  b_l_settled : Binds K d_l_settled p_l_settled []
  m_l_settled : mg "_law_settled" = some (.ref a_l_settled)
  a_l_follow : Addr
  d_l_follow : FuncData
  F_l_follow : Fun K "_law_follow" "_law_follow" s_l_follow a_l_follow d_l_follow
  b_l_follow : Binds K d_l_follow p_l_follow []
  m_l_follow : mg "_law_follow" = some (.ref a_l_follow)
  a_l_due : Addr
  d_l_due : FuncData
  F_l_due : Fun K "_law_due" "_law_due" s_l_due a_l_due d_l_due
  b_l_due : Binds K d_l_due p_l_due []
  m_l_due : mg "_law_due" = some (.ref a_l_due)
  a_law : Addr
  d_law : FuncData
  F_law : Fun K "law" "law" s_law a_law d_law
  b_law : Binds K d_law p_law []
  m_law : mg "law" = some (.ref a_law)
  c_PARTS : ∃ d, mg "PARTS" = some (.ref d) ∧ ∀ q ∈ tb_PARTS, KPart w K d q.1 q.2
  z_bool : mg "bool" = none
  z_enumerate : mg "enumerate" = none
  z_int : mg "int" = none
  z_isinstance : mg "isinstance" = none
  z_len : mg "len" = none
  z_list : mg "list" = none
  z_max : mg "max" = none
  z_min : mg "min" = none
  z_range : mg "range" = none
  z_str : mg "str" = none
  z_tuple : mg "tuple" = none
  z_zip : mg "zip" = none
abbrev n_bodies_of : List Str := ["statement", "roles", "role", "part"]
theorem sc_bodies_of : FnScope n_bodies_of p_bodies_of (defScope s_bodies_of) := ⟨rfl, rfl, rfl, by decide +kernel, rfl, by decide +kernel, by decide +kernel⟩
abbrev n_list_statements : List Str := ["body", "in_while", "found", "statement", "inner"]
theorem sc_list_statements : FnScope n_list_statements p_list_statements (defScope s_list_statements) := ⟨rfl, rfl, rfl, by decide +kernel, rfl, by decide +kernel, by decide +kernel⟩
abbrev n_count_statements : List Str := ["body", "count", "statement", "inner"]
theorem sc_count_statements : FnScope n_count_statements p_count_statements (defScope s_count_statements) := ⟨rfl, rfl, rfl, by decide +kernel, rfl, by decide +kernel, by decide +kernel⟩
abbrev n_nodes : List Str := ["function", "body", "leave"]
theorem sc_nodes : FnScope n_nodes p_nodes (defScope s_nodes) := ⟨rfl, rfl, rfl, by decide +kernel, rfl, by decide +kernel, by decide +kernel⟩
abbrev n_heads : List Str := ["function", "listed", "at", "statement", "_"]
theorem sc_heads : FnScope n_heads p_heads (defScope s_heads) := ⟨rfl, rfl, rfl, by decide +kernel, rfl, by decide +kernel, by decide +kernel⟩
abbrev n_body_nodes : List Str := ["body", "place", "ways", "found", "at", "statement", "behind", "after"]
theorem sc_body_nodes : FnScope n_body_nodes p_body_nodes (defScope s_body_nodes) := ⟨rfl, rfl, rfl, by decide +kernel, rfl, by decide +kernel, by decide +kernel⟩
abbrev n_statement_nodes : List Str := ["statement", "place", "ways", "after", "broken", "leave", "word", "inner", "start"]
theorem sc_statement_nodes : FnScope n_statement_nodes p_statement_nodes (defScope s_statement_nodes) := ⟨rfl, rfl, rfl, by decide +kernel, rfl, by decide +kernel, by decide +kernel⟩
abbrev n_if_nodes : List Str := ["statement", "place", "ways", "_", "test", "first", "second", "middle", "node"]
theorem sc_if_nodes : FnScope n_if_nodes p_if_nodes (defScope s_if_nodes) := ⟨rfl, rfl, rfl, by decide +kernel, rfl, by decide +kernel, by decide +kernel⟩
abbrev n_first_place : List Str := ["body", "place", "after"]
theorem sc_first_place : FnScope n_first_place p_first_place (defScope s_first_place) := ⟨rfl, rfl, rfl, by decide +kernel, rfl, by decide +kernel, by decide +kernel⟩
abbrev n_l_cell : List Str := ["_law_script", "_law_at"]
theorem sc_l_cell : FnScope n_l_cell p_l_cell (defScope s_l_cell) := ⟨rfl, rfl, rfl, by decide +kernel, rfl, by decide +kernel, by decide +kernel⟩
abbrev n_l_source : List Str := ["_law_cell_here"]
theorem sc_l_source : FnScope n_l_source p_l_source (defScope s_l_source) := ⟨rfl, rfl, rfl, by decide +kernel, rfl, by decide +kernel, by decide +kernel⟩
abbrev n_l_pick : List Str := ["_law_source_here", "_law_size", "_law_k", "_law_digit", "_law_mixed"]
theorem sc_l_pick : FnScope n_l_pick p_l_pick (defScope s_l_pick) := ⟨rfl, rfl, rfl, by decide +kernel, rfl, by decide +kernel, by decide +kernel⟩
abbrev n_l_one : List Str := ["_law_source_here", "_law_row"]
theorem sc_l_one : FnScope n_l_one p_l_one (defScope s_l_one) := ⟨rfl, rfl, rfl, by decide +kernel, rfl, by decide +kernel, by decide +kernel⟩
abbrev n_l_names : List Str := ["_law_source_here", "_law_style", "_law_names_here", "_law_k", "_law_word"]
theorem sc_l_names : FnScope n_l_names p_l_names (defScope s_l_names) := ⟨rfl, rfl, rfl, by decide +kernel, rfl, by decide +kernel, by decide +kernel⟩
abbrev n_l_pile_at : List Str := ["_law_listed_here", "_law_place", "_law_sign", "_law_k", "_law_row", "_law_inner", "_law_pile"]
theorem sc_l_pile_at : FnScope n_l_pile_at p_l_pile_at (defScope s_l_pile_at) := ⟨rfl, rfl, rfl, by decide +kernel, rfl, by decide +kernel, by decide +kernel⟩
abbrev n_l_listed : List Str := ["_law_body_here", "_law_place", "_law_listed_here", "_law_statement", "_law_row", "_law_inner"]
theorem sc_l_listed : FnScope n_l_listed p_l_listed (defScope s_l_listed) := ⟨rfl, rfl, rfl, by decide +kernel, rfl, by decide +kernel, by decide +kernel⟩
abbrev n_l_same : List Str := ["_law_actual", "_law_due_here", "_law_k"]
theorem sc_l_same : FnScope n_l_same p_l_same (defScope s_l_same) := ⟨rfl, rfl, rfl, by decide +kernel, rfl, by decide +kernel, by decide +kernel⟩
abbrev n_l_number : List Str := ["_law_source_here", "_law_names_here", "_law_choice"]
theorem sc_l_number : FnScope n_l_number p_l_number (defScope s_l_number) := ⟨rfl, rfl, rfl, by decide +kernel, rfl, by decide +kernel, by decide +kernel⟩
abbrev n_l_truth : List Str := ["_law_source_here", "_law_names_here", "_law_choice"]
theorem sc_l_truth : FnScope n_l_truth p_l_truth (defScope s_l_truth) := ⟨rfl, rfl, rfl, by decide +kernel, rfl, by decide +kernel, by decide +kernel⟩
abbrev n_l_leaf : List Str := ["_law_source_here", "_law_world", "_law_loop", "_law_names_here", "_law_sign"]
theorem sc_l_leaf : FnScope n_l_leaf p_l_leaf (defScope s_l_leaf) := ⟨rfl, rfl, rfl, by decide +kernel, rfl, by decide +kernel, by decide +kernel⟩
abbrev n_l_body : List Str := ["_law_source_here", "_law_world", "_law_upto", "_law_depth", "_law_loop", "_law_body_here", "_law_k", "_law_choice", "_law_made", "_law_first", "_law_second"]
theorem sc_l_body : FnScope n_l_body p_l_body (defScope s_l_body) := ⟨rfl, rfl, rfl, by decide +kernel, rfl, by decide +kernel, by decide +kernel⟩
abbrev n_l_function : List Str := ["_law_cell_here", "_law_source_here", "_law_names_here", "_law_shift", "_law_result", "_law_world", "_law_own", "_law_body_here", "_law_k"]
theorem sc_l_function : FnScope n_l_function p_l_function (defScope s_l_function) := ⟨rfl, rfl, rfl, by decide +kernel, rfl, by decide +kernel, by decide +kernel⟩
abbrev n_l_settled : List Str := ["_law_pile", "_law_end", "_law_turn", "_law_top", "_law_under"]
theorem sc_l_settled : FnScope n_l_settled p_l_settled (defScope s_l_settled) := ⟨rfl, rfl, rfl, by decide +kernel, rfl, by decide +kernel, by decide +kernel⟩
abbrev n_l_follow : List Str := ["_law_listed_here", "_law_place", "_law_end", "_law_holds", "_law_pile", "_law_top", "_law_row", "_law_sign", "_law_turn"]
theorem sc_l_follow : FnScope n_l_follow p_l_follow (defScope s_l_follow) := ⟨rfl, rfl, rfl, by decide +kernel, rfl, by decide +kernel, by decide +kernel⟩
abbrev n_l_due : List Str := ["_law_function_here", "_law_told", "_law_rows", "_law_whiles", "_law_place", "_law_top", "_law_step", "_law_other"]
theorem sc_l_due : FnScope n_l_due p_l_due (defScope s_l_due) := ⟨rfl, rfl, rfl, by decide +kernel, rfl, by decide +kernel, by decide +kernel⟩
abbrev n_law : List Str := ["_law_script", "_law_asked", "_law_at", "_law_function_here", "_law_pair"]
theorem sc_law : FnScope n_law p_law (defScope s_law) := ⟨rfl, rfl, rfl, by decide +kernel, rfl, by decide +kernel, by decide +kernel⟩
/-! ### a list against the empty one -/
def rEqL0 (K : PySem.W.Frag) (neg : Bool) : R2 := fun x y H Q => ∃ (a b : Addr) (xs : List V), x = .ref a ∧ y = .ref b ∧ SqL K H a xs ∧ SqL K H b [] ∧ Q (.bl (if neg then !xs.isEmpty else xs.isEmpty)) H
theorem op_neL0 {X : Cx} (hu : X.A.units < cLine) : OpR X (compareOp .NotEq) (rEqL0 X.K true) := by
  intro pins s σ H x y v u Q I rx ry h
  obtain ⟨a, b, xs, rfl, rfl, ha, hb, q⟩ := h
  obtain rfl : v = Value.ref a := rx
  obtain rfl : u = Value.ref b := ry
  obtain ⟨its, r1, t1, _⟩ := I.list ha
  obtain ⟨its2, r2, t2, _⟩ := I.list hb
  cases r2
  cases r1 with
  | nil => exact SeqAt.RcNeAt.lists (e := fun _ => true) t1.isList t2.isList rfl hu (fun j h1 h2 => absurd h2 (by simp)) _ _ _ _ ⟨.bl _, H, I, rfl, q⟩
  | cons _ _ => exact SeqAt.RcNeAt.lists_lengths t1.isList t2.isList (by simp) hu _ _ _ _ ⟨.bl _, H, I, rfl, q⟩
theorem op_eqL0 {X : Cx} (hu : X.A.units < cLine) : OpR X (compareOp .Eq) (rEqL0 X.K false) := by
  intro pins s σ H x y v u Q I rx ry h
  obtain ⟨a, b, xs, rfl, rfl, ha, hb, q⟩ := h
  obtain rfl : v = Value.ref a := rx
  obtain rfl : u = Value.ref b := ry
  obtain ⟨its, r1, t1, _⟩ := I.list ha
  obtain ⟨its2, r2, t2, _⟩ := I.list hb
  cases r2
  cases r1 with
  | nil => exact SeqAt.eq_listAt (e := fun _ => true) t1.isList t2.isList rfl hu (fun j h1 h2 => absurd h2 (by simp)) ⟨.bl _, H, I, rfl, q⟩
  | cons _ _ => exact SeqAt.eq_list_lengthsAt t1.isList t2.isList (by simp) hu ⟨.bl _, H, I, rfl, q⟩
/-! ### built-in names -/
theorem bt_int : bootBuiltins "int" = some (.type "int") := by decide +kernel
theorem bt_str : bootBuiltins "str" = some (.type "str") := by decide +kernel
theorem bt_bool : bootBuiltins "bool" = some (.type "bool") := by decide +kernel
theorem bt_tuple : bootBuiltins "tuple" = some (.type "tuple") := by decide +kernel
theorem bt_list : bootBuiltins "list" = some (.type "list") := by decide +kernel
theorem bt_dict : bootBuiltins "dict" = some (.type "dict") := by decide +kernel
theorem bb_max : bootBuiltins "max" = some (.builtin "max") := by decide +kernel
theorem bb_min : bootBuiltins "min" = some (.builtin "min") := by decide +kernel
theorem bb_isinstance : bootBuiltins "isinstance" = some (.builtin "isinstance") := by decide +kernel
/-! ### a source of draws: a list of three ints, which draws alone change -/
def Src (H : Hp) (a : Addr) : Prop := ∃ c m k : Int, H a = some (.lst [.int c, .int m, .int k])
/-- a source stands at a, and nothing else that was tracked has changed -/
structure Stp (a : Addr) (H H' : Hp) : Prop where
  s : Src H' a
  k : ∀ b o, b ≠ a → H b = some o → H' b = some o
theorem Stp.refl {a : Addr} {H : Hp} (h : Src H a) : Stp a H H := ⟨h, fun _ _ _ e => e⟩
theorem Stp.trans {a : Addr} {H H1 H2 : Hp} (x : Stp a H H1) (y : Stp a H1 H2) : Stp a H H2 := ⟨y.s, fun b o hb e => y.k b o hb (x.k b o hb e)⟩
theorem Src.ne {a p : Addr} {H : Hp} (h : Src H a) (n : H p = none) : a ≠ p := by
  obtain ⟨c, m, k, h⟩ := h
  exact ne_of_none h n
theorem Stp.free {a p : Addr} {H H' : Hp} (x : Stp a H H') (n : H' p = none) : H p = none := by
  cases q : H p with
  | none => rfl
  | some o =>
    have ne : p ≠ a := fun z => x.s.ne n z.symm
    rw [x.k p o ne q] at n
    cases n
/-- a new object beside the source -/
theorem Stp.new {a p : Addr} {H H' : Hp} {o : HO} (x : Stp a H H') (n : H' p = none) : Stp a H (upd H' p o) := by
  have ne := x.s.ne n
  obtain ⟨c, m, k, h⟩ := x.s
  refine ⟨⟨c, m, k, by rw [upd_ne ne]; exact h⟩, fun b u hb e => ?_⟩
  have e' := x.k b u hb e
  rw [upd_ne (ne_of_none e' n)]
  exact e'
theorem Stp.same {a : Addr} {H H' H2 : Hp} (x : Stp a H H') (s : Same H' H2) : Stp a H H2 := by
  obtain ⟨c, m, k, h⟩ := x.s
  exact ⟨⟨c, m, k, s _ _ h⟩, fun b o hb e => s b o (x.k b o hb e)⟩
theorem Stp.of_same {a : Addr} {H H' : Hp} (h : Src H a) (s : Same H H') : Stp a H H' := (Stp.refl h).same s
theorem Same.new {H : Hp} {p : Addr} (h : H p = none) (o : HO) : Same H (upd H p o) := fun b u q => by rw [upd_ne (ne_of_none q h)]; exact q
/-- a source that is new ahead of its draws: all that was tracked stands -/
theorem Stp.fresh {a : Addr} {H H1 H2 : Hp} (s : Same H H1) (n : H a = none) (x : Stp a H1 H2) : Same H H2 := fun b o e => x.k b o (ne_of_none e n) (s b o e)
theorem Stp.rd {K : PySem.W.Frag} {a p : Addr} {H H' : Hp} {xs : List V} (x : Stp a H H') (h : SqT K H p xs) (hs : Src H a) : SqT K H' p xs := by
  obtain ⟨c, m, k, hs⟩ := hs
  rcases h with (h | ⟨o, h⟩) | h
  · exact .inl (.inl (x.k _ _ (ne_of h hs (by intro z; cases z)) h))
  · exact .inl (.inr ⟨o, x.k _ _ (ne_of h hs (by intro z; cases z)) h⟩)
  · exact .inr h
theorem Stp.rdL {K : PySem.W.Frag} {a p : Addr} {H H' : Hp} {xs : List V} (x : Stp a H H') (h : SqL K H p xs) (ne : p ≠ a) : SqL K H' p xs := by
  rcases h with (h | ⟨o, h⟩) | h
  · exact .inl (.inl (x.k _ _ ne h))
  · exact .inl (.inr ⟨o, x.k _ _ ne h⟩)
  · exact .inr h
theorem Same.tup {K : PySem.W.Frag} {p : Addr} {H H' : Hp} {xs : List V} (x : Same H H') (h : SqT K H p xs) : SqT K H' p xs := by
  rcases h with (h | ⟨o, h⟩) | h
  · exact .inl (.inl (x _ _ h))
  · exact .inl (.inr ⟨o, x _ _ h⟩)
  · exact .inr h
/-! ### numbers -/
theorem ifT {c : Bool} {A B : Prop} (h : c = true) (a : A) : if c = true then A else B := by rw [if_pos h]; exact a
theorem ifF {c : Bool} {A B : Prop} (h : c = false) (b : B) : if c = true then A else B := by rw [h]; exact iteF b
theorem fmod_bd {x m : Int} (h : 0 < m) : 0 ≤ x.fmod m ∧ x.fmod m < m := ⟨Int.fmod_nonneg_of_pos x h, Int.fmod_lt_of_pos x h⟩
theorem fm64 {x m : Int} (h : 0 < m) (h2 : m ≤ 2 ^ 64) : -(2 ^ 64) < x.fmod m ∧ x.fmod m < 2 ^ 64 :=
  ⟨Int.lt_of_lt_of_le (by decide) (fmod_bd h).1, Int.lt_of_lt_of_le (fmod_bd h).2 h2⟩
theorem atI_int {α : Type} {xs : List α} {r : Int} (h0 : 0 ≤ r) (h : r.toNat < xs.length) : atI xs r = some xs[r.toNat] := by
  have e := atI_nat (xs := xs) (j := r.toNat) (List.getElem?_eq_getElem h)
  rwa [Int.toNat_of_nonneg h0] at e
/-! ### the promises of the draws -/
def spCell (K : PySem.W.Frag) : Sp := fun vs H Q _ => ∃ (l : Addr) (ns : List Int) (j : Int), vs = [.ref l, .int j] ∧ SqL K H l (ns.map V.int) ∧ 0 ≤ j ∧ ∀ i : Int, Q (.int i) H
def spSource : Sp := fun vs H Q _ => ∃ c : Int, vs = [.int c] ∧ ∀ p H', H p = none → Same H H' → Src H' p → Q (.ref p) H'
def spPick : Sp := fun vs H Q _ => ∃ (a : Addr) (n : Int), vs = [.ref a, .int n] ∧ Src H a ∧ n < 1073741824 ∧ ∀ (r : Int) (H' : Hp), Stp a H H' → 0 ≤ r → (r < n ∨ r = 0) → Q (.int r) H'
def spOne (K : PySem.W.Frag) : Sp := fun vs H Q _ => ∃ (a : Addr) (row : V), vs = [.ref a, row] ∧ Src H a ∧
  ((∃ (p : Addr) (xs : List V), row = .ref p ∧ p ≠ a ∧ SqL K H p xs ∧ 0 < xs.length ∧ xs.length < 1000 ∧ ∀ v H', v ∈ xs → Stp a H H' → Q v H') ∨
   (∃ z : Str, row = .str z ∧ 0 < z.length ∧ z.length < 1000 ∧ ∀ (c : Nat) H', c ∈ z.cps.toList → Stp a H H' → Q (.str ⟨#[c]⟩) H'))
section
variable {P : Program} {w : World} {K : PySem.W.Frag} {mg : Str → Option Value} {base : Heap}
theorem ok_l_cell (T : Txt w K mg) : FnOk P w K mg base CX0 1 T.a_l_cell T.d_l_cell p_l_cell (spCell K) := by
  refine T.F_l_cell.ok sc_l_cell (fun vs H Q E h => ?_) (fun cdv A outer s H vs Q E hr h => ?_)
  · obtain ⟨l, ns, j, rfl, _⟩ := h
    rfl
  obtain ⟨l, ns, j, rfl, hS, h0, q⟩ := h
  refine ⟨_, (pss_cons (ps_if (pt_cmpR op_lt (pv 1) (pe_callB call_len_seq rfl T.z_len PySem.boot_len (pa_cons (pv 0) pa_nil)) (nomark _)) (pss_one (ps_ret (pe_ix ix_list (pv 0) (pv 1) (fun _ _ => rfl)))) pss_nil)
      (pss_one (ps_ret pe_int))), ?_⟩
  have hl : (ns.map V.int).length = ns.length := List.length_map _
  refine ⟨_, rfl, _, rfl, l, _, rfl, .inl hS, _, _, rfl, rfl, _, rfl, ?_⟩
  refine ite2 (fun c => ?_) (fun c => ?_)
  · have c' : j < (((ns.map V.int).length : Nat) : Int) := of_decide_eq_true c
    rw [hl] at c'
    have hk : j.toNat < ns.length := by omega
    have e := atI_int (xs := ns.map V.int) h0 (by omega)
    rw [List.getElem_map] at e
    exact ⟨_, rfl, _, rfl, l, _, _, _, rfl, rfl, hS, e, q _⟩
  · exact q 0
theorem ok_l_source (T : Txt w K mg) : FnOk P w K mg base CX0 1 T.a_l_source T.d_l_source p_l_source spSource := by
  refine T.F_l_source.ok sc_l_source (fun vs H Q E h => ?_) (fun cdv A outer s H vs Q E hr h => ?_)
  · obtain ⟨c, rfl, _⟩ := h
    rfl
  obtain ⟨c, rfl, q⟩ := h
  refine ⟨_, (pss_one (ps_ret (pe_lst (pa_cons (pv 0) (pa_cons (pv 0) (pa_cons pe_int pa_nil)))))), ?_⟩
  refine ⟨_, rfl, _, rfl, (by show 3 ≤ sizeLine; decide), fun p hp => ?_⟩
  exact q p _ hp (Same.new hp _) ⟨c, c, 0, upd_same⟩
theorem ok_l_pick (T : Txt w K mg) : FnOk P w K mg base CX0 1 T.a_l_pick T.d_l_pick p_l_pick spPick := by
  refine T.F_l_pick.ok sc_l_pick (fun vs H Q E h => ?_) (fun cdv A outer s H vs Q E hr h => ?_)
  · obtain ⟨a, n, rfl, _⟩ := h
    rfl
  obtain ⟨a, n, rfl, ⟨c, m, k, hS⟩, hn, q⟩ := h
  refine ⟨_, (pss_cons (ps_set (i := 2) sc_l_pick.nd rfl (Or.inl rfl) (pe_ix ix_list (pv 0) pe_int (fun _ _ => rfl)))
      (pss_cons (ps_asg (pe_op op_add (pv 2) pe_int) (pg_sub (pv 0) pe_int set_list))
      (pss_cons (ps_if (pt_cmpR op_lt (pv 1) pe_int (nomark _)) (pss_one (ps_ret pe_int)) pss_nil)
      (pss_cons (ps_if (PW.pt (pw_and (pt_cmpR op_ge (pe_ix ix_list (pv 0) pe_int (fun _ _ => rfl)) (pe_op op_pow pe_int pe_int) (nomark _)) (pw_and1 (pt_cmpR op_gt (pe_ix ix_list (pv 0) pe_int (fun _ _ => rfl)) pe_int (nomark _))))) (pss_cons (ps_set (i := 3) sc_l_pick.nd rfl (Or.inl rfl) (pe_op op_modN (pe_callTy call_int1 rfl T.z_int bt_int (pa_cons (pe_ix ix_list (pv 0) pe_int (fun _ _ => rfl)) pa_nil)) (pv 1)))
      (pss_cons (ps_asg (pe_op op_fdivN (pe_ix ix_list (pv 0) pe_int (fun _ _ => rfl)) (pv 1)) (pg_sub (pv 0) pe_int set_list))
      (pss_one (ps_ret (pv 3))))) pss_nil)
      (pss_cons (ps_set (i := 4) sc_l_pick.nd rfl (Or.inl rfl) (pe_op op_modN (pe_callTy call_int1 rfl T.z_int bt_int (pa_cons (pe_op op_add (pe_op op_add (pe_ix ix_list (pv 0) pe_int (fun _ _ => rfl)) (pe_op op_mul pe_int (pv 2))) pe_int) pa_nil)) pe_int))
      (pss_cons (ps_set (i := 4) sc_l_pick.nd rfl (Or.inl rfl) (pe_op op_modN (pe_callTy call_int1 rfl T.z_int bt_int (pa_cons (pe_op op_mul (pv 4) (pe_op op_add (pv 4) pe_int)) pa_nil)) pe_int))
      (pss_cons (ps_set (i := 4) sc_l_pick.nd rfl (Or.inl rfl) (pe_op op_modN (pe_callTy call_int1 rfl T.z_int bt_int (pa_cons (pe_op op_add (pe_op op_mul (pv 4) (pe_op op_add (pv 4) pe_int)) (pe_op op_mul pe_int (pv 2))) pa_nil)) pe_int))
      (pss_one (ps_ret (pe_op op_modN (pe_callTy call_int1 rfl T.z_int bt_int (pa_cons (pe_op op_fdivN (pv 4) pe_int) pa_nil)) (pv 1))))))))))), ?_⟩
  refine ⟨_, rfl, a, _, 2, _, rfl, rfl, SqL.of hS, rfl, ?_⟩
  refine ⟨_, rfl, k, 1, rfl, rfl, _, rfl, a, _, 2, 2, rfl, rfl, hS, rfl, ?_⟩
  have h1 : (upd H a (.lst [.int c, .int m, .int (k + 1)])) a = some (.lst [.int c, .int m, .int (k + 1)]) := upd_same
  have st : Stp a H (upd H a (.lst [.int c, .int m, .int (k + 1)])) := ⟨⟨c, m, k + 1, upd_same⟩, fun b o hb e => by rw [upd_ne hb]; exact e⟩
  refine ⟨_, rfl, n, 2, rfl, rfl, _, rfl, ?_⟩
  refine ite2 (fun _ => ?_) (fun c2 => ?_)
  · exact q 0 _ st (Int.le_refl 0) (.inr rfl)
  have hn2 : ¬ n < 2 := of_decide_eq_false (Bool.eq_false_iff.mpr c2)
  refine ⟨_, rfl, a, _, 0, _, rfl, rfl, SqL.of h1, rfl, 10, 18, rfl, rfl, ⟨by decide, by decide, by decide⟩, _, _, rfl, rfl, _, rfl, ?_⟩
  refine ite2 (fun _ => ⟨_, rfl, a, _, 1, _, rfl, rfl, SqL.of h1, rfl, _, _, rfl, rfl, _, rfl, ite2 (fun _ => ?first) (fun _ => ?second)⟩) (fun _ => iteF ?third)
  case first =>
    refine ⟨_, rfl, a, _, 1, _, rfl, rfl, SqL.of h1, rfl, .inl ⟨_, rfl, ?_⟩⟩
    refine ⟨_, rfl, _, _, rfl, rfl, by omega, ?_⟩
    refine ⟨_, rfl, a, _, 1, _, rfl, rfl, SqL.of h1, rfl, _, rfl, m, n, rfl, rfl, ⟨by omega, by omega⟩, _, rfl, a, _, 1, 1, rfl, rfl, h1, rfl, ?_⟩
    refine ⟨_, rfl, ?_⟩
    have b := fmod_bd (x := m) (m := n) (by omega)
    refine q _ _ ⟨⟨c, m.fdiv n, k + 1, upd_same⟩, fun b o hb e => ?_⟩ b.1 (.inl b.2)
    rw [upd_ne hb]
    exact st.k b o hb e
  all_goals
    refine ⟨_, rfl, a, _, 0, _, rfl, rfl, SqL.of h1, rfl, _, rfl, 7919, k, rfl, rfl, .inl ⟨by decide, by decide⟩, _, _, rfl, rfl, _, _, rfl, rfl, .inl ⟨_, rfl, ?_⟩⟩
    refine ⟨_, _, rfl, rfl, (by intro z; cases z), ?_⟩
    refine ⟨_, rfl, _, rfl, _, _, rfl, rfl, _, _, rfl, rfl, .inl (fm64 (by decide) (by decide)), .inl ⟨_, rfl, ?_⟩⟩
    refine ⟨_, _, rfl, rfl, (by intro z; cases z), ?_⟩
    refine ⟨_, rfl, _, rfl, _, _, rfl, rfl, _, _, rfl, rfl, .inl (fm64 (by decide) (by decide)), _, rfl, 31, k, rfl, rfl, .inl ⟨by decide, by decide⟩, _, _, rfl, rfl, .inl ⟨_, rfl, ?_⟩⟩
    refine ⟨_, _, rfl, rfl, (by intro z; cases z), ?_⟩
    refine ⟨_, rfl, _, _, rfl, rfl, ⟨by decide, by decide⟩, .inl ⟨_, rfl, ?_⟩⟩
    refine ⟨_, rfl, _, _, rfl, rfl, (by omega), ?_⟩
    exact q _ _ st (fmod_bd (by omega)).1 (.inl (fmod_bd (by omega)).2)
theorem ok_l_one (T : Txt w K mg) : FnOk P w K mg base CX0 2 T.a_l_one T.d_l_one p_l_one (spOne K) := by
  have g_l_pick := ok_l_pick (P := P) (w := w) (base := base) T
  refine T.F_l_one.ok sc_l_one (fun vs H Q E h => ?_) (fun cdv A outer s H vs Q E hr h => ?_)
  · obtain ⟨a, row, rfl, _⟩ := h
    rfl
  obtain ⟨a, row, rfl, hS, h⟩ := h
  refine ⟨_, (pss_one (ps_ret (pe_ix ix_seq (pv 1) (pe_call g_l_pick (hr.mono (by first | decide | omega)) rfl T.m_l_pick T.F_l_pick.kp T.b_l_pick .nil pass0 (pa_cons (pv 0) (pa_cons (pe_callB call_len rfl T.z_len PySem.boot_len (pa_cons (pv 1) pa_nil)) pa_nil))) (fun _ _ => rfl)))), ?_⟩
  rcases h with ⟨p, xs, rfl, ne, hx, h0, h9, q⟩ | ⟨z, rfl, h0, h9, q⟩
  · refine ⟨_, rfl, _, rfl, _, rfl, .ref p, xs.length, rfl, .inl ⟨_, hx, rfl⟩, ?_⟩
    refine ⟨a, _, rfl, hS, by omega, fun r H' st r0 r1 => ?_⟩
    have hr' : r.toNat < xs.length := by omega
    have e := atI_int (xs := xs) r0 hr'
    exact .inl ⟨p, xs, r, _, rfl, rfl, st.rdL hx ne, e, q _ _ (List.getElem_mem hr') st⟩
  · refine ⟨_, rfl, _, rfl, _, rfl, .str z, z.length, rfl, ⟨Nat.le_of_lt (small1000 (by omega)), rfl⟩, ?_⟩
    refine ⟨a, _, rfl, hS, by omega, fun r H' st r0 r1 => ?_⟩
    have ez : z.length = z.cps.toList.length := by simp [Str.length]
    have hr' : r.toNat < z.cps.toList.length := by omega
    have e := atI_int (xs := z.cps.toList) r0 hr'
    exact .inr (.inr ⟨z, r, _, rfl, rfl, Nat.le_of_lt (small1000 (by omega)), e, q _ _ (List.getElem_mem hr') st⟩)
end
/-! ### data: equal data are the same to _law_same -/
def Dok : Nat → PyData → Prop
  | 0, _ => False
  | _ + 1, .none => True
  | _ + 1, .bool _ => True
  | _ + 1, .int _ => True
  | _ + 1, .str _ => True
  | n + 1, .tuple ds => ds.length ≤ 100000 ∧ ∀ d ∈ ds, Dok n d
  | n + 1, .list ds => ds.length ≤ 100000 ∧ ∀ d ∈ ds, Dok n d
  | _ + 1, .dict _ => False
theorem dpAll_len {K : PySem.W.Frag} {H : Hp} : ∀ {vs : List V} {ds : List PyData}, DpAll K H vs ds → vs.length = ds.length
  | _, _, .nil => rfl
  | _, _, .cons _ r => congrArg (· + 1) (dpAll_len r)
theorem dpAll_get {K : PySem.W.Frag} {H : Hp} : ∀ {vs : List V} {ds : List PyData} {i : Nat} {d : PyData}, DpAll K H vs ds → ds[i]? = some d → ∃ v, vs[i]? = some v ∧ Dp K H v d
  | _, _, _, _, .nil, e => by simp at e
  | _, _, 0, d, .cons h _, e => by
    simp at e
    subst e
    exact ⟨_, rfl, h⟩
  | _, _, i + 1, d, .cons _ r, e => by
    obtain ⟨v, h1, h2⟩ := dpAll_get (i := i) r (by simpa using e)
    exact ⟨v, by simpa using h1, h2⟩
theorem tyL {K : PySem.W.Frag} {H : Hp} {a : Addr} {xs : List V} (h : SqL K H a xs) : TyX K H (.ref a) (.type "list") := by
  rcases h with (h | ⟨o, h⟩) | ⟨o, its, n, h, c, _⟩
  · exact .base (.lst h)
  · exact .base (.frz h)
  · exact .kList h c
theorem tyT {K : PySem.W.Frag} {H : Hp} {a : Addr} {xs : List V} (h : SqT K H a xs) : TyX K H (.ref a) (.type "tuple") := by
  rcases h with (h | ⟨o, h⟩) | ⟨o, its, n, h, c, _⟩
  · exact .base (.tup h)
  · exact .fTuple h
  · exact .kTuple h c
theorem isi {K : PySem.W.Frag} {H : Hp} {Q : VK} {x : V} {t c : String} (b : Bool) (ty : TyX K H x (.type t)) (kb : kitB t c = some b) (q : Q (.bl b) H) : rIsi K [x, .ty c] H Q := ⟨x, .ty c, _, _, b, rfl, .ty c, ty, kit_ty kb, q⟩
theorem kb_nt : kitB "NoneType" "tuple" = some false := by decide +kernel
theorem kb_nl : kitB "NoneType" "list" = some false := by decide +kernel
theorem kb_bt : kitB "bool" "tuple" = some false := by decide +kernel
theorem kb_bl : kitB "bool" "list" = some false := by decide +kernel
theorem kb_bb : kitB "bool" "bool" = some true := by decide +kernel
theorem kb_it : kitB "int" "tuple" = some false := by decide +kernel
theorem kb_il : kitB "int" "list" = some false := by decide +kernel
theorem kb_ib : kitB "int" "bool" = some false := by decide +kernel
theorem kb_ii : kitB "int" "int" = some true := by decide +kernel
theorem kb_st : kitB "str" "tuple" = some false := by decide +kernel
theorem kb_sl : kitB "str" "list" = some false := by decide +kernel
theorem kb_sb : kitB "str" "bool" = some false := by decide +kernel
theorem kb_si : kitB "str" "int" = some false := by decide +kernel
theorem kb_ss : kitB "str" "str" = some true := by decide +kernel
theorem kb_tt : kitB "tuple" "tuple" = some true := by decide +kernel
theorem kb_tl : kitB "tuple" "list" = some false := by decide +kernel
theorem kb_lt : kitB "list" "tuple" = some false := by decide +kernel
theorem kb_ll : kitB "list" "list" = some true := by decide +kernel
def spSame (K : PySem.W.Frag) (n : Nat) : Sp := fun vs H Q _ => ∃ (x y : V) (d : PyData), vs = [x, y] ∧ Dp K H x d ∧ Dp K H y d ∧ Dok n d ∧ Q (.bl true) H
section
variable {P : Program} {w : World} {K : PySem.W.Frag} {mg : Str → Option Value} {base : Heap}
theorem ok_l_same0 (T : Txt w K mg) : FnOk P w K mg base CX0 0 T.a_l_same T.d_l_same p_l_same (spSame K 0) := by
  have no : ∀ vs H Q E, ¬ spSame K 0 vs H Q E := fun vs H Q E h => by
    obtain ⟨x, y, d, _, _, _, h, _⟩ := h
    exact h
  exact ⟨fun vs H Q E h => absurd h (no vs H Q E), fun A outer s H args us vs Q E _ _ _ _ h => absurd h (no vs H Q E)⟩
/-- the part for two lists or two tuples -/
theorem same_seq {n : Nat} {H : Hp} {p r : Addr} {xs ys : List V} {ds : List PyData} (h1 : SqL K H p xs ∨ SqT K H p xs) (h2 : SqL K H r ys ∨ SqT K H r ys) (d1 : DpAll K H xs ds) (d2 : DpAll K H ys ds)
    (hd : ∀ d ∈ ds, Dok n d) {i : Nat} (hi : i < ds.length) {R : V → Hp → Prop} (q : R (.bl true) H) :
    tCall (spSame K n) [] E0 (tCons (tOp (rIx K) (tVar 0) (tVar 2)) (tCons (tOp (rIx K) (tVar 1) (tVar 2)) tNil)) [some (.ref p), some (.ref r), some (.int (0 + (i : Int)))] H R := by
  obtain ⟨x, e1, q1⟩ := dpAll_get (i := i) d1 (List.getElem?_eq_getElem hi)
  obtain ⟨y, e2, q2⟩ := dpAll_get (i := i) d2 (List.getElem?_eq_getElem hi)
  have a1 : atI xs (0 + (i : Int)) = some x := by rw [Int.zero_add]; exact atI_nat e1
  have a2 : atI ys (0 + (i : Int)) = some y := by rw [Int.zero_add]; exact atI_nat e2
  have k2 : tOp (rIx K) (tVar 1) (tVar 2) [some (.ref p), some (.ref r), some (.int (0 + (i : Int)))] H (fun v H' => tNil [some (.ref p), some (.ref r), some (.int (0 + (i : Int)))] H' fun vs H'' => spSame K n ((x :: v :: vs) ++ []) H'' R E0) := by
    refine ⟨_, rfl, _, rfl, ?_⟩
    have z : spSame K n [x, y] H R E0 := ⟨x, y, _, rfl, q1, q2, hd _ (List.getElem_mem hi), q⟩
    rcases h2 with h2 | h2
    · exact .inl ⟨r, _, _, _, rfl, rfl, h2, a2, z⟩
    · exact .inr (.inl ⟨r, _, _, _, rfl, rfl, h2, a2, z⟩)
  refine ⟨_, rfl, _, rfl, ?_⟩
  rcases h1 with h1 | h1
  · exact .inl ⟨p, _, _, _, rfl, rfl, h1, a1, k2⟩
  · exact .inr (.inl ⟨p, _, _, _, rfl, rfl, h1, a1, k2⟩)
theorem ok_l_same (T : Txt w K mg) : ∀ n : Nat, FnOk P w K mg base CX0 n T.a_l_same T.d_l_same p_l_same (spSame K n)
  | 0 => ok_l_same0 T
  | n + 1 => by
    have g_l_same := ok_l_same T n
    refine T.F_l_same.ok sc_l_same (fun vs H Q E h => ?_) (fun cdv A outer s H vs Q E hr h => ?_)
    · obtain ⟨x, y, d, rfl, _⟩ := h
      rfl
    obtain ⟨x, y, d, rfl, hx, hy, hd, q⟩ := h
    refine ⟨_, (pss_cons (ps_if (PW.pt (pw_or (pt_val (pe_callB call_isi rfl T.z_isinstance bb_isinstance (pa_cons (pv 1) (pa_cons (pe_bltn (v := .ty "tuple") rfl T.z_tuple bt_tuple rfl) pa_nil)))) (pw_or1 (pt_val (pe_callB call_isi rfl T.z_isinstance bb_isinstance (pa_cons (pv 1) (pa_cons (pe_bltn (v := .ty "list") rfl T.z_list bt_list rfl) pa_nil))))))) (pss_cons (ps_if (PW.pt (pw_or (pt_cmpR op_ne (pe_callB call_isi rfl T.z_isinstance bb_isinstance (pa_cons (pv 1) (pa_cons (pe_bltn (v := .ty "tuple") rfl T.z_tuple bt_tuple rfl) pa_nil))) (pe_callB call_isi rfl T.z_isinstance bb_isinstance (pa_cons (pv 0) (pa_cons (pe_bltn (v := .ty "tuple") rfl T.z_tuple bt_tuple rfl) pa_nil))) (nomark _)) (pw_or1 (pt_cmpR op_ne (pe_callB call_isi rfl T.z_isinstance bb_isinstance (pa_cons (pv 1) (pa_cons (pe_bltn (v := .ty "list") rfl T.z_list bt_list rfl) pa_nil))) (pe_callB call_isi rfl T.z_isinstance bb_isinstance (pa_cons (pv 0) (pa_cons (pe_bltn (v := .ty "list") rfl T.z_list bt_list rfl) pa_nil))) (nomark _))))) (pss_one (ps_ret pe_bl)) pss_nil)
      (pss_cons (ps_if (pt_cmpR op_ne (pe_callB call_len_seq rfl T.z_len PySem.boot_len (pa_cons (pv 0) pa_nil)) (pe_callB call_len_seq rfl T.z_len PySem.boot_len (pa_cons (pv 1) pa_nil)) (nomark _)) (pss_one (ps_ret pe_bl)) pss_nil)
      (pss_cons (ps_for PassesOwn.never rfl (pi_range1 rfl T.z_range (pa_cons (pe_callB call_len_seq rfl T.z_len PySem.boot_len (pa_cons (pv 1) pa_nil)) pa_nil)) (pg_name (i := 2) sc_l_same.nd rfl (Or.inl rfl))
        (pss_one (ps_if (pt_not (pt_val (pe_call g_l_same (hr.mono (by first | decide | omega)) rfl T.m_l_same T.F_l_same.kp T.b_l_same .nil pass0 (pa_cons (pe_ix ix_seq (pv 0) (pv 2) (fun _ _ => rfl)) (pa_cons (pe_ix ix_seq (pv 1) (pv 2) (fun _ _ => rfl)) pa_nil))))) (pss_one (ps_ret pe_bl)) pss_nil)))
      (pss_one (ps_ret pe_bl))))) pss_nil)
      (pss_cons (ps_if (pt_cmpR op_isN (pv 1) pe_non (nomark _)) (pss_one (ps_ret (pe_cmpR op_isN (pv 0) pe_non (nomark _)))) pss_nil)
      (pss_cons (ps_if (pt_val (pe_callB call_isi rfl T.z_isinstance bb_isinstance (pa_cons (pv 1) (pa_cons (pe_bltn (v := .ty "bool") rfl T.z_bool bt_bool rfl) pa_nil)))) (pss_one (ps_ret (pe_and (pe_callB call_isi rfl T.z_isinstance bb_isinstance (pa_cons (pv 0) (pa_cons (pe_bltn (v := .ty "bool") rfl T.z_bool bt_bool rfl) pa_nil))) (pe_one (pe_cmpR op_eq (pv 0) (pv 1) (nomark _)))))) pss_nil)
      (pss_cons (ps_if (pt_val (pe_callB call_isi rfl T.z_isinstance bb_isinstance (pa_cons (pv 1) (pa_cons (pe_bltn (v := .ty "int") rfl T.z_int bt_int rfl) pa_nil)))) (pss_one (ps_ret (pe_and (pe_callB call_isi rfl T.z_isinstance bb_isinstance (pa_cons (pv 0) (pa_cons (pe_bltn (v := .ty "int") rfl T.z_int bt_int rfl) pa_nil))) (pe_and (pe_not (pe_callB call_isi rfl T.z_isinstance bb_isinstance (pa_cons (pv 0) (pa_cons (pe_bltn (v := .ty "bool") rfl T.z_bool bt_bool rfl) pa_nil)))) (pe_one (pe_cmpR op_eq (pv 0) (pv 1) (nomark _))))))) pss_nil)
      (pss_one (ps_ret (pe_and (pe_callB call_isi rfl T.z_isinstance bb_isinstance (pa_cons (pv 0) (pa_cons (pe_bltn (v := .ty "str") rfl T.z_str bt_str rfl) pa_nil))) (pe_one (pe_cmpR op_eq (pv 0) (pv 1) (nomark _)))))))))), ?_⟩
    cases hx with
    | non =>
      cases hy
      refine ⟨_, rfl, _, _, _, _, false, rfl, .ty _, (.base .non), kit_ty kb_nt, ⟨_, rfl, iteF ⟨_, rfl, _, _, _, _, false, rfl, .ty _, (.base .non), kit_ty kb_nl, ⟨_, rfl, iteF ?_⟩⟩⟩⟩
      refine ⟨_, rfl, rfl, _, rfl, iteT ?_⟩
      exact ⟨_, rfl, rfl, q⟩
    | bl b =>
      cases hy
      refine ⟨_, rfl, _, _, _, _, false, rfl, .ty _, (.base (.bl _)), kit_ty kb_bt, ⟨_, rfl, iteF ⟨_, rfl, _, _, _, _, false, rfl, .ty _, (.base (.bl _)), kit_ty kb_bl, ⟨_, rfl, iteF ?_⟩⟩⟩⟩
      refine ⟨_, rfl, rfl, _, rfl, iteF ?_⟩
      refine ⟨_, rfl, _, _, _, _, true, rfl, .ty _, (.base (.bl _)), kit_ty kb_bb, ⟨_, rfl, iteT ?_⟩⟩
      refine ⟨_, rfl, _, _, _, _, true, rfl, .ty _, (.base (.bl _)), kit_ty kb_bb, ⟨_, rfl, iteT ?_⟩⟩
      refine ⟨_, rfl, _, rfl, rfl, ?_⟩
      rw [decide_eq_true rfl]
      exact q
    | int b =>
      cases hy
      refine ⟨_, rfl, _, _, _, _, false, rfl, .ty _, (.base (.int _)), kit_ty kb_it, ⟨_, rfl, iteF ⟨_, rfl, _, _, _, _, false, rfl, .ty _, (.base (.int _)), kit_ty kb_il, ⟨_, rfl, iteF ?_⟩⟩⟩⟩
      refine ⟨_, rfl, rfl, _, rfl, iteF ?_⟩
      refine ⟨_, rfl, _, _, _, _, false, rfl, .ty _, (.base (.int _)), kit_ty kb_ib, ⟨_, rfl, iteF ?_⟩⟩
      refine ⟨_, rfl, _, _, _, _, true, rfl, .ty _, (.base (.int _)), kit_ty kb_ii, ⟨_, rfl, iteT ?_⟩⟩
      refine ⟨_, rfl, _, _, _, _, true, rfl, .ty _, (.base (.int _)), kit_ty kb_ii, ⟨_, rfl, iteT ?_⟩⟩
      refine ⟨_, rfl, _, _, _, _, false, rfl, .ty _, (.base (.int _)), kit_ty kb_ib, ⟨_, rfl, _, rfl, iteT ?_⟩⟩
      refine ⟨_, rfl, _, rfl, rfl, ?_⟩
      rw [decide_eq_true rfl]
      exact q
    | str b =>
      cases hy
      refine ⟨_, rfl, _, _, _, _, false, rfl, .ty _, (.base (.str _)), kit_ty kb_st, ⟨_, rfl, iteF ⟨_, rfl, _, _, _, _, false, rfl, .ty _, (.base (.str _)), kit_ty kb_sl, ⟨_, rfl, iteF ?_⟩⟩⟩⟩
      refine ⟨_, rfl, rfl, _, rfl, iteF ?_⟩
      refine ⟨_, rfl, _, _, _, _, false, rfl, .ty _, (.base (.str _)), kit_ty kb_sb, ⟨_, rfl, iteF ?_⟩⟩
      refine ⟨_, rfl, _, _, _, _, false, rfl, .ty _, (.base (.str _)), kit_ty kb_si, ⟨_, rfl, iteF ?_⟩⟩
      refine ⟨_, rfl, _, _, _, _, true, rfl, .ty _, (.base (.str _)), kit_ty kb_ss, ⟨_, rfl, iteT ?_⟩⟩
      refine ⟨_, rfl, _, rfl, rfl, ?_⟩
      rw [decide_eq_true rfl]
      exact q
    | @lst p xs ds h1 d1 =>
      cases hy with
      | @lst r ys _ h2 d2 =>
      have l1 := dpAll_len d1
      have l2 := dpAll_len d2
      obtain ⟨hlen, hd⟩ := hd
      refine ⟨_, rfl, _, _, _, _, false, rfl, .ty _, (tyL h2), kit_ty kb_lt, ⟨_, rfl, iteF ⟨_, rfl, _, _, _, _, true, rfl, .ty _, (tyL h2), kit_ty kb_ll, ⟨_, rfl, iteT ?_⟩⟩⟩⟩
      refine ⟨_, rfl, _, _, _, _, false, rfl, .ty _, (tyL h2), kit_ty kb_lt, ⟨_, rfl, _, _, _, _, false, rfl, .ty _, (tyL h1), kit_ty kb_lt, ⟨rfl, _, rfl, iteF ?_⟩⟩⟩
      refine ⟨_, rfl, _, _, _, _, true, rfl, .ty _, (tyL h2), kit_ty kb_ll, ⟨_, rfl, _, _, _, _, true, rfl, .ty _, (tyL h1), kit_ty kb_ll, ⟨rfl, _, rfl, iteF ?_⟩⟩⟩
      refine ⟨_, rfl, p, _, rfl, .inl h1, _, rfl, r, _, rfl, .inl h2, rfl, _, rfl, ?_⟩
      refine iteNS (congrArg V.int (by omega)) ?_
      refine ⟨_, rfl, r, _, rfl, .inl h2, _, rfl, by omega, by omega, for_range (lo := 0) (fun i σ H' => H' = H ∧ ∃ v : Option V, σ = [some (.ref p), some (.ref r), v]) ⟨rfl, none, rfl⟩ ?_ ?_⟩
      · rintro i σ H' hi ⟨rfl, v, rfl⟩
        refine same_seq (.inl h1) (.inl h2) d1 d2 hd (by omega) ⟨_, rfl, iteF ?_⟩
        exact ⟨rfl, _, rfl⟩
      · rintro σ H' ⟨rfl, v, rfl⟩
        exact q
    | @tup p xs ds h1 d1 =>
      cases hy with
      | @tup r ys _ h2 d2 =>
      have l1 := dpAll_len d1
      have l2 := dpAll_len d2
      obtain ⟨hlen, hd⟩ := hd
      refine ⟨_, rfl, _, _, _, _, true, rfl, .ty _, (tyT h2), kit_ty kb_tt, ⟨_, rfl, iteT ?_⟩⟩
      refine ⟨_, rfl, _, _, _, _, true, rfl, .ty _, (tyT h2), kit_ty kb_tt, ⟨_, rfl, _, _, _, _, true, rfl, .ty _, (tyT h1), kit_ty kb_tt, ⟨rfl, _, rfl, iteF ?_⟩⟩⟩
      refine ⟨_, rfl, _, _, _, _, false, rfl, .ty _, (tyT h2), kit_ty kb_tl, ⟨_, rfl, _, _, _, _, false, rfl, .ty _, (tyT h1), kit_ty kb_tl, ⟨rfl, _, rfl, iteF ?_⟩⟩⟩
      refine ⟨_, rfl, p, _, rfl, .inr h1, _, rfl, r, _, rfl, .inr h2, rfl, _, rfl, ?_⟩
      refine iteNS (congrArg V.int (by omega)) ?_
      refine ⟨_, rfl, r, _, rfl, .inr h2, _, rfl, by omega, by omega, for_range (lo := 0) (fun i σ H' => H' = H ∧ ∃ v : Option V, σ = [some (.ref p), some (.ref r), v]) ⟨rfl, none, rfl⟩ ?_ ?_⟩
      · rintro i σ H' hi ⟨rfl, v, rfl⟩
        refine same_seq (.inr h1) (.inr h2) d1 d2 hd (by omega) ⟨_, rfl, iteF ?_⟩
        exact ⟨rfl, _, rfl⟩
      · rintro σ H' ⟨rfl, v, rfl⟩
        exact q
end
/-! ### the names of the draws: twenty texts in one of four styles -/
def numS (i : Int) : Str := Str.ofString (toString i)
theorem len_app (x y : Str) : (x ++ y).length = x.length + y.length := Array.size_append
def lettersL : List Nat := ("bcdeghijklmnopqrtuvw" : Str).cps.toList
def nmW (st : Int) (k : Nat) : Str :=
  if st = 3 then ("n" : Str) ++ numS ((k : Int) * (k : Int) + 3)
  else if st = 2 then ("zz" : Str) ++ ⟨#[lettersL.getD k 0]⟩
  else if st = 1 then (⟨#[lettersL.getD k 0]⟩ : Str) ++ ("q7" : Str)
  else ⟨#[lettersL.getD k 0]⟩
def namesOf (st : Int) : List Str := (List.range 20).map (nmW st)
theorem numS_short {i : Int} (h : -1000000000 ≤ i ∧ i ≤ 1000000000) : (numS i).length ≤ 11 := by
  have e := int_text_length_le10 (a := i) (k := 10) (by decide) (by omega)
  unfold numS
  rw [ofString_length]
  exact e
theorem log_short {i : Int} (h : -1000000000 ≤ i ∧ i ≤ 1000000000) : i.natAbs.log2 < 1920 := by
  by_cases z : i.natAbs = 0
  · rw [z]
    decide
  · refine (Nat.log2_lt z).mpr (Nat.lt_of_lt_of_le (m := 2 ^ 32) ?_ (Nat.pow_le_pow_right (by decide) (by decide)))
    omega
def spNames : Sp := fun vs H Q _ => ∃ a : Addr, vs = [.ref a] ∧ Src H a ∧ ∀ (st : Int) (p : Addr) (H' : Hp), Stp a H H' → H p = none → 0 ≤ st → st < 4 → H' p = some (.lst ((namesOf st).map V.str)) → Q (.ref p) H'
section
variable {P : Program} {w : World} {K : PySem.W.Frag} {mg : Str → Option Value} {base : Heap}
theorem ok_l_names (T : Txt w K mg) : FnOk P w K mg base CX0 2 T.a_l_names T.d_l_names p_l_names spNames := by
  have g_l_pick := ok_l_pick (P := P) (w := w) (base := base) T
  refine T.F_l_names.ok sc_l_names (fun vs H Q E h => ?_) (fun cdv A outer s H vs Q E hr h => ?_)
  · obtain ⟨a, rfl, _⟩ := h
    rfl
  obtain ⟨a, rfl, hS, q⟩ := h
  refine ⟨_, (pss_cons (ps_set (i := 1) sc_l_names.nd rfl (Or.inl rfl) (pe_call g_l_pick (hr.mono (by first | decide | omega)) rfl T.m_l_pick T.F_l_pick.kp T.b_l_pick .nil pass0 (pa_cons (pv 0) (pa_cons pe_int pa_nil))))
      (pss_cons (ps_set (i := 2) sc_l_names.nd rfl (Or.inl rfl) (pe_lst pa_nil))
      (pss_cons (ps_for PassesOwn.never rfl (pi_range1 rfl T.z_range (pa_cons pe_int pa_nil)) (pg_name (i := 3) sc_l_names.nd rfl (Or.inl rfl))
        (pss_cons (ps_set (i := 4) sc_l_names.nd rfl (Or.inl rfl) (pe_ix ix_str pe_str (pv 3) (fun _ _ => rfl)))
      (C8.pss_cut (ps_if (pt_cmpR op_eq (pv 1) pe_int (nomark _)) (pss_one (ps_set (i := 4) sc_l_names.nd rfl (Or.inl rfl) (pe_op op_add_str (pv 4) pe_str))) pss_nil)
      (C8.pss_cut (ps_if (pt_cmpR op_eq (pv 1) pe_int (nomark _)) (pss_one (ps_set (i := 4) sc_l_names.nd rfl (Or.inl rfl) (pe_op op_add_str pe_str (pv 4)))) pss_nil)
      (C8.pss_cut (ps_if (pt_cmpR op_eq (pv 1) pe_int (nomark _)) (pss_one (ps_set (i := 4) sc_l_names.nd rfl (Or.inl rfl) (pe_op op_add_str pe_str (pe_callTy call_str_int rfl T.z_str bt_str (pa_cons (pe_op op_add (pe_op op_mul (pv 3) (pv 3)) pe_int) pa_nil))))) pss_nil)
      (pss_one (ps_expr (pe_bm PySem.F.plainAttrs_list PySem.F.slot_list_append PySem.F.type_list_append mt_append (pv 2) (pa_cons (pv 4) pa_nil)))))))))
      (pss_one (ps_ret (pv 2)))))), ?_⟩
  refine ⟨_, rfl, a, 4, rfl, hS, by decide, fun st H1 st1 s0 s1 => ?_⟩
  refine ⟨by show 0 ≤ sizeLine; decide, fun l hl => ?_⟩
  have n0 : H l = none := st1.free hl
  refine ⟨20, rfl, by decide, by decide, for_range (lo := 0) (n := 20) (fun i σ H' => Stp a H H' ∧ H' l = some (.lst ((List.range i).map fun k => V.str (nmW st k))) ∧ ∃ v1 v2 : Option V, σ = [some (.ref a), some (.int st), some (.ref l), v1, v2]) ⟨st1.new hl, upd_same, none, none, rfl⟩ ?_ ?_⟩
  · rintro i σ H' hi ⟨sti, hli, v1, v2, rfl⟩
    have hi' : (0 + (i : Int)).toNat < ("bcdeghijklmnopqrtuvw" : Str).cps.toList.length := by
      show (0 + (i : Int)).toNat < 20
      omega
    have e0 := atI_int (xs := ("bcdeghijklmnopqrtuvw" : Str).cps.toList) (r := 0 + (i : Int)) (by omega) hi'
    have e1 : ("bcdeghijklmnopqrtuvw" : Str).cps.toList[(0 + (i : Int)).toNat] = lettersL.getD i 0 := by
      have z : (0 + (i : Int)).toNat = i := by omega
      have hi2 : i < lettersL.length := by show i < 20; exact hi
      show lettersL[(0 + (i : Int)).toNat]'_ = _
      rw [List.getD_eq_getElem?_getD, List.getElem?_eq_getElem hi2]
      show _ = lettersL[i]
      congr 1
    rw [e1] at e0
    refine ⟨_, rfl, _, _, _, rfl, rfl, by decide +kernel, e0, ?_⟩
    generalize ec : lettersL.getD i 0 = c
    refine ⟨fun σ H2 => H2 = H' ∧ σ = [some (.ref a), some (.int st), some (.ref l), some (.int (0 + (i : Int))), some (.str (if st = 1 then (⟨#[c]⟩ : Str) ++ ("q7" : Str) else ⟨#[c]⟩))], ⟨_, rfl, rfl, _, rfl, ?_⟩, ?_⟩
    · refine ite2 (fun h => ?_) (fun h => ?_)
      · have h1 : st = 1 := V.int.inj (of_decide_eq_true h)
        refine ⟨_, rfl, _, _, rfl, rfl, (by show 1 + 2 ≤ sizeLine; decide), rfl, ?_⟩
        rw [if_pos h1]
        rfl
      · have h1 : ¬ st = 1 := fun z => h (decide_eq_true (congrArg V.int z))
        refine ⟨rfl, ?_⟩
        rw [if_neg h1]
        rfl
    rintro σ H2 ⟨rfl, rfl⟩
    refine ⟨fun σ H3 => H3 = H2 ∧ σ = [some (.ref a), some (.int st), some (.ref l), some (.int (0 + (i : Int))), some (.str (if st = 2 then ("zz" : Str) ++ ⟨#[c]⟩ else if st = 1 then (⟨#[c]⟩ : Str) ++ ("q7" : Str) else ⟨#[c]⟩))], ⟨_, rfl, rfl, _, rfl, ?_⟩, ?_⟩
    · refine ite2 (fun h => ?_) (fun h => ?_)
      · have h1 : st = 2 := V.int.inj (of_decide_eq_true h)
        subst h1
        refine ⟨_, rfl, _, _, rfl, rfl, ?_, rfl, rfl⟩
        rw [if_neg (by decide)]
        show 2 + 1 ≤ sizeLine
        decide
      · have h1 : ¬ st = 2 := fun z => h (decide_eq_true (congrArg V.int z))
        refine ⟨rfl, ?_⟩
        rw [if_neg h1]
    rintro σ H3 ⟨rfl, rfl⟩
    refine ⟨fun σ H4 => H4 = H3 ∧ σ = [some (.ref a), some (.int st), some (.ref l), some (.int (0 + (i : Int))), some (.str (nmW st i))], ⟨_, rfl, rfl, _, rfl, ?_⟩, ?_⟩
    · refine ite2 (fun h => ?_) (fun h => ?_)
      · have h1 : st = 3 := V.int.inj (of_decide_eq_true h)
        subst h1
        have hb : ((0 + (i : Int)) * (0 + (i : Int)) + 3) = ((i : Int) * (i : Int) + 3) := by rw [Int.zero_add]
        have hsq : 0 ≤ (i : Int) * (i : Int) ∧ (i : Int) * (i : Int) ≤ 400 := by
          refine ⟨Int.mul_nonneg (by omega) (by omega), ?_⟩
          exact Int.le_trans (Int.mul_le_mul (by omega : (i : Int) ≤ 20) (by omega : (i : Int) ≤ 20) (by omega) (by decide)) (by decide)
        have hbd : -1000000000 ≤ (i : Int) * (i : Int) + 3 ∧ (i : Int) * (i : Int) + 3 ≤ 1000000000 := by omega
        refine ⟨_, rfl, _, rfl, _, _, rfl, rfl, .inl ⟨by omega, by omega⟩, _, _, rfl, rfl, _, rfl, ?_, _, _, rfl, rfl, ?_, rfl, ?_⟩
        · rw [hb]
          exact log_short hbd
        · rw [hb]
          have z := numS_short hbd
          show 1 + (numS ((i : Int) * (i : Int) + 3)).length ≤ sizeLine
          rw [sizeLine_eq]
          omega
        · rw [hb]
          rfl
      · have h1 : ¬ st = 3 := fun z => h (decide_eq_true (congrArg V.int z))
        refine ⟨rfl, ?_⟩
        unfold nmW
        rw [if_neg h1, ec]
    rintro σ H4 ⟨rfl, rfl⟩
    refine ⟨_, rfl, .inl ⟨rfl, _, SqL.of hli⟩, _, rfl, l, _, _, rfl, rfl, hli, ?_, ?_⟩
    · rw [List.length_map, List.length_range]
      exact small1000 (by omega)
    have nl : l ≠ a := (st1.s.ne hl).symm
    have st2 : Stp a H (upd H4 l (.lst ((List.range i).map (fun k => V.str (nmW st k)) ++ [.str (nmW st i)]))) := by
      obtain ⟨c1, m1, k1, hc⟩ := sti.s
      refine ⟨⟨c1, m1, k1, by rw [upd_ne nl.symm]; exact hc⟩, fun b o hb e => ?_⟩
      rw [upd_ne (ne_of_none e n0)]
      exact sti.k b o hb e
    refine ⟨st2, ?_, _, _, rfl⟩
    rw [upd_same, List.range_succ, List.map_append]
    rfl
  · rintro σ H' ⟨sti, hli, v1, v2, rfl⟩
    refine ⟨_, rfl, q st l H' sti n0 s0 (by omega) ?_⟩
    rw [hli]
    exact congrArg (fun z => some (HO.lst z)) (by show _ = (List.map V.str (List.map (nmW st) (List.range 20))); rw [List.map_map]; rfl)
end
/-! ### a zip of two tuples in a comprehension -/
theorem lc_zipT {K : PySem.W.Frag} {a b : Addr} {xs ys : List V} {g : TG} {tt : TT} {te : TE} {vs : List Nat} {σ : L2.St} {H1 : Hp} {D : Addr} {Qd : Hp → Prop} (hl : xs.length = ys.length) (Pv : Nat → Hp → Prop) (h0 : Pv 0 (upd H1 D (.lst []))) (hq : ∀ i H, Pv i H → SqT K H a xs ∧ SqT K H b ys)
    (hs : ∀ (i : Nat) (x y : V) (t : Addr) (H : Hp), xs[i]? = some x → ys[i]? = some y → Pv i H → H t = none → g (.ref t) (wipe σ vs) (upd H t (.tup [x, y])) fun σ2 H2 => wipe σ2 vs = wipe σ vs ∧ tt σ2 H2 fun k H3 =>
      if k = true then te σ2 H3 fun z H4 => ∃ acc, H4 D = some (.lst acc) ∧ acc.length < sizeLine ∧ Pv (i + 1) (upd H4 D (.lst (acc ++ [z]))) else Pv (i + 1) H3) (hd : ∀ H, Pv xs.length H → Qd H) :
    ∃ W : Nat → Nat → Hp → Prop, (∃ m, W 0 m (upd H1 D (.lst []))) ∧ ∀ i m H, W i m H →
      ((RZ.ItzT K a b).stop i H ∧ Qd H) ∨ ((RZ.ItzT K a b).go i H ∧ ∃ Nx : Hp → Prop, (∀ H', Nx H' → ∃ m', m' < m ∧ W (i + 1) m' H') ∧ ∀ x H', (RZ.ItzT K a b).yld i H x H' → g x (wipe σ vs) H' fun σ2 H2 => wipe σ2 vs = wipe σ vs ∧ tt σ2 H2 fun k H3 =>
        if k = true then te σ2 H3 fun y H4 => ∃ acc, H4 D = some (.lst acc) ∧ acc.length < sizeLine ∧ Nx (upd H4 D (.lst (acc ++ [y]))) else Nx H3) := by
  refine ⟨fun i m H => m = xs.length - i ∧ i ≤ xs.length ∧ Pv i H, ⟨xs.length, rfl, Nat.zero_le _, h0⟩, ?_⟩
  rintro i m H ⟨rfl, hi, p⟩
  have q := hq i H p
  rcases Nat.lt_or_ge i xs.length with hlt | hge
  · have h2 : i < ys.length := hl ▸ hlt
    have ex := List.getElem?_eq_getElem hlt
    have ey := List.getElem?_eq_getElem h2
    refine .inr ⟨⟨xs, ys, _, _, q.1, q.2, ex, ey⟩, Pv (i + 1), fun H' p' => ⟨xs.length - (i + 1), by omega, rfl, hlt, p'⟩, ?_⟩
    rintro v H' ⟨t, x, y, rfl, ht, rfl, f1, f2⟩
    exact hs i x y t H (f1 xs q.1) (f2 ys q.2) p ht
  · have e : i = xs.length := by omega
    subst e
    exact .inl ⟨⟨xs, ys, q.1, q.2, .inl hge⟩, hd H p⟩
/-! ### the parts of a statement: the roles of its word, and the values that are there -/
def partsL : List Str → List V → List (Str × V)
  | r :: rs, v :: vs => if v = .non then partsL rs vs else (r, v) :: partsL rs vs
  | _, _ => []
/-- pairs, as tuples in the heap -/
inductive Prs (H : Hp) : List Addr → List (Str × V) → Prop where
  | nil : Prs H [] []
  | cons {p : Addr} {ps : List Addr} {r : Str} {v : V} {l : List (Str × V)} : H p = some (.tup [.str r, v]) → Prs H ps l → Prs H (p :: ps) ((r, v) :: l)
theorem Prs.same {H H' : Hp} (s : Same H H') : ∀ {ps : List Addr} {l : List (Str × V)}, Prs H ps l → Prs H' ps l
  | _, _, .nil => .nil
  | _, _, .cons h r => .cons (s _ _ h) (Prs.same s r)
theorem Prs.snoc {H : Hp} {p : Addr} {r : Str} {v : V} (h : H p = some (.tup [.str r, v])) : ∀ {ps : List Addr} {l : List (Str × V)}, Prs H ps l → Prs H (ps ++ [p]) (l ++ [(r, v)])
  | _, _, .nil => .cons h .nil
  | _, _, .cons q t => .cons q (Prs.snoc h t)
theorem Prs.upd {H : Hp} {D : Addr} {acc : List V} {o : HO} (hD : H D = some (.lst acc)) : ∀ {ps : List Addr} {l : List (Str × V)}, Prs H ps l → Prs (upd H D o) ps l
  | _, _, .nil => .nil
  | _, _, .cons h r => .cons (by rw [upd_ne (ne_of h hD (by intro z; cases z))]; exact h) (Prs.upd hD r)
theorem Prs.len {H : Hp} : ∀ {ps : List Addr} {l : List (Str × V)}, Prs H ps l → ps.length = l.length
  | _, _, .nil => rfl
  | _, _, .cons _ r => congrArg (· + 1) (Prs.len r)
theorem Prs.get {H : Hp} : ∀ {ps : List Addr} {l : List (Str × V)} {i : Nat} {v : V}, Prs H ps l → (ps.map V.ref)[i]? = some v → ∃ p r x, v = .ref p ∧ l[i]? = some (r, x) ∧ H p = some (.tup [.str r, x])
  | _, _, _, _, .nil, e => by simp at e
  | _, _, 0, v, .cons h _, e => by
    simp at e
    exact ⟨_, _, _, e.symm, rfl, h⟩
  | _, _, i + 1, v, .cons _ t, e => by
    obtain ⟨p, r, x, h1, h2, h3⟩ := Prs.get (i := i) t (by simpa using e)
    exact ⟨p, r, x, h1, by simpa using h2, h3⟩
theorem partsL_len : ∀ (rs : List Str) (vs : List V), (partsL rs vs).length ≤ rs.length
  | [], _ => by simp [partsL]
  | _ :: _, [] => by simp [partsL]
  | r :: rs, v :: vs => by
    have ih := partsL_len rs vs
    unfold partsL
    split
    · exact Nat.le_succ_of_le ih
    · exact Nat.succ_le_succ ih
/-- the same from the left: what the first i places give -/
theorem parts_take {rs : List Str} {vs : List V} (hl : rs.length = vs.length) : ∀ {i : Nat} {r : Str} {v : V}, rs[i]? = some r → vs[i]? = some v → partsL (rs.take (i + 1)) (vs.take (i + 1)) = if v = .non then partsL (rs.take i) (vs.take i) else partsL (rs.take i) (vs.take i) ++ [(r, v)] := by
  induction rs generalizing vs with
  | nil => intro i r v h; simp at h
  | cons x xs ih =>
    cases vs with
    | nil => cases hl
    | cons y ys =>
      intro i r v h1 h2
      cases i with
      | zero =>
        simp at h1 h2
        subst h1 h2
        show (if y = .non then partsL (List.take 0 xs) (List.take 0 ys) else (x, y) :: partsL (List.take 0 xs) (List.take 0 ys)) = _
        rw [List.take_zero, List.take_zero, List.take_zero, List.take_zero]
        split <;> rfl
      | succ i =>
        have e := ih (Nat.succ.inj hl) (i := i) (r := r) (v := v) (by simpa using h1) (by simpa using h2)
        show (if y = .non then partsL (xs.take (i + 1)) (ys.take (i + 1)) else (x, y) :: partsL (xs.take (i + 1)) (ys.take (i + 1))) = if v = .non then (if y = .non then partsL (xs.take i) (ys.take i) else (x, y) :: partsL (xs.take i) (ys.take i)) else (if y = .non then partsL (xs.take i) (ys.take i) else (x, y) :: partsL (xs.take i) (ys.take i)) ++ [(r, v)]
        rw [e]
        by_cases hv : v = .non <;> by_cases hy : y = .non <;> simp [hv, hy]
/-- the bodies among the values of a statement -/
def bodL : List Str → List V → List V
  | r :: rs, v :: vs => if r = ("body" : Str) then v :: bodL rs vs else bodL rs vs
  | _, _ => []
theorem bodL_nil {vs : List V} : bodL [] vs = [] := by simp [bodL]
theorem bodL_end {rs : List Str} : bodL rs [] = [] := by cases rs <;> simp [bodL]
theorem bodL_cons {r : Str} {v : V} {rs : List Str} {vs : List V} (h : r ≠ ("body" : Str)) : bodL (r :: rs) (v :: vs) = bodL rs vs := if_neg h
theorem bodL_body {v : V} {rs : List Str} {vs : List V} : bodL (("body" : Str) :: rs) (v :: vs) = v :: bodL rs vs := if_pos rfl
theorem bodL_no : ∀ {rs : List Str} {vs : List V}, ("body" : Str) ∉ rs → bodL rs vs = []
  | [], _, _ => bodL_nil
  | _ :: _, [], _ => bodL_end
  | r :: rs, v :: vs, h => by
    rw [bodL_cons fun z => h (by rw [z]; exact List.mem_cons_self)]
    exact bodL_no fun z => h (List.mem_cons_of_mem _ z)
theorem bodL_len : ∀ (rs : List Str) (vs : List V), (bodL rs vs).length ≤ rs.length
  | [], _ => by rw [bodL_nil]; exact Nat.zero_le _
  | _ :: _, [] => by rw [bodL_end]; exact Nat.zero_le _
  | r :: rs, v :: vs => by
    have ih := bodL_len rs vs
    unfold bodL
    split
    · exact Nat.succ_le_succ ih
    · exact Nat.le_succ_of_le ih
theorem bodL_take {rs : List Str} {vs : List V} (hl : rs.length = vs.length) : ∀ {i : Nat} {r : Str} {v : V}, rs[i]? = some r → vs[i]? = some v → bodL (rs.take (i + 1)) (vs.take (i + 1)) = bodL (rs.take i) (vs.take i) ++ (if r = ("body" : Str) then [v] else []) := by
  induction rs generalizing vs with
  | nil => intro i r v h; simp at h
  | cons x xs ih =>
    cases vs with
    | nil => cases hl
    | cons y ys =>
      intro i r v h1 h2
      cases i with
      | zero =>
        simp at h1 h2
        subst h1 h2
        show (if x = ("body" : Str) then y :: bodL (List.take 0 xs) (List.take 0 ys) else bodL (List.take 0 xs) (List.take 0 ys)) = bodL [] [] ++ _
        rw [List.take_zero, bodL_nil, bodL_nil, List.nil_append]
      | succ i =>
        have e := ih (Nat.succ.inj hl) (i := i) (r := r) (v := v) (by simpa using h1) (by simpa using h2)
        show (if x = ("body" : Str) then y :: bodL (xs.take (i + 1)) (ys.take (i + 1)) else bodL (xs.take (i + 1)) (ys.take (i + 1))) = (if x = ("body" : Str) then y :: bodL (xs.take i) (ys.take i) else bodL (xs.take i) (ys.take i)) ++ _
        rw [e]
        by_cases hy : x = ("body" : Str) <;> simp [hy]
theorem flat_roles (l : List Str) : (l.map V.str).all flatV = true := by
  rw [List.all_eq_true]
  intro x hx
  obtain ⟨z, _, rfl⟩ := List.mem_map.mp hx
  rfl
theorem body_in (l : List Str) : inV (.str ("body" : Str)) (l.map V.str) = decide (("body" : Str) ∈ l) := by
  induction l with
  | nil => rfl
  | cons a l ih =>
    have e : inV (.str ("body" : Str)) (V.str a :: l.map V.str) = (eqV (V.str a) (.str ("body" : Str)) || inV (.str ("body" : Str)) (l.map V.str)) := rfl
    rw [List.map_cons, e, ih, Bool.eq_iff_iff, Bool.or_eq_true, decide_eq_true_eq, decide_eq_true_eq, List.mem_cons]
    have f : eqV (V.str a) (.str ("body" : Str)) = true ↔ ("body" : Str) = a := by
      show (a == ("body" : Str)) = true ↔ _
      rw [beq_iff_eq]
      exact ⟨fun z => z.symm, fun z => z.symm⟩
    rw [f]
def spParts (K : PySem.W.Frag) : Sp := fun vs H Q _ => ∃ (p : Addr) (wd : Str) (rest : List V) (roles : List Str), vs = [.ref p] ∧ SqT K H p (.str wd :: rest) ∧ (wd, roles) ∈ tb_PARTS ∧ roles.length = rest.length ∧ roles.length ≤ 10 ∧
  ∀ (D : Addr) (ps : List Addr) (H' : Hp), Same H H' → H D = none → H' D = some (.lst (ps.map V.ref)) → Prs H' ps (partsL roles rest) → Q (.ref D) H'
def spBodies (K : PySem.W.Frag) : Sp := fun vs H Q _ => ∃ (p : Addr) (wd : Str) (rest : List V) (roles : List Str), vs = [.ref p] ∧ SqT K H p (.str wd :: rest) ∧ (wd, roles) ∈ tb_PARTS ∧ roles.length = rest.length ∧ roles.length ≤ 10 ∧
  ∀ (D : Addr) (H' : Hp), Same H H' → H D = none → H' D = some (.lst (bodL roles rest)) → Q (.ref D) H'
theorem at0 {x : V} {xs : List V} : atI (x :: xs) 0 = some x := atI_nat (j := 0) rfl
theorem cut_tail (x : V) (xs : List V) : cutV (x :: xs) (some 1) none = xs := by
  show ((x :: xs).drop (HT.sIx (xs.length + 1) 0 (some 1))).take (xs.length + 1 - HT.sIx (xs.length + 1) 0 (some 1)) = xs
  have e : HT.sIx (xs.length + 1) 0 (some 1) = 1 := by
    show min (1 : Int).toNat (xs.length + 1) = 1
    show min 1 (xs.length + 1) = 1
    omega
  rw [e]
  show xs.take (xs.length + 1 - 1) = xs
  rw [Nat.add_sub_cancel, List.take_length]
theorem no_whole (x : V) (xs : List V) : ¬ (HT.sIx (x :: xs).length 0 (some 1) = 0 ∧ HT.sIx (x :: xs).length (x :: xs).length none = (x :: xs).length) := by
  rintro ⟨h, _⟩
  have e : HT.sIx (x :: xs).length 0 (some 1) = 1 := by
    show min (1 : Int).toNat (xs.length + 1) = 1
    show min 1 (xs.length + 1) = 1
    omega
  rw [e] at h
  cases h
/-- the list at D grows, all else stands -/
theorem Same.grow {H H1 : Hp} {D : Addr} {o : HO} (hD : H D = none) (s : Same H H1) : Same H (upd H1 D o) := fun b u e => by
  rw [upd_ne (ne_of_none e hD)]
  exact s b u e
section
variable {P : Program} {w : World} {K : PySem.W.Frag} {mg : Str → Option Value} {base : Heap}
theorem ok_bodies_of (T : Txt w K mg) : FnOk P w K mg base CX0 2 T.a_bodies_of T.d_bodies_of p_bodies_of (spBodies K) := by
  obtain ⟨d_PARTS, c_PARTS_h, tab⟩ := T.c_PARTS
  refine T.F_bodies_of.ok sc_bodies_of (fun vs H Q E h => ?_) (fun cdv A outer s H vs Q E hr h => ?_)
  · obtain ⟨p, wd, rest, roles, rfl, _⟩ := h
    rfl
  obtain ⟨p, wd, rest, roles, rfl, hp, htb, hl, h10, q⟩ := h
  obtain ⟨r, hk, hrl⟩ := tab _ htb
  refine ⟨_, (pss_cons (ps_set (i := 1) sc_bodies_of.nd rfl (Or.inl rfl) (pe_ix ix_kdict (pe_glob (v := .ref d_PARTS) rfl c_PARTS_h rfl) (pe_ix ix_tup (pv 0) pe_int (fun _ _ => rfl)) (fun _ _ => rfl)))
      (pss_cons (ps_if (pt_cmpR op_notIn_seq pe_str (pv 1) (by rfl)) (pss_one (ps_ret (pe_lst pa_nil))) pss_nil)
      (pss_one (ps_ret (pe_lc (own := [("role", 2), ("part", 3)]) (g := gTup K 2 (gCons (gName 2) (gCons (gName 3) gNil))) rfl sc_bodies_of.nd (RZ.pi_zipA (by rfl) T.z_zip (pa_cons (pv 1) (pa_cons (pe_slice sl_tup (pv 0) (po_some pe_int) po_none) pa_nil))) (blkOk_by (own := [("role", 2), ("part", 3)]) (N := n_bodies_of) (sc := defScope s_bodies_of) (by decide +kernel)) (fun _ _ _ _ _ => (pg_tup rfl (pgs_cons (pg_name (i := 2) sc_bodies_of.nd rfl (Or.inl rfl)) (pgs_cons (pg_name (i := 3) sc_bodies_of.nd rfl (Or.inl rfl)) pgs_nil)))) (fun _ _ _ _ _ => (pts_one (pt_cmpR op_eq (pv 2) pe_str (nomark _)))) (fun _ _ _ _ _ => (pv 3))))))), ?_⟩
  refine ⟨_, rfl, p, _, 0, _, rfl, rfl, hp, at0, d_PARTS, wd, _, rfl, rfl, hk, ?_⟩
  refine ⟨_, rfl, r, _, rfl, .inr (hrl _), rfl, flat_roles roles, ?_⟩
  have eb := body_in roles
  by_cases hb : ("body" : Str) ∈ roles
  · refine ⟨_, rfl, ifF (show (!inV (V.str ("body" : Str)) (roles.map V.str)) = false by rw [eb, decide_eq_true hb]; rfl) ?_⟩
    refine ⟨_, rfl, _, rfl, 1, rfl, p, _, rfl, hp, no_whole _ _, fun t ht => ?_⟩
    rw [cut_tail]
    have s1 := Same.new ht (.tup rest)
    refine ⟨r, t, _, _, rfl, .inr ⟨hrl _, SqT.of upd_same, fun D hD => ?_⟩⟩
    have hDH : H D = none := s1.free hD
    refine lc_zipT (K := K) (xs := roles.map V.str) (ys := rest) (by rw [List.length_map]; exact hl)
      (fun i H' => Same H H' ∧ H' t = some (.tup rest) ∧ H' D = some (.lst (bodL (roles.take i) (rest.take i)))) ?_ ?_ ?_ ?_
    · refine ⟨Same.grow hDH s1, ?_, ?_⟩
      · rw [upd_ne (ne_of_none upd_same hD)]
        exact upd_same
      · rw [List.take_zero, bodL_nil]
        exact upd_same
    · rintro i H' ⟨sm, ht', _⟩
      exact ⟨hrl _, SqT.of ht'⟩
    · rintro i x y z H' hx hy ⟨sm, ht', hD'⟩ hz
      obtain ⟨ro, hro, rfl⟩ : ∃ ro, roles[i]? = some ro ∧ x = .str ro := by
        rw [List.getElem?_map] at hx
        cases e : roles[i]? with
        | none => rw [e] at hx; cases hx
        | some ro => rw [e] at hx; exact ⟨ro, rfl, (Option.some.inj hx).symm⟩
      have step := bodL_take (rs := roles) (vs := rest) hl hro hy
      have s2 := Same.new hz (.tup [.str ro, y])
      refine ⟨z, _, rfl, SqT.of upd_same, rfl, _, _, rfl, _, _, rfl, rfl, rfl, _, rfl, rfl, _, rfl, ?_⟩
      by_cases h : ro = ("body" : Str)
      · rw [if_pos h] at step
        refine ifT (decide_eq_true (congrArg V.str h)) ⟨_, rfl, _, s2 _ _ hD', ?_, Same.grow hDH (sm.trans s2), ?_, ?_⟩
        · have a1 := bodL_len (roles.take i) (rest.take i)
          have a2 : (roles.take i).length ≤ roles.length := List.length_take_le' _ _
          exact small1000 (by omega)
        · rw [upd_ne (ne_of ht' hD' (by intro z; cases z))]
          exact s2 _ _ ht'
        · rw [upd_same, step]
      · rw [if_neg h, List.append_nil] at step
        refine ifF (decide_eq_false fun z => h (V.str.inj z)) ⟨sm.trans s2, s2 _ _ ht', ?_⟩
        rw [step]
        exact s2 _ _ hD'
    · rintro H' ⟨sm, ht', hD'⟩
      rw [List.length_map, List.take_length, hl, List.take_length] at hD'
      exact q D H' sm hDH hD'
  · refine ⟨_, rfl, ifT (show (!inV (V.str ("body" : Str)) (roles.map V.str)) = true by rw [eb, decide_eq_false hb]; rfl) ⟨by show 0 ≤ sizeLine; decide, fun D hD => ?_⟩⟩
    refine q D _ (Same.new hD _) hD ?_
    rw [bodL_no hb]
    exact upd_same
end
/-! ### bodies as trees, their data, their nodes -/
inductive Tr where
  | nil | leaf (w : Str) (d : List PyData) (r : Tr) | loop (e : PyData) (b r : Tr) | iff (e : PyData) (b c r : Tr)
namespace Tr
def enc : Tr → List PyData
  | nil => []
  | leaf w d r => .tuple (.str w :: d) :: enc r
  | loop e b r => .tuple [.str "while", e, .tuple (enc b)] :: enc r
  | iff e b c r => .tuple [.str "if", e, .tuple (enc b), .tuple (enc c)] :: enc r
def cnt : Tr → Nat
  | nil => 0
  | leaf _ _ r => 1 + cnt r
  | loop _ b r => 1 + cnt b + cnt r
  | iff _ b c r => 1 + cnt b + cnt c + cnt r
def len : Tr → Nat
  | nil => 0
  | leaf _ _ r => len r + 1
  | loop _ _ r => len r + 1
  | iff _ _ _ r => len r + 1
def app : Tr → Tr → Tr
  | nil, u => u
  | leaf w d r, u => leaf w d (app r u)
  | loop e b r, u => loop e b (app r u)
  | iff e b c r, u => iff e b c (app r u)
def drop : Nat → Tr → Tr
  | 0, t => t
  | _ + 1, nil => nil
  | k + 1, leaf _ _ r => drop k r
  | k + 1, loop _ _ r => drop k r
  | k + 1, iff _ _ _ r => drop k r
/-- the statements in the first k of the body -/
def offs : Nat → Tr → Nat
  | 0, _ => 0
  | _ + 1, nil => 0
  | k + 1, leaf _ _ r => 1 + offs k r
  | k + 1, loop _ b r => 1 + cnt b + offs k r
  | k + 1, iff _ b c r => 1 + cnt b + cnt c + offs k r
def isN : Tr → Bool
  | nil => true
  | _ => false
/-- the statements in the order of their places, as data -/
def pre : Tr → List PyData
  | nil => []
  | leaf w d r => .tuple (.str w :: d) :: pre r
  | loop e b r => .tuple [.str "while", e, .tuple (enc b)] :: (pre b ++ pre r)
  | iff e b c r => .tuple [.str "if", e, .tuple (enc b), .tuple (enc c)] :: (pre b ++ (pre c ++ pre r))
def first (t : Tr) (p a : Nat) : Nat := if t.isN = true then a else p
end Tr
def optD : Option Nat → PyData
  | none => .none
  | some n => .int (n : Int)
def nodeD (s : PyData) (a b : Option Nat) : PyData := .tuple [s, optD a, optD b]
def testD (e : PyData) : PyData := .tuple [.str "test", e]
/-- the node of a leaf -/
def leafN (w : Str) (d : List PyData) (a : Nat) (br : Option Nat) (lv : Nat) : PyData :=
  if w = "break" then nodeD (.tuple [.str "go"]) br none else nodeD (.tuple (.str w :: d)) (some (if w = "return" then lv else a)) none
def nodesT : Tr → Nat → Nat → Option Nat → Nat → List PyData
  | .nil, _, _, _, _ => []
  | .leaf w d r, p, a, br, lv => leafN w d (if r.isN = true then a else p + 1) br lv :: nodesT r (p + 1) a br lv
  | .loop e b r, p, a, br, lv => nodeD (testD e) (some (b.first (p + 1) p)) (some (if r.isN = true then a else p + 1 + b.cnt)) :: (nodesT b (p + 1) p (some (if r.isN = true then a else p + 1 + b.cnt)) lv ++ nodesT r (p + 1 + b.cnt) a br lv)
  | .iff e b c r, p, a, br, lv =>
    nodeD (testD e) (some (b.first (p + 1) (if r.isN = true then a else p + 1 + b.cnt + c.cnt))) (some (c.first (p + 1 + b.cnt) (if r.isN = true then a else p + 1 + b.cnt + c.cnt))) ::
      (nodesT b (p + 1) (if r.isN = true then a else p + 1 + b.cnt + c.cnt) br lv ++ (nodesT c (p + 1 + b.cnt) (if r.isN = true then a else p + 1 + b.cnt + c.cnt) br lv ++ nodesT r (p + 1 + b.cnt + c.cnt) a br lv))
namespace Tr
theorem nodes_len : ∀ (t : Tr) (p a : Nat) (br : Option Nat) (lv : Nat), (nodesT t p a br lv).length = t.cnt
  | nil, _, _, _, _ => rfl
  | leaf w d r, p, a, br, lv => by
    have h := nodes_len r (p + 1) a br lv
    simp only [nodesT, cnt, List.length_cons, h]
    omega
  | loop e b r, p, a, br, lv => by
    have h := nodes_len r (p + 1 + b.cnt) a br lv
    have h1 := nodes_len b (p + 1) p (some (if r.isN = true then a else p + 1 + b.cnt)) lv
    simp only [nodesT, cnt, List.length_cons, List.length_append, h, h1]
    omega
  | iff e b c r, p, a, br, lv => by
    have h := nodes_len r (p + 1 + b.cnt + c.cnt) a br lv
    have h1 := nodes_len b (p + 1) (if r.isN = true then a else p + 1 + b.cnt + c.cnt) br lv
    have h2 := nodes_len c (p + 1 + b.cnt) (if r.isN = true then a else p + 1 + b.cnt + c.cnt) br lv
    simp only [nodesT, cnt, List.length_cons, List.length_append, h, h1, h2]
    omega
theorem pre_len : ∀ t : Tr, t.pre.length = t.cnt
  | nil => rfl
  | leaf w d r => by
    have h := pre_len r
    simp only [pre, cnt, List.length_cons, h]
    omega
  | loop e b r => by
    have h := pre_len r
    have h1 := pre_len b
    simp only [pre, cnt, List.length_cons, List.length_append, h, h1]
    omega
  | iff e b c r => by
    have h := pre_len r
    have h1 := pre_len b
    have h2 := pre_len c
    simp only [pre, cnt, List.length_cons, List.length_append, h, h1, h2]
    omega
theorem enc_len : ∀ t : Tr, t.enc.length = t.len
  | nil => rfl
  | leaf w d r => congrArg (· + 1) (enc_len r)
  | loop e b r => congrArg (· + 1) (enc_len r)
  | iff e b c r => congrArg (· + 1) (enc_len r)
theorem len_cnt : ∀ t : Tr, t.len ≤ t.cnt
  | nil => Nat.le_refl _
  | leaf w d r => by have h := len_cnt r; simp only [len, cnt]; omega
  | loop e b r => by have h := len_cnt r; simp only [len, cnt]; omega
  | iff e b c r => by have h := len_cnt r; simp only [len, cnt]; omega
theorem app_nil : ∀ t : Tr, t.app nil = t
  | nil => rfl
  | leaf w d r => congrArg (leaf w d) (app_nil r)
  | loop e b r => congrArg (loop e b) (app_nil r)
  | iff e b c r => congrArg (iff e b c) (app_nil r)
theorem app_assoc : ∀ t u v : Tr, (t.app u).app v = t.app (u.app v)
  | nil, _, _ => rfl
  | leaf w d r, u, v => congrArg (leaf w d) (app_assoc r u v)
  | loop e b r, u, v => congrArg (loop e b) (app_assoc r u v)
  | iff e b c r, u, v => congrArg (iff e b c) (app_assoc r u v)
theorem enc_app : ∀ t u : Tr, (t.app u).enc = t.enc ++ u.enc
  | nil, _ => rfl
  | leaf w d r, u => congrArg (_ :: ·) (enc_app r u)
  | loop e b r, u => congrArg (_ :: ·) (enc_app r u)
  | iff e b c r, u => congrArg (_ :: ·) (enc_app r u)
theorem cnt_app : ∀ t u : Tr, (t.app u).cnt = t.cnt + u.cnt
  | nil, u => by simp only [app, cnt]; omega
  | leaf w d r, u => by have h := cnt_app r u; simp only [app, cnt, h]; omega
  | loop e b r, u => by have h := cnt_app r u; simp only [app, cnt, h]; omega
  | iff e b c r, u => by have h := cnt_app r u; simp only [app, cnt, h]; omega
theorem len_app' : ∀ t u : Tr, (t.app u).len = t.len + u.len
  | nil, u => by simp only [app, len]; omega
  | leaf w d r, u => by have h := len_app' r u; simp only [app, len, h]; omega
  | loop e b r, u => by have h := len_app' r u; simp only [app, len, h]; omega
  | iff e b c r, u => by have h := len_app' r u; simp only [app, len, h]; omega
theorem drop_succ : ∀ (k : Nat) (t : Tr), drop (k + 1) t = drop 1 (drop k t)
  | 0, _ => rfl
  | k + 1, nil => rfl
  | k + 1, leaf _ _ r => drop_succ k r
  | k + 1, loop _ _ r => drop_succ k r
  | k + 1, iff _ _ _ r => drop_succ k r
theorem offs_succ : ∀ (k : Nat) (t : Tr), offs (k + 1) t = offs k t + offs 1 (drop k t)
  | 0, t => by
    show offs 1 t = offs 0 t + offs 1 t
    cases t <;> simp [offs]
  | k + 1, nil => rfl
  | k + 1, leaf _ _ r => by have h := offs_succ k r; simp only [offs, drop] at h ⊢; omega
  | k + 1, loop _ _ r => by have h := offs_succ k r; simp only [offs, drop] at h ⊢; omega
  | k + 1, iff _ _ _ r => by have h := offs_succ k r; simp only [offs, drop] at h ⊢; omega
theorem drop_len : ∀ (k : Nat) (t : Tr), (drop k t).len = t.len - k
  | 0, _ => rfl
  | k + 1, nil => by simp [drop, len]
  | k + 1, leaf _ _ r => by have h := drop_len k r; simp only [drop, len]; omega
  | k + 1, loop _ _ r => by have h := drop_len k r; simp only [drop, len]; omega
  | k + 1, iff _ _ _ r => by have h := drop_len k r; simp only [drop, len]; omega
theorem isN_len : ∀ t : Tr, t.isN = true ↔ t.len = 0
  | nil => by simp [isN, len]
  | leaf _ _ _ => by simp [isN, len]
  | loop _ _ _ => by simp [isN, len]
  | iff _ _ _ _ => by simp [isN, len]
end Tr
/-! ### piles of open bodies -/
structure Fr where
  body : Tr
  at0 : Nat
  idx : Nat
  sg : Option Str
def pileT (B : Tr) (s0 : Nat) (sg : Option Str) : Tr → Nat → Nat → Nat → List Fr
  | .nil, _, _, _ => []
  | .leaf _ _ r, k, q, pl => if q = pl then [⟨B, s0, k, sg⟩] else pileT B s0 sg r (k + 1) (q + 1) pl
  | .loop _ b r, k, q, pl => if q = pl then [⟨B, s0, k, sg⟩] else
      match pileT b (q + 1) (some ("while" : Str)) b 0 (q + 1) pl with
      | [] => pileT B s0 sg r (k + 1) (q + 1 + b.cnt) pl
      | p :: ps => ⟨B, s0, k + 1, sg⟩ :: p :: ps
  | .iff _ b c r, k, q, pl => if q = pl then [⟨B, s0, k, sg⟩] else
      match pileT b (q + 1) (some ("if" : Str)) b 0 (q + 1) pl with
      | p :: ps => ⟨B, s0, k + 1, sg⟩ :: p :: ps
      | [] =>
        match pileT c (q + 1 + b.cnt) (some ("if" : Str)) c 0 (q + 1 + b.cnt) pl with
        | p :: ps => ⟨B, s0, k + 1, sg⟩ :: p :: ps
        | [] => pileT B s0 sg r (k + 1) (q + 1 + b.cnt + c.cnt) pl
/-- where a run goes on: the pile with its top first -/
def settle : List Fr → Nat → Nat
  | [], e => e
  | f :: fs, e => if f.idx < f.body.len then f.at0 + f.body.offs f.idx else
      if f.sg = some ("while" : Str) then (match fs with | g :: _ => g.at0 + g.body.offs (g.idx - 1) | [] => e) else settle fs e
/-- behind a break -/
def breakT : List Fr → Nat → Nat
  | [], e => e
  | f :: fs, e => if f.sg = some ("while" : Str) then settle fs e else breakT fs e
/-- the first statement of the top -/
inductive Hd where
  | none | leaf (w : Str) (d : List PyData) | loop (e : PyData) (b : Tr) | iff (e : PyData) (b c : Tr)
def hd : Tr → Hd
  | .nil => .none
  | .leaf w d _ => .leaf w d
  | .loop e b _ => .loop e b
  | .iff e b c _ => .iff e b c
def follow : List Fr → Nat → Bool → Nat
  | [], e, _ => e
  | f :: fs, e, holds =>
    match hd (f.body.drop f.idx) with
    | .none => e
    | .leaf w _ => if w = "return" then e else if w = "break" then breakT ({ f with idx := f.idx + 1 } :: fs) e else settle ({ f with idx := f.idx + 1 } :: fs) e
    | .loop _ b => if holds = true then settle (⟨b, f.at0 + f.body.offs f.idx + 1, 0, some ("while" : Str)⟩ :: { f with idx := f.idx + 1 } :: fs) e else settle ({ f with idx := f.idx + 1 } :: fs) e
    | .iff _ b c => if holds = true then settle (⟨b, f.at0 + f.body.offs f.idx + 1, 0, some ("if" : Str)⟩ :: { f with idx := f.idx + 1 } :: fs) e
        else settle (⟨c, f.at0 + f.body.offs f.idx + 1 + b.cnt, 0, some ("if" : Str)⟩ :: { f with idx := f.idx + 1 } :: fs) e
def hdD : Hd → PyData
  | .none => .none
  | .leaf w d => .tuple (.str w :: d)
  | .loop e b => .tuple [.str "while", e, .tuple b.enc]
  | .iff e b c => .tuple [.str "if", e, .tuple b.enc, .tuple c.enc]
/-- the row that the law makes of a pile -/
def rowD (P : List Fr) (e : Nat) : PyData :=
  match P with
  | [] => .none
  | f :: fs =>
    match hd (f.body.drop f.idx) with
    | .loop x _ => nodeD (testD x) (some (follow (f :: fs) e true)) (some (follow (f :: fs) e false))
    | .iff x _ _ => nodeD (testD x) (some (follow (f :: fs) e true)) (some (follow (f :: fs) e false))
    | .leaf w d => if w = "break" then nodeD (.tuple [.str "go"]) (some (follow (f :: fs) e true)) none else nodeD (.tuple (.str w :: d)) (some (follow (f :: fs) e true)) none
    | .none => .none
def Tr.okB : Bool → Tr → Prop
  | _, .nil => True
  | i, .leaf w _ r => (w = "break" → i = true) ∧ Tr.okB i r
  | i, .loop _ b r => Tr.okB true b ∧ Tr.okB i r
  | i, .iff _ b c r => Tr.okB i b ∧ Tr.okB i c ∧ Tr.okB i r
def topD : List Fr → PyData
  | [] => .none
  | f :: _ => hdD (hd (f.body.drop f.idx))
theorem aft {B t : Tr} {k s0 : Nat} {sg : Option Str} {C : List Fr} {e : Nat} (hB : B.drop k = t) (ht : 1 ≤ t.len) :
    settle (⟨B, s0, k + 1, sg⟩ :: C) e = if (t.drop 1).isN = true then settle (⟨B, s0, B.len, sg⟩ :: C) e else s0 + B.offs k + t.offs 1 := by
  have l1 := Tr.drop_len k B
  rw [hB] at l1
  have e1 : B.drop (k + 1) = t.drop 1 := by rw [Tr.drop_succ, hB]
  have l2 := Tr.drop_len (k + 1) B
  rw [e1] at l2
  have o := Tr.offs_succ k B
  rw [hB] at o
  by_cases h : (t.drop 1).isN = true
  · have h0 := (Tr.isN_len _).mp h
    rw [if_pos h]
    unfold settle
    rw [if_neg (show ¬ (k + 1 < B.len) by omega), if_neg (show ¬ (B.len < B.len) by omega)]
  · have h0 : ¬ (t.drop 1).len = 0 := fun z => h ((Tr.isN_len _).mpr z)
    rw [if_neg h]
    unfold settle
    rw [if_pos (show k + 1 < B.len by omega)]
    show s0 + B.offs (k + 1) = _
    omega
theorem pile_out : ∀ (t B : Tr) (s0 : Nat) (sg : Option Str) (k q pl : Nat), (pl < q ∨ q + t.cnt ≤ pl) → pileT B s0 sg t k q pl = []
  | .nil, _, _, _, _, _, _, _ => rfl
  | .leaf w d r, B, s0, sg, k, q, pl, h => by
    simp only [Tr.cnt] at h
    unfold pileT
    rw [if_neg (by omega)]
    exact pile_out r B s0 sg _ _ _ (by omega)
  | .loop e b r, B, s0, sg, k, q, pl, h => by
    simp only [Tr.cnt] at h
    unfold pileT
    rw [if_neg (by omega), pile_out b b (q + 1) (some ("while" : Str)) 0 (q + 1) pl (by omega)]
    exact pile_out r B s0 sg _ _ _ (by omega)
  | .iff e b c r, B, s0, sg, k, q, pl, h => by
    simp only [Tr.cnt] at h
    unfold pileT
    rw [if_neg (by omega), pile_out b b (q + 1) (some ("if" : Str)) 0 (q + 1) pl (by omega), pile_out c c (q + 1 + b.cnt) (some ("if" : Str)) 0 (q + 1 + b.cnt) pl (by omega)]
    exact pile_out r B s0 sg _ _ _ (by omega)
theorem get_cons_sub {α : Type} {x : α} {l : List α} {pl q : Nat} (h : q < pl) : (x :: l)[pl - q]? = l[pl - (q + 1)]? := by
  have e : pl - q = (pl - (q + 1)) + 1 := by omega
  rw [e, List.getElem?_cons_succ]
theorem get_app_l {α : Type} {l m : List α} {i : Nat} (h : i < l.length) : (l ++ m)[i]? = l[i]? := List.getElem?_append_left h
theorem get_app_r {α : Type} {l m : List α} {i : Nat} (h : l.length ≤ i) : (l ++ m)[i]? = m[i - l.length]? := List.getElem?_append_right h
theorem topD_app {P C : List Fr} (h : P ≠ []) : topD (P ++ C) = topD P := by
  cases P with
  | nil => exact absurd rfl h
  | cons f P => rfl
theorem drop1_leaf (w : Str) (d : List PyData) (r : Tr) : (Tr.leaf w d r).drop 1 = r := by simp [Tr.drop]
theorem drop1_loop (e : PyData) (b r : Tr) : (Tr.loop e b r).drop 1 = r := by simp [Tr.drop]
theorem drop1_iff (e : PyData) (b c r : Tr) : (Tr.iff e b c r).drop 1 = r := by simp [Tr.drop]
theorem offs1_leaf (w : Str) (d : List PyData) (r : Tr) : (Tr.leaf w d r).offs 1 = 1 := by simp [Tr.offs]
theorem offs1_loop (e : PyData) (b r : Tr) : (Tr.loop e b r).offs 1 = 1 + b.cnt := by simp [Tr.offs]
theorem offs1_iff (e : PyData) (b c r : Tr) : (Tr.iff e b c r).offs 1 = 1 + b.cnt + c.cnt := by simp [Tr.offs]
theorem ifwh : ¬ some ("if" : Str) = some ("while" : Str) := by decide +kernel
theorem settle_new {b : Tr} {p : Nat} {sg : Option Str} {C : List Fr} {e : Nat} : settle (⟨b, p, 0, sg⟩ :: C) e = b.first p (settle (⟨b, p, b.len, sg⟩ :: C) e) := by
  unfold Tr.first
  by_cases h : b.isN = true
  · have h0 := (Tr.isN_len _).mp h
    rw [if_pos h, h0]
  · have h0 : ¬ b.len = 0 := fun z => h ((Tr.isN_len _).mpr z)
    rw [if_neg h]
    conv => lhs; unfold settle
    rw [if_pos (show 0 < b.len by omega)]
    cases b <;> rfl
theorem settle_while {b : Tr} {p : Nat} {g : Fr} {C : List Fr} {e : Nat} : settle (⟨b, p, b.len, some ("while" : Str)⟩ :: g :: C) e = g.at0 + g.body.offs (g.idx - 1) := by
  conv => lhs; unfold settle
  rw [if_neg (show ¬ b.len < b.len from Nat.lt_irrefl _), if_pos rfl]
theorem settle_if {b : Tr} {p : Nat} {C : List Fr} {e : Nat} : settle (⟨b, p, b.len, some ("if" : Str)⟩ :: C) e = settle C e := by
  conv => lhs; unfold settle
  rw [if_neg (show ¬ b.len < b.len from Nat.lt_irrefl _), if_neg ifwh]
theorem break_while {b : Tr} {p i : Nat} {C : List Fr} {e : Nat} : breakT (⟨b, p, i, some ("while" : Str)⟩ :: C) e = settle C e := by
  rw [breakT, if_pos rfl]
theorem break_if {b : Tr} {p i : Nat} {C : List Fr} {e : Nat} : breakT (⟨b, p, i, some ("if" : Str)⟩ :: C) e = breakT C e := by
  rw [breakT, if_neg ifwh]
theorem break_idx {b : Tr} {p i j : Nat} {sg : Option Str} {C : List Fr} {e : Nat} : breakT (⟨b, p, i, sg⟩ :: C) e = breakT (⟨b, p, j, sg⟩ :: C) e := by
  rw [breakT, breakT]
theorem rev_ne {α : Type} {l : List α} (h : l ≠ []) : l.reverse ≠ [] := by simpa using h
theorem pile_main (e : Nat) : ∀ (t B : Tr) (s0 : Nat) (sg : Option Str) (k q : Nat) (C : List Fr) (a : Nat) (br : Option Nat) (inl : Bool), B.drop k = t → q = s0 + B.offs k → a = settle (⟨B, s0, B.len, sg⟩ :: C) e →
    (inl = true → br = some (breakT (⟨B, s0, B.len, sg⟩ :: C) e)) → t.okB inl → ∀ pl, q ≤ pl → pl < q + t.cnt →
    pileT B s0 sg t k q pl ≠ [] ∧ t.pre[pl - q]? = some (topD (pileT B s0 sg t k q pl).reverse) ∧ (nodesT t q a br e)[pl - q]? = some (rowD ((pileT B s0 sg t k q pl).reverse ++ C) e)
  | .nil, _, _, _, _, _, _, _, _, _, _, _, _, _, _, pl, h1, h2 => by simp only [Tr.cnt] at h2; omega
  | .leaf w d r, B, s0, sg, k, q, C, a, br, inl, hB, hq, ha, hbr, ok, pl, h1, h2 => by
    have l1 : 1 ≤ (Tr.leaf w d r).len := by simp [Tr.len]
    have af := aft (s0 := s0) (sg := sg) (C := C) (e := e) hB l1
    rw [drop1_leaf, offs1_leaf, ← ha, ← hq] at af
    simp only [Tr.cnt] at h2
    unfold pileT
    by_cases z : q = pl
    · subst z
      rw [if_pos rfl]
      refine ⟨by simp, ?_, ?_⟩
      · rw [Nat.sub_self]
        show some _ = some (hdD (hd (B.drop k)))
        rw [hB]
        rfl
      · rw [Nat.sub_self]
        show some (leafN w d (if r.isN = true then a else q + 1) br e) = some (rowD (⟨B, s0, k, sg⟩ :: C) e)
        congr 1
        unfold leafN rowD
        show _ = (match hd (B.drop k) with
          | .loop x _ => _
          | .iff x _ _ => _
          | .leaf w d => _
          | .none => _)
        have fo : follow (⟨B, s0, k, sg⟩ :: C) e true = if w = "return" then e else if w = "break" then breakT (⟨B, s0, k + 1, sg⟩ :: C) e else settle (⟨B, s0, k + 1, sg⟩ :: C) e := by
          unfold follow
          show (match hd (B.drop k) with
            | .none => _
            | .leaf w _ => _
            | .loop _ b => _
            | .iff _ b c => _) = _
          rw [hB]
          rfl
        rw [hB, fo, af]
        show _ = if w = "break" then _ else _
        by_cases hw : w = "break"
        · have hr : ¬ w = "return" := by rw [hw]; decide +kernel
          rw [if_pos hw, if_pos hw, if_neg hr, if_pos hw, hbr (ok.1 hw)]
          rw [break_idx]
        · rw [if_neg hw, if_neg hw, if_neg hw]
    · rw [if_neg z]
      have ih := pile_main e r B s0 sg (k + 1) (q + 1) C a br inl (by rw [Tr.drop_succ, hB]; rfl) (by have := Tr.offs_succ k B; rw [hB, offs1_leaf] at this; omega) ha hbr ok.2 pl (by omega) (by omega)
      refine ⟨ih.1, ?_, ?_⟩
      · show (_ :: r.pre)[pl - q]? = _
        rw [get_cons_sub (by omega)]
        exact ih.2.1
      · show (_ :: nodesT r (q + 1) a br e)[pl - q]? = _
        rw [get_cons_sub (by omega)]
        exact ih.2.2
  | .loop x b r, B, s0, sg, k, q, C, a, br, inl, hB, hq, ha, hbr, ok, pl, h1, h2 => by
    have l1 : 1 ≤ (Tr.loop x b r).len := by simp [Tr.len]
    have af := aft (s0 := s0) (sg := sg) (C := C) (e := e) hB l1
    rw [drop1_loop, offs1_loop, ← ha, ← hq] at af
    have af' : settle (⟨B, s0, k + 1, sg⟩ :: C) e = if r.isN = true then a else q + 1 + b.cnt := by rw [af, Nat.add_assoc]
    simp only [Tr.cnt] at h2
    have os := Tr.offs_succ k B
    rw [hB, offs1_loop] at os
    unfold pileT
    by_cases z : q = pl
    · subst z
      rw [if_pos rfl]
      refine ⟨by simp, ?_, ?_⟩
      · rw [Nat.sub_self]
        show some _ = some (hdD (hd (B.drop k)))
        rw [hB]
        rfl
      · rw [Nat.sub_self]
        show some (nodeD (testD x) (some (b.first (q + 1) q)) (some (if r.isN = true then a else q + 1 + b.cnt))) = some (rowD (⟨B, s0, k, sg⟩ :: C) e)
        congr 1
        have fo : ∀ h, follow (⟨B, s0, k, sg⟩ :: C) e h = if h = true then settle (⟨b, s0 + B.offs k + 1, 0, some ("while" : Str)⟩ :: ⟨B, s0, k + 1, sg⟩ :: C) e else settle (⟨B, s0, k + 1, sg⟩ :: C) e := by
          intro h
          unfold follow
          show (match hd (B.drop k) with
            | .none => _
            | .leaf w _ => _
            | .loop _ b => _
            | .iff _ b c => _) = _
          rw [hB]
          rfl
        unfold rowD
        show _ = (match hd (B.drop k) with
          | .loop x _ => _
          | .iff x _ _ => _
          | .leaf w d => _
          | .none => _)
        rw [hB, fo, fo, if_pos rfl, if_neg Bool.false_ne_true, af', settle_new, settle_while]
        show _ = nodeD (testD x) (some (b.first (s0 + B.offs k + 1) (s0 + B.offs (k + 1 - 1)))) _
        rw [Nat.add_sub_cancel, ← hq]
    · rw [if_neg z]
      by_cases zb : pl < q + 1 + b.cnt
      · have ih := pile_main e b b (q + 1) (some ("while" : Str)) 0 (q + 1) (⟨B, s0, k + 1, sg⟩ :: C) q (some (if r.isN = true then a else q + 1 + b.cnt)) true rfl (by cases b <;> rfl)
          (by rw [settle_while]; show q = s0 + B.offs (k + 1 - 1); rw [Nat.add_sub_cancel]; exact hq) (fun _ => by rw [break_while, af']) ok.1 pl (by omega) (by omega)
        have nn := Tr.nodes_len b (q + 1) q (some (if r.isN = true then a else q + 1 + b.cnt)) e
        have pn := Tr.pre_len b
        generalize hp : pileT b (q + 1) (some ("while" : Str)) b 0 (q + 1) pl = p at ih ⊢
        cases p with
        | nil => exact absurd rfl ih.1
        | cons p ps =>
          have e1 : (⟨B, s0, k + 1, sg⟩ :: p :: ps : List Fr).reverse = (p :: ps).reverse ++ [⟨B, s0, k + 1, sg⟩] := List.reverse_cons ..
          refine ⟨by simp, ?_, ?_⟩
          · show (_ :: (b.pre ++ r.pre))[pl - q]? = some (topD (⟨B, s0, k + 1, sg⟩ :: p :: ps : List Fr).reverse)
            rw [get_cons_sub (by omega), get_app_l (by omega), e1, topD_app (rev_ne (by simp))]
            exact ih.2.1
          · show (_ :: (nodesT b (q + 1) q (some (if r.isN = true then a else q + 1 + b.cnt)) e ++ nodesT r (q + 1 + b.cnt) a br e))[pl - q]? = some (rowD ((⟨B, s0, k + 1, sg⟩ :: p :: ps : List Fr).reverse ++ C) e)
            rw [get_cons_sub (by omega), get_app_l (by omega), e1, List.append_assoc]
            exact ih.2.2
      · rw [pile_out b b (q + 1) (some ("while" : Str)) 0 (q + 1) pl (by omega)]
        have ih := pile_main e r B s0 sg (k + 1) (q + 1 + b.cnt) C a br inl (by rw [Tr.drop_succ, hB]; rfl) (by omega) ha hbr ok.2 pl (by omega) (by omega)
        have nn := Tr.nodes_len b (q + 1) q (some (if r.isN = true then a else q + 1 + b.cnt)) e
        have pn := Tr.pre_len b
        refine ⟨ih.1, ?_, ?_⟩
        · show (_ :: (b.pre ++ r.pre))[pl - q]? = _
          rw [get_cons_sub (by omega), get_app_r (by omega), pn, show pl - (q + 1) - b.cnt = pl - (q + 1 + b.cnt) by omega]
          exact ih.2.1
        · show (_ :: (nodesT b (q + 1) q (some (if r.isN = true then a else q + 1 + b.cnt)) e ++ nodesT r (q + 1 + b.cnt) a br e))[pl - q]? = _
          rw [get_cons_sub (by omega), get_app_r (by omega), nn, show pl - (q + 1) - b.cnt = pl - (q + 1 + b.cnt) by omega]
          exact ih.2.2
  | .iff x b c r, B, s0, sg, k, q, C, a, br, inl, hB, hq, ha, hbr, ok, pl, h1, h2 => by
    have l1 : 1 ≤ (Tr.iff x b c r).len := by simp [Tr.len]
    have af := aft (s0 := s0) (sg := sg) (C := C) (e := e) hB l1
    rw [drop1_iff, offs1_iff, ← ha, ← hq] at af
    have af' : settle (⟨B, s0, k + 1, sg⟩ :: C) e = if r.isN = true then a else q + 1 + b.cnt + c.cnt := by
      rw [af, show q + (1 + b.cnt + c.cnt) = q + 1 + b.cnt + c.cnt by omega]
    simp only [Tr.cnt] at h2
    have os := Tr.offs_succ k B
    rw [hB, offs1_iff] at os
    generalize hA : (if r.isN = true then a else q + 1 + b.cnt + c.cnt) = A at af'
    have nb := Tr.nodes_len b (q + 1) A br e
    have nc := Tr.nodes_len c (q + 1 + b.cnt) A br e
    have pb := Tr.pre_len b
    have pc := Tr.pre_len c
    have eN : nodesT (.iff x b c r) q a br e = nodeD (testD x) (some (b.first (q + 1) A)) (some (c.first (q + 1 + b.cnt) A)) :: (nodesT b (q + 1) A br e ++ (nodesT c (q + 1 + b.cnt) A br e ++ nodesT r (q + 1 + b.cnt + c.cnt) a br e)) := by
      rw [← hA]
      rfl
    rw [eN]
    have brk : inl = true → br = some (breakT (⟨B, s0, k + 1, sg⟩ :: C) e) := fun h => by rw [hbr h, break_idx]
    unfold pileT
    by_cases z : q = pl
    · subst z
      rw [if_pos rfl]
      refine ⟨by simp, ?_, ?_⟩
      · rw [Nat.sub_self]
        show some _ = some (hdD (hd (B.drop k)))
        rw [hB]
        rfl
      · rw [Nat.sub_self]
        show some (nodeD (testD x) (some (b.first (q + 1) A)) (some (c.first (q + 1 + b.cnt) A))) = some (rowD (⟨B, s0, k, sg⟩ :: C) e)
        congr 1
        have fo : ∀ h, follow (⟨B, s0, k, sg⟩ :: C) e h = if h = true then settle (⟨b, s0 + B.offs k + 1, 0, some ("if" : Str)⟩ :: ⟨B, s0, k + 1, sg⟩ :: C) e else settle (⟨c, s0 + B.offs k + 1 + b.cnt, 0, some ("if" : Str)⟩ :: ⟨B, s0, k + 1, sg⟩ :: C) e := by
          intro h
          unfold follow
          show (match hd (B.drop k) with
            | .none => _
            | .leaf w _ => _
            | .loop _ b => _
            | .iff _ b c => _) = _
          rw [hB]
          rfl
        unfold rowD
        show _ = (match hd (B.drop k) with
          | .loop x _ => _
          | .iff x _ _ => _
          | .leaf w d => _
          | .none => _)
        rw [hB, fo, fo, if_pos rfl, if_neg Bool.false_ne_true, settle_new, settle_new, settle_if, settle_if, af', ← hq]
        rfl
    · rw [if_neg z]
      by_cases zb : pl < q + 1 + b.cnt
      · have ih := pile_main e b b (q + 1) (some ("if" : Str)) 0 (q + 1) (⟨B, s0, k + 1, sg⟩ :: C) A br inl rfl (by cases b <;> rfl)
          (by rw [settle_if]; exact af'.symm) (fun h => by rw [break_if]; exact brk h) ok.1 pl (by omega) (by omega)
        generalize hp : pileT b (q + 1) (some ("if" : Str)) b 0 (q + 1) pl = p at ih ⊢
        cases p with
        | nil => exact absurd rfl ih.1
        | cons p ps =>
          have e1 : (⟨B, s0, k + 1, sg⟩ :: p :: ps : List Fr).reverse = (p :: ps).reverse ++ [⟨B, s0, k + 1, sg⟩] := List.reverse_cons ..
          refine ⟨by simp, ?_, ?_⟩
          · show (_ :: (b.pre ++ (c.pre ++ r.pre)))[pl - q]? = some (topD (⟨B, s0, k + 1, sg⟩ :: p :: ps : List Fr).reverse)
            rw [get_cons_sub (by omega), get_app_l (by omega), e1, topD_app (rev_ne (by simp))]
            exact ih.2.1
          · show _ = some (rowD ((⟨B, s0, k + 1, sg⟩ :: p :: ps : List Fr).reverse ++ C) e)
            rw [get_cons_sub (by omega), get_app_l (by omega), e1, List.append_assoc]
            exact ih.2.2
      · rw [pile_out b b (q + 1) (some ("if" : Str)) 0 (q + 1) pl (by omega)]
        by_cases zc : pl < q + 1 + b.cnt + c.cnt
        · have ih := pile_main e c c (q + 1 + b.cnt) (some ("if" : Str)) 0 (q + 1 + b.cnt) (⟨B, s0, k + 1, sg⟩ :: C) A br inl rfl (by cases c <;> rfl)
            (by rw [settle_if]; exact af'.symm) (fun h => by rw [break_if]; exact brk h) ok.2.1 pl (by omega) (by omega)
          generalize hp : pileT c (q + 1 + b.cnt) (some ("if" : Str)) c 0 (q + 1 + b.cnt) pl = p at ih ⊢
          cases p with
          | nil => exact absurd rfl ih.1
          | cons p ps =>
            have e1 : (⟨B, s0, k + 1, sg⟩ :: p :: ps : List Fr).reverse = (p :: ps).reverse ++ [⟨B, s0, k + 1, sg⟩] := List.reverse_cons ..
            refine ⟨by simp, ?_, ?_⟩
            · show (_ :: (b.pre ++ (c.pre ++ r.pre)))[pl - q]? = some (topD (⟨B, s0, k + 1, sg⟩ :: p :: ps : List Fr).reverse)
              rw [get_cons_sub (by omega), get_app_r (by omega), get_app_l (by omega), pb, show pl - (q + 1) - b.cnt = pl - (q + 1 + b.cnt) by omega, e1, topD_app (rev_ne (by simp))]
              exact ih.2.1
            · show _ = some (rowD ((⟨B, s0, k + 1, sg⟩ :: p :: ps : List Fr).reverse ++ C) e)
              rw [get_cons_sub (by omega), get_app_r (by omega), get_app_l (by omega), nb, show pl - (q + 1) - b.cnt = pl - (q + 1 + b.cnt) by omega, e1, List.append_assoc]
              exact ih.2.2
        · rw [pile_out c c (q + 1 + b.cnt) (some ("if" : Str)) 0 (q + 1 + b.cnt) pl (by omega)]
          have ih := pile_main e r B s0 sg (k + 1) (q + 1 + b.cnt + c.cnt) C a br inl (by rw [Tr.drop_succ, hB]; rfl) (by omega) ha hbr ok.2.2 pl (by omega) (by omega)
          refine ⟨ih.1, ?_, ?_⟩
          · show (_ :: (b.pre ++ (c.pre ++ r.pre)))[pl - q]? = _
            rw [get_cons_sub (by omega), get_app_r (by omega), get_app_r (by omega), pb, pc, show pl - (q + 1) - b.cnt - c.cnt = pl - (q + 1 + b.cnt + c.cnt) by omega]
            exact ih.2.1
          · rw [get_cons_sub (by omega), get_app_r (by omega), get_app_r (by omega), nb, nc, show pl - (q + 1) - b.cnt - c.cnt = pl - (q + 1 + b.cnt + c.cnt) by omega]
            exact ih.2.2
/-- tuples stand as they were -/
def Keeps (K : PySem.W.Frag) (H H' : Hp) : Prop := ∀ p xs, SqT K H p xs → SqT K H' p xs
theorem Keeps.of_same {K : PySem.W.Frag} {H H' : Hp} (s : Same H H') : Keeps K H H' := fun _ _ h => Same.tup s h
theorem Keeps.of_stp {K : PySem.W.Frag} {a : Addr} {H H' : Hp} (s : Stp a H H') (h : Src H a) : Keeps K H H' := fun _ _ q => s.rd q h
/-! ### data that hold no lists -/
def Tok : Nat → PyData → Prop
  | 0, _ => False
  | _ + 1, .none => True
  | _ + 1, .bool _ => True
  | _ + 1, .int _ => True
  | _ + 1, .str _ => True
  | n + 1, .tuple ds => ds.length ≤ 1000 ∧ ∀ d ∈ ds, Tok n d
  | _ + 1, .list _ => False
  | _ + 1, .dict _ => False
theorem Tok.up : ∀ {n m : Nat} {d : PyData}, n ≤ m → Tok n d → Tok m d
  | 0, _, _, _, h => h.elim
  | n + 1, 0, _, h, _ => by omega
  | n + 1, m + 1, .none, _, _ => trivial
  | n + 1, m + 1, .bool _, _, _ => trivial
  | n + 1, m + 1, .int _, _, _ => trivial
  | n + 1, m + 1, .str _, _, _ => trivial
  | n + 1, m + 1, .tuple ds, h, q => ⟨q.1, fun d hd => Tok.up (by omega) (q.2 d hd)⟩
  | n + 1, m + 1, .list _, _, q => q.elim
  | n + 1, m + 1, .dict _, _, q => q.elim
theorem Tok.dok : ∀ {n : Nat} {d : PyData}, Tok n d → Dok n d
  | 0, _, h => h.elim
  | n + 1, .none, _ => trivial
  | n + 1, .bool _, _ => trivial
  | n + 1, .int _, _ => trivial
  | n + 1, .str _, _ => trivial
  | n + 1, .tuple ds, q => ⟨by have := q.1; omega, fun d hd => Tok.dok (q.2 d hd)⟩
  | n + 1, .list _, q => q.elim
  | n + 1, .dict _, q => q.elim
theorem dpAll_keep {K : PySem.W.Frag} {H H' : Hp} : ∀ {vs : List V} {ds : List PyData}, (∀ v, ∀ d ∈ ds, Dp K H v d → Dp K H' v d) → DpAll K H vs ds → DpAll K H' vs ds
  | _, _, _, .nil => .nil
  | _, _, k, .cons h r => .cons (k _ _ List.mem_cons_self h) (dpAll_keep (fun v d hd => k v d (List.mem_cons_of_mem _ hd)) r)
theorem Dp.keepT {K : PySem.W.Frag} {H H' : Hp} (k : Keeps K H H') : ∀ {n : Nat} {v : V} {d : PyData}, Tok n d → Dp K H v d → Dp K H' v d
  | 0, _, _, t, _ => t.elim
  | n + 1, _, .none, _, .non => .non
  | n + 1, _, .bool _, _, .bl b => .bl b
  | n + 1, _, .int _, _, .int i => .int i
  | n + 1, _, .str _, _, .str z => .str z
  | n + 1, _, .tuple ds, t, .tup h r => .tup (k _ _ h) (dpAll_keep (fun v d hd => Dp.keepT k (t.2 d hd)) r)
  | n + 1, _, .list _, t, _ => t.elim
  | n + 1, _, .dict _, t, _ => t.elim
/-- data of a value, without lists -/
def DT (K : PySem.W.Frag) (n : Nat) (H : Hp) (v : V) (d : PyData) : Prop := Dp K H v d ∧ Tok n d
theorem DT.keep {K : PySem.W.Frag} {n : Nat} {H H' : Hp} (k : Keeps K H H') {v : V} {d : PyData} (h : DT K n H v d) : DT K n H' v d := ⟨Dp.keepT k h.2 h.1, h.2⟩
theorem DT.up {K : PySem.W.Frag} {n m : Nat} {H : Hp} {v : V} {d : PyData} (h : DT K n H v d) (l : n ≤ m) : DT K m H v d := ⟨h.1, Tok.up l h.2⟩
/-- data of values -/
def DTs (K : PySem.W.Frag) (n : Nat) (H : Hp) : List V → List PyData → Prop
  | [], [] => True
  | v :: vs, d :: ds => DT K n H v d ∧ DTs K n H vs ds
  | _, _ => False
theorem DTs.keep {K : PySem.W.Frag} {n : Nat} {H H' : Hp} (k : Keeps K H H') : ∀ {vs : List V} {ds : List PyData}, DTs K n H vs ds → DTs K n H' vs ds
  | [], [], _ => trivial
  | _ :: _, _ :: _, h => ⟨h.1.keep k, DTs.keep k h.2⟩
  | [], _ :: _, h => h.elim
  | _ :: _, [], h => h.elim
theorem DTs.len {K : PySem.W.Frag} {n : Nat} {H : Hp} : ∀ {vs : List V} {ds : List PyData}, DTs K n H vs ds → vs.length = ds.length
  | [], [], _ => rfl
  | _ :: _, _ :: _, h => congrArg (· + 1) (DTs.len h.2)
  | [], _ :: _, h => h.elim
  | _ :: _, [], h => h.elim
theorem DTs.app {K : PySem.W.Frag} {n : Nat} {H : Hp} : ∀ {vs us : List V} {ds es : List PyData}, DTs K n H vs ds → DTs K n H us es → DTs K n H (vs ++ us) (ds ++ es)
  | [], _, [], _, _, h => h
  | _ :: _, _, _ :: _, _, h, q => ⟨h.1, DTs.app h.2 q⟩
  | [], _, _ :: _, _, h, _ => h.elim
  | _ :: _, _, [], _, h, _ => h.elim
theorem DTs.all {K : PySem.W.Frag} {n : Nat} {H : Hp} : ∀ {vs : List V} {ds : List PyData}, DTs K n H vs ds → DpAll K H vs ds ∧ ∀ d ∈ ds, Tok n d
  | [], [], _ => ⟨.nil, fun _ z => (List.not_mem_nil z).elim⟩
  | _ :: _, _ :: _, h => ⟨.cons h.1.1 (DTs.all h.2).1, fun d hd => by
    rcases List.mem_cons.mp hd with rfl | hd
    · exact h.1.2
    · exact (DTs.all h.2).2 d hd⟩
  | [], _ :: _, h => h.elim
  | _ :: _, [], h => h.elim
theorem DT.tup {K : PySem.W.Frag} {n : Nat} {H : Hp} {p : Addr} {vs : List V} {ds : List PyData} (h : SqT K H p vs) (q : DTs K n H vs ds) (l : ds.length ≤ 1000) : DT K (n + 1) H (.ref p) (.tuple ds) := ⟨.tup h q.all.1, l, q.all.2⟩
/-! ### bodies in the heap -/
def LeafOk (w : Str) (d : List PyData) : Prop := ∃ roles, (w, roles) ∈ tb_PARTS ∧ roles.length = d.length ∧ roles.length ≤ 10 ∧ ("body" : Str) ∉ roles
def TrL (K : PySem.W.Frag) (H : Hp) : Tr → List V → Prop
  | .nil, vs => vs = []
  | .leaf w d r, vs => ∃ p xs ws, vs = .ref p :: ws ∧ SqT K H p (.str w :: xs) ∧ DTs K 6 H xs d ∧ LeafOk w d ∧ TrL K H r ws
  | .loop e b r, vs => ∃ p x q us ws, vs = .ref p :: ws ∧ SqT K H p [.str "while", x, .ref q] ∧ DT K 6 H x e ∧ SqT K H q us ∧ TrL K H b us ∧ TrL K H r ws
  | .iff e b c r, vs => ∃ p x q us q2 us2 ws, vs = .ref p :: ws ∧ SqT K H p [.str "if", x, .ref q, .ref q2] ∧ DT K 6 H x e ∧ SqT K H q us ∧ TrL K H b us ∧ SqT K H q2 us2 ∧ TrL K H c us2 ∧ TrL K H r ws
theorem TrL.keep {K : PySem.W.Frag} {H H' : Hp} (k : Keeps K H H') : ∀ {t : Tr} {vs : List V}, TrL K H t vs → TrL K H' t vs
  | .nil, _, h => h
  | .leaf _ _ _, _, ⟨p, xs, ws, e, h1, h2, h3, h4⟩ => ⟨p, xs, ws, e, k _ _ h1, h2.keep k, h3, TrL.keep k h4⟩
  | .loop _ _ _, _, ⟨p, x, q, us, ws, e, h1, h2, h3, h4, h5⟩ => ⟨p, x, q, us, ws, e, k _ _ h1, h2.keep k, k _ _ h3, TrL.keep k h4, TrL.keep k h5⟩
  | .iff _ _ _ _, _, ⟨p, x, q, us, q2, us2, ws, e, h1, h2, h3, h4, h5, h6, h7⟩ => ⟨p, x, q, us, q2, us2, ws, e, k _ _ h1, h2.keep k, k _ _ h3, TrL.keep k h4, k _ _ h5, TrL.keep k h6, TrL.keep k h7⟩
theorem TrL.len {K : PySem.W.Frag} {H : Hp} : ∀ {t : Tr} {vs : List V}, TrL K H t vs → vs.length = t.len
  | .nil, _, h => by rw [show _ = [] from h]; rfl
  | .leaf _ _ _, _, ⟨p, xs, ws, e, h1, h2, h3, h4⟩ => by rw [e]; exact congrArg (· + 1) (TrL.len h4)
  | .loop _ _ _, _, ⟨p, x, q, us, ws, e, h1, h2, h3, h4, h5⟩ => by rw [e]; exact congrArg (· + 1) (TrL.len h5)
  | .iff _ _ _ _, _, ⟨p, x, q, us, q2, us2, ws, e, h1, h2, h3, h4, h5, h6, h7⟩ => by rw [e]; exact congrArg (· + 1) (TrL.len h7)
theorem TrL.app {K : PySem.W.Frag} {H : Hp} {u : Tr} {ws : List V} (h : TrL K H u ws) : ∀ {t : Tr} {vs : List V}, TrL K H t vs → TrL K H (t.app u) (vs ++ ws)
  | .nil, _, q => by rw [show _ = [] from q]; exact h
  | .leaf _ _ _, _, ⟨p, xs, vs, e, h1, h2, h3, h4⟩ => by rw [e]; exact ⟨p, xs, vs ++ ws, rfl, h1, h2, h3, TrL.app h h4⟩
  | .loop _ _ _, _, ⟨p, x, q, us, vs, e, h1, h2, h3, h4, h5⟩ => by rw [e]; exact ⟨p, x, q, us, vs ++ ws, rfl, h1, h2, h3, h4, TrL.app h h5⟩
  | .iff _ _ _ _, _, ⟨p, x, q, us, q2, us2, vs, e, h1, h2, h3, h4, h5, h6, h7⟩ => by rw [e]; exact ⟨p, x, q, us, q2, us2, vs ++ ws, rfl, h1, h2, h3, h4, h5, h6, TrL.app h h7⟩
/-- how deep bodies stand within one another -/
def Tr.dep : Nat → Tr → Prop
  | _, .nil => True
  | m, .leaf _ _ r => Tr.dep m r
  | 0, .loop _ _ _ => False
  | m + 1, .loop _ b r => Tr.dep m b ∧ Tr.dep (m + 1) r
  | 0, .iff _ _ _ _ => False
  | m + 1, .iff _ b c r => Tr.dep m b ∧ Tr.dep m c ∧ Tr.dep (m + 1) r
theorem Tr.dep_app : ∀ {m : Nat} {t u : Tr}, t.dep m → u.dep m → (t.app u).dep m
  | _, .nil, _, _, h => h
  | m, .leaf _ _ r, u, h, q => by
    have h' : r.dep m := by cases m <;> exact h
    have := Tr.dep_app h' q
    cases m <;> exact this
  | 0, .loop _ _ _, _, h, _ => h.elim
  | m + 1, .loop _ _ _, _, h, q => ⟨h.1, Tr.dep_app h.2 q⟩
  | 0, .iff _ _ _ _, _, h, _ => h.elim
  | m + 1, .iff _ _ _ _, _, h, q => ⟨h.1, h.2.1, Tr.dep_app h.2.2 q⟩
theorem dep_leaf {m : Nat} {w : Str} {d : List PyData} {r : Tr} (h : (Tr.leaf w d r).dep m) : r.dep m := by cases m <;> exact h
theorem dep_loop {m : Nat} {e : PyData} {b r : Tr} (h : (Tr.loop e b r).dep m) : ∃ k, m = k + 1 ∧ b.dep k ∧ r.dep m := by
  cases m with
  | zero => exact h.elim
  | succ k => exact ⟨k, rfl, h.1, h.2⟩
theorem dep_iff {m : Nat} {e : PyData} {b c r : Tr} (h : (Tr.iff e b c r).dep m) : ∃ k, m = k + 1 ∧ b.dep k ∧ c.dep k ∧ r.dep m := by
  cases m with
  | zero => exact h.elim
  | succ k => exact ⟨k, rfl, h.1, h.2.1, h.2.2⟩
def A2 {α : Type} (R : α → V → Prop) : List α → List V → Prop
  | [], [] => True
  | a :: l, v :: vs => R a v ∧ A2 R l vs
  | _, _ => False
theorem A2.len {α : Type} {R : α → V → Prop} : ∀ {l : List α} {vs : List V}, A2 R l vs → vs.length = l.length
  | [], [], _ => rfl
  | _ :: _, _ :: _, h => congrArg (· + 1) (A2.len h.2)
  | [], _ :: _, h => h.elim
  | _ :: _, [], h => h.elim
theorem A2.get {α : Type} {R : α → V → Prop} : ∀ {l : List α} {vs : List V} {i : Nat} {a : α} {v : V}, A2 R l vs → l[i]? = some a → vs[i]? = some v → R a v
  | [], [], _, _, _, _, h, _ => by simp at h
  | _ :: _, _ :: _, 0, _, _, h, h1, h2 => by
    simp at h1 h2
    subst h1 h2
    exact h.1
  | _ :: l, _ :: vs, i + 1, _, _, h, h1, h2 => A2.get (i := i) h.2 (by simpa using h1) (by simpa using h2)
  | [], _ :: _, _, _, _, h, _, _ => h.elim
  | _ :: _, [], _, _, _, h, _, _ => h.elim
theorem A2.imp {α : Type} {R R' : α → V → Prop} (k : ∀ a v, R a v → R' a v) : ∀ {l : List α} {vs : List V}, A2 R l vs → A2 R' l vs
  | [], [], _ => trivial
  | _ :: _, _ :: _, h => ⟨k _ _ h.1, A2.imp k h.2⟩
  | [], _ :: _, h => h.elim
  | _ :: _, [], h => h.elim
theorem A2.snoc {α : Type} {R : α → V → Prop} {a : α} {v : V} (h : R a v) : ∀ {l : List α} {vs : List V}, A2 R l vs → A2 R (l ++ [a]) (vs ++ [v])
  | [], [], _ => ⟨h, trivial⟩
  | _ :: _, _ :: _, q => ⟨q.1, A2.snoc h q.2⟩
  | [], _ :: _, q => q.elim
  | _ :: _, [], q => q.elim
/-- a body of a statement, in the heap -/
def BodyAt (K : PySem.W.Frag) (H : Hp) (m : Nat) (b : Tr) (v : V) : Prop := ∃ q us, v = .ref q ∧ SqT K H q us ∧ TrL K H b us ∧ ∃ k, m = k + 1 ∧ b.dep k
theorem parts_body {rs : List Str} {vs : List V} (h : ("body" : Str) ∉ rs) : ((partsL rs vs).filter fun q => decide (q.1 = ("body" : Str))).map (·.2) = [] := by
  induction rs generalizing vs with
  | nil => simp [partsL]
  | cons r rs ih =>
    have h1 : r ≠ "body" := fun z => h (by rw [z]; exact List.mem_cons_self)
    have h2 : ("body" : Str) ∉ rs := fun z => h (List.mem_cons_of_mem _ z)
    cases vs with
    | nil => simp [partsL]
    | cons v vs =>
      unfold partsL
      split
      · exact ih h2
      · rw [List.filter_cons, if_neg (by simpa using h1)]
        exact ih h2
theorem bdf_no {r : Str} {v : V} {l : List (Str × V)} (h : r ≠ "body") : (((r, v) :: l).filter fun q => decide (q.1 = ("body" : Str))).map (·.2) = (l.filter fun q => decide (q.1 = ("body" : Str))).map (·.2) := by
  rw [List.filter_cons, if_neg (by simpa using h)]
theorem bdf_yes {v : V} {l : List (Str × V)} : (((("body" : Str), v) :: l).filter fun q => decide (q.1 = ("body" : Str))).map (·.2) = v :: (l.filter fun q => decide (q.1 = ("body" : Str))).map (·.2) := by
  rw [List.filter_cons, if_pos (decide_eq_true rfl)]
  rfl
theorem parts_cons {r : Str} {v : V} {rs : List Str} {vs : List V} (h : v ≠ .non) : partsL (r :: rs) (v :: vs) = (r, v) :: partsL rs vs := by
  unfold partsL
  rw [if_neg h]
  cases rs <;> cases vs <;> simp [partsL]
/-- the first statement of a body that is not empty, as the program reads it -/
theorem TrL.bods {K : PySem.W.Frag} {H : Hp} {t : Tr} {m : Nat} {v : V} {vs : List V} (h : TrL K H t (v :: vs)) (hd : t.dep m) : ∃ (p : Addr) (wd : Str) (rest : List V) (roles : List Str) (r : Tr) (x : List PyData) (bs : List Tr), v = .ref p ∧ SqT K H p (.str wd :: rest) ∧ (wd, roles) ∈ tb_PARTS ∧ roles.length = rest.length ∧ roles.length ≤ 10 ∧
    TrL K H r vs ∧ r.dep m ∧ t.pre = .tuple (.str wd :: x) :: ((bs.map Tr.pre).flatten ++ r.pre) ∧ A2 (BodyAt K H m) bs (bodL roles rest) := by
  cases t with
  | nil => cases h
  | leaf w d r =>
    obtain ⟨p, xs, ws, e, h1, h2, ⟨roles, r1, r2, r3, r4⟩, h4⟩ := h
    obtain ⟨rfl, rfl⟩ := List.cons.inj e
    refine ⟨p, w, xs, roles, r, d, [], rfl, h1, r1, by rw [h2.len]; exact r2, r3, h4, dep_leaf hd, rfl, ?_⟩
    rw [bodL_no r4]
    exact trivial
  | loop x b r =>
    obtain ⟨p, y, q, us, ws, e, h1, h2, h3, h4, h5⟩ := h
    obtain ⟨rfl, rfl⟩ := List.cons.inj e
    obtain ⟨k, em, d1, d2⟩ := dep_loop hd
    refine ⟨p, "while", [y, .ref q], ["expression", "body"], r, _, [b], rfl, h1, by decide +kernel, rfl, by decide, h5, d2, by simp [Tr.pre]; rfl, ?_⟩
    rw [bodL_cons (by decide +kernel), bodL_body, bodL_nil]
    exact ⟨⟨q, us, rfl, h3, h4, k, em, d1⟩, trivial⟩
  | iff x b c r =>
    obtain ⟨p, y, q, us, q2, us2, ws, e, h1, h2, h3, h4, h5, h6, h7⟩ := h
    obtain ⟨rfl, rfl⟩ := List.cons.inj e
    obtain ⟨k, em, d1, d2, d3⟩ := dep_iff hd
    refine ⟨p, "if", [y, .ref q, .ref q2], ["expression", "body", "body"], r, _, [b, c], rfl, h1, by decide +kernel, rfl, by decide, h7, d3, by simp [Tr.pre]; rfl, ?_⟩
    rw [bodL_cons (by decide +kernel), bodL_body, bodL_body, bodL_nil]
    exact ⟨⟨q, us, rfl, h3, h4, k, em, d1⟩, ⟨q2, us2, rfl, h5, h6, k, em, d2⟩, trivial⟩
/-! ### statements listed -/
/-- pairs (statement, flag) in the heap -/
inductive Prq (K : PySem.W.Frag) (H : Hp) : List Addr → List PyData → Prop where
  | nil : Prq K H [] []
  | cons {p q : Addr} {ps : List Addr} {v : List V} {f : V} {w : Str} {x : List PyData} {ds : List PyData} : H p = some (.tup [.ref q, f]) → SqT K H q (.str w :: v) → Prq K H ps ds → Prq K H (p :: ps) (.tuple (.str w :: x) :: ds)
theorem Prq.keep {K : PySem.W.Frag} {H H' : Hp} (e : ∀ p xs, H p = some (.tup xs) → H' p = some (.tup xs)) (k : Keeps K H H') : ∀ {ps : List Addr} {ds : List PyData}, Prq K H ps ds → Prq K H' ps ds
  | _, _, .nil => .nil
  | _, _, .cons h q r => .cons (e _ _ h) (k _ _ q) (Prq.keep e k r)
theorem Prq.app {K : PySem.W.Frag} {H : Hp} {qs : List Addr} {es : List PyData} (h : Prq K H qs es) : ∀ {ps : List Addr} {ds : List PyData}, Prq K H ps ds → Prq K H (ps ++ qs) (ds ++ es)
  | _, _, .nil => h
  | _, _, .cons a b r => .cons a b (Prq.app h r)
theorem Prq.len {K : PySem.W.Frag} {H : Hp} : ∀ {ps : List Addr} {ds : List PyData}, Prq K H ps ds → ps.length = ds.length
  | _, _, .nil => rfl
  | _, _, .cons _ _ r => congrArg (· + 1) (Prq.len r)
theorem tup_lst {H : Hp} {l p : Addr} {xs ys : List V} {o : HO} (hl : H l = some (.lst xs)) (h : H p = some (.tup ys)) : upd H l o p = some (.tup ys) := by
  rw [upd_ne (ne_of h hl (by intro z; cases z))]
  exact h
theorem keep_lst {K : PySem.W.Frag} {H : Hp} {l : Addr} {xs : List V} {o : HO} (h : H l = some (.lst xs)) : Keeps K H (upd H l o) := by
  intro z ys hz
  rcases hz with (hz | ⟨u, hz⟩) | hz
  · exact .inl (.inl (by rw [upd_ne (ne_of hz h (by intro z; cases z))]; exact hz))
  · exact .inl (.inr ⟨u, by rw [upd_ne (ne_of hz h (by intro z; cases z))]; exact hz⟩)
  · exact .inr hz
theorem keeps_new {K : PySem.W.Frag} {H : Hp} {p : Addr} {o : HO} (h : H p = none) : Keeps K H (upd H p o) := Keeps.of_same (Same.new h o)
/-- the places of the whiles come from the statements' words -/
def spLs (K : PySem.W.Frag) (m : Nat) : Sp := fun vs H Q _ => ∃ (q : Addr) (us : List V) (t : Tr) (fl : Bool), vs = [.ref q, .bl fl] ∧ SqT K H q us ∧ TrL K H t us ∧ t.dep m ∧ t.cnt ≤ 400 ∧
  ∀ (D : Addr) (ps : List Addr) (H' : Hp), Same H H' → H D = none → H' D = some (.lst (ps.map V.ref)) → Prq K H' ps t.pre → Q (.ref D) H'
theorem pre_flat {bs : List Tr} {j : Nat} {b : Tr} (h : bs[j]? = some b) : ((bs.take (j + 1)).map Tr.pre).flatten = ((bs.take j).map Tr.pre).flatten ++ b.pre := by
  rw [List.take_add_one, h]
  simp
theorem pre_part {bs : List Tr} {j : Nat} {b : Tr} (h : bs[j]? = some b) : ((bs.take j).map Tr.pre).flatten.length + b.pre.length ≤ ((bs.map Tr.pre).flatten).length := by
  have e : bs.map Tr.pre = (bs.take (j + 1)).map Tr.pre ++ (bs.drop (j + 1)).map Tr.pre := by rw [← List.map_append, List.take_append_drop]
  rw [e, List.flatten_append, List.length_append, pre_flat h, List.length_append]
  omega
section
variable {P : Program} {w : World} {K : PySem.W.Frag} {mg : Str → Option Value} {base : Heap}
theorem fn_vac {k : Nat} {f : Addr} {fd : FuncData} {ps : List Str} {sp : Sp} (no : ∀ vs H Q E, ¬ sp vs H Q E) : FnOk P w K mg base CX0 k f fd ps sp :=
  ⟨fun vs H Q E h => absurd h (no vs H Q E), fun A outer s H args us vs Q E _ _ _ _ h => absurd h (no vs H Q E)⟩
theorem ok_ls0 (T : Txt w K mg) {m : Nat} (g_list_statements : FnOk P w K mg base CX0 (m + 3) T.a_list_statements T.d_list_statements p_list_statements (match m with | 0 => fun _ _ _ _ => False | k + 1 => spLs K k)) :
    FnOk P w K mg base CX0 (m + 4) T.a_list_statements T.d_list_statements p_list_statements (spLs K m) := by
  have g_bodies_of := ok_bodies_of (P := P) (base := base) T
  obtain ⟨ds_e, e_list_statements⟩ := T.e_list_statements
  obtain ⟨ds_b, b_list_statements⟩ := T.b_list_statements
  refine fund_ok T.F_list_statements sc_list_statements (fun vs H Q E h => ?_) (fun cdv A outer s H vs Q E hr h => ?_)
  · obtain ⟨q, us, t, fl, rfl, _⟩ := h
    rfl
  obtain ⟨qa, us, t, fl, rfl, hq, ht, hd, hc, q⟩ := h
  refine ⟨_, (pss_cons (ps_set (i := 2) sc_list_statements.nd rfl (Or.inl rfl) (pe_lst pa_nil))
      (pss_cons (ps_for PassesOwn.never rfl (pi_tup (pv 0)) (pg_name (i := 3) sc_list_statements.nd rfl (Or.inl rfl))
        (pss_cons (ps_expr (pe_bm PySem.F.plainAttrs_list PySem.F.slot_list_append PySem.F.type_list_append mt_append (pv 2) (pa_cons (pe_tup (pa_cons (pv 3) (pa_cons (pv 1) pa_nil))) pa_nil)))
      (pss_one (ps_for PassesOwn.never rfl (pi_list (pe_call g_bodies_of (hr.mono (by first | decide | omega)) rfl T.m_bodies_of T.F_bodies_of.kp T.b_bodies_of .nil pass0 (pa_cons (pv 3) pa_nil))) (pg_name (i := 4) sc_list_statements.nd rfl (Or.inl rfl))
        (pss_one (ps_expr (pe_bm PySem.F.plainAttrs_list PySem.F.slot_list_extend PySem.F.type_list_extend mt_extend (pv 2) (pa_cons (pe_call g_list_statements (hr.mono (by first | decide | omega)) rfl T.m_list_statements T.F_list_statements.kp b_list_statements.2 b_list_statements.1 pass0 (pa_cons (pv 4) (pa_cons (pe_or (pv 1) (pe_one (pe_cmpR op_eq (pe_ix ix_tup (pv 3) pe_int (fun _ _ => rfl)) pe_str (nomark _)))) pa_nil))) pa_nil))))))))
      (pss_one (ps_ret (pv 2))))), ?_⟩
  refine ⟨by show 0 ≤ sizeLine; decide, fun l hl0 => ?_⟩
  have s0 := Same.new hl0 (.lst [])
  refine ⟨_, rfl, qa, rfl, ⟨_, Same.tup s0 hq⟩, for_tup (K := K) (a := qa) (xs := us) (fun i σ H' => Same H H' ∧ ∃ (ps : List Addr) (dn : List PyData) (r : Tr) (v3 v4 : Option V), σ = [some (.ref qa), some (.bl fl), some (.ref l), v3, v4] ∧ H' l = some (.lst (ps.map V.ref)) ∧ Prq K H' ps dn ∧ TrL K H r (us.drop i) ∧ r.dep m ∧ t.pre = dn ++ r.pre)
    ⟨s0, [], [], t, none, none, rfl, upd_same, .nil, ht, hd, rfl⟩ (fun i σ H' _ ⟨h, _⟩ => Same.tup h hq) ?_ ?_⟩
  · rintro i v σ H' hi ⟨sm, ps, dn, r, v3, v4, rfl, hl, hp, htr, hdr, epre⟩
    have hil : i < us.length := (List.getElem?_eq_some_iff.mp hi).1
    have dr : us.drop i = v :: us.drop (i + 1) := by
      rw [List.drop_eq_getElem_cons hil]
      congr 1
      exact (List.getElem?_eq_some_iff.mp hi).2
    rw [dr] at htr
    have plen := hp.len
    have tlen := Tr.pre_len t
    have dlen : dn.length + r.pre.length ≤ 400 := by
      rw [← List.length_append, ← epre, tlen]
      exact hc
    have rlen := Tr.pre_len r
    obtain ⟨p, wd, rest, roles, r2, x, bs, rfl, hpt, htb, hlen, h10, ht2, hd2, er, hbo⟩ := htr.bods hdr
    refine ⟨_, rfl, .inl ⟨rfl, _, SqL.of hl⟩, _, rfl, _, rfl, by show 2 ≤ sizeLine; decide, fun e he => ?_⟩
    have se := Same.new he (.tup [.ref p, .bl fl])
    refine ⟨l, _, _, rfl, rfl, se _ _ hl, ?_, ?_⟩
    · rw [List.length_map]
      exact small1000 (by omega)
    have smA : Same H (upd (upd H' e (.tup [.ref p, .bl fl])) l (.lst (ps.map V.ref ++ [.ref e]))) := Same.grow hl0 (sm.trans se)
    have hlA : (upd (upd H' e (.tup [.ref p, .bl fl])) l (.lst (ps.map V.ref ++ [.ref e]))) l = some (.lst ((ps ++ [e]).map V.ref)) := by
      rw [upd_same, List.map_append]
      rfl
    have kA : Keeps K H' (upd (upd H' e (.tup [.ref p, .bl fl])) l (.lst (ps.map V.ref ++ [.ref e]))) := fun z ys h => keep_lst (se _ _ hl) _ _ (Keeps.of_same se _ _ h)
    have pA : Prq K (upd (upd H' e (.tup [.ref p, .bl fl])) l (.lst (ps.map V.ref ++ [.ref e]))) (ps ++ [e]) (dn ++ [.tuple (.str wd :: x)]) :=
      Prq.app (.cons (tup_lst (se _ _ hl) upd_same) (kA _ _ (Same.tup sm hpt)) .nil) (Prq.keep (fun _ _ h => tup_lst (se _ _ hl) (se _ _ h)) kA hp)
    generalize (upd (upd H' e (.tup [.ref p, .bl fl])) l (.lst (ps.map V.ref ++ [.ref e]))) = HA at smA hlA kA pA ⊢
    have hptA := Same.tup smA hpt
    refine ⟨_, rfl, p, wd, rest, roles, rfl, hptA, htb, hlen, h10, fun B HB smB hB0 hB => ?_⟩
    have nBl : l ≠ B := ne_of_none hlA hB0
    generalize hbl : bodL roles rest = bl at hbo hB
    have bll := hbo.len
    refine ⟨B, rfl, ⟨_, SqL.of hB⟩, for_list (K := K) (a := B) (xs := bl) (fun j σ H5 => Same H H5 ∧ H5 B = some (.lst bl) ∧ ∃ (ps : List Addr) (v4 : Option V), σ = [some (.ref qa), some (.bl fl), some (.ref l), some (.ref p), v4] ∧ H5 l = some (.lst (ps.map V.ref)) ∧ Prq K H5 ps (dn ++ [.tuple (.str wd :: x)] ++ ((bs.take j).map Tr.pre).flatten))
      ⟨smA.trans smB, hB, ps ++ [e], v4, rfl, smB _ _ hlA, by simpa using Prq.keep (fun _ _ h => smB _ _ h) (Keeps.of_same smB) pA⟩ (fun j σ H5 _ ⟨_, h, _⟩ => SqL.of h) ?_ ?_⟩
    · rintro j y σ H5 hj ⟨sm5, hB5, ps5, v4, rfl, hl5, hp5⟩
      have hjl : j < bs.length := bll ▸ (List.getElem?_eq_some_iff.mp hj).1
      have hb := List.getElem?_eq_getElem hjl
      obtain ⟨qb, ub, rfl, hqb, hub, k, rfl, hdb⟩ := hbo.get hb hj
      generalize bs[j] = b at hb hub hdb
      have pp := pre_part hb
      have bl2 := Tr.pre_len b
      have p5 := hp5.len
      have epl := congrArg List.length epre
      rw [er] at epl
      simp only [List.length_append, List.length_cons, List.length_singleton, List.length_nil] at epl p5
      have bc : b.cnt ≤ 400 := by omega
      refine ⟨_, rfl, .inl ⟨rfl, _, SqL.of hl5⟩, _, rfl, ?_⟩
      have call : ∀ (f2 : Bool), spLs K k [.ref qb, .bl f2] H5 (fun z H6 => ∃ (lz bz : Addr) (xs ys : List V), V.ref l = .ref lz ∧ [z] = [.ref bz] ∧ H6 lz = some (.lst xs) ∧ H6 bz = some (.lst ys) ∧ xs.length + ys.length ≤ sizeLine ∧
          (fun σ H' => Same H H' ∧ H' B = some (.lst bl) ∧ ∃ (ps : List Addr) (v4 : Option V), σ = [some (.ref qa), some (.bl fl), some (.ref l), some (.ref p), v4] ∧ H' l = some (.lst (ps.map V.ref)) ∧ Prq K H' ps (dn ++ [.tuple (.str wd :: x)] ++ ((bs.take (j + 1)).map Tr.pre).flatten)) [some (.ref qa), some (.bl fl), some (.ref l), some (.ref p), some (.ref qb)] (upd H6 lz (.lst (xs ++ ys)))) E0 := by
        intro f2
        refine ⟨qb, ub, b, f2, rfl, Same.tup sm5 hqb, TrL.keep (Keeps.of_same sm5) hub, hdb, bc, fun D pD H6 sm6 hD0 hD hpD => ?_⟩
        have pdl := hpD.len
        have hl6 := sm6 _ _ hl5
        refine ⟨l, D, _, _, rfl, rfl, hl6, hD, ?_, Same.grow hl0 (sm5.trans sm6), ?_, ps5 ++ pD, _, rfl, ?_, ?_⟩
        · rw [List.length_map, List.length_map, sizeLine_eq]
          omega
        · rw [upd_ne nBl.symm]
          exact sm6 _ _ hB5
        · rw [upd_same, List.map_append]
        · rw [pre_flat hb, ← List.append_assoc]
          exact Prq.keep (fun _ _ h => tup_lst hl6 h) (keep_lst hl6) (Prq.app hpD (Prq.keep (fun _ _ h => sm6 _ _ h) (Keeps.of_same sm6) hp5))
      have hp5' : SqT K H5 p (.str wd :: rest) := Same.tup sm5 hpt
      refine ⟨_, rfl, fl, rfl, ite2 (fun _ => call true) (fun _ => ?_)⟩
      refine ⟨_, rfl, p, _, 0, _, rfl, rfl, hp5', at0, rfl, call _⟩
    · rintro σ H5 ⟨sm5, hB5, ps5, v4', rfl, hl5, hp5⟩
      rw [bll, List.take_length] at hp5
      refine ⟨sm5, ps5, _, r2, _, _, rfl, hl5, hp5, ht2, hd2, ?_⟩
      rw [epre, er]
      simp
  · rintro σ H' ⟨sm, ps, dn, r, v3, v4, rfl, hl, hp, htr, hdr, epre⟩
    rw [List.drop_length] at htr
    have er : r = .nil := by
      cases r with
      | nil => rfl
      | leaf _ _ _ => obtain ⟨_, _, _, e, _⟩ := htr; cases e
      | loop _ _ _ => obtain ⟨_, _, _, _, _, e, _⟩ := htr; cases e
      | iff _ _ _ _ => obtain ⟨_, _, _, _, _, _, _, e, _⟩ := htr; cases e
    subst er
    have ep : t.pre = dn := by rw [epre]; exact List.append_nil _
    exact ⟨_, rfl, q l ps H' sm hl0 hl (by rw [ep]; exact hp)⟩
theorem ok_ls (T : Txt w K mg) : ∀ m : Nat, FnOk P w K mg base CX0 (m + 4) T.a_list_statements T.d_list_statements p_list_statements (spLs K m)
  | 0 => ok_ls0 T (fn_vac fun _ _ _ _ h => h)
  | m + 1 => ok_ls0 T (ok_ls T m)
def spCnt (K : PySem.W.Frag) (m : Nat) : Sp := fun vs H Q _ => ∃ (q : Addr) (us : List V) (t : Tr), vs = [.ref q] ∧ SqT K H q us ∧ TrL K H t us ∧ t.dep m ∧ t.cnt ≤ 400 ∧ ∀ H', Same H H' → Q (.int (t.cnt : Int)) H'
theorem ok_count0 (T : Txt w K mg) {m : Nat} (g_count_statements : FnOk P w K mg base CX0 (m + 4) T.a_count_statements T.d_count_statements p_count_statements (match m with | 0 => fun _ _ _ _ => False | k + 1 => spCnt K k)) :
    FnOk P w K mg base CX0 (m + 5) T.a_count_statements T.d_count_statements p_count_statements (spCnt K m) := by
  have g_bodies_of := ok_bodies_of (P := P) (base := base) T
  refine T.F_count_statements.ok sc_count_statements (fun vs H Q E h => ?_) (fun cdv A outer s H vs Q E hr h => ?_)
  · obtain ⟨q, us, t, rfl, _⟩ := h
    rfl
  obtain ⟨qa, us, t, rfl, hq, ht, hd, hc, q⟩ := h
  refine ⟨_, (pss_cons (ps_set (i := 1) sc_count_statements.nd rfl (Or.inl rfl) (pe_callB call_len_seq rfl T.z_len PySem.boot_len (pa_cons (pv 0) pa_nil)))
      (pss_cons (ps_for PassesOwn.never rfl (pi_tup (pv 0)) (pg_name (i := 2) sc_count_statements.nd rfl (Or.inl rfl))
        (pss_one (ps_for PassesOwn.never rfl (pi_list (pe_call g_bodies_of (hr.mono (by first | decide | omega)) rfl T.m_bodies_of T.F_bodies_of.kp T.b_bodies_of .nil pass0 (pa_cons (pv 2) pa_nil))) (pg_name (i := 3) sc_count_statements.nd rfl (Or.inl rfl))
        (pss_one (ps_aug (i := 1) sc_count_statements.nd rfl (Or.inl rfl) (pe_call g_count_statements (hr.mono (by first | decide | omega)) rfl T.m_count_statements T.F_count_statements.kp T.b_count_statements .nil pass0 (pa_cons (pv 3) pa_nil)) ip_add)))))
      (pss_one (ps_ret (pv 1))))), ?_⟩
  refine ⟨_, rfl, qa, _, rfl, .inr hq, ?_⟩
  refine ⟨_, rfl, qa, rfl, ⟨_, hq⟩, for_tup (K := K) (a := qa) (xs := us) (fun i σ H' => Same H H' ∧ ∃ (c : Nat) (r : Tr) (v2 v3 : Option V), σ = [some (.ref qa), some (.int (c : Int)), v2, v3] ∧ TrL K H r (us.drop i) ∧ r.dep m ∧ c + r.cnt = t.cnt + r.len ∧ r.cnt ≤ 400)
    ⟨.refl _, us.length, t, none, none, rfl, ht, hd, by rw [TrL.len ht]; omega, hc⟩ (fun i σ H' _ ⟨h, _⟩ => Same.tup h hq) ?_ ?_⟩
  · rintro i v σ H' hi ⟨sm, c, r, v2, v3, rfl, htr, hdr, ec, rc⟩
    have hil : i < us.length := (List.getElem?_eq_some_iff.mp hi).1
    have dr : us.drop i = v :: us.drop (i + 1) := by
      rw [List.drop_eq_getElem_cons hil]
      congr 1
      exact (List.getElem?_eq_some_iff.mp hi).2
    have rl := TrL.len htr
    rw [dr] at htr rl
    obtain ⟨p, wd, rest, roles, r2, x, bs, rfl, hpt, htb, hlen, h10, ht2, hd2, er, hbo⟩ := htr.bods hdr
    have rl2 := TrL.len ht2
    have ln := congrArg List.length er
    rw [List.length_cons, List.length_append, Tr.pre_len, Tr.pre_len] at ln
    rw [List.length_cons] at rl
    have hptA := Same.tup sm hpt
    refine ⟨_, rfl, p, wd, rest, roles, rfl, hptA, htb, hlen, h10, fun B HB smB hB0 hB => ?_⟩
    generalize hbl : bodL roles rest = bl at hbo hB
    have bll := hbo.len
    refine ⟨B, rfl, ⟨_, SqL.of hB⟩, for_list (K := K) (a := B) (xs := bl) (fun j σ H5 => Same H H5 ∧ H5 B = some (.lst bl) ∧ ∃ (v3 : Option V), σ = [some (.ref qa), some (.int ((c + ((bs.take j).map Tr.pre).flatten.length : Nat) : Int)), some (.ref p), v3])
      ⟨sm.trans smB, hB, v3, by simp⟩ (fun j σ H5 _ ⟨_, h, _⟩ => SqL.of h) ?_ ?_⟩
    · rintro j y σ H5 hj ⟨sm5, hB5, v3, rfl⟩
      have hjl : j < bs.length := bll ▸ (List.getElem?_eq_some_iff.mp hj).1
      have hb := List.getElem?_eq_getElem hjl
      obtain ⟨qb, ub, rfl, hqb, hub, k, rfl, hdb⟩ := hbo.get hb hj
      generalize bs[j] = b at hb hub hdb
      have pp := pre_part hb
      have bl2 := Tr.pre_len b
      refine ⟨_, rfl, _, rfl, qb, ub, b, rfl, Same.tup sm5 hqb, TrL.keep (Keeps.of_same sm5) hub, hdb, by omega, fun H6 sm6 => ?_⟩
      refine ⟨_, _, rfl, rfl, sm5.trans sm6, sm6 _ _ hB5, some (.ref qb), ?_⟩
      rw [pre_flat hb, List.length_append, bl2, Int.natCast_add, Int.natCast_add, Int.natCast_add, ← Int.add_assoc]
      rfl
    · rintro σ H5 ⟨sm5, hB5, v3', rfl⟩
      rw [bll, List.take_length]
      exact ⟨sm5, _, r2, _, _, rfl, ht2, hd2, by omega, by omega⟩
  · rintro σ H' ⟨sm, c, r, v2, v3, rfl, htr, hdr, ec, rc⟩
    rw [List.drop_length] at htr
    have er : r = .nil := by
      cases r with
      | nil => rfl
      | leaf _ _ _ => obtain ⟨_, _, _, e, _⟩ := htr; cases e
      | loop _ _ _ => obtain ⟨_, _, _, _, _, e, _⟩ := htr; cases e
      | iff _ _ _ _ => obtain ⟨_, _, _, _, _, _, _, e, _⟩ := htr; cases e
    subst er
    have ep : c = t.cnt := ec
    subst ep
    exact ⟨_, rfl, q H' sm⟩
theorem ok_count (T : Txt w K mg) : ∀ m : Nat, FnOk P w K mg base CX0 (m + 5) T.a_count_statements T.d_count_statements p_count_statements (spCnt K m)
  | 0 => ok_count0 T (fn_vac fun _ _ _ _ h => h)
  | m + 1 => ok_count0 T (ok_count T m)
end
/-! ### nodes -/
def Tr.single : Tr → Tr
  | .nil => .nil
  | .leaf w d _ => .leaf w d .nil
  | .loop e b _ => .loop e b .nil
  | .iff e b c _ => .iff e b c .nil
theorem isN_nil : Tr.nil.isN = true := rfl
theorem nodes_split {t : Tr} (h : 1 ≤ t.len) (p a : Nat) (br : Option Nat) (lv : Nat) : nodesT t p a br lv = nodesT t.single p (if (t.drop 1).isN = true then a else p + t.single.cnt) br lv ++ nodesT (t.drop 1) (p + t.single.cnt) a br lv := by
  cases t with
  | nil => simp [Tr.len] at h
  | leaf w d r => simp [Tr.single, nodesT, Tr.cnt, isN_nil, Tr.drop]
  | loop e b r =>
    have e1 : p + 1 + b.cnt = p + (1 + b.cnt) := by omega
    simp [Tr.single, nodesT, Tr.cnt, isN_nil, Tr.drop, e1]
  | iff e b c r =>
    have e1 : p + 1 + b.cnt + c.cnt = p + (1 + b.cnt + c.cnt) := by omega
    simp [Tr.single, nodesT, Tr.cnt, isN_nil, Tr.drop, e1]
theorem cnt_split (t : Tr) : t.cnt = t.single.cnt + (t.drop 1).cnt := by
  cases t <;> simp [Tr.single, Tr.cnt, Tr.drop]
theorem TrL.split {K : PySem.W.Frag} {H : Hp} {t : Tr} {v : V} {vs : List V} (h : TrL K H t (v :: vs)) : TrL K H t.single [v] ∧ TrL K H (t.drop 1) vs := by
  cases t with
  | nil => cases h
  | leaf w d r =>
    obtain ⟨p, xs, ws, e, h1, h2, h3, h4⟩ := h
    obtain ⟨rfl, rfl⟩ := List.cons.inj e
    exact ⟨⟨p, xs, [], rfl, h1, h2, h3, rfl⟩, by rw [drop1_leaf]; exact h4⟩
  | loop x b r =>
    obtain ⟨p, y, q, us, ws, e, h1, h2, h3, h4, h5⟩ := h
    obtain ⟨rfl, rfl⟩ := List.cons.inj e
    exact ⟨⟨p, y, q, us, [], rfl, h1, h2, h3, h4, rfl⟩, by rw [drop1_loop]; exact h5⟩
  | iff x b c r =>
    obtain ⟨p, y, q, us, q2, us2, ws, e, h1, h2, h3, h4, h5, h6, h7⟩ := h
    obtain ⟨rfl, rfl⟩ := List.cons.inj e
    exact ⟨⟨p, y, q, us, q2, us2, [], rfl, h1, h2, h3, h4, h5, h6, rfl⟩, by rw [drop1_iff]; exact h7⟩
theorem dep_split {m : Nat} {t : Tr} (h : t.dep m) : t.single.dep m ∧ (t.drop 1).dep m := by
  cases t with
  | nil => exact ⟨by cases m <;> trivial, by cases m <;> trivial⟩
  | leaf w d r => exact ⟨by cases m <;> trivial, by rw [drop1_leaf]; exact dep_leaf h⟩
  | loop x b r =>
    obtain ⟨k, rfl, d1, d2⟩ := dep_loop h
    exact ⟨⟨d1, trivial⟩, by rw [drop1_loop]; exact d2⟩
  | iff x b c r =>
    obtain ⟨k, rfl, d1, d2, d3⟩ := dep_iff h
    exact ⟨⟨d1, d2, trivial⟩, by rw [drop1_iff]; exact d3⟩
def onV : Option Nat → V
  | none => .non
  | some n => .int (n : Int)
theorem on_dp {K : PySem.W.Frag} {n : Nat} {H : Hp} (o : Option Nat) : DT K (n + 1) H (onV o) (optD o) := by
  cases o with
  | none => exact ⟨.non, trivial⟩
  | some n => exact ⟨.int _, trivial⟩
theorem node_at {K : PySem.W.Frag} {n : Nat} {H : Hp} {p : Addr} {x : V} {d : PyData} {a b : Option Nat} (h : SqT K H p [x, onV a, onV b]) (q : DT K (n + 1) H x d) : DT K (n + 2) H (.ref p) (nodeD d a b) :=
  DT.tup h ⟨q, on_dp a, on_dp b, trivial⟩ (by show 3 ≤ 1000; decide)
theorem test_at {K : PySem.W.Frag} {n : Nat} {H : Hp} {p : Addr} {x : V} {d : PyData} (h : SqT K H p [.str "test", x]) (q : DT K (n + 1) H x d) : DT K (n + 2) H (.ref p) (testD d) :=
  DT.tup h ⟨⟨.str _, trivial⟩, q, trivial⟩ (by show 2 ≤ 1000; decide)
def spBn (K : PySem.W.Frag) (m : Nat) : Sp := fun vs H Q _ => ∃ (q : Addr) (us : List V) (t : Tr) (p a : Nat) (br : Option Nat) (lv : Nat) (w3 : Addr), vs = [.ref q, .int (p : Int), .ref w3] ∧ SqT K H q us ∧ TrL K H t us ∧ t.dep m ∧ t.cnt ≤ 400 ∧ SqT K H w3 [.int (a : Int), onV br, .int (lv : Int)] ∧
  ∀ (D : Addr) (ns : List V) (H' : Hp), Same H H' → H D = none → H' D = some (.lst ns) → DTs K 9 H' ns (nodesT t p a br lv) → Q (.ref D) H'
def spSn (K : PySem.W.Frag) (m : Nat) : Sp := fun vs H Q _ => ∃ (v : V) (t : Tr) (p a : Nat) (br : Option Nat) (lv : Nat) (w3 : Addr), vs = [v, .int (p : Int), .ref w3] ∧ TrL K H t [v] ∧ t.dep m ∧ t.cnt ≤ 400 ∧ SqT K H w3 [.int (a : Int), onV br, .int (lv : Int)] ∧
  ∀ (D : Addr) (ns : List V) (H' : Hp), Same H H' → H D = none → H' D = some (.lst ns) → DTs K 9 H' ns (nodesT t p a br lv) → Q (.ref D) H'
def spFp (K : PySem.W.Frag) : Sp := fun vs H Q _ => ∃ (q : Addr) (us : List V) (t : Tr) (p a : Nat), vs = [.ref q, .int (p : Int), .int (a : Int)] ∧ SqT K H q us ∧ TrL K H t us ∧ Q (.int (t.first p a : Nat)) H
theorem TrL.isN {K : PySem.W.Frag} {H : Hp} {t : Tr} {us : List V} (h : TrL K H t us) : us.isEmpty = t.isN := by
  have l := h.len
  cases t <;> cases us <;> simp [Tr.len, Tr.isN] at l ⊢
theorem leaf_no {w : Str} {roles : List Str} (h : (w, roles) ∈ tb_PARTS) (n : ("body" : Str) ∉ roles) (e : w = "if" ∨ w = "while") : False := by
  have key : ∀ q ∈ tb_PARTS, (q.1 = ("if" : Str) ∨ q.1 = ("while" : Str)) → ("body" : Str) ∈ q.2 := by decide +kernel
  exact n (key _ h e)
section
variable {P : Program} {w : World} {K : PySem.W.Frag} {mg : Str → Option Value} {base : Heap}
theorem ok_first (T : Txt w K mg) : FnOk P w K mg base CX0 1 T.a_first_place T.d_first_place p_first_place (spFp K) := by
  refine T.F_first_place.ok sc_first_place (fun vs H Q E h => ?_) (fun cdv A outer s H vs Q E hr h => ?_)
  · obtain ⟨q, us, t, p, a, rfl, _⟩ := h
    rfl
  obtain ⟨qa, us, t, p, a, rfl, hq, ht, q⟩ := h
  refine ⟨_, (pss_one (ps_ret (pe_ifExp (pt_truth (pv 0) (by intro _; rfl)) (pv 1) (pv 2)))), ?_⟩
  have e := ht.isN
  refine ⟨_, rfl, !us.isEmpty, .inr (.inl ⟨_, hq, rfl⟩), ?_⟩
  unfold Tr.first at q
  rw [e]
  cases h : t.isN with
  | true =>
    rw [if_pos h] at q
    exact iteF ⟨_, rfl, q⟩
  | false =>
    rw [if_neg (by rw [h]; exact Bool.false_ne_true)] at q
    exact iteT ⟨_, rfl, q⟩
theorem ok_bn0 (T : Txt w K mg) {m : Nat} (g_statement_nodes : FnOk P w K mg base CX0 (3 * m + 18) T.a_statement_nodes T.d_statement_nodes p_statement_nodes (spSn K m)) :
    FnOk P w K mg base CX0 (3 * m + 19) T.a_body_nodes T.d_body_nodes p_body_nodes (spBn K m) := by
  have g_count_statements := ok_count (P := P) (w := w) (K := K) (base := base) T m
  refine T.F_body_nodes.ok sc_body_nodes (fun vs H Q E h => ?_) (fun cdv A outer s H vs Q E hr h => ?_)
  · obtain ⟨q, us, t, p, a, br, lv, w3, rfl, _⟩ := h
    rfl
  obtain ⟨qa, us, t, p, a, br, lv, w3, rfl, hq, ht, hd, hc, hw, q⟩ := h
  refine ⟨_, (pss_cons (ps_set (i := 3) sc_body_nodes.nd rfl (Or.inl rfl) (pe_lst pa_nil))
      (pss_cons (ps_for PassesOwn.never rfl (EnT.pi_enumT (by rfl) T.z_enumerate (pa_cons (pv 0) pa_nil)) (pg_tup rfl (pgs_cons (pg_name (i := 4) sc_body_nodes.nd rfl (Or.inl rfl)) (pgs_cons (pg_name (i := 5) sc_body_nodes.nd rfl (Or.inl rfl)) pgs_nil)))
        (pss_cons (ps_set (i := 6) sc_body_nodes.nd rfl (Or.inl rfl) (pe_op op_add (pv 1) (pe_call g_count_statements (hr.mono (by first | decide | omega)) rfl T.m_count_statements T.F_count_statements.kp T.b_count_statements .nil pass0 (pa_cons (pe_tup (pa_cons (pv 5) pa_nil)) pa_nil))))
      (pss_cons (ps_set (i := 7) sc_body_nodes.nd rfl (Or.inl rfl) (pe_ifExp (pt_cmpR op_lt (pe_op op_add (pv 4) pe_int) (pe_callB call_len_seq rfl T.z_len PySem.boot_len (pa_cons (pv 0) pa_nil)) (nomark _)) (pv 6) (pe_ix ix_tup (pv 2) pe_int (fun _ _ => rfl))))
      (pss_cons (ps_expr (pe_bm PySem.F.plainAttrs_list PySem.F.slot_list_extend PySem.F.type_list_extend mt_extend (pv 3) (pa_cons (pe_call g_statement_nodes (hr.mono (by first | decide | omega)) rfl T.m_statement_nodes T.F_statement_nodes.kp T.b_statement_nodes .nil pass0 (pa_cons (pv 5) (pa_cons (pv 1) (pa_cons (pe_tup (pa_cons (pv 7) (StX.pa_star (pe_slice sl_tup (pv 2) (po_some pe_int) po_none) pa_nil))) pa_nil)))) pa_nil)))
      (pss_one (ps_set (i := 1) sc_body_nodes.nd rfl (Or.inl rfl) (pv 6)))))))
      (pss_one (ps_ret (pv 3))))), ?_⟩
  refine ⟨by show 0 ≤ sizeLine; decide, fun l hl0 => ?_⟩
  have s0 := Same.new hl0 (.lst [])
  refine ⟨_, rfl, qa, us, rfl, Same.tup s0 hq, EnT.for_enumT (K := K) (a := qa) (xs := us) (fun i σ H' => Same H H' ∧ ∃ (ns : List V) (dn : List PyData) (r : Tr) (p' : Nat) (v4 v5 v6 v7 : Option V), σ = [some (.ref qa), some (.int (p' : Int)), some (.ref w3), some (.ref l), v4, v5, v6, v7] ∧ H' l = some (.lst ns) ∧ DTs K 9 H' ns dn ∧ TrL K H r (us.drop i) ∧ r.dep m ∧ nodesT t p a br lv = dn ++ nodesT r p' a br lv)
    ⟨s0, [], [], t, p, none, none, none, none, rfl, upd_same, trivial, ht, hd, rfl⟩ (fun i σ H' ⟨h, _⟩ => Same.tup h hq) ?_ ?_⟩
  · rintro i v z σ H' hi ⟨sm, ns, dn, r, p', v4, v5, v6, v7, rfl, hl, hn, htr, hdr, enod⟩ hz
    have hil : i < us.length := (List.getElem?_eq_some_iff.mp hi).1
    have dr : us.drop i = v :: us.drop (i + 1) := by
      rw [List.drop_eq_getElem_cons hil]
      congr 1
      exact (List.getElem?_eq_some_iff.mp hi).2
    rw [dr] at htr
    have rl := htr.len
    have ul := ht.len
    obtain ⟨t1, t2⟩ := htr.split
    obtain ⟨d1, d2⟩ := dep_split hdr
    have nl := hn.len
    have nt := Tr.nodes_len t p a br lv
    have nr := Tr.nodes_len r p' a br lv
    have cs := cnt_split r
    have el := congrArg List.length enod
    rw [List.length_append, nt, nr] at el
    have sz := Same.new hz (.tup [.int (i : Nat), v])
    have hl1 := sz _ _ hl
    have sm1 := sm.trans sz
    have hn1 := hn.keep (Keeps.of_same sz)
    refine ⟨z, _, rfl, SqT.of upd_same, rfl, _, _, rfl, _, _, rfl, rfl, ?_⟩
    generalize (upd H' z (.tup [.int (i : Nat), v])) = H1 at hl1 sm1 hn1 ⊢
    -- behind
    refine ⟨_, rfl, _, rfl, by show 1 ≤ sizeLine; decide, fun u hu => ?_⟩
    have su := Same.new hu (.tup [v])
    refine ⟨u, [v], r.single, rfl, SqT.of upd_same, TrL.keep (Keeps.of_same (sm1.trans su)) t1, d1, by omega, fun H2 s2 => ⟨_, _, rfl, rfl, ?_⟩⟩
    have sm2 := (sm1.trans su).trans s2
    have hl2 := s2 _ _ (su _ _ hl1)
    have hn2 := hn1.keep (Keeps.of_same (su.trans s2))
    have hp' : (p' : Int) + (r.single.cnt : Int) = ((p' + r.single.cnt : Nat) : Int) := by omega
    have eInt : (fun i j : Int => V.int (i + j)) (p' : Int) (r.single.cnt : Int) = V.int ((p' + r.single.cnt : Nat) : Int) := congrArg V.int hp'
    rw [eInt]
    have hq2 := Same.tup sm2 hq
    have hw2 := Same.tup sm2 hw
    have l2 := t2.len
    rw [List.length_drop] at l2
    have sp := nodes_split (t := r) (by have := htr.len; simp at this; omega) p' a br lv
    refine ⟨_, rfl, _, _, rfl, rfl, _, rfl, qa, _, rfl, .inr hq2, _, _, rfl, rfl, _, rfl, ?_⟩
    by_cases hN : (r.drop 1).isN = true
    · have h0 := (Tr.isN_len _).mp hN
      rw [if_pos hN] at sp
      refine ifF (decide_eq_false (by omega)) ⟨_, rfl, w3, _, 0, _, rfl, rfl, hw2, at0, ?_⟩
      refine ⟨_, rfl, .inl ⟨rfl, _, SqL.of hl2⟩, _, rfl, _, rfl, _, rfl, _, rfl, 1, rfl, w3, _, rfl, hw2, no_whole _ _, fun t5 ht5 => ?_⟩
      rw [cut_tail]
      have s5 := Same.new ht5 (.tup [onV br, .int (lv : Int)])
      refine ⟨t5, [onV br, .int (lv : Int)], rfl, .inl (SqT.of upd_same), by show 3 ≤ sizeLine; decide, fun t6 ht6 => ?_⟩
      have s6 := s5.trans (Same.new ht6 (.tup [.int (a : Int), onV br, .int (lv : Int)]))
      have sm6 := sm2.trans s6
      refine ⟨v, r.single, p', _, br, lv, t6, rfl, TrL.keep (Keeps.of_same sm6) t1, d1, by omega, SqT.of upd_same, fun D nD H7 s7 hD0 hD hnD => ?_⟩
      have ndl := hnD.len
      have nn := Tr.nodes_len r.single p' a br lv
      have sm7 := sm6.trans s7
      have hl7 := s7 _ _ (s6 _ _ hl2)
      have hn7 := hn2.keep (Keeps.of_same (s6.trans s7))
      refine ⟨l, D, _, _, rfl, rfl, hl7, hD, by rw [sizeLine_eq]; omega, _, rfl, Same.grow hl0 sm7, ns ++ nD, dn ++ nodesT r.single p' a br lv, r.drop 1, p' + r.single.cnt, _, _, _, _, rfl, upd_same, DTs.app (hn7.keep (keep_lst hl7)) (hnD.keep (keep_lst hl7)), t2, d2, ?_⟩
      rw [enod, sp, List.append_assoc]
    · have h0 : ¬ (r.drop 1).len = 0 := fun z => hN ((Tr.isN_len _).mpr z)
      rw [if_neg hN] at sp
      refine ifT (decide_eq_true (by omega)) ⟨_, rfl, ?_⟩
      refine ⟨_, rfl, .inl ⟨rfl, _, SqL.of hl2⟩, _, rfl, _, rfl, _, rfl, _, rfl, 1, rfl, w3, _, rfl, hw2, no_whole _ _, fun t5 ht5 => ?_⟩
      rw [cut_tail]
      have s5 := Same.new ht5 (.tup [onV br, .int (lv : Int)])
      refine ⟨t5, [onV br, .int (lv : Int)], rfl, .inl (SqT.of upd_same), by show 3 ≤ sizeLine; decide, fun t6 ht6 => ?_⟩
      have s6 := s5.trans (Same.new ht6 (.tup [.int ((p' + r.single.cnt : Nat) : Int), onV br, .int (lv : Int)]))
      have sm6 := sm2.trans s6
      refine ⟨v, r.single, p', _, br, lv, t6, rfl, TrL.keep (Keeps.of_same sm6) t1, d1, by omega, SqT.of upd_same, fun D nD H7 s7 hD0 hD hnD => ?_⟩
      have ndl := hnD.len
      have nn := Tr.nodes_len r.single p' (p' + r.single.cnt) br lv
      have sm7 := sm6.trans s7
      have hl7 := s7 _ _ (s6 _ _ hl2)
      have hn7 := hn2.keep (Keeps.of_same (s6.trans s7))
      refine ⟨l, D, _, _, rfl, rfl, hl7, hD, by rw [sizeLine_eq]; omega, _, rfl, Same.grow hl0 sm7, ns ++ nD, dn ++ nodesT r.single p' (p' + r.single.cnt) br lv, r.drop 1, p' + r.single.cnt, _, _, _, _, rfl, upd_same, DTs.app (hn7.keep (keep_lst hl7)) (hnD.keep (keep_lst hl7)), t2, d2, ?_⟩
      rw [enod, sp, List.append_assoc]
  · rintro σ H' ⟨sm, ns, dn, r, p', v4, v5, v6, v7, rfl, hl, hn, htr, hdr, enod⟩
    rw [List.drop_length] at htr
    have er : r = .nil := by
      have l := htr.len
      cases r <;> simp [Tr.len] at l ⊢
    subst er
    have ep : nodesT t p a br lv = dn := by rw [enod]; exact List.append_nil _
    exact ⟨_, rfl, q l ns H' sm hl0 hl (by rw [ep]; exact hn)⟩
def spIn (K : PySem.W.Frag) (m : Nat) : Sp := fun vs H Q _ => ∃ (v : V) (e : PyData) (b c : Tr) (p a : Nat) (br : Option Nat) (lv : Nat) (w3 : Addr), vs = [v, .int (p : Int), .ref w3] ∧ TrL K H (.iff e b c .nil) [v] ∧ b.dep m ∧ c.dep m ∧ b.cnt + c.cnt ≤ 400 ∧ SqT K H w3 [.int (a : Int), onV br, .int (lv : Int)] ∧
  ∀ (D : Addr) (ns : List V) (H' : Hp), Same H H' → H D = none → H' D = some (.lst ns) → DTs K 9 H' ns (nodesT (.iff e b c .nil) p a br lv) → Q (.ref D) H'
theorem ok_in (T : Txt w K mg) {m : Nat} (g_body_nodes : FnOk P w K mg base CX0 (3 * m + 19) T.a_body_nodes T.d_body_nodes p_body_nodes (spBn K m)) :
    FnOk P w K mg base CX0 (3 * m + 20) T.a_if_nodes T.d_if_nodes p_if_nodes (spIn K m) := by
  have g_count_statements := ok_count (P := P) (w := w) (K := K) (base := base) T m
  have g_first_place := ok_first (P := P) (w := w) (K := K) (base := base) T
  refine T.F_if_nodes.ok sc_if_nodes (fun vs H Q E h => ?_) (fun cdv A outer s H vs Q E hr h => ?_)
  · obtain ⟨v, e, b, c, p, a, br, lv, w3, rfl, _⟩ := h
    rfl
  obtain ⟨v, e, b, c, p, a, br, lv, w3, rfl, ht, db, dc, hc, hw, q⟩ := h
  obtain ⟨z, x, qb, ub, qc, uc, ws, ev, h1, h2, h3, h4, h5, h6, _⟩ := ht
  obtain ⟨rfl, rfl⟩ := List.cons.inj ev
  refine ⟨_, (pss_cons (ps_asg (pv 0) (pg_tup rfl (pgs_cons (pg_name (i := 3) sc_if_nodes.nd rfl (Or.inl rfl)) (pgs_cons (pg_name (i := 4) sc_if_nodes.nd rfl (Or.inl rfl)) (pgs_cons (pg_name (i := 5) sc_if_nodes.nd rfl (Or.inl rfl)) (pgs_cons (pg_name (i := 6) sc_if_nodes.nd rfl (Or.inl rfl)) pgs_nil))))))
      (pss_cons (ps_set (i := 7) sc_if_nodes.nd rfl (Or.inl rfl) (pe_op op_add (pe_op op_add (pv 1) pe_int) (pe_call g_count_statements (hr.mono (by first | decide | omega)) rfl T.m_count_statements T.F_count_statements.kp T.b_count_statements .nil pass0 (pa_cons (pv 5) pa_nil))))
      (pss_cons (ps_set (i := 8) sc_if_nodes.nd rfl (Or.inl rfl) (pe_tup (pa_cons (pe_tup (pa_cons pe_str (pa_cons (pv 4) pa_nil))) (pa_cons (pe_call g_first_place (hr.mono (by first | decide | omega)) rfl T.m_first_place T.F_first_place.kp T.b_first_place .nil pass0 (pa_cons (pv 5) (pa_cons (pe_op op_add (pv 1) pe_int) (pa_cons (pe_ix ix_tup (pv 2) pe_int (fun _ _ => rfl)) pa_nil)))) (pa_cons (pe_call g_first_place (hr.mono (by first | decide | omega)) rfl T.m_first_place T.F_first_place.kp T.b_first_place .nil pass0 (pa_cons (pv 6) (pa_cons (pv 7) (pa_cons (pe_ix ix_tup (pv 2) pe_int (fun _ _ => rfl)) pa_nil)))) pa_nil)))))
      (pss_one (ps_ret (pe_lst (pa_cons (pv 8) (StX.pa_star (pe_call g_body_nodes (hr.mono (by first | decide | omega)) rfl T.m_body_nodes T.F_body_nodes.kp T.b_body_nodes .nil pass0 (pa_cons (pv 5) (pa_cons (pe_op op_add (pv 1) pe_int) (pa_cons (pv 2) pa_nil)))) (StX.pa_star (pe_call g_body_nodes (hr.mono (by first | decide | omega)) rfl T.m_body_nodes T.F_body_nodes.kp T.b_body_nodes .nil pass0 (pa_cons (pv 6) (pa_cons (pv 7) (pa_cons (pv 2) pa_nil)))) pa_nil))))))))), ?_⟩
  refine ⟨_, rfl, z, _, rfl, h1, rfl, _, _, rfl, _, _, rfl, _, _, rfl, _, _, rfl, rfl, ?_⟩
  refine ⟨_, rfl, _, _, rfl, rfl, _, rfl, qb, ub, b, rfl, h3, h4, db, by omega, fun H1 s1 => ⟨_, _, rfl, rfl, ?_⟩⟩
  have hw1 := Same.tup s1 hw
  refine ⟨_, rfl, by show 2 ≤ sizeLine; decide, fun t1 ht1 => ?_⟩
  have s2 := s1.trans (Same.new ht1 (.tup [.str "test", x]))
  have hw2 := Same.tup s2 hw
  refine ⟨_, rfl, _, rfl, _, _, rfl, rfl, _, rfl, w3, _, 0, _, rfl, rfl, hw2, at0, qb, ub, b, p + 1, a, rfl, Same.tup s2 h3, TrL.keep (Keeps.of_same s2) h4, ?_⟩
  refine ⟨_, rfl, _, rfl, _, rfl, w3, _, 0, _, rfl, rfl, hw2, at0, qc, uc, c, p + 1 + b.cnt, a, rfl, Same.tup s2 h5, TrL.keep (Keeps.of_same s2) h6, by show 3 ≤ sizeLine; decide, fun t2 ht2 => ?_⟩
  generalize hF1 : b.first (p + 1) a = f1 at ht2 ⊢
  generalize hF2 : c.first (p + 1 + b.cnt) a = f2 at ht2 ⊢
  have s3 := s2.trans (Same.new ht2 (.tup [.ref t1, .int (f1 : Int), .int (f2 : Int)]))
  have kx := Keeps.of_same (K := K) s3
  have n1 : DT K 9 (upd (upd H1 t1 (.tup [.str "test", x])) t2 (.tup [.ref t1, .int (f1 : Int), .int (f2 : Int)])) (.ref t2) (nodeD (testD e) (some f1) (some f2)) :=
    (node_at (n := 7) (a := some f1) (b := some f2) (SqT.of upd_same) ((test_at (n := 6) (Same.tup (Same.new ht2 _) (SqT.of upd_same)) ((h2.keep kx).up (by decide))).up (by decide)))
  generalize (upd (upd H1 t1 (.tup [.str "test", x])) t2 (.tup [.ref t1, .int (f1 : Int), .int (f2 : Int)])) = H3 at s3 kx n1 ⊢
  have nb := Tr.nodes_len b (p + 1) a br lv
  have nc := Tr.nodes_len c (p + 1 + b.cnt) a br lv
  refine ⟨_, rfl, _, rfl, _, rfl, _, _, rfl, rfl, _, rfl, qb, ub, b, p + 1, a, br, lv, w3, rfl, Same.tup s3 h3, TrL.keep kx h4, db, by omega, Same.tup s3 hw, fun D1 n2 H4 s4 hD10 hD1 hn2 => ?_⟩
  have s34 := s3.trans s4
  refine ⟨D1, n2, rfl, .inr (SqL.of hD1), _, rfl, _, rfl, _, rfl, qc, uc, c, p + 1 + b.cnt, a, br, lv, w3, rfl, Same.tup s34 h5, TrL.keep (Keeps.of_same s34) h6, dc, by omega, Same.tup s34 hw, fun D2 n3 H5 s5 hD20 hD2 hn3 => ?_⟩
  have l2 := hn2.len
  have l3 := hn3.len
  refine ⟨D2, n3, rfl, .inr (SqL.of hD2), by rw [sizeLine_eq]; simp; omega, fun D hD => ?_⟩
  have s35 := s34.trans s5
  have kD := Keeps.of_same (K := K) (Same.new hD (.lst (.ref t2 :: (n2 ++ (n3 ++ [])))))
  refine q D (.ref t2 :: (n2 ++ (n3 ++ []))) _ (s35.trans (Same.new hD _)) (s35.free hD) upd_same ?_
  have eN : nodesT (.iff e b c .nil) p a br lv = nodeD (testD e) (some f1) (some f2) :: (nodesT b (p + 1) a br lv ++ (nodesT c (p + 1 + b.cnt) a br lv ++ [])) := by
    rw [← hF1, ← hF2]
    rfl
  rw [eN]
  refine DTs.keep kD ⟨n1.keep (Keeps.of_same (s4.trans s5)), DTs.app (hn2.keep (Keeps.of_same s5)) (DTs.app hn3 trivial)⟩
theorem ok_sn0 (T : Txt w K mg) {m : Nat} (g_body_nodes : FnOk P w K mg base CX0 (3 * m + 16) T.a_body_nodes T.d_body_nodes p_body_nodes (match m with | 0 => fun _ _ _ _ => False | k + 1 => spBn K k))
    (g_if_nodes : FnOk P w K mg base CX0 (3 * m + 17) T.a_if_nodes T.d_if_nodes p_if_nodes (match m with | 0 => fun _ _ _ _ => False | k + 1 => spIn K k)) :
    FnOk P w K mg base CX0 (3 * m + 18) T.a_statement_nodes T.d_statement_nodes p_statement_nodes (spSn K m) := by
  have g_first_place := ok_first (P := P) (w := w) (K := K) (base := base) T
  refine T.F_statement_nodes.ok sc_statement_nodes (fun vs H Q E h => ?_) (fun cdv A outer s H vs Q E hr h => ?_)
  · obtain ⟨v, t, p, a, br, lv, w3, rfl, _⟩ := h
    rfl
  obtain ⟨v, t, p, a, br, lv, w3, rfl, ht, hd, hc, hw, q⟩ := h
  refine ⟨_, (pss_cons (ps_asg (pv 2) (pg_tup rfl (pgs_cons (pg_name (i := 3) sc_statement_nodes.nd rfl (Or.inl rfl)) (pgs_cons (pg_name (i := 4) sc_statement_nodes.nd rfl (Or.inl rfl)) (pgs_cons (pg_name (i := 5) sc_statement_nodes.nd rfl (Or.inl rfl)) pgs_nil)))))
      (pss_cons (ps_set (i := 6) sc_statement_nodes.nd rfl (Or.inl rfl) (pe_ix ix_tup (pv 0) pe_int (fun _ _ => rfl)))
      (pss_cons (ps_if (pt_cmpR op_eq (pv 6) pe_str (nomark _)) (pss_one (ps_ret (pe_call g_if_nodes (hr.mono (by first | decide | omega)) rfl T.m_if_nodes T.F_if_nodes.kp T.b_if_nodes .nil pass0 (pa_cons (pv 0) (pa_cons (pv 1) (pa_cons (pv 2) pa_nil)))))) pss_nil)
      (pss_cons (ps_if (pt_cmpR op_eq (pv 6) pe_str (nomark _)) (pss_cons (ps_set (i := 7) sc_statement_nodes.nd rfl (Or.inl rfl) (pe_call g_body_nodes (hr.mono (by first | decide | omega)) rfl T.m_body_nodes T.F_body_nodes.kp T.b_body_nodes .nil pass0 (pa_cons (pe_ix ix_tup (pv 0) pe_int (fun _ _ => rfl)) (pa_cons (pe_op op_add (pv 1) pe_int) (pa_cons (pe_tup (pa_cons (pv 1) (pa_cons (pv 3) (pa_cons (pv 5) pa_nil)))) pa_nil)))))
      (pss_cons (ps_set (i := 8) sc_statement_nodes.nd rfl (Or.inl rfl) (pe_call g_first_place (hr.mono (by first | decide | omega)) rfl T.m_first_place T.F_first_place.kp T.b_first_place .nil pass0 (pa_cons (pe_ix ix_tup (pv 0) pe_int (fun _ _ => rfl)) (pa_cons (pe_op op_add (pv 1) pe_int) (pa_cons (pv 1) pa_nil)))))
      (pss_one (ps_ret (pe_lst (pa_cons (pe_tup (pa_cons (pe_tup (pa_cons pe_str (pa_cons (pe_ix ix_tup (pv 0) pe_int (fun _ _ => rfl)) pa_nil))) (pa_cons (pv 8) (pa_cons (pv 3) pa_nil)))) (StX.pa_star (pv 7) pa_nil))))))) pss_nil)
      (pss_cons (ps_if (pt_cmpR op_eq (pv 6) pe_str (nomark _)) (pss_one (ps_ret (pe_lst (pa_cons (pe_tup (pa_cons (pe_tup (pa_cons pe_str pa_nil)) (pa_cons (pv 4) (pa_cons pe_non pa_nil)))) pa_nil)))) pss_nil)
      (pss_one (ps_ret (pe_lst (pa_cons (pe_tup (pa_cons (pv 0) (pa_cons (pe_ifExp (pt_cmpR op_eq (pv 6) pe_str (nomark _)) (pv 5) (pv 3)) (pa_cons pe_non pa_nil)))) pa_nil))))))))), ?_⟩
  refine ⟨_, rfl, w3, _, rfl, hw, rfl, _, _, rfl, _, _, rfl, _, _, rfl, rfl, ?_⟩
  have T2 : ∀ {w z : Str}, decide (V.str w = V.str z) = true → w = z := fun h => V.str.inj (of_decide_eq_true h)
  have T1 : ∀ {w z : Str}, ¬ (decide (V.str w = V.str z) = true) → w ≠ z := fun h e => h (decide_eq_true (congrArg V.str e))
  cases t with
  | nil => cases ht
  | leaf wd d r =>
    obtain ⟨z, xs, ws, ev, h1, h2, h3, h4⟩ := ht
    obtain ⟨rfl, rfl⟩ := List.cons.inj ev
    have er : r = .nil := by
      have l := h4.len
      cases r <;> simp [Tr.len] at l ⊢
    subst er
    obtain ⟨roles, r1, r2, r3, r4⟩ := h3
    have nif : wd ≠ "if" := fun e => leaf_no (by rw [e] at r1; exact r1) r4 (.inl rfl)
    have nwh : wd ≠ "while" := fun e => leaf_no (by rw [e] at r1; exact r1) r4 (.inr rfl)
    refine ⟨_, rfl, z, _, 0, _, rfl, rfl, h1, at0, _, rfl, rfl, _, rfl, ifF (decide_eq_false fun e => nif (V.str.inj e)) ⟨_, rfl, rfl, _, rfl, ifF (decide_eq_false fun e => nwh (V.str.inj e)) ⟨_, rfl, rfl, _, rfl, ite2 (fun c => ?_) (fun c => ?_)⟩⟩⟩
    · obtain rfl := T2 c
      refine ⟨by show 1 ≤ sizeLine; decide, fun u hu => ⟨_, rfl, by show 3 ≤ sizeLine; decide, fun y hy => ⟨by show 1 ≤ sizeLine; decide, fun D hD => ?_⟩⟩⟩
      have s1 := Same.new hu (.tup [.str "go"])
      have s2 := s1.trans (Same.new hy (.tup [.ref u, onV br, .non]))
      have s3 := s2.trans (Same.new hD (.lst [.ref y]))
      refine q D [.ref y] _ s3 (s2.free hD) upd_same ⟨?_, trivial⟩
      have e0 : leafN ("break" : Str) d a br lv = nodeD (.tuple [.str "go"]) br none := by unfold leafN; rw [if_pos rfl]
      show DT K 9 _ (.ref y) (leafN ("break" : Str) d a br lv)
      rw [e0]
      exact node_at (n := 7) (a := br) (b := none) (Same.tup (Same.new hD _) (SqT.of upd_same)) (DT.tup (n := 7) (Same.tup ((Same.new hy _).trans (Same.new hD _)) (SqT.of upd_same)) ⟨⟨.str _, trivial⟩, trivial⟩ (by decide))
    · have nbr := T1 c
      have hl : d.length ≤ 10 := by omega
      have dx : ∀ {H' : Hp}, Same H H' → DT K 8 H' (.ref z) (.tuple (.str wd :: d)) := fun s => (DT.tup (n := 6) (ds := .str wd :: d) (Same.tup s h1) ⟨⟨.str _, trivial⟩, h2.keep (Keeps.of_same s)⟩ (by show d.length + 1 ≤ 1000; omega)).up (by decide)
      have fin : ∀ (nx : Nat), nx = (if wd = "return" then lv else a) → ∀ (y : Addr), H y = none → ∀ (D : Addr), (upd H y (.tup [.ref z, .int (nx : Int), .non])) D = none → Q (.ref D) (upd (upd H y (.tup [.ref z, .int (nx : Int), .non])) D (.lst [.ref y])) := by
        intro nx en y hy D hD
        have s2 := Same.new hy (.tup [.ref z, .int (nx : Int), .non])
        refine q D [.ref y] _ (s2.trans (Same.new hD _)) (s2.free hD) upd_same ⟨?_, trivial⟩
        have e0 : leafN wd d a br lv = nodeD (.tuple (.str wd :: d)) (some nx) none := by unfold leafN; rw [if_neg nbr, en]
        show DT K 9 _ (.ref y) (leafN wd d a br lv)
        rw [e0]
        exact node_at (n := 7) (a := some nx) (b := none) (Same.tup (Same.new hD _) (SqT.of upd_same)) (dx (s2.trans (Same.new hD _)))
      refine ⟨_, rfl, _, rfl, rfl, _, rfl, ite2 (fun c => ?_) (fun c => ?_)⟩
      · refine ⟨_, rfl, by show 3 ≤ sizeLine; decide, fun y hy => ⟨by show 1 ≤ sizeLine; decide, fun D hD => fin lv (by rw [if_pos (T2 c)]) y hy D hD⟩⟩
      · refine ⟨_, rfl, by show 3 ≤ sizeLine; decide, fun y hy => ⟨by show 1 ≤ sizeLine; decide, fun D hD => fin a (by rw [if_neg (T1 c)]) y hy D hD⟩⟩
  | loop e b r =>
    obtain ⟨z, x, qb, ub, ws, ev, h1, h2, h3, h4, h5⟩ := ht
    obtain ⟨rfl, rfl⟩ := List.cons.inj ev
    have er : r = .nil := by
      have l := h5.len
      cases r <;> simp [Tr.len] at l ⊢
    subst er
    obtain ⟨k, rfl, db, _⟩ := dep_loop hd
    simp only [Tr.cnt] at hc
    refine ⟨_, rfl, z, _, 0, _, rfl, rfl, h1, rfl, _, rfl, rfl, _, rfl, ifF (by decide +kernel) ⟨_, rfl, rfl, _, rfl, ifT (by decide +kernel) ?_⟩⟩
    refine ⟨_, rfl, z, _, 2, _, rfl, rfl, h1, rfl, _, rfl, _, _, rfl, rfl, _, rfl, _, rfl, _, rfl, by show 3 ≤ sizeLine; decide, fun t1 ht1 => ?_⟩
    have s1 := Same.new ht1 (.tup [.int (p : Int), .int (a : Int), .int (lv : Int)])
    refine ⟨qb, ub, b, p + 1, p, some a, lv, t1, rfl, Same.tup s1 h3, TrL.keep (Keeps.of_same s1) h4, db, by omega, SqT.of upd_same, fun D1 n2 H2 s2 hD10 hD1 hn2 => ?_⟩
    have s12 := s1.trans s2
    have h1' := Same.tup s12 h1
    refine ⟨_, rfl, z, _, 2, _, rfl, rfl, h1', rfl, _, rfl, _, _, rfl, rfl, _, rfl, qb, ub, b, p + 1, p, rfl, Same.tup s12 h3, TrL.keep (Keeps.of_same s12) h4, ?_⟩
    generalize hF : b.first (p + 1) p = f1
    refine ⟨_, rfl, z, _, 1, _, rfl, rfl, h1', rfl, by show 2 ≤ sizeLine; decide, fun t2 ht2 => ⟨_, rfl, _, rfl, by show 3 ≤ sizeLine; decide, fun t3 ht3 => ?_⟩⟩
    have s3 := Same.new ht2 (.tup [.str "test", x])
    have s4 := Same.new ht3 (.tup [.ref t2, .int (f1 : Int), .int (a : Int)])
    have l2 := hn2.len
    have nn := Tr.nodes_len b (p + 1) p (some a) lv
    refine ⟨_, rfl, D1, n2, rfl, .inr (SqL.of (s4 _ _ (s3 _ _ hD1))), by rw [sizeLine_eq]; simp; omega, fun D hD => ?_⟩
    have s5 := Same.new hD (.lst (.ref t3 :: (n2 ++ [])))
    have sA := (s12.trans s3).trans s4
    refine q D (.ref t3 :: (n2 ++ [])) _ (sA.trans s5) (sA.free hD) upd_same ?_
    have eN : nodesT (.loop e b .nil) p a br lv = nodeD (testD e) (some f1) (some a) :: (nodesT b (p + 1) p (some a) lv ++ []) := by
      rw [← hF]
      rfl
    rw [eN]
    exact ⟨node_at (n := 7) (a := some f1) (b := some a) (Same.tup s5 (SqT.of upd_same)) ((test_at (n := 6) (Same.tup (s4.trans s5) (SqT.of upd_same)) ((h2.keep (Keeps.of_same (sA.trans s5))).up (by decide))).up (by decide)), DTs.app (hn2.keep (Keeps.of_same ((s3.trans s4).trans s5))) trivial⟩
  | iff e b c r =>
    obtain ⟨z, x, qb, ub, qc, uc, ws, ev, h1, h2, h3, h4, h5, h6, h7⟩ := ht
    obtain ⟨rfl, rfl⟩ := List.cons.inj ev
    have er : r = .nil := by
      have l := h7.len
      cases r <;> simp [Tr.len] at l ⊢
    subst er
    obtain ⟨k, rfl, db, dc, _⟩ := dep_iff hd
    simp only [Tr.cnt] at hc
    exact ⟨_, rfl, z, _, 0, _, rfl, rfl, h1, rfl, _, rfl, rfl, _, rfl, ifT (by decide +kernel) ⟨_, rfl, _, rfl, _, rfl, .ref z, e, b, c, p, a, br, lv, w3, rfl, ⟨z, x, qb, ub, qc, uc, [], rfl, h1, h2, h3, h4, h5, h6, rfl⟩, db, dc, by omega, hw, q⟩⟩
theorem ok_bn (T : Txt w K mg) : ∀ m : Nat, FnOk P w K mg base CX0 (3 * m + 19) T.a_body_nodes T.d_body_nodes p_body_nodes (spBn K m)
  | 0 => ok_bn0 T (ok_sn0 T (fn_vac fun _ _ _ _ h => h) (fn_vac fun _ _ _ _ h => h))
  | m + 1 => ok_bn0 T (ok_sn0 T (ok_bn T m) (ok_in T (ok_bn T m)))
end
/-! ### nodes and heads -/
def FnAt (K : PySem.W.Frag) (H : Hp) (F : Addr) (t : Tr) : Prop := ∃ v0 v1 v2 v3 q us, SqT K H F [v0, v1, v2, v3, .ref q] ∧ SqT K H q us ∧ TrL K H t us
theorem FnAt.keep {K : PySem.W.Frag} {H H' : Hp} (k : Keeps K H H') {F : Addr} {t : Tr} (h : FnAt K H F t) : FnAt K H' F t := by
  obtain ⟨v0, v1, v2, v3, q, us, h1, h2, h3⟩ := h
  exact ⟨v0, v1, v2, v3, q, us, k _ _ h1, k _ _ h2, TrL.keep k h3⟩
def isWh : PyData → Bool
  | .tuple (.str w :: _) => decide (w = ("while" : Str))
  | _ => false
def hdsL : List PyData → Nat → List Int
  | [], _ => []
  | d :: ds, i => if isWh d = true then (i : Int) :: hdsL ds (i + 1) else hdsL ds (i + 1)
theorem hdsL_snoc (d : PyData) : ∀ (l : List PyData) (i : Nat), hdsL (l ++ [d]) i = hdsL l i ++ (if isWh d = true then [((i + l.length : Nat) : Int)] else [])
  | [], i => by
    show (if isWh d = true then (i : Int) :: hdsL [] (i + 1) else hdsL [] (i + 1)) = _
    rfl
  | x :: l, i => by
    have h := hdsL_snoc d l (i + 1)
    have e : i + 1 + l.length = i + (x :: l).length := by simp; omega
    rw [e] at h
    show (if isWh x = true then (i : Int) :: hdsL (l ++ [d]) (i + 1) else hdsL (l ++ [d]) (i + 1)) = (if isWh x = true then (i : Int) :: hdsL l (i + 1) else hdsL l (i + 1)) ++ _
    rw [h]
    split <;> rfl
theorem hdsL_len : ∀ (l : List PyData) (i : Nat), (hdsL l i).length ≤ l.length
  | [], _ => Nat.le_refl _
  | d :: l, i => by
    have h := hdsL_len l (i + 1)
    unfold hdsL
    split
    · exact Nat.succ_le_succ h
    · exact Nat.le_succ_of_le h
theorem ints_dt {K : PySem.W.Frag} {n : Nat} {H : Hp} : ∀ l : List Int, DTs K (n + 1) H (l.map V.int) (l.map PyData.int)
  | [] => trivial
  | _ :: l => ⟨⟨.int _, trivial⟩, ints_dt l⟩
theorem Prq.get {K : PySem.W.Frag} {H : Hp} : ∀ {ps : List Addr} {ds : List PyData} {i : Nat} {d : PyData}, Prq K H ps ds → ds[i]? = some d → ∃ p q f w v x, ps[i]? = some p ∧ H p = some (.tup [.ref q, f]) ∧ SqT K H q (.str w :: v) ∧ d = .tuple (.str w :: x)
  | _, _, _, _, .nil, e => by simp at e
  | _, _, 0, d, .cons h1 h2 _, e => by
    simp at e
    exact ⟨_, _, _, _, _, _, rfl, h1, h2, e.symm⟩
  | _, _, i + 1, d, .cons _ _ r, e => by
    obtain ⟨p, q, f, w, v, x, e1, e2⟩ := Prq.get (i := i) r (by simpa using e)
    exact ⟨p, q, f, w, v, x, by simpa using e1, e2⟩
def spNd (K : PySem.W.Frag) : Sp := fun vs H Q _ => ∃ (F : Addr) (t : Tr), vs = [.ref F] ∧ FnAt K H F t ∧ t.dep 8 ∧ t.cnt ≤ 400 ∧ ∀ (p : Addr) (H' : Hp), Same H H' → DT K 10 H' (.ref p) (.tuple (nodesT t 0 t.cnt none t.cnt)) → Q (.ref p) H'
def spHd (K : PySem.W.Frag) : Sp := fun vs H Q _ => ∃ (F : Addr) (t : Tr), vs = [.ref F] ∧ FnAt K H F t ∧ t.dep 8 ∧ t.cnt ≤ 400 ∧ ∀ (p : Addr) (H' : Hp), Same H H' → DT K 10 H' (.ref p) (.tuple ((hdsL t.pre 0).map .int)) → Q (.ref p) H'
section
variable {P : Program} {w : World} {K : PySem.W.Frag} {mg : Str → Option Value} {base : Heap}
theorem ok_nodes (T : Txt w K mg) : FnOk P w K mg base CX0 44 T.a_nodes T.d_nodes p_nodes (spNd K) := by
  have g_count_statements := ok_count (P := P) (w := w) (K := K) (base := base) T 8
  have g_body_nodes := ok_bn (P := P) (w := w) (K := K) (base := base) T 8
  refine T.F_nodes.ok sc_nodes (fun vs H Q E h => ?_) (fun cdv A outer s H vs Q E hr h => ?_)
  · obtain ⟨F, t, rfl, _⟩ := h
    rfl
  obtain ⟨F, t, rfl, ⟨v0, v1, v2, v3, qa, us, h1, h2, h3⟩, hd, hc, q⟩ := h
  refine ⟨_, (pss_cons (ps_set (i := 1) sc_nodes.nd rfl (Or.inl rfl) (pe_ix ix_tup (pv 0) pe_int (fun _ _ => rfl)))
      (pss_cons (ps_set (i := 2) sc_nodes.nd rfl (Or.inl rfl) (pe_call g_count_statements (hr.mono (by first | decide | omega)) rfl T.m_count_statements T.F_count_statements.kp T.b_count_statements .nil pass0 (pa_cons (pv 1) pa_nil)))
      (pss_one (ps_ret (pe_callTy call_tuple_of rfl T.z_tuple bt_tuple (pa_cons (pe_call g_body_nodes (hr.mono (by first | decide | omega)) rfl T.m_body_nodes T.F_body_nodes.kp T.b_body_nodes .nil pass0 (pa_cons (pv 1) (pa_cons pe_int (pa_cons (pe_tup (pa_cons (pv 2) (pa_cons pe_non (pa_cons (pv 2) pa_nil)))) pa_nil)))) pa_nil)))))), ?_⟩
  refine ⟨_, rfl, F, _, 4, _, rfl, rfl, h1, rfl, _, rfl, qa, us, t, rfl, h2, h3, hd, hc, fun H1 s1 => ?_⟩
  refine ⟨_, rfl, _, rfl, _, rfl, by show 3 ≤ sizeLine; decide, fun w3 hw => ?_⟩
  have s2 := s1.trans (Same.new hw (.tup [.int (t.cnt : Int), .non, .int (t.cnt : Int)]))
  refine ⟨qa, us, t, 0, t.cnt, none, t.cnt, w3, rfl, Same.tup s2 h2, TrL.keep (Keeps.of_same s2) h3, hd, hc, SqT.of upd_same, fun D ns H3 s3 hD0 hD hn => ?_⟩
  refine ⟨D, ns, rfl, .inl ⟨SqL.of hD, fun p hp => ?_⟩⟩
  have nn := Tr.nodes_len t 0 t.cnt none t.cnt
  exact q p _ ((s2.trans s3).trans (Same.new hp _)) (DT.tup (n := 9) (SqT.of upd_same) (hn.keep (keeps_new hp)) (by omega))
theorem ok_heads (T : Txt w K mg) : FnOk P w K mg base CX0 13 T.a_heads T.d_heads p_heads (spHd K) := by
  have g_list_statements := ok_ls (P := P) (w := w) (K := K) (base := base) T 8
  obtain ⟨ds_e, e_list_statements⟩ := T.e_list_statements
  obtain ⟨ds_b, b_list_statements⟩ := T.b_list_statements
  refine T.F_heads.ok sc_heads (fun vs H Q E h => ?_) (fun cdv A outer s H vs Q E hr h => ?_)
  · obtain ⟨F, t, rfl, _⟩ := h
    rfl
  obtain ⟨F, t, rfl, ⟨v0, v1, v2, v3, qa, us, h1, h2, h3⟩, hd, hc, q⟩ := h
  refine ⟨_, (pss_cons (ps_set (i := 1) sc_heads.nd rfl (Or.inl rfl) (pe_call g_list_statements (hr.mono (by first | decide | omega)) rfl T.m_list_statements T.F_list_statements.kp e_list_statements.2 e_list_statements.1 pass0 (pa_cons (pe_ix ix_tup (pv 0) pe_int (fun _ _ => rfl)) pa_nil)))
      (pss_one (ps_ret (pe_callTy call_tuple_of rfl T.z_tuple bt_tuple (pa_cons (pe_lc (own := [("at", 2), ("statement", 3), ("_", 4)]) (g := gTup K 2 (gCons (gName 2) (gCons (gTup K 2 (gCons (gName 3) (gCons (gName 4) gNil))) gNil))) rfl sc_heads.nd (pi_enum (by rfl) T.z_enumerate (pa_cons (pv 1) pa_nil)) (blkOk_by (own := [("at", 2), ("statement", 3), ("_", 4)]) (N := n_heads) (sc := defScope s_heads) (by decide +kernel)) (fun _ _ _ _ _ => (pg_tup rfl (pgs_cons (pg_name (i := 2) sc_heads.nd rfl (Or.inl rfl)) (pgs_cons (pg_tup rfl (pgs_cons (pg_name (i := 3) sc_heads.nd rfl (Or.inl rfl)) (pgs_cons (pg_name (i := 4) sc_heads.nd rfl (Or.inl rfl)) pgs_nil))) pgs_nil)))) (fun _ _ _ _ _ => (pts_one (pt_cmpR op_eq (pe_ix (show IxR _ (rIxT K) from ix_tup) (pv 3) pe_int (fun _ _ => rfl)) pe_str (nomark _)))) (fun _ _ _ _ _ => (pv 2))) pa_nil))))), ?_⟩
  refine ⟨_, rfl, F, _, 4, _, rfl, rfl, h1, rfl, qa, us, t, false, rfl, h2, h3, hd, hc, fun L ps H1 s1 hL0 hL hp => ?_⟩
  have pl := hp.len
  have tl := Tr.pre_len t
  refine ⟨_, rfl, L, _, rfl, SqL.of hL, fun D hD => ?_⟩
  have nLD : L ≠ D := ne_of_none hL hD
  have hD0 : H D = none := s1.free hD
  refine lc_it (walk_enum (K := K) (a := L) (xs := ps.map V.ref)) (fun i H' => Same H H' ∧ H' L = some (.lst (ps.map V.ref)) ∧ Prq K H' ps t.pre ∧ H' D = some (.lst ((hdsL (t.pre.take i) 0).map V.int))) ?_ ?_ ?_ ?_
  · refine ⟨Same.grow hD0 s1, by rw [upd_ne nLD]; exact hL, Prq.keep (fun _ _ h => Same.new hD _ _ _ h) (keeps_new hD) hp, upd_same⟩
  · rintro i H' _ ⟨_, h, _⟩
    exact SqL.of h
  · rintro i x H' H2 hi ⟨sm, hL', hp', hD'⟩ ⟨z, _, y, rfl, hz, rfl, rfl', hiy⟩
    obtain rfl := (Option.some.inj rfl').symm
    have hiy : (ps.map V.ref)[i]? = some y := hiy
    have hip : i < ps.length := by
      have := (List.getElem?_eq_some_iff.mp hiy).1
      rwa [List.length_map] at this
    have hid : i < t.pre.length := by omega
    have hde := List.getElem?_eq_getElem hid
    obtain ⟨pp, qq, f, wd, vv, xx, e1, e2, e3, e4⟩ := hp'.get hde
    have ey : y = .ref pp := by
      rw [List.getElem?_map, e1] at hiy
      exact (Option.some.inj hiy).symm
    subst ey
    have sz := Same.new hz (.tup [.int (i : Nat), .ref pp])
    have kz := Keeps.of_same (K := K) sz
    have e2' := sz _ _ e2
    have e3' := kz _ _ e3
    have step : hdsL (t.pre.take (i + 1)) 0 = hdsL (t.pre.take i) 0 ++ (if wd = "while" then [((i : Nat) : Int)] else []) := by
      have e5 : t.pre.take (i + 1) = t.pre.take i ++ [.tuple (.str wd :: xx)] := by rw [List.take_add_one, hde, e4]; rfl
      rw [e5, hdsL_snoc]
      have l5 : (t.pre.take i).length = i := by rw [List.length_take]; omega
      rw [l5, Nat.zero_add]
      congr 1
      show (if decide (wd = ("while" : Str)) = true then _ else _) = _
      by_cases h : wd = "while"
      · rw [if_pos h, if_pos (decide_eq_true h)]
      · rw [if_neg h, if_neg (by rw [decide_eq_false h]; exact Bool.false_ne_true)]
    have hDz := sz _ _ hD'
    refine ⟨z, _, rfl, SqT.of upd_same, rfl, _, _, rfl, _, _, rfl, ⟨pp, _, rfl, SqT.of e2', rfl, _, _, rfl, _, _, rfl, ?_⟩⟩
    refine ⟨rfl, rfl, rfl, _, rfl, qq, _, 0, _, rfl, rfl, e3', at0, rfl, _, rfl, ?_⟩
    have hl := hdsL_len (t.pre.take i) 0
    have tl' : (t.pre.take i).length ≤ t.pre.length := List.length_take_le' _ _
    by_cases h : wd = "while"
    · rw [if_pos h] at step
      refine ifT (decide_eq_true (congrArg V.str h)) ⟨_, rfl, _, hDz, by rw [List.length_map]; exact small1000 (by omega), Same.grow hD0 (sm.trans sz), by rw [upd_ne nLD]; exact sz _ _ hL', Prq.keep (fun _ _ h => tup_lst hDz (sz _ _ h)) (fun _ _ h => keep_lst hDz _ _ (kz _ _ h)) hp', ?_⟩
      rw [upd_same, step, List.map_append]
      rfl
    · rw [if_neg h, List.append_nil] at step
      refine ifF (decide_eq_false fun e => h (V.str.inj e)) ⟨sm.trans sz, sz _ _ hL', Prq.keep (fun _ _ h => sz _ _ h) kz hp', ?_⟩
      rw [step]
      exact hDz
  · rintro H' ⟨sm, hL', hp', hD'⟩
    rw [List.length_map, pl, List.take_length] at hD'
    refine ⟨D, _, rfl, .inl ⟨SqL.of hD', fun p hp0 => ?_⟩⟩
    have hl := hdsL_len t.pre 0
    refine q p _ (sm.trans (Same.new hp0 _)) (DT.tup (n := 9) (SqT.of upd_same) (ints_dt _) (by rw [List.length_map]; omega))
end
/-! ### the law's rows -/
def LeafAt (K : PySem.W.Frag) (H : Hp) (x : V) (w : Str) (d : List PyData) : Prop := ∃ p xs, x = .ref p ∧ SqT K H p (.str w :: xs) ∧ DTs K 6 H xs d ∧ d.length ≤ 10
def LoopAt (K : PySem.W.Frag) (H : Hp) (x : V) (e : PyData) : Prop := ∃ p y z, x = .ref p ∧ SqT K H p [.str "while", y, z] ∧ DT K 6 H y e
def IffAt (K : PySem.W.Frag) (H : Hp) (x : V) (e : PyData) : Prop := ∃ p y z u, x = .ref p ∧ SqT K H p [.str "if", y, z, u] ∧ DT K 6 H y e
def RowsAt (K : PySem.W.Frag) (H : Hp) (A : Addr → Prop) : Tr → Nat → List V → Prop
  | .nil, _, vs => vs = []
  | .leaf w d r, q, vs => ∃ p x i1 i2 ws, vs = .ref p :: ws ∧ (A p ∧ A i1 ∧ A i2) ∧ H p = some (.lst [.int (q : Int), x, .ref i1, .ref i2]) ∧ LeafAt K H x w d ∧ H i1 = some (.lst []) ∧ H i2 = some (.lst []) ∧ (w ≠ "if" ∧ w ≠ "while") ∧ RowsAt K H A r (q + 1) ws
  | .loop e b r, q, vs => ∃ p x i1 i2 us ws, vs = .ref p :: ws ∧ (A p ∧ A i1 ∧ A i2) ∧ H p = some (.lst [.int (q : Int), x, .ref i1, .ref i2]) ∧ LoopAt K H x e ∧ H i1 = some (.lst us) ∧ RowsAt K H A b (q + 1) us ∧ H i2 = some (.lst []) ∧ RowsAt K H A r (q + 1 + b.cnt) ws
  | .iff e b c r, q, vs => ∃ p x i1 i2 us us2 ws, vs = .ref p :: ws ∧ (A p ∧ A i1 ∧ A i2) ∧ H p = some (.lst [.int (q : Int), x, .ref i1, .ref i2]) ∧ IffAt K H x e ∧ H i1 = some (.lst us) ∧ RowsAt K H A b (q + 1) us ∧ H i2 = some (.lst us2) ∧ RowsAt K H A c (q + 1 + b.cnt) us2 ∧ RowsAt K H A r (q + 1 + b.cnt + c.cnt) ws
theorem LeafAt.keep {K : PySem.W.Frag} {H H' : Hp} (k : Keeps K H H') {x : V} {w : Str} {d : List PyData} (h : LeafAt K H x w d) : LeafAt K H' x w d := by
  obtain ⟨p, xs, e, h1, h2, h3⟩ := h
  exact ⟨p, xs, e, k _ _ h1, h2.keep k, h3⟩
theorem LoopAt.keep {K : PySem.W.Frag} {H H' : Hp} (k : Keeps K H H') {x : V} {e : PyData} (h : LoopAt K H x e) : LoopAt K H' x e := by
  obtain ⟨p, y, z, e, h1, h2⟩ := h
  exact ⟨p, y, z, e, k _ _ h1, h2.keep k⟩
theorem IffAt.keep {K : PySem.W.Frag} {H H' : Hp} (k : Keeps K H H') {x : V} {e : PyData} (h : IffAt K H x e) : IffAt K H' x e := by
  obtain ⟨p, y, z, u, e, h1, h2⟩ := h
  exact ⟨p, y, z, u, e, k _ _ h1, h2.keep k⟩
theorem RowsAt.keep {K : PySem.W.Frag} {H H' : Hp} {A A' : Addr → Prop} (k : Keeps K H H') (e : ∀ b o, A b → H b = some o → H' b = some o) (m : ∀ b o, A b → H b = some o → A' b) : ∀ {t : Tr} {q : Nat} {vs : List V}, RowsAt K H A t q vs → RowsAt K H' A' t q vs
  | .nil, _, _, h => h
  | .leaf _ _ _, _, _, ⟨p, x, i1, i2, ws, ev, a, h1, h2, h3, h4, h5, h6⟩ => ⟨p, x, i1, i2, ws, ev, ⟨m _ _ a.1 h1, m _ _ a.2.1 h3, m _ _ a.2.2 h4⟩, e _ _ a.1 h1, h2.keep k, e _ _ a.2.1 h3, e _ _ a.2.2 h4, h5, RowsAt.keep k e m h6⟩
  | .loop _ _ _, _, _, ⟨p, x, i1, i2, us, ws, ev, a, h1, h2, h3, h4, h5, h6⟩ => ⟨p, x, i1, i2, us, ws, ev, ⟨m _ _ a.1 h1, m _ _ a.2.1 h3, m _ _ a.2.2 h5⟩, e _ _ a.1 h1, h2.keep k, e _ _ a.2.1 h3, RowsAt.keep k e m h4, e _ _ a.2.2 h5, RowsAt.keep k e m h6⟩
  | .iff _ _ _ _, _, _, ⟨p, x, i1, i2, us, us2, ws, ev, a, h1, h2, h3, h4, h5, h6, h7⟩ => ⟨p, x, i1, i2, us, us2, ws, ev, ⟨m _ _ a.1 h1, m _ _ a.2.1 h3, m _ _ a.2.2 h5⟩, e _ _ a.1 h1, h2.keep k, e _ _ a.2.1 h3, RowsAt.keep k e m h4, e _ _ a.2.2 h5, RowsAt.keep k e m h6, RowsAt.keep k e m h7⟩
theorem RowsAt.same {K : PySem.W.Frag} {H H' : Hp} {A : Addr → Prop} (s : Same H H') {t : Tr} {q : Nat} {vs : List V} (h : RowsAt K H A t q vs) : RowsAt K H' A t q vs := RowsAt.keep (Keeps.of_same s) (fun b o _ e => s b o e) (fun _ _ a _ => a) h
theorem RowsAt.app {K : PySem.W.Frag} {H : Hp} {A : Addr → Prop} {u : Tr} {ws : List V} : ∀ {t : Tr} {q : Nat} {vs : List V}, RowsAt K H A t q vs → RowsAt K H A u (q + t.cnt) ws → RowsAt K H A (t.app u) q (vs ++ ws)
  | .nil, _, _, h, g => by rw [show _ = [] from h]; exact g
  | .leaf w d r, q, _, ⟨p, x, i1, i2, vs, ev, a, h1, h2, h3, h4, h5, h6⟩, g => by
    rw [ev]
    exact ⟨p, x, i1, i2, vs ++ ws, rfl, a, h1, h2, h3, h4, h5, RowsAt.app h6 (by rw [show q + 1 + r.cnt = q + (Tr.leaf w d r).cnt by simp only [Tr.cnt]; omega]; exact g)⟩
  | .loop e b r, q, _, ⟨p, x, i1, i2, us, vs, ev, a, h1, h2, h3, h4, h5, h6⟩, g => by
    rw [ev]
    exact ⟨p, x, i1, i2, us, vs ++ ws, rfl, a, h1, h2, h3, h4, h5, RowsAt.app h6 (by rw [show q + 1 + b.cnt + r.cnt = q + (Tr.loop e b r).cnt by simp only [Tr.cnt]; omega]; exact g)⟩
  | .iff e b c r, q, _, ⟨p, x, i1, i2, us, us2, vs, ev, a, h1, h2, h3, h4, h5, h6, h7⟩, g => by
    rw [ev]
    exact ⟨p, x, i1, i2, us, us2, vs ++ ws, rfl, a, h1, h2, h3, h4, h5, h6, RowsAt.app h7 (by rw [show q + 1 + b.cnt + c.cnt + r.cnt = q + (Tr.iff e b c r).cnt by simp only [Tr.cnt]; omega]; exact g)⟩
theorem RowsAt.len {K : PySem.W.Frag} {H : Hp} {A : Addr → Prop} : ∀ {t : Tr} {q : Nat} {vs : List V}, RowsAt K H A t q vs → vs.length = t.len
  | .nil, _, _, h => by rw [show _ = [] from h]; rfl
  | .leaf _ _ _, _, _, ⟨_, _, _, _, _, ev, _, _, _, _, _, _, h6⟩ => by rw [ev]; exact congrArg (· + 1) (RowsAt.len h6)
  | .loop _ _ _, _, _, ⟨_, _, _, _, _, _, ev, _, _, _, _, _, _, h6⟩ => by rw [ev]; exact congrArg (· + 1) (RowsAt.len h6)
  | .iff _ _ _ _, _, _, ⟨_, _, _, _, _, _, _, ev, _, _, _, _, _, _, _, h7⟩ => by rw [ev]; exact congrArg (· + 1) (RowsAt.len h7)
theorem RowsAt.drop {K : PySem.W.Frag} {H : Hp} {A : Addr → Prop} : ∀ (k : Nat) {t : Tr} {q : Nat} {vs : List V}, RowsAt K H A t q vs → RowsAt K H A (t.drop k) (q + t.offs k) (vs.drop k)
  | 0, t, q, vs, h => by cases t <;> exact h
  | k + 1, .nil, _, _, h => by rw [show _ = [] from h]; rfl
  | k + 1, .leaf _ _ r, q, _, ⟨_, _, _, _, _, ev, _, _, _, _, _, _, h6⟩ => by
    rw [ev]
    have g := RowsAt.drop k h6
    rw [show q + 1 + r.offs k = q + (1 + r.offs k) by omega] at g
    exact g
  | k + 1, .loop _ b r, q, _, ⟨_, _, _, _, _, _, ev, _, _, _, _, _, _, h6⟩ => by
    rw [ev]
    have g := RowsAt.drop k h6
    rw [show q + 1 + b.cnt + r.offs k = q + (1 + b.cnt + r.offs k) by omega] at g
    exact g
  | k + 1, .iff _ b c r, q, _, ⟨_, _, _, _, _, _, _, ev, _, _, _, _, _, _, _, h7⟩ => by
    rw [ev]
    have g := RowsAt.drop k h7
    rw [show q + 1 + b.cnt + c.cnt + r.offs k = q + (1 + b.cnt + c.cnt + r.offs k) by omega] at g
    exact g
def spLi (K : PySem.W.Frag) (m : Nat) : Sp := fun vs H Q _ => ∃ (q : Addr) (us : List V) (t : Tr) (p : Nat), vs = [.ref q, .int (p : Int)] ∧ SqT K H q us ∧ TrL K H t us ∧ t.dep m ∧ t.cnt ≤ 400 ∧
  ∀ (z L : Addr) (rows : List V) (H' : Hp), Same H H' → H' z = some (.tup [.ref L, .int ((p + t.cnt : Nat) : Int)]) → H L = none → H' L = some (.lst rows) → RowsAt K H' (fun b => H b = none) t p rows → Q (.ref z) H'
section
variable {P : Program} {w : World} {K : PySem.W.Frag} {mg : Str → Option Value} {base : Heap}
theorem ok_li0 (T : Txt w K mg) {m : Nat} (g_l_listed : FnOk P w K mg base CX0 m T.a_l_listed T.d_l_listed p_l_listed (match m with | 0 => fun _ _ _ _ => False | k + 1 => spLi K k)) :
    FnOk P w K mg base CX0 (m + 1) T.a_l_listed T.d_l_listed p_l_listed (spLi K m) := by
  refine T.F_l_listed.ok sc_l_listed (fun vs H Q E h => ?_) (fun cdv A outer s H vs Q E hr h => ?_)
  · obtain ⟨q, us, t, p, rfl, _⟩ := h
    rfl
  obtain ⟨qa, us, t, p, rfl, hq, ht, hd, hc, q⟩ := h
  refine ⟨_, (pss_cons (ps_set (i := 2) sc_l_listed.nd rfl (Or.inl rfl) (pe_lst pa_nil))
      (pss_cons (ps_for PassesOwn.never rfl (pi_tup (pv 0)) (pg_name (i := 3) sc_l_listed.nd rfl (Or.inl rfl))
        (pss_cons (ps_set (i := 4) sc_l_listed.nd rfl (Or.inl rfl) (pe_lst (pa_cons (pv 1) (pa_cons (pv 3) (pa_cons (pe_lst pa_nil) (pa_cons (pe_lst pa_nil) pa_nil))))))
      (pss_cons (ps_set (i := 1) sc_l_listed.nd rfl (Or.inl rfl) (pe_op op_add (pv 1) pe_int))
      (C8.pss_cut (ps_if (PW.pt (pw_or (pt_cmpR op_eq (pe_ix ix_tup (pv 3) pe_int (fun _ _ => rfl)) pe_str (nomark _)) (pw_or1 (pt_cmpR op_eq (pe_ix ix_tup (pv 3) pe_int (fun _ _ => rfl)) pe_str (nomark _))))) (pss_cons (ps_set (i := 5) sc_l_listed.nd rfl (Or.inl rfl) (pe_call g_l_listed (hr.mono (by first | decide | omega)) rfl T.m_l_listed T.F_l_listed.kp T.b_l_listed .nil pass0 (pa_cons (pe_ix ix_tup (pv 3) pe_int (fun _ _ => rfl)) (pa_cons (pv 1) pa_nil))))
      (pss_cons (ps_asg (pe_ix ix_tup (pv 5) pe_int (fun _ _ => rfl)) (pg_sub (pv 4) pe_int set_list))
      (pss_one (ps_set (i := 1) sc_l_listed.nd rfl (Or.inl rfl) (pe_ix ix_tup (pv 5) pe_int (fun _ _ => rfl)))))) pss_nil)
      (C8.pss_cut (ps_if (pt_cmpR op_eq (pe_ix ix_tup (pv 3) pe_int (fun _ _ => rfl)) pe_str (nomark _)) (pss_cons (ps_set (i := 5) sc_l_listed.nd rfl (Or.inl rfl) (pe_call g_l_listed (hr.mono (by first | decide | omega)) rfl T.m_l_listed T.F_l_listed.kp T.b_l_listed .nil pass0 (pa_cons (pe_ix ix_tup (pv 3) pe_int (fun _ _ => rfl)) (pa_cons (pv 1) pa_nil))))
      (pss_cons (ps_asg (pe_ix ix_tup (pv 5) pe_int (fun _ _ => rfl)) (pg_sub (pv 4) pe_int set_list))
      (pss_one (ps_set (i := 1) sc_l_listed.nd rfl (Or.inl rfl) (pe_ix ix_tup (pv 5) pe_int (fun _ _ => rfl)))))) pss_nil)
      (pss_one (ps_expr (pe_bm PySem.F.plainAttrs_list PySem.F.slot_list_append PySem.F.type_list_append mt_append (pv 2) (pa_cons (pv 4) pa_nil)))))))))
      (pss_one (ps_ret (pe_tup (pa_cons (pv 2) (pa_cons (pv 1) pa_nil))))))), ?_⟩
  refine ⟨by show 0 ≤ sizeLine; decide, fun l hl0 => ?_⟩
  have s0 := Same.new hl0 (.lst [])
  have ul := ht.len
  have lc := Tr.len_cnt t
  refine ⟨_, rfl, qa, rfl, ⟨_, Same.tup s0 hq⟩, for_tup (K := K) (a := qa) (xs := us) (fun i σ H' => Same H H' ∧ ∃ (rows : List V) (pr r : Tr) (v3 v4 v5 : Option V), σ = [some (.ref qa), some (.int ((p + pr.cnt : Nat) : Int)), some (.ref l), v3, v4, v5] ∧ H' l = some (.lst rows) ∧ RowsAt K H' (fun b => H b = none ∧ b ≠ l) pr p rows ∧ TrL K H r (us.drop i) ∧ r.dep m ∧ t = pr.app r)
    ⟨s0, [], .nil, t, none, none, none, rfl, upd_same, rfl, ht, hd, rfl⟩ (fun i σ H' _ ⟨h, _⟩ => Same.tup h hq) ?_ ?_⟩
  · rintro i v σ H' hi ⟨sm, rows, pr, r, v3, v4, v5, rfl, hl, hR, htr, hdr, et⟩
    have hil : i < us.length := (List.getElem?_eq_some_iff.mp hi).1
    have dr : us.drop i = v :: us.drop (i + 1) := by
      rw [List.drop_eq_getElem_cons hil]
      congr 1
      exact (List.getElem?_eq_some_iff.mp hi).2
    rw [dr] at htr
    have rl := hR.len
    have tc : t.cnt = pr.cnt + r.cnt := by rw [et, Tr.cnt_app]
    have pl := Tr.len_cnt pr
    refine ⟨_, rfl, _, rfl, by show 0 ≤ sizeLine; decide, fun i1 h1 => ⟨by show 0 ≤ sizeLine; decide, fun i2 h2 => ⟨by show 4 ≤ sizeLine; decide, fun rw_ hrw => ?_⟩⟩⟩
    have sA := ((Same.new h1 (.lst [])).trans (Same.new h2 (.lst []))).trans (Same.new hrw (.lst [.int ((p + pr.cnt : Nat) : Int), v, .ref i1, .ref i2]))
    have n1 : H' i1 = none := h1
    have n2 : H' i2 = none := (Same.new h1 (.lst [])).free h2
    have n3 : H' rw_ = none := ((Same.new h1 (.lst [])).trans (Same.new h2 (.lst []))).free hrw
    have n21 : i2 ≠ i1 := (ne_of_none upd_same h2).symm
    have n31 : rw_ ≠ i1 := (ne_of_none ((Same.new h2 (.lst [])) _ _ upd_same) hrw).symm
    have n32 : rw_ ≠ i2 := (ne_of_none upd_same hrw).symm
    have hA1 : (upd (upd (upd H' i1 (.lst [])) i2 (.lst [])) rw_ (.lst [.int ((p + pr.cnt : Nat) : Int), v, .ref i1, .ref i2])) i1 = some (.lst []) := by rw [upd_ne n31.symm, upd_ne n21.symm, upd_same]
    have hA2 : (upd (upd (upd H' i1 (.lst [])) i2 (.lst [])) rw_ (.lst [.int ((p + pr.cnt : Nat) : Int), v, .ref i1, .ref i2])) i2 = some (.lst []) := by rw [upd_ne n32.symm, upd_same]
    have hA3 : (upd (upd (upd H' i1 (.lst [])) i2 (.lst [])) rw_ (.lst [.int ((p + pr.cnt : Nat) : Int), v, .ref i1, .ref i2])) rw_ = some (.lst [.int ((p + pr.cnt : Nat) : Int), v, .ref i1, .ref i2]) := upd_same
    generalize (upd (upd (upd H' i1 (.lst [])) i2 (.lst [])) rw_ (.lst [.int ((p + pr.cnt : Nat) : Int), v, .ref i1, .ref i2])) = HA at sA hA1 hA2 hA3 ⊢
    have smA := sm.trans sA
    have z1 := sm.free n1
    have z2 := sm.free n2
    have z3 := sm.free n3
    have l1 : i1 ≠ l := (ne_of_none hl n1).symm
    have l2 : i2 ≠ l := (ne_of_none hl n2).symm
    have l3 : rw_ ≠ l := (ne_of_none hl n3).symm
    refine ⟨_, rfl, _, _, rfl, rfl, ?_⟩
    -- the end of a turn: the row's statement as a body of one
    have fin : ∀ (H5 : Hp) (s1 r2 : Tr) (i1' i2' : Addr) (v5' : Option V), Same H H5 → H5 l = some (.lst rows) → (∀ b o, b ≠ rw_ → H' b = some o → H5 b = some o) → r = s1.app r2 → TrL K H r2 (us.drop (i + 1)) → r2.dep m → RowsAt K H5 (fun b => H b = none ∧ b ≠ l) s1 (p + pr.cnt) [.ref rw_] →
        ∃ acc, H5 l = some (.lst acc) ∧ acc.length < sizeLine ∧ Same H (upd H5 l (.lst (acc ++ [.ref rw_]))) ∧ ∃ (rows : List V) (pr2 r : Tr) (v3 v4 v5 : Option V), ([some (.ref qa), some (.int ((p + pr.cnt + s1.cnt : Nat) : Int)), some (.ref l), some v, some (.ref rw_), v5'] : List (Option V)) = [some (.ref qa), some (.int ((p + pr2.cnt : Nat) : Int)), some (.ref l), v3, v4, v5] ∧
          (upd H5 l (.lst (acc ++ [.ref rw_]))) l = some (.lst rows) ∧ RowsAt K (upd H5 l (.lst (acc ++ [.ref rw_]))) (fun b => H b = none ∧ b ≠ l) pr2 p rows ∧ TrL K H r (us.drop (i + 1)) ∧ r.dep m ∧ t = pr2.app r := by
      intro H5 s1 r2 i1' i2' v5' a1 a2 a3 a4 a5 a6 a7
      refine ⟨rows, a2, small1000 (by omega), Same.grow hl0 a1, rows ++ [.ref rw_], pr.app s1, r2, some v, some (.ref rw_), v5', ?_, upd_same, ?_, a5, a6, ?_⟩
      · rw [Tr.cnt_app, Nat.add_assoc]
      · refine RowsAt.app ?_ ?_
        · refine RowsAt.keep (A := fun b => (H b = none ∧ b ≠ l) ∧ H' b ≠ none) ?_ ?_ ?_ (RowsAt.keep (A' := fun b => (H b = none ∧ b ≠ l) ∧ H' b ≠ none) (fun _ _ h => h) (fun _ _ _ e => e) (fun b o a e => ⟨a, by rw [e]; intro z; cases z⟩) hR)
          · intro y ys hy
            refine keep_lst a2 _ _ ?_
            rcases hy with (hy | ⟨u, hy⟩) | hy
            · exact .inl (.inl (a3 _ _ (ne_of_none hy n3) hy))
            · exact .inl (.inr ⟨u, a3 _ _ (ne_of_none hy n3) hy⟩)
            · exact .inr hy
          · intro b o ab e
            rw [upd_ne ab.1.2]
            exact a3 _ _ (ne_of_none e n3) e
          · intro b o ab _
            exact ab.1
        · refine RowsAt.keep (keep_lst a2) (fun b o ab e => ?_) (fun _ _ ab _ => ab) a7
          rw [upd_ne ab.2]
          exact e
      · rw [Tr.app_assoc, ← a4]
        exact et
    have smS : ∀ b o, H' b = some o → HA b = some o := sA
    have hlA := sA _ _ hl
    have sub1 : ∀ {b : Addr}, HA b = none → H b = none ∧ b ≠ l ∧ b ≠ rw_ := fun h => ⟨smA.free h, (ne_of_none hlA h).symm, (ne_of_none hA3 h).symm⟩
    cases r with
    | nil => cases htr
    | leaf wd d r2 =>
      obtain ⟨z, xs, ws, ev, g1, g2, ⟨roles, r1, rb2, rb3, rb4⟩, g4⟩ := htr
      obtain ⟨rfl, rfl⟩ := List.cons.inj ev
      have nif : wd ≠ "if" := fun e => leaf_no (by rw [e] at r1; exact r1) rb4 (.inl rfl)
      have nwh : wd ≠ "while" := fun e => leaf_no (by rw [e] at r1; exact r1) rb4 (.inr rfl)
      have gA := Same.tup smA g1
      have dl := g2.len
      refine ⟨fun σ H5 => H5 = HA ∧ σ = [some (.ref qa), some (.int ((p + pr.cnt + 1 : Nat) : Int)), some (.ref l), some (.ref z), some (.ref rw_), v5], ⟨_, rfl, z, _, 0, _, rfl, rfl, gA, at0, rfl, _, rfl, ifF (decide_eq_false fun e => nwh (V.str.inj e)) ⟨_, rfl, z, _, 0, _, rfl, rfl, gA, at0, rfl, _, rfl, ifF (decide_eq_false fun e => nif (V.str.inj e)) ⟨rfl, rfl⟩⟩⟩, ?_⟩
      rintro σ H5 ⟨rfl, rfl⟩
      refine ⟨fun σ H6 => H6 = H5 ∧ σ = [some (.ref qa), some (.int ((p + pr.cnt + 1 : Nat) : Int)), some (.ref l), some (.ref z), some (.ref rw_), v5], ⟨_, rfl, z, _, 0, _, rfl, rfl, gA, at0, rfl, _, rfl, ifF (decide_eq_false fun e => nif (V.str.inj e)) ⟨rfl, rfl⟩⟩, ?_⟩
      rintro σ H6 ⟨rfl, rfl⟩
      obtain ⟨acc, f1, f2, f3⟩ := fin _ (.leaf wd d .nil) r2 i1 i2 v5 smA hlA (fun b o _ e => smS b o e) rfl g4 (dep_leaf hdr) ⟨rw_, .ref z, i1, i2, [], rfl, ⟨⟨z3, l3⟩, ⟨z1, l1⟩, z2, l2⟩, hA3, ⟨z, xs, rfl, gA, g2.keep (Keeps.of_same smA), by omega⟩, hA1, hA2, ⟨nif, nwh⟩, rfl⟩
      exact ⟨_, rfl, .inl ⟨rfl, _, SqL.of hlA⟩, _, rfl, l, _, _, rfl, rfl, f1, f2, f3⟩
    | loop e b r2 =>
      obtain ⟨z, x, qb, ub, ws, ev, g1, g2, g3, g4, g5⟩ := htr
      obtain ⟨rfl, rfl⟩ := List.cons.inj ev
      obtain ⟨k, rfl, db, dr2⟩ := dep_loop hdr
      have gA := Same.tup smA g1
      simp only [Tr.cnt] at tc
      refine ⟨fun σ H5 => Same H H5 ∧ H5 l = some (.lst rows) ∧ (∀ b o, b ≠ rw_ → H' b = some o → H5 b = some o) ∧ RowsAt K H5 (fun b => H b = none ∧ b ≠ l) (.loop e b .nil) (p + pr.cnt) [.ref rw_] ∧ ∃ v5 : Option V, σ = [some (.ref qa), some (.int ((p + pr.cnt + 1 + b.cnt : Nat) : Int)), some (.ref l), some (.ref z), some (.ref rw_), v5], ⟨_, rfl, z, _, 0, _, rfl, rfl, gA, rfl, rfl, _, rfl, ifT (by decide +kernel) (iteT ?_)⟩, ?_⟩
      · refine ⟨_, rfl, z, _, 2, _, rfl, rfl, gA, rfl, _, rfl, qb, ub, b, p + pr.cnt + 1, rfl, Same.tup smA g3, TrL.keep (Keeps.of_same smA) g4, db, by omega, fun z2' L rowsL H3 s3 hz2 hL0 hL hRL => ?_⟩
        refine ⟨_, rfl, z2', _, 0, _, rfl, rfl, SqT.of hz2, at0, _, rfl, rw_, _, 2, 2, rfl, rfl, s3 _ _ hA3, rfl, ?_⟩
        have fL := sub1 hL0
        have kB := keep_lst (K := K) (o := .lst [.int ((p + pr.cnt : Nat) : Int), .ref z, .ref L, .ref i2]) (s3 _ _ hA3)
        refine ⟨_, rfl, z2', _, 1, _, rfl, rfl, kB _ _ (SqT.of hz2), rfl, ?_, ?_, ?_, ?_, _, rfl⟩
        · exact Same.grow z3 (smA.trans s3)
        · rw [upd_ne l3.symm]
          exact s3 _ _ hlA
        · intro b o hb e
          rw [upd_ne hb]
          exact s3 _ _ (smS _ _ e)
        · refine ⟨rw_, .ref z, L, i2, rowsL, [], rfl, ⟨⟨z3, l3⟩, ⟨fL.1, fL.2.1⟩, z2, l2⟩, upd_same, ⟨z, _, _, rfl, kB _ _ (Same.tup s3 gA), (g2.keep (Keeps.of_same (smA.trans s3))).keep kB⟩, by rw [upd_ne fL.2.2]; exact hL, ?_, by rw [upd_ne n32.symm]; exact s3 _ _ hA2, rfl⟩
          refine RowsAt.keep kB (fun b o ab e => ?_) (fun b o ab _ => ⟨(sub1 ab).1, (sub1 ab).2.1⟩) hRL
          rw [upd_ne (sub1 ab).2.2]
          exact e
      · rintro σ H5 ⟨a1, a2, a3, a4, v5, rfl⟩
        have gA5 := Same.tup a1 g1
        refine ⟨fun σ H6 => H6 = H5 ∧ σ = [some (.ref qa), some (.int ((p + pr.cnt + 1 + b.cnt : Nat) : Int)), some (.ref l), some (.ref z), some (.ref rw_), v5], ⟨_, rfl, z, _, 0, _, rfl, rfl, gA5, rfl, rfl, _, rfl, ifF (by decide +kernel) ⟨rfl, rfl⟩⟩, ?_⟩
        rintro σ H6 ⟨rfl, rfl⟩
        obtain ⟨acc, f1, f2, f3⟩ := fin _ (.loop e b .nil) r2 i1 i2 v5 a1 a2 a3 rfl g5 dr2 a4
        have ec : p + pr.cnt + (Tr.loop e b .nil).cnt = p + pr.cnt + 1 + b.cnt := by simp only [Tr.cnt]; omega
        rw [ec] at f3
        exact ⟨_, rfl, .inl ⟨rfl, _, SqL.of a2⟩, _, rfl, l, _, _, rfl, rfl, f1, f2, f3⟩
    | iff e b c r2 =>
      obtain ⟨z, x, qb, ub, qc, uc, ws, ev, g1, g2, g3, g4, g5, g6, g7⟩ := htr
      obtain ⟨rfl, rfl⟩ := List.cons.inj ev
      obtain ⟨k, rfl, db, dc, dr2⟩ := dep_iff hdr
      have gA := Same.tup smA g1
      simp only [Tr.cnt] at tc
      refine ⟨fun σ H5 => Same H H5 ∧ H5 l = some (.lst rows) ∧ (∀ b o, b ≠ rw_ → H' b = some o → H5 b = some o) ∧ H5 i2 = some (.lst []) ∧ (∃ (L : Addr) (rowsL : List V), (H L = none ∧ L ≠ l ∧ L ≠ rw_) ∧ H5 rw_ = some (.lst [.int ((p + pr.cnt : Nat) : Int), .ref z, .ref L, .ref i2]) ∧ H5 L = some (.lst rowsL) ∧ RowsAt K H5 (fun b => H b = none ∧ b ≠ l ∧ b ≠ rw_) b (p + pr.cnt + 1) rowsL) ∧ ∃ v5 : Option V, σ = [some (.ref qa), some (.int ((p + pr.cnt + 1 + b.cnt : Nat) : Int)), some (.ref l), some (.ref z), some (.ref rw_), v5], ⟨_, rfl, z, _, 0, _, rfl, rfl, gA, rfl, rfl, _, rfl, ifF (by decide +kernel) ⟨_, rfl, z, _, 0, _, rfl, rfl, gA, rfl, rfl, _, rfl, ifT (by decide +kernel) ?_⟩⟩, ?_⟩
      · refine ⟨_, rfl, z, _, 2, _, rfl, rfl, gA, rfl, _, rfl, qb, ub, b, p + pr.cnt + 1, rfl, Same.tup smA g3, TrL.keep (Keeps.of_same smA) g4, db, by omega, fun z2' L rowsL H3 s3 hz2 hL0 hL hRL => ?_⟩
        refine ⟨_, rfl, z2', _, 0, _, rfl, rfl, SqT.of hz2, at0, _, rfl, rw_, _, 2, 2, rfl, rfl, s3 _ _ hA3, rfl, ?_⟩
        have fL := sub1 hL0
        have kB := keep_lst (K := K) (o := .lst [.int ((p + pr.cnt : Nat) : Int), .ref z, .ref L, .ref i2]) (s3 _ _ hA3)
        refine ⟨_, rfl, z2', _, 1, _, rfl, rfl, kB _ _ (SqT.of hz2), rfl, ?_, ?_, ?_, ?_, ⟨L, rowsL, fL, upd_same, by rw [upd_ne fL.2.2]; exact hL, ?_⟩, _, rfl⟩
        · exact Same.grow z3 (smA.trans s3)
        · rw [upd_ne l3.symm]
          exact s3 _ _ hlA
        · intro b o hb e
          rw [upd_ne hb]
          exact s3 _ _ (smS _ _ e)
        · rw [upd_ne n32.symm]
          exact s3 _ _ hA2
        · refine RowsAt.keep kB (fun b o ab e => ?_) (fun b o ab _ => sub1 ab) hRL
          rw [upd_ne (sub1 ab).2.2]
          exact e
      · rintro σ H5 ⟨a1, a2, a3, a4, ⟨L, rowsL, fL, b1, b2, b3⟩, v5, rfl⟩
        have gA5 := Same.tup a1 g1
        refine ⟨fun σ H6 => Same H H6 ∧ H6 l = some (.lst rows) ∧ (∀ b o, b ≠ rw_ → H' b = some o → H6 b = some o) ∧ RowsAt K H6 (fun b => H b = none ∧ b ≠ l) (.iff e b c .nil) (p + pr.cnt) [.ref rw_] ∧ ∃ v5 : Option V, σ = [some (.ref qa), some (.int ((p + pr.cnt + 1 + b.cnt + c.cnt : Nat) : Int)), some (.ref l), some (.ref z), some (.ref rw_), v5], ⟨_, rfl, z, _, 0, _, rfl, rfl, gA5, rfl, rfl, _, rfl, ifT (by decide +kernel) ?_⟩, ?_⟩
        · refine ⟨_, rfl, z, _, 3, _, rfl, rfl, gA5, rfl, _, rfl, qc, uc, c, p + pr.cnt + 1 + b.cnt, rfl, Same.tup a1 g5, TrL.keep (Keeps.of_same a1) g6, dc, by omega, fun z3' L2 rowsL2 H7 s7 hz3 hL20 hL2 hRL2 => ?_⟩
          have sub2 : ∀ {b : Addr}, H5 b = none → H b = none ∧ b ≠ l ∧ b ≠ rw_ := fun h => ⟨a1.free h, (ne_of_none a2 h).symm, (ne_of_none b1 h).symm⟩
          refine ⟨_, rfl, z3', _, 0, _, rfl, rfl, SqT.of hz3, at0, _, rfl, rw_, _, 3, 3, rfl, rfl, s7 _ _ b1, rfl, ?_⟩
          have fL2 := sub2 hL20
          have kB := keep_lst (K := K) (o := .lst [.int ((p + pr.cnt : Nat) : Int), .ref z, .ref L, .ref L2]) (s7 _ _ b1)
          refine ⟨_, rfl, z3', _, 1, _, rfl, rfl, kB _ _ (SqT.of hz3), rfl, ?_, ?_, ?_, ?_, _, rfl⟩
          · exact Same.grow z3 (a1.trans s7)
          · rw [upd_ne l3.symm]
            exact s7 _ _ a2
          · intro b o hb e
            rw [upd_ne hb]
            exact s7 _ _ (a3 _ _ hb e)
          · refine ⟨rw_, .ref z, L, L2, rowsL, rowsL2, [], rfl, ⟨⟨z3, l3⟩, ⟨fL.1, fL.2.1⟩, fL2.1, fL2.2.1⟩, upd_same, ⟨z, _, _, _, rfl, kB _ _ (Same.tup s7 gA5), (g2.keep (Keeps.of_same (a1.trans s7))).keep kB⟩, by rw [upd_ne fL.2.2]; exact s7 _ _ b2, ?_, by rw [upd_ne fL2.2.2]; exact hL2, ?_, rfl⟩
            · refine RowsAt.keep kB (fun b o ab e => ?_) (fun b o ab _ => ⟨ab.1, ab.2.1⟩) (RowsAt.same s7 b3)
              rw [upd_ne ab.2.2]
              exact e
            · refine RowsAt.keep kB (fun b o ab e => ?_) (fun b o ab _ => ⟨(sub2 ab).1, (sub2 ab).2.1⟩) hRL2
              rw [upd_ne (sub2 ab).2.2]
              exact e
        · rintro σ H6 ⟨a1, a2, a3, a4, v5, rfl⟩
          obtain ⟨acc, f1, f2, f3⟩ := fin _ (.iff e b c .nil) r2 i1 i2 v5 a1 a2 a3 rfl g7 dr2 a4
          have ec : p + pr.cnt + (Tr.iff e b c .nil).cnt = p + pr.cnt + 1 + b.cnt + c.cnt := by simp only [Tr.cnt]; omega
          rw [ec] at f3
          exact ⟨_, rfl, .inl ⟨rfl, _, SqL.of a2⟩, _, rfl, l, _, _, rfl, rfl, f1, f2, f3⟩
  · rintro σ H' ⟨sm, rows, pr, r, v3, v4, v5, rfl, hl, hR, htr, hdr, et⟩
    rw [List.drop_length] at htr
    have er : r = .nil := by
      have l := htr.len
      cases r <;> simp [Tr.len] at l ⊢
    subst er
    rw [Tr.app_nil] at et
    subst et
    refine ⟨_, rfl, _, rfl, by show 2 ≤ sizeLine; decide, fun z hz => ?_⟩
    have sz := Same.new hz (.tup [.ref l, .int ((p + t.cnt : Nat) : Int)])
    exact q z l rows _ (sm.trans sz) upd_same hl0 (sz _ _ hl) (RowsAt.keep (Keeps.of_same sz) (fun b o _ e => sz b o e) (fun _ _ ab _ => ab.1) hR)
theorem ok_li (T : Txt w K mg) : ∀ m : Nat, FnOk P w K mg base CX0 (m + 1) T.a_l_listed T.d_l_listed p_l_listed (spLi K m)
  | 0 => ok_li0 T (fn_vac fun _ _ _ _ h => h)
  | m + 1 => ok_li0 T (ok_li T m)
end
/-! ### piles in the heap -/
def onS : Option Str → V
  | none => .non
  | some z => .str z
def EnL (K : PySem.W.Frag) (H0 H : Hp) : List Addr → List Fr → Prop
  | [], [] => True
  | e :: es, f :: P => (∃ L us A, H e = some (.lst [.ref L, .int (f.idx : Int), onS f.sg]) ∧ H0 L = some (.lst us) ∧ RowsAt K H0 A f.body f.at0 us) ∧ EnL K H0 H es P
  | _, _ => False
theorem EnL.imp {K : PySem.W.Frag} {H0 H H' : Hp} : ∀ {es : List Addr} {P : List Fr}, (∀ e ∈ es, ∀ o, H e = some o → H' e = some o) → EnL K H0 H es P → EnL K H0 H' es P
  | [], [], _, _ => trivial
  | e :: es, _ :: _, k, h => by
    obtain ⟨⟨L, us, A, h1, h2, h3⟩, r⟩ := h
    exact ⟨⟨L, us, A, k e List.mem_cons_self _ h1, h2, h3⟩, EnL.imp (fun e he => k e (List.mem_cons_of_mem _ he)) r⟩
  | [], _ :: _, _, h => h.elim
  | _ :: _, [], _, h => h.elim
theorem EnL.len {K : PySem.W.Frag} {H0 H : Hp} : ∀ {es : List Addr} {P : List Fr}, EnL K H0 H es P → es.length = P.length
  | [], [], _ => rfl
  | _ :: _, _ :: _, h => congrArg (· + 1) (EnL.len h.2)
  | [], _ :: _, h => h.elim
  | _ :: _, [], h => h.elim
theorem EnL.there {K : PySem.W.Frag} {H0 H : Hp} : ∀ {es : List Addr} {P : List Fr}, EnL K H0 H es P → ∀ e ∈ es, H e ≠ none
  | [], [], _, _, he => (List.not_mem_nil he).elim
  | e :: es, f :: P, h, x, hx => by
    obtain ⟨⟨L, us, A, h1, _⟩, r⟩ := h
    rcases List.mem_cons.mp hx with rfl | hx
    · rw [h1]; intro z; cases z
    · exact EnL.there r x hx
  | [], _ :: _, h, _, _ => h.elim
  | _ :: _, [], h, _, _ => h.elim
theorem EnL.app {K : PySem.W.Frag} {H0 H : Hp} {es2 : List Addr} {P2 : List Fr} (h2 : EnL K H0 H es2 P2) : ∀ {es : List Addr} {P : List Fr}, EnL K H0 H es P → EnL K H0 H (es ++ es2) (P ++ P2)
  | [], [], _ => h2
  | _ :: _, _ :: _, h => ⟨h.1, EnL.app h2 h.2⟩
  | [], _ :: _, h => h.elim
  | _ :: _, [], h => h.elim
theorem EnL.split {K : PySem.W.Frag} {H0 H : Hp} {f : Fr} : ∀ {es : List Addr} {P : List Fr}, EnL K H0 H es (P ++ [f]) → ∃ es' e, es = es' ++ [e] ∧ EnL K H0 H es' P ∧ ∃ L us A, H e = some (.lst [.ref L, .int (f.idx : Int), onS f.sg]) ∧ H0 L = some (.lst us) ∧ RowsAt K H0 A f.body f.at0 us
  | [], [], h => h.elim
  | [e], [], h => ⟨[], e, rfl, trivial, h.1⟩
  | _ :: _ :: _, [], h => h.2.elim
  | e :: es, _ :: P, h => by
    obtain ⟨es', e', rfl, h1, h2⟩ := EnL.split (es := es) (P := P) h.2
    exact ⟨e :: es', e', rfl, ⟨h.1, h1⟩, h2⟩
  | [], _ :: _, h => h.elim
def PileAt (K : PySem.W.Frag) (H0 H : Hp) (l : Addr) (P : List Fr) : Prop := ∃ es : List Addr, H l = some (.lst (es.map V.ref)) ∧ H0 l = none ∧ l ∉ es ∧ es.Nodup ∧ (∀ e ∈ es, H0 e = none) ∧ EnL K H0 H es P
/-- what a row tells -/
theorem row_info {K : PySem.W.Frag} {H : Hp} {A : Addr → Prop} {t : Tr} {q m : Nat} {v : V} {ws : List V} (h : RowsAt K H A t q (v :: ws)) (hd : t.dep m) : ∃ (p z i1 i2 : Addr) (u1 u2 : List V) (b1 b2 : Tr) (wd : Str) (rest : List V), v = .ref p ∧ H p = some (.lst [.int (q : Int), .ref z, .ref i1, .ref i2]) ∧ SqT K H z (.str wd :: rest) ∧
    H i1 = some (.lst u1) ∧ H i2 = some (.lst u2) ∧ RowsAt K H A b1 (q + 1) u1 ∧ RowsAt K H A b2 (q + 1 + b1.cnt) u2 ∧ ((u1 ≠ [] ∨ u2 ≠ []) → ∃ k, m = k + 1 ∧ b1.dep k ∧ b2.dep k) ∧ t.offs 1 = 1 + b1.cnt + b2.cnt ∧ t.cnt = 1 + b1.cnt + b2.cnt + (t.drop 1).cnt ∧
    ∀ (B : Tr) (s0 k pl : Nat) (sg : Option Str), pileT B s0 sg t k q pl = if q = pl then [⟨B, s0, k, sg⟩] else
      match pileT b1 (q + 1) (some wd) b1 0 (q + 1) pl with
      | f :: P => ⟨B, s0, k + 1, sg⟩ :: f :: P
      | [] =>
        match pileT b2 (q + 1 + b1.cnt) (some wd) b2 0 (q + 1 + b1.cnt) pl with
        | f :: P => ⟨B, s0, k + 1, sg⟩ :: f :: P
        | [] => pileT B s0 sg (t.drop 1) (k + 1) (q + 1 + b1.cnt + b2.cnt) pl := by
  cases t with
  | nil => cases h
  | leaf w d r =>
    obtain ⟨p, x, i1, i2, vs, ev, _, h1, ⟨z, xs, rfl, g1, _⟩, h3, h4, _, h6⟩ := h
    obtain ⟨rfl, rfl⟩ := List.cons.inj ev
    refine ⟨p, z, i1, i2, [], [], .nil, .nil, w, xs, rfl, h1, g1, h3, h4, rfl, rfl, fun h => by rcases h with h | h <;> exact absurd rfl h, offs1_leaf .., by rw [drop1_leaf]; simp [Tr.cnt], fun B s0 k pl sg => ?_⟩
    rw [drop1_leaf]
    rfl
  | loop e b r =>
    obtain ⟨p, x, i1, i2, us, vs, ev, _, h1, ⟨z, y, y2, rfl, g1, _⟩, h3, h4, h5, h6⟩ := h
    obtain ⟨rfl, rfl⟩ := List.cons.inj ev
    refine ⟨p, z, i1, i2, us, [], b, .nil, "while", _, rfl, h1, g1, h3, h5, h4, rfl, fun _ => ?_, by rw [offs1_loop]; simp [Tr.cnt], by rw [drop1_loop]; simp [Tr.cnt], fun B s0 k pl sg => ?_⟩
    · obtain ⟨k, rfl, d1, d2⟩ := dep_loop hd
      exact ⟨k, rfl, d1, by cases k <;> trivial⟩
    · rw [drop1_loop]
      conv => lhs; unfold pileT
      all_goals
        split
        · rfl
        · cases pileT b (q + 1) (some ("while" : Str)) b 0 (q + 1) pl <;> rfl
  | iff e b c r =>
    obtain ⟨p, x, i1, i2, us, us2, vs, ev, _, h1, ⟨z, y, y2, y3, rfl, g1, _⟩, h3, h4, h5, h6, h7⟩ := h
    obtain ⟨rfl, rfl⟩ := List.cons.inj ev
    refine ⟨p, z, i1, i2, us, us2, b, c, "if", _, rfl, h1, g1, h3, h5, h4, h6, fun _ => ?_, offs1_iff .., by rw [drop1_iff]; simp [Tr.cnt], fun B s0 k pl sg => ?_⟩
    · obtain ⟨k, rfl, d1, d2, d3⟩ := dep_iff hd
      exact ⟨k, rfl, d1, d2⟩
    · rw [drop1_iff]
      conv => lhs; unfold pileT
      all_goals
        split
        · rfl
        · cases pileT b (q + 1) (some ("if" : Str)) b 0 (q + 1) pl with
          | cons => rfl
          | nil => cases pileT c (q + 1 + b.cnt) (some ("if" : Str)) c 0 (q + 1 + b.cnt) pl <;> rfl
theorem cnt_drop : ∀ (k : Nat) (t : Tr), (t.drop k).cnt ≤ t.cnt
  | 0, t => by cases t <;> exact Nat.le_refl _
  | k + 1, .nil => Nat.le_refl _
  | k + 1, .leaf _ _ r => by have := cnt_drop k r; simp only [Tr.drop, Tr.cnt]; omega
  | k + 1, .loop _ _ r => by have := cnt_drop k r; simp only [Tr.drop, Tr.cnt]; omega
  | k + 1, .iff _ _ _ r => by have := cnt_drop k r; simp only [Tr.drop, Tr.cnt]; omega
theorem pile_len : ∀ (t B : Tr) (s0 : Nat) (sg : Option Str) (k q pl : Nat), (pileT B s0 sg t k q pl).length ≤ t.cnt
  | .nil, _, _, _, _, _, _ => Nat.zero_le _
  | .leaf w d r, B, s0, sg, k, q, pl => by
    have h := pile_len r B s0 sg (k + 1) (q + 1) pl
    unfold pileT
    simp only [Tr.cnt]
    split
    · simp
    · omega
  | .loop e b r, B, s0, sg, k, q, pl => by
    have h := pile_len r B s0 sg (k + 1) (q + 1 + b.cnt) pl
    have h2 := pile_len b b (q + 1) (some ("while" : Str)) 0 (q + 1) pl
    unfold pileT
    simp only [Tr.cnt]
    split
    · simp; omega
    · generalize pileT b (q + 1) (some ("while" : Str)) b 0 (q + 1) pl = p at h2 ⊢
      cases p with
      | nil => simp at h2 ⊢; omega
      | cons x y => simp at h2 ⊢; omega
  | .iff e b c r, B, s0, sg, k, q, pl => by
    have h := pile_len r B s0 sg (k + 1) (q + 1 + b.cnt + c.cnt) pl
    have h2 := pile_len b b (q + 1) (some ("if" : Str)) 0 (q + 1) pl
    have h3 := pile_len c c (q + 1 + b.cnt) (some ("if" : Str)) 0 (q + 1 + b.cnt) pl
    unfold pileT
    simp only [Tr.cnt]
    split
    · simp; omega
    · generalize pileT b (q + 1) (some ("if" : Str)) b 0 (q + 1) pl = p at h2 ⊢
      generalize pileT c (q + 1 + b.cnt) (some ("if" : Str)) c 0 (q + 1 + b.cnt) pl = p2 at h3 ⊢
      cases p with
      | nil =>
        cases p2 with
        | nil => simp at h2 h3 ⊢; omega
        | cons x y => simp at h2 h3 ⊢; omega
      | cons x y => simp at h2 ⊢; omega
theorem dep_drop : ∀ (k : Nat) {m : Nat} {t : Tr}, t.dep m → (t.drop k).dep m
  | 0, _, t, h => by cases t <;> exact h
  | k + 1, m, .nil, h => by cases m <;> exact trivial
  | k + 1, _, .leaf _ _ r, h => dep_drop k (dep_leaf h)
  | k + 1, _, .loop _ _ r, h => by obtain ⟨_, _, _, h2⟩ := dep_loop h; exact dep_drop k h2
  | k + 1, _, .iff _ _ _ r, h => by obtain ⟨_, _, _, _, h2⟩ := dep_iff h; exact dep_drop k h2
def spPa (K : PySem.W.Frag) (m : Nat) : Sp := fun vs H Q _ => ∃ (H0 : Hp) (L : Addr) (us : List V) (A : Addr → Prop) (B : Tr) (s0 pl : Nat) (sg : Option Str), vs = [.ref L, .int (pl : Int), onS sg] ∧ Same H0 H ∧ H0 L = some (.lst us) ∧ RowsAt K H0 A B s0 us ∧ B.dep m ∧ B.cnt ≤ 400 ∧
  ∀ (l : Addr) (H' : Hp), Same H H' → H l = none → PileAt K H0 H' l (pileT B s0 sg B 0 s0 pl) → Q (.ref l) H'
section
variable {P : Program} {w : World} {K : PySem.W.Frag} {mg : Str → Option Value} {base : Heap}
theorem ok_pa0 (T : Txt w K mg) {m : Nat} (g_l_pile_at : FnOk P w K mg base CX0 m T.a_l_pile_at T.d_l_pile_at p_l_pile_at (match m with | 0 => fun _ _ _ _ => False | k + 1 => spPa K k)) :
    FnOk P w K mg base CX0 (m + 1) T.a_l_pile_at T.d_l_pile_at p_l_pile_at (spPa K m) := by
  refine T.F_l_pile_at.ok sc_l_pile_at (fun vs H Q E h => ?_) (fun cdv A outer s H vs Q E hr h => ?_)
  · obtain ⟨H0, L, us, A, B, s0, pl, sg, rfl, _⟩ := h
    rfl
  obtain ⟨H0, L, us, Aa, B, s0, pl, sg, rfl, sb, hL, hR, hd, hc, q⟩ := h
  refine ⟨_, (pss_cons (ps_for PassesOwn.never rfl (pi_range1 rfl T.z_range (pa_cons (pe_callB call_len_seq rfl T.z_len PySem.boot_len (pa_cons (pv 0) pa_nil)) pa_nil)) (pg_name (i := 3) sc_l_pile_at.nd rfl (Or.inl rfl))
        (pss_cons (ps_set (i := 4) sc_l_pile_at.nd rfl (Or.inl rfl) (pe_ix ix_list (pv 0) (pv 3) (fun _ _ => rfl)))
      (pss_cons (ps_if (pt_cmpR op_eq (pe_ix ix_list (pv 4) pe_int (fun _ _ => rfl)) (pv 1) (nomark _)) (pss_one (ps_ret (pe_lst (pa_cons (pe_lst (pa_cons (pv 0) (pa_cons (pv 3) (pa_cons (pv 2) pa_nil)))) pa_nil)))) pss_nil)
      (pss_one (ps_for PassesOwn.never rfl (pi_list (pe_lst (pa_cons (pe_ix ix_list (pv 4) pe_int (fun _ _ => rfl)) (pa_cons (pe_ix ix_list (pv 4) pe_int (fun _ _ => rfl)) pa_nil)))) (pg_name (i := 5) sc_l_pile_at.nd rfl (Or.inl rfl))
        (pss_one (ps_if (pt_cmpR (op_neL0 hr.units0) (pv 5) (pe_lst pa_nil) (nomark _)) (pss_cons (ps_set (i := 6) sc_l_pile_at.nd rfl (Or.inl rfl) (pe_call g_l_pile_at (hr.mono (by first | decide | omega)) rfl T.m_l_pile_at T.F_l_pile_at.kp T.b_l_pile_at .nil pass0 (pa_cons (pv 5) (pa_cons (pv 1) (pa_cons (pe_ix ix_tup (pe_ix ix_list (pv 4) pe_int (fun _ _ => rfl)) pe_int (fun _ _ => rfl)) pa_nil)))))
      (pss_one (ps_if (pt_cmpR (op_neL0 hr.units0) (pv 6) (pe_lst pa_nil) (nomark _)) (pss_one (ps_ret (pe_op op_cat (pe_lst (pa_cons (pe_lst (pa_cons (pv 0) (pa_cons (pe_op op_add (pv 3) pe_int) (pa_cons (pv 2) pa_nil)))) pa_nil)) (pv 6)))) pss_nil))) pss_nil)))))))
      (pss_one (ps_ret (pe_lst pa_nil)))), ?_⟩
  have ul := hR.len
  have bc := Tr.len_cnt B
  refine ⟨_, rfl, L, us, rfl, .inl (SqL.of (sb _ _ hL)), (us.length : Int), rfl, by omega, by omega, for_range (lo := 0) (fun k σ H' => Same H H' ∧ pileT B s0 sg B 0 s0 pl = pileT B s0 sg (B.drop k) k (s0 + B.offs k) pl ∧ ∃ v3 v4 v5 v6 : Option V, σ = [some (.ref L), some (.int (pl : Int)), some (onS sg), v3, v4, v5, v6])
    ⟨Same.refl _, by cases B <;> rfl, none, none, none, none, rfl⟩ ?_ ?_⟩
  · rintro k σ H' hk ⟨sm, ep, v3, v4, v5, v6, rfl⟩
    have hkl : k < us.length := by omega
    rw [Int.zero_add]
    have sm0 := sb.trans sm
    have hRk := RowsAt.drop k hR
    have dr : us.drop k = us[k] :: us.drop (k + 1) := List.drop_eq_getElem_cons hkl
    rw [dr] at hRk
    obtain ⟨p, z, i1, i2, u1, u2, b1, b2, wd, rest, ev, hp, hz, hi1, hi2, r1, r2, hdp, ho, hcn, hpile⟩ := row_info hRk (dep_drop k hd)
    have cb : (B.drop k).cnt ≤ B.cnt := cnt_drop k B
    rw [hpile] at ep
    have e2 := Tr.offs_succ k B
    rw [ho] at e2
    have e3 : s0 + B.offs k + 1 + b1.cnt + b2.cnt = s0 + B.offs (k + 1) := by omega
    rw [← Tr.drop_succ, e3] at ep
    generalize hq0 : s0 + B.offs k = q0 at hp r1 r2 ep
    have hp' := sm0 _ _ hp
    refine ⟨_, rfl, _, rfl, L, us, (k : Int), _, rfl, rfl, SqL.of (sm0 _ _ hL), atI_nat (List.getElem?_eq_getElem hkl), ?_⟩
    rw [ev]
    refine ⟨_, rfl, p, _, 0, _, rfl, rfl, SqL.of hp', rfl, _, rfl, rfl, _, rfl, ite2 (fun c => ?_) (fun c => ?_)⟩
    · have eq : q0 = pl := by
        have := V.int.inj (of_decide_eq_true c)
        omega
      rw [if_pos eq] at ep
      refine ⟨_, rfl, _, rfl, _, rfl, by show 3 ≤ sizeLine; decide, fun e he => ⟨by show 1 ≤ sizeLine; decide, fun l hl => ?_⟩⟩
      have s1 := Same.new he (.lst [.ref L, .int (k : Int), onS sg])
      have s2 := Same.new hl (.lst [.ref e])
      refine q l _ (sm.trans (s1.trans s2)) (sm.free (s1.free hl)) ?_
      rw [ep]
      have q1 : l ∉ [e] := fun h => by
        obtain rfl := List.mem_singleton.mp h
        rw [upd_same] at hl
        cases hl
      have q2 : ∀ x ∈ [e], H0 x = none := fun x hx => by
        obtain rfl := List.mem_singleton.mp hx
        exact sm0.free he
      exact ⟨[e], upd_same, sm0.free (s1.free hl), q1, List.nodup_cons.mpr ⟨List.not_mem_nil, List.nodup_nil⟩, q2, ⟨L, us, Aa, s2 _ _ upd_same, hL, hR⟩, trivial⟩
    · have nq : q0 ≠ pl := fun e => c (decide_eq_true (by rw [e]))
      rw [if_neg nq] at ep
      refine ⟨_, rfl, p, _, 2, _, rfl, rfl, SqL.of hp', rfl, _, rfl, p, _, 3, _, rfl, rfl, SqL.of hp', rfl, by show 2 ≤ sizeLine; decide, fun d hd0 => ?_⟩
      have sd := Same.new hd0 (.lst [.ref i1, .ref i2])
      refine ⟨d, rfl, ⟨_, SqL.of upd_same⟩, for_list (K := K) (a := d) (xs := [.ref i1, .ref i2]) (fun j σ H5 => Same H H5 ∧ Same H0 H5 ∧ H5 d = some (.lst [.ref i1, .ref i2]) ∧ (1 ≤ j → pileT b1 (q0 + 1) (some wd) b1 0 (q0 + 1) pl = []) ∧ (2 ≤ j → pileT b2 (q0 + 1 + b1.cnt) (some wd) b2 0 (q0 + 1 + b1.cnt) pl = []) ∧ ∃ v5 v6 : Option V, σ = [some (.ref L), some (.int (pl : Int)), some (onS sg), some (.int (k : Int)), some (.ref p), v5, v6])
        ⟨sm.trans sd, sm0.trans sd, upd_same, fun h => by omega, fun h => by omega, v5, v6, rfl⟩ (fun j σ H5 _ ⟨_, _, h, _⟩ => SqL.of h) ?_ ?_⟩
      · rintro j y σ H5 hj ⟨sm5, s05, hd5, n1, n2, v5, v6, rfl⟩
        obtain ⟨i, u, b, st, ey, hi, hr2, hdp2, hcb, hnx, hfull⟩ : ∃ (i : Addr) (u : List V) (b : Tr) (st : Nat), y = .ref i ∧ H0 i = some (.lst u) ∧ RowsAt K H0 Aa b st u ∧ (u ≠ [] → ∃ k, m = k + 1 ∧ b.dep k) ∧ b.cnt ≤ 400 ∧
            (pileT b st (some wd) b 0 st pl = [] → (1 ≤ j + 1 → pileT b1 (q0 + 1) (some wd) b1 0 (q0 + 1) pl = []) ∧ (2 ≤ j + 1 → pileT b2 (q0 + 1 + b1.cnt) (some wd) b2 0 (q0 + 1 + b1.cnt) pl = [])) ∧
            (∀ f P, pileT b st (some wd) b 0 st pl = f :: P → pileT B s0 sg B 0 s0 pl = ⟨B, s0, k + 1, sg⟩ :: f :: P) := by
          match j, hj, n1, n2 with
          | 0, hj, n1, n2 =>
            have e := (Option.some.inj hj).symm
            exact ⟨i1, u1, b1, q0 + 1, e, hi1, r1, fun h => by obtain ⟨k, e, d1, _⟩ := hdp (.inl h); exact ⟨k, e, d1⟩, by omega, fun h => ⟨fun _ => h, fun h => by omega⟩, fun f P h => by rw [ep, h]⟩
          | 1, hj, n1, n2 =>
            have e := (Option.some.inj hj).symm
            exact ⟨i2, u2, b2, q0 + 1 + b1.cnt, e, hi2, r2, fun h => by obtain ⟨k, e, _, d2⟩ := hdp (.inr h); exact ⟨k, e, d2⟩, by omega, fun h => ⟨fun _ => n1 (by omega), fun _ => h⟩, fun f P h => by rw [ep, n1 (by omega), h]⟩
          | j + 2, hj, n1, n2 => simp at hj
        subst ey
        refine ⟨_, rfl, by show 0 ≤ sizeLine; decide, fun z0 hz0 => ?_⟩
        have sz := Same.new hz0 (.lst [])
        have s5z := sm5.trans sz
        have s0z := s05.trans sz
        refine ⟨i, z0, u, rfl, rfl, SqL.of (s0z _ _ hi), SqL.of upd_same, _, rfl, ?_⟩
        have lb := hr2.len
        cases u with
        | nil =>
          have eb : b = .nil := by
            cases b <;> simp [Tr.len] at lb ⊢
          subst eb
          have g := hnx rfl
          exact iteF ⟨s5z, s0z, sz _ _ hd5, g.1, g.2, _, _, rfl⟩
        | cons u0 us0 =>
          obtain ⟨k', rfl, dk⟩ := hdp2 (by intro z; cases z)
          refine iteT ?_
          refine ⟨_, rfl, _, rfl, _, rfl, p, _, 1, _, rfl, rfl, SqL.of (s0z _ _ hp), rfl, z, _, 0, _, rfl, rfl, Same.tup s0z hz, at0, ?_⟩
          refine ⟨H0, i, u0 :: us0, Aa, b, st, pl, some wd, rfl, s0z, hi, hr2, dk, hcb, fun l H6 s6 hl0 hpa => ?_⟩
          obtain ⟨es, g1, g2, g3, g4, g5, g6⟩ := hpa
          have s06 := s0z.trans s6
          have s56 := s5z.trans s6
          refine ⟨_, rfl, by show 0 ≤ sizeLine; decide, fun z1 hz1 => ?_⟩
          have sy := Same.new hz1 (.lst [])
          refine ⟨l, z1, es.map V.ref, rfl, rfl, SqL.of (sy _ _ g1), SqL.of upd_same, _, rfl, ?_⟩
          have el := g6.len
          generalize hP : pileT b st (some wd) b 0 st pl = Pn at g6 el hnx hfull
          cases Pn with
          | nil =>
            have ee : es = [] := List.length_eq_zero_iff.mp el
            subst ee
            have g := hnx rfl
            exact iteF ⟨s56.trans sy, s06.trans sy, sy _ _ (s6 _ _ (sz _ _ hd5)), g.1, g.2, _, _, rfl⟩
          | cons f Pf =>
            cases es with
            | nil => cases el
            | cons e0 es0 =>
              refine iteT ⟨_, rfl, _, rfl, _, _, rfl, rfl, _, rfl, by show 3 ≤ sizeLine; decide, fun e he => ⟨by show 1 ≤ sizeLine; decide, fun l1 hl1 => ?_⟩⟩
              have sE := Same.new he (.lst [.ref L, .int ((k + 1 : Nat) : Int), onS sg])
              have sL := Same.new hl1 (.lst [.ref e])
              have s7 := (sy.trans sE).trans sL
              refine ⟨_, rfl, l1, l, _, _, rfl, rfl, upd_same, s7 _ _ g1, ?_, fun l2 hl2 => ?_⟩
              · have lP : (e0 :: es0).length ≤ 400 := by
                  rw [el]
                  have := pile_len b b st (some wd) 0 st pl
                  rw [hP] at this
                  omega
                rw [List.length_map, sizeLine_eq]
                show 1 + _ ≤ _
                omega
              have s8 := Same.new hl2 (.lst ([.ref e] ++ (e0 :: es0).map V.ref))
              have sA := (s56.trans s7).trans s8
              have he0 : ∀ x ∈ e0 :: es0, H6 x ≠ none := fun x hx => EnL.there g6 x hx
              have nn : ∀ x ∈ e0 :: es0, x ≠ e := fun x hx => by
                intro z
                subst z
                cases hx6 : H6 x with
                | none => exact he0 x hx hx6
                | some o => exact absurd he (by rw [sy _ _ hx6]; intro z; cases z)
              refine q l2 _ sA ((s56.trans s7).free hl2) ?_
              rw [hfull f Pf rfl]
              refine ⟨e :: e0 :: es0, upd_same, (s06.trans s7).free hl2, ?_, List.nodup_cons.mpr ⟨fun h => nn e h rfl, g4⟩, ?_, ⟨L, us, Aa, s8 _ _ (sL _ _ upd_same), hL, hR⟩, ?_⟩
              · intro h
                rcases List.mem_cons.mp h with h | h
                · subst h
                  rw [sL _ _ upd_same] at hl2
                  cases hl2
                · cases hx6 : H6 l2 with
                  | none => exact he0 l2 h hx6
                  | some o => exact absurd hl2 (by rw [s7 _ _ hx6]; intro z; cases z)
              · intro x hx
                rcases List.mem_cons.mp hx with h | h
                · subst h
                  exact (s06.trans sy).free he
                · exact g5 x h
              · exact EnL.imp (fun x _ o h => s8 _ _ (s7 _ _ h)) g6
      · rintro σ H5 ⟨sm5, s05, hd5, n1, n2, v5, v6, rfl⟩
        refine ⟨sm5, ?_, _, _, _, _, rfl⟩
        rw [ep, n1 (by show 1 ≤ 2; decide), n2 (by show 2 ≤ 2; decide)]
  · rintro σ H' ⟨sm, ep, v3, v4, v5, v6, rfl⟩
    refine ⟨by show 0 ≤ sizeLine; decide, fun l hl => ?_⟩
    have en : B.drop ((us.length : Int).toNat) = .nil := by
      have := Tr.drop_len ((us.length : Int).toNat) B
      have h0 : (B.drop ((us.length : Int).toNat)).len = 0 := by omega
      cases hb : B.drop ((us.length : Int).toNat) <;> rw [hb] at h0 <;> simp [Tr.len] at h0 ⊢
    rw [en] at ep
    refine q l _ (sm.trans (Same.new hl _)) (sm.free hl) ?_
    rw [ep]
    exact ⟨[], upd_same, (sb.trans sm).free hl, List.not_mem_nil, List.nodup_nil, fun _ h => (List.not_mem_nil h).elim, trivial⟩
theorem ok_pa (T : Txt w K mg) : ∀ m : Nat, FnOk P w K mg base CX0 (m + 1) T.a_l_pile_at T.d_l_pile_at p_l_pile_at (spPa K m)
  | 0 => ok_pa0 T (fn_vac fun _ _ _ _ h => h)
  | m + 1 => ok_pa0 T (ok_pa T m)
end
/-! ### where a run goes on -/
def Pok : List Fr → Prop
  | [] => True
  | f :: fs => f.idx ≤ f.body.len ∧ (f.sg = some ("while" : Str) → ∃ g gs, fs = g :: gs ∧ 1 ≤ g.idx) ∧ Pok fs
theorem pile_on {F x : Fr} {y C : List Fr} (ih : Pok ((x :: y).reverse ++ F :: C) ∧ ∀ f P, (x :: y).reverse = f :: P → f.idx + 1 ≤ f.body.len) : Pok ((F :: x :: y).reverse ++ C) ∧ ∀ f P, (F :: x :: y).reverse = f :: P → f.idx + 1 ≤ f.body.len := by
  have e : (F :: x :: y).reverse = (x :: y).reverse ++ [F] := List.reverse_cons ..
  rw [e]
  refine ⟨by rw [List.append_assoc]; exact ih.1, fun f P h => ?_⟩
  generalize hz : (x :: y).reverse = z at h ih
  cases z with
  | nil => simp at hz
  | cons a z' =>
    have h' := (List.cons.inj h).1
    rw [← h']
    exact ih.2 a z' rfl
theorem brk_on {F x : Fr} {y : List Fr} {inl : Bool} (ih : ∀ f P d, (x :: y).reverse = f :: P → hd (f.body.drop f.idx) = .leaf "break" d → inl = true ∨ ∃ g ∈ f :: P, g.sg = some ("while" : Str)) {f : Fr} {P : List Fr} {d : List PyData} (h : (F :: x :: y).reverse = f :: P) (hl : hd (f.body.drop f.idx) = .leaf "break" d) :
    inl = true ∨ ∃ g ∈ f :: P, g.sg = some ("while" : Str) := by
  have e : (F :: x :: y).reverse = (x :: y).reverse ++ [F] := List.reverse_cons ..
  rw [e] at h
  generalize hz : (x :: y).reverse = z at h ih
  cases z with
  | nil => simp at hz
  | cons a z' =>
    obtain ⟨h1, h2⟩ := List.cons.inj h
    subst h1
    rcases ih a z' d rfl hl with h | ⟨g, hg, hs⟩
    · exact .inl h
    · refine .inr ⟨g, ?_, hs⟩
      rw [← h2]
      rcases List.mem_cons.mp hg with h | h
      · exact List.mem_cons.mpr (.inl h)
      · exact List.mem_cons.mpr (.inr (List.mem_append_left _ h))
/-- the outermost frame has the search's own sign -/
theorem pile_sg : ∀ (t B : Tr) (s0 : Nat) (sg : Option Str) (k q pl : Nat) (x : Fr) (y : List Fr), pileT B s0 sg t k q pl = x :: y → x.sg = sg
  | .nil, _, _, _, _, _, _, _, _, h => nomatch h
  | .leaf w d r, B, s0, sg, k, q, pl, x, y, h => by
    unfold pileT at h
    split at h
    · rw [← (List.cons.inj h).1]
    · exact pile_sg r B s0 sg _ _ pl x y h
  | .loop e b r, B, s0, sg, k, q, pl, x, y, h => by
    unfold pileT at h
    split at h
    · rw [← (List.cons.inj h).1]
    · generalize pileT b (q + 1) (some ("while" : Str)) b 0 (q + 1) pl = p at h
      cases p with
      | nil => exact pile_sg r B s0 sg _ _ pl x y h
      | cons a b => rw [← (List.cons.inj h).1]
  | .iff e b c r, B, s0, sg, k, q, pl, x, y, h => by
    unfold pileT at h
    split at h
    · rw [← (List.cons.inj h).1]
    · generalize pileT b (q + 1) (some ("if" : Str)) b 0 (q + 1) pl = p at h
      generalize pileT c (q + 1 + b.cnt) (some ("if" : Str)) c 0 (q + 1 + b.cnt) pl = p2 at h
      cases p with
      | cons a b => rw [← (List.cons.inj h).1]
      | nil =>
        cases p2 with
        | nil => exact pile_sg r B s0 sg _ _ pl x y h
        | cons a b => rw [← (List.cons.inj h).1]
/-- the pile's frames as they stand: those of a search, the outer ones behind their statement -/
theorem pile_ok : ∀ (t B : Tr) (s0 : Nat) (sg : Option Str) (k q pl : Nat) (C : List Fr), B.drop k = t → Pok C → (sg = some ("while" : Str) → ∃ g gs, C = g :: gs ∧ 1 ≤ g.idx) →
    Pok ((pileT B s0 sg t k q pl).reverse ++ C) ∧ (∀ f P, (pileT B s0 sg t k q pl).reverse = f :: P → f.idx + 1 ≤ f.body.len)
  | .nil, _, _, _, _, _, _, _, _, hC, _ => ⟨hC, fun _ _ h => nomatch h⟩
  | .leaf w d r, B, s0, sg, k, q, pl, C, hB, hC, hs => by
    have ih := pile_ok r B s0 sg (k + 1) (q + 1) pl C (by rw [Tr.drop_succ, hB]; rfl) hC hs
    have l := Tr.drop_len k B
    rw [hB] at l
    simp only [Tr.len] at l
    unfold pileT
    split
    · refine ⟨⟨by show k ≤ B.len; omega, hs, hC⟩, fun f P h => ?_⟩
      have h' := List.cons.inj h
      rw [← h'.1]
      show k + 1 ≤ B.len
      omega
    · exact ih
  | .loop e b r, B, s0, sg, k, q, pl, C, hB, hC, hs => by
    have l := Tr.drop_len k B
    rw [hB] at l
    simp only [Tr.len] at l
    have f1 : Pok (⟨B, s0, k + 1, sg⟩ :: C) := ⟨by show k + 1 ≤ B.len; omega, hs, hC⟩
    have ih1 := pile_ok b b (q + 1) (some ("while" : Str)) 0 (q + 1) pl (⟨B, s0, k + 1, sg⟩ :: C) rfl f1 (fun _ => ⟨_, _, rfl, by show 1 ≤ k + 1; omega⟩)
    have ih := pile_ok r B s0 sg (k + 1) (q + 1 + b.cnt) pl C (by rw [Tr.drop_succ, hB]; rfl) hC hs
    unfold pileT
    split
    · refine ⟨⟨by show k ≤ B.len; omega, hs, hC⟩, fun f P h => ?_⟩
      have h' := List.cons.inj h
      rw [← h'.1]
      show k + 1 ≤ B.len
      omega
    · generalize pileT b (q + 1) (some ("while" : Str)) b 0 (q + 1) pl = p at ih1 ⊢
      cases p with
      | nil => exact ih
      | cons x y => exact pile_on ih1
  | .iff e b c r, B, s0, sg, k, q, pl, C, hB, hC, hs => by
    have l := Tr.drop_len k B
    rw [hB] at l
    simp only [Tr.len] at l
    have f1 : Pok (⟨B, s0, k + 1, sg⟩ :: C) := ⟨by show k + 1 ≤ B.len; omega, hs, hC⟩
    have ih1 := pile_ok b b (q + 1) (some ("if" : Str)) 0 (q + 1) pl (⟨B, s0, k + 1, sg⟩ :: C) rfl f1 (fun _ => ⟨_, _, rfl, by show 1 ≤ k + 1; omega⟩)
    have ih2 := pile_ok c c (q + 1 + b.cnt) (some ("if" : Str)) 0 (q + 1 + b.cnt) pl (⟨B, s0, k + 1, sg⟩ :: C) rfl f1 (fun _ => ⟨_, _, rfl, by show 1 ≤ k + 1; omega⟩)
    have ih := pile_ok r B s0 sg (k + 1) (q + 1 + b.cnt + c.cnt) pl C (by rw [Tr.drop_succ, hB]; rfl) hC hs
    unfold pileT
    split
    · refine ⟨⟨by show k ≤ B.len; omega, hs, hC⟩, fun f P h => ?_⟩
      have h' := List.cons.inj h
      rw [← h'.1]
      show k + 1 ≤ B.len
      omega
    · generalize pileT b (q + 1) (some ("if" : Str)) b 0 (q + 1) pl = p at ih1 ⊢
      generalize pileT c (q + 1 + b.cnt) (some ("if" : Str)) c 0 (q + 1 + b.cnt) pl = p2 at ih2 ⊢
      cases p with
      | cons x y => exact pile_on ih1
      | nil =>
        cases p2 with
        | nil => exact ih
        | cons x y => exact pile_on ih2
/-- a break's pile has a while, unless the body itself stands in one -/
theorem pile_brk : ∀ (t B : Tr) (s0 : Nat) (sg : Option Str) (k q pl : Nat) (inl : Bool), B.drop k = t → t.okB inl → ∀ f P d, (pileT B s0 sg t k q pl).reverse = f :: P → hd (f.body.drop f.idx) = .leaf "break" d →
    inl = true ∨ ∃ g ∈ f :: P, g.sg = some ("while" : Str)
  | .nil, _, _, _, _, _, _, _, _, _, _, _, _, h, _ => nomatch h
  | .leaf w d r, B, s0, sg, k, q, pl, inl, hB, ok, f, P, d', h, hl => by
    unfold pileT at h
    split at h
    · have h' := List.cons.inj h
      rw [← h'.1] at hl
      have hl2 : hd (B.drop k) = .leaf "break" d' := hl
      rw [hB] at hl2
      have e : w = "break" := (Hd.leaf.inj hl2).1
      exact .inl (ok.1 e)
    · exact pile_brk r B s0 sg (k + 1) (q + 1) pl inl (by rw [Tr.drop_succ, hB]; rfl) ok.2 f P d' h hl
  | .loop e b r, B, s0, sg, k, q, pl, inl, hB, ok, f, P, d', h, hl => by
    unfold pileT at h
    split at h
    · have h' := List.cons.inj h
      rw [← h'.1] at hl
      have hl2 : hd (B.drop k) = .leaf "break" d' := hl
      rw [hB] at hl2
      cases hl2
    · have hw := pile_sg b b (q + 1) (some ("while" : Str)) 0 (q + 1) pl
      generalize hp : pileT b (q + 1) (some ("while" : Str)) b 0 (q + 1) pl = p at h hw
      cases p with
      | nil => exact pile_brk r B s0 sg (k + 1) (q + 1 + b.cnt) pl inl (by rw [Tr.drop_succ, hB]; rfl) ok.2 f P d' h hl
      | cons x y =>
        refine .inr ⟨x, ?_, hw x y rfl⟩
        have hm : x ∈ (⟨B, s0, k + 1, sg⟩ :: x :: y : List Fr).reverse := by simp
        rw [h] at hm
        exact hm
  | .iff e b c r, B, s0, sg, k, q, pl, inl, hB, ok, f, P, d', h, hl => by
    unfold pileT at h
    split at h
    · have h' := List.cons.inj h
      rw [← h'.1] at hl
      have hl2 : hd (B.drop k) = .leaf "break" d' := hl
      rw [hB] at hl2
      cases hl2
    · have i1 := pile_brk b b (q + 1) (some ("if" : Str)) 0 (q + 1) pl inl rfl ok.1
      have i2 := pile_brk c c (q + 1 + b.cnt) (some ("if" : Str)) 0 (q + 1 + b.cnt) pl inl rfl ok.2.1
      generalize hp : pileT b (q + 1) (some ("if" : Str)) b 0 (q + 1) pl = p at h i1
      generalize hp2 : pileT c (q + 1 + b.cnt) (some ("if" : Str)) c 0 (q + 1 + b.cnt) pl = p2 at h i2
      cases p with
      | cons x y => exact brk_on i1 h hl
      | nil =>
        cases p2 with
        | nil => exact pile_brk r B s0 sg (k + 1) (q + 1 + b.cnt + c.cnt) pl inl (by rw [Tr.drop_succ, hB]; rfl) ok.2.2 f P d' h hl
        | cons x y => exact brk_on i2 h hl
theorem at_last {α : Type} {xs : List α} {x : α} : atI (xs ++ [x]) (-1) = some x := by
  unfold atI
  have e : ixN (xs ++ [x]).length (-1) = some xs.length := by
    unfold ixN
    rw [List.length_append]
    have h1 : ¬ (0 ≤ (-1 : Int)) := by decide
    rw [if_neg h1]
    simp
    omega
  rw [e]
  simp
theorem snoc_cases {α : Type} (l : List α) : l = [] ∨ ∃ l' x, l = l' ++ [x] := by
  rcases List.eq_nil_or_concat l with h | ⟨l', x, h⟩
  · exact .inl h
  · exact .inr ⟨l', x, by rw [h, List.concat_eq_append]⟩
theorem PileAt.same {K : PySem.W.Frag} {H0 H H' : Hp} {l : Addr} {P : List Fr} (s : Same H H') (h : PileAt K H0 H l P) : PileAt K H0 H' l P := by
  obtain ⟨es, h1, h2, h3, h4, h5, h6⟩ := h
  exact ⟨es, s _ _ h1, h2, h3, h4, h5, EnL.imp (fun e _ o z => s e o z) h6⟩
theorem PileAt.top {K : PySem.W.Frag} {H0 H : Hp} {l : Addr} {P : List Fr} {f : Fr} (h : PileAt K H0 H l (P ++ [f])) : ∃ (es : List Addr) (e L : Addr) (us : List V) (A : Addr → Prop), H l = some (.lst ((es ++ [e]).map V.ref)) ∧ H e = some (.lst [.ref L, .int (f.idx : Int), onS f.sg]) ∧ H0 L = some (.lst us) ∧ RowsAt K H0 A f.body f.at0 us ∧
    (∀ i : Nat, PileAt K H0 (upd H e (.lst [.ref L, .int (i : Int), onS f.sg])) l (P ++ [{ f with idx := i }])) ∧ PileAt K H0 (upd H l (.lst (es.map V.ref))) l P ∧ H0 e = none ∧ H0 l = none ∧ e ≠ l ∧ es.length = P.length := by
  obtain ⟨es0, h1, h2, h3, h4, h5, h6⟩ := h
  obtain ⟨es, e, rfl, g1, L, us, A, g2, g3, g4⟩ := h6.split
  have nel : e ≠ l := fun z => h3 (by rw [← z]; simp)
  have nd := List.nodup_append.mp h4
  have ne : ∀ x ∈ es, x ≠ e := fun x hx => nd.2.2 x hx e (by simp)
  refine ⟨es, e, L, us, A, h1, g2, g3, g4, fun i => ?_, ?_, h5 e (by simp), h2, nel, g1.len⟩
  · refine ⟨es ++ [e], by rw [upd_ne nel.symm]; exact h1, h2, h3, h4, h5, EnL.app (es2 := [e]) (P2 := [{ f with idx := i }]) ⟨⟨L, us, A, upd_same, g3, g4⟩, trivial⟩ (EnL.imp (fun x hx o z => by rw [upd_ne (ne x hx)]; exact z) g1)⟩
  · exact ⟨es, upd_same, h2, fun hx => h3 (List.mem_append_left _ hx), nd.1, fun x hx => h5 x (List.mem_append_left _ hx), EnL.imp (fun x hx o z => by
      have : x ≠ l := fun e => h3 (by rw [← e]; exact List.mem_append_left _ hx)
      rw [upd_ne this]
      exact z) g1⟩
theorem PileAt.push {K : PySem.W.Frag} {H0 H : Hp} {l e L : Addr} {P : List Fr} {f : Fr} {us : List V} {A : Addr → Prop} {ws : List V} (h : PileAt K H0 H l P) (hl : H l = some (.lst ws)) (he : H e = none) (h0 : H0 e = none) (hL : H0 L = some (.lst us)) (hR : RowsAt K H0 A f.body f.at0 us) :
    PileAt K H0 (upd (upd H e (.lst [.ref L, .int (f.idx : Int), onS f.sg])) l (.lst (ws ++ [.ref e]))) l (P ++ [f]) := by
  obtain ⟨es, h1, h2, h3, h4, h5, h6⟩ := h
  have ew : ws = es.map V.ref := by
    rw [hl] at h1
    have := Option.some.inj h1
    cases this
    rfl
  subst ew
  have nel : e ≠ l := (ne_of_none hl he).symm
  have ne : ∀ x ∈ es, x ≠ e := fun x hx z => by
    subst z
    exact EnL.there h6 x hx he
  refine ⟨es ++ [e], by rw [upd_same, List.map_append]; rfl, h2, fun hx => ?_, ?_, fun x hx => ?_, EnL.app (es2 := [e]) (P2 := [f]) ⟨⟨L, us, A, by rw [upd_ne nel, upd_same], hL, hR⟩, trivial⟩ (EnL.imp (fun x hx o z => ?_) h6)⟩
  · rcases List.mem_append.mp hx with hx | hx
    · exact h3 hx
    · exact nel (List.mem_singleton.mp hx).symm
  · exact List.nodup_append.mpr ⟨h4, List.nodup_cons.mpr ⟨List.not_mem_nil, List.nodup_nil⟩, fun x hx y hy => by rw [List.mem_singleton.mp hy]; exact ne x hx⟩
  · rcases List.mem_append.mp hx with hx | hx
    · exact h5 x hx
    · rw [List.mem_singleton.mp hx]; exact h0
  · have : x ≠ l := fun e => h3 (by rw [← e]; exact hx)
    rw [upd_ne this, upd_ne (ne x hx)]
    exact z
theorem row_place {K : PySem.W.Frag} {H : Hp} {A : Addr → Prop} {t : Tr} {q : Nat} {v : V} {ws : List V} (h : RowsAt K H A t q (v :: ws)) : ∃ p x y z, v = .ref p ∧ H p = some (.lst [.int (q : Int), x, y, z]) := by
  cases t with
  | nil => cases h
  | leaf w d r =>
    obtain ⟨p, x, i1, i2, vs, ev, _, h1, _⟩ := h
    obtain ⟨rfl, rfl⟩ := List.cons.inj ev
    exact ⟨p, x, _, _, rfl, h1⟩
  | loop e b r =>
    obtain ⟨p, x, i1, i2, us, vs, ev, _, h1, _⟩ := h
    obtain ⟨rfl, rfl⟩ := List.cons.inj ev
    exact ⟨p, x, _, _, rfl, h1⟩
  | iff e b c r =>
    obtain ⟨p, x, i1, i2, us, us2, vs, ev, _, h1, _⟩ := h
    obtain ⟨rfl, rfl⟩ := List.cons.inj ev
    exact ⟨p, x, _, _, rfl, h1⟩
def spSe (K : PySem.W.Frag) : Sp := fun vs H Q _ => ∃ (H0 : Hp) (l : Addr) (e : Nat) (P : List Fr), vs = [.ref l, .int (e : Int)] ∧ Same H0 H ∧ PileAt K H0 H l P ∧ Pok P.reverse ∧ P.length ≤ 40 ∧ ∀ H', Same H0 H' → Q (.int (settle P.reverse e : Nat)) H'
section
variable {P : Program} {w : World} {K : PySem.W.Frag} {mg : Str → Option Value} {base : Heap}
theorem ok_se (T : Txt w K mg) : FnOk P w K mg base CX0 1 T.a_l_settled T.d_l_settled p_l_settled (spSe K) := by
  refine T.F_l_settled.ok sc_l_settled (fun vs H Q E h => ?_) (fun cdv A outer s H vs Q E hr h => ?_)
  · obtain ⟨H0, l, e, P, rfl, _⟩ := h
    rfl
  obtain ⟨H0, l, e, Ps, rfl, sb, hP, hok, hlen, q⟩ := h
  refine ⟨_, (pss_cons (ps_for PassesOwn.never rfl (pi_range1 rfl T.z_range (pa_cons pe_int pa_nil)) (pg_name (i := 2) sc_l_settled.nd rfl (Or.inl rfl))
        (pss_cons (ps_if (pt_cmpR (op_eqL0 hr.units0) (pv 0) (pe_lst pa_nil) (nomark _)) (pss_one (ps_ret (pv 1))) pss_nil)
      (pss_cons (ps_set (i := 3) sc_l_settled.nd rfl (Or.inl rfl) (pe_ix ix_list (pv 0) (pe_un un_neg pe_int) (fun _ _ => rfl)))
      (pss_cons (ps_if (pt_cmpR op_lt (pe_ix ix_list (pv 3) pe_int (fun _ _ => rfl)) (pe_callB call_len_seq rfl T.z_len PySem.boot_len (pa_cons (pe_ix ix_list (pv 3) pe_int (fun _ _ => rfl)) pa_nil)) (nomark _)) (pss_one (ps_ret (pe_ix ix_list (pe_ix ix_list (pe_ix ix_list (pv 3) pe_int (fun _ _ => rfl)) (pe_ix ix_list (pv 3) pe_int (fun _ _ => rfl)) (fun _ _ => rfl)) pe_int (fun _ _ => rfl)))) pss_nil)
      (pss_cons (ps_expr (pe_bm0 PySem.F.plainAttrs_list PySem.F.slot_list_pop PySem.F.type_list_pop mt_pop (pv 0)))
      (pss_one (ps_if (pt_cmpR op_eq (pe_ix ix_list (pv 3) pe_int (fun _ _ => rfl)) pe_str (nomark _)) (pss_cons (ps_set (i := 4) sc_l_settled.nd rfl (Or.inl rfl) (pe_ix ix_list (pv 0) (pe_un un_neg pe_int) (fun _ _ => rfl)))
      (pss_one (ps_asg (pe_op op_sub (pe_ix ix_list (pv 4) pe_int (fun _ _ => rfl)) pe_int) (pg_sub (pv 4) pe_int set_list)))) pss_nil)))))))
      (pss_one (ps_ret (pv 1)))), ?_⟩
  refine ⟨40, rfl, by decide, by decide, for_range (lo := 0) (n := 40) (fun i σ H' => Same H0 H' ∧ ∃ (P' : List Fr) (v2 v3 v4 : Option V), PileAt K H0 H' l P' ∧ Pok P'.reverse ∧ settle P'.reverse e = settle Ps.reverse e ∧ P'.length + i ≤ 40 ∧ σ = [some (.ref l), some (.int (e : Int)), v2, v3, v4])
    ⟨sb, Ps, none, none, none, hP, hok, rfl, hlen, rfl⟩ ?_ ?_⟩
  · rintro i σ H' hi ⟨sm, P', v2, v3, v4, hp, ok, es, hl, rfl⟩
    refine ⟨_, rfl, by show 0 ≤ sizeLine; decide, fun z hz => ?_⟩
    have sz := Same.new hz (.lst [])
    rcases snoc_cases P' with rfl | ⟨P2, f, rfl⟩
    · obtain ⟨es0, g1, g2, g3, g4, g5, g6⟩ := hp
      have ee : es0 = [] := List.length_eq_zero_iff.mp g6.len
      subst ee
      refine ⟨l, z, [], rfl, rfl, SqL.of (sz _ _ g1), SqL.of upd_same, _, rfl, iteT ⟨_, rfl, ?_⟩⟩
      have := q _ (sm.trans sz)
      rw [← es] at this
      exact this
    · obtain ⟨es', e', L, us, Aa, t1, t2, t3, t4, t5, t6, t7, t8, t9, t10⟩ := (PileAt.same sz hp).top
      rw [List.reverse_append] at ok es
      have ok' : f.idx ≤ f.body.len ∧ (f.sg = some ("while" : Str) → ∃ g gs, P2.reverse = g :: gs ∧ 1 ≤ g.idx) ∧ Pok P2.reverse := ok
      have ul := t4.len
      have smz := sm.trans sz
      have t3' := smz _ _ t3
      refine ⟨l, z, _, rfl, rfl, SqL.of t1, SqL.of upd_same, _, rfl, ifF (by simp) ?_⟩
      refine ⟨_, rfl, _, rfl, l, _, _, _, rfl, rfl, SqL.of t1, by rw [List.map_append]; exact at_last, ?_⟩
      refine ⟨_, rfl, e', _, 1, _, rfl, rfl, SqL.of t2, rfl, _, rfl, e', _, 0, _, rfl, rfl, SqL.of t2, rfl, L, us, rfl, .inl (SqL.of t3'), _, _, rfl, rfl, _, rfl, ite2 (fun c => ?_) (fun c => ?_)⟩
      · have c' : (f.idx : Int) < (us.length : Int) := of_decide_eq_true c
        have hil : f.idx < us.length := by omega
        have hRk := RowsAt.drop f.idx t4
        rw [List.drop_eq_getElem_cons hil] at hRk
        obtain ⟨p, x, y, zz, ev, hp1⟩ := row_place hRk
        refine ⟨_, rfl, e', _, 0, _, rfl, rfl, SqL.of t2, rfl, _, rfl, e', _, 1, _, rfl, rfl, SqL.of t2, rfl, L, us, (f.idx : Int), _, rfl, rfl, SqL.of t3', atI_nat (List.getElem?_eq_getElem hil), ?_⟩
        rw [ev]
        refine ⟨p, _, 0, _, rfl, rfl, SqL.of (smz _ _ hp1), rfl, ?_⟩
        have := q _ smz
        rw [← es] at this
        have e2 : settle ([f].reverse ++ P2.reverse) e = f.at0 + f.body.offs f.idx := by
          show settle (f :: P2.reverse) e = _
          conv => lhs; unfold settle
          rw [if_pos (by omega)]
        rw [e2] at this
        exact this
      · have c' : ¬ (f.idx : Int) < (us.length : Int) := of_decide_eq_false (Bool.eq_false_iff.mpr c)
        have hfl : ¬ f.idx < f.body.len := by omega
        refine ⟨_, rfl, .inl ⟨rfl, _, SqL.of t1⟩, l, _, .ref e', rfl, rfl, t1, ?_, ?_⟩
        · rw [List.map_append]
          simp
        have edl : ((es' ++ [e']).map V.ref).dropLast = es'.map V.ref := by
          rw [List.map_append]
          exact List.dropLast_concat
        rw [edl]
        have t2' : (upd (upd H' z (.lst [])) l (.lst (es'.map V.ref))) e' = some (.lst [.ref L, .int (f.idx : Int), onS f.sg]) := by rw [upd_ne t9]; exact t2
        have sG : Same H0 (upd (upd H' z (.lst [])) l (.lst (es'.map V.ref))) := Same.grow t8 smz
        generalize (upd (upd H' z (.lst [])) l (.lst (es'.map V.ref))) = HG at t6 t2' sG ⊢
        rw [List.length_append] at hl
        have hl2 : P2.length + 1 + i ≤ 40 := hl
        by_cases hw : f.sg = some ("while" : Str)
        · obtain ⟨g, gs, eg, gi⟩ := ok'.2.1 hw
          have okg := ok'.2.2
          rw [eg] at okg
          have okg' : g.idx ≤ g.body.len ∧ (g.sg = some ("while" : Str) → ∃ g2 gs2, gs = g2 :: gs2 ∧ 1 ≤ g2.idx) ∧ Pok gs := okg
          have eP : P2 = gs.reverse ++ [g] := by
            have := congrArg List.reverse eg
            rw [List.reverse_reverse, List.reverse_cons] at this
            exact this
          subst eP
          obtain ⟨es2, e2, L2, us2, A2, k1, k2, k3, k4, k5, k6, k7, k8, k9, k10⟩ := t6.top
          rw [hw] at t2'
          refine ⟨_, rfl, e', _, 2, _, rfl, rfl, SqL.of t2', rfl, rfl, _, rfl, ifT (by decide +kernel) ?_⟩
          refine ⟨_, rfl, _, rfl, l, _, _, _, rfl, rfl, SqL.of k1, by rw [List.map_append]; exact at_last, ?_⟩
          refine ⟨_, rfl, e2, _, 1, _, rfl, rfl, SqL.of k2, rfl, _, _, rfl, rfl, _, rfl, e2, _, 1, 1, rfl, rfl, k2, rfl, ?_⟩
          have ei : ((g.idx : Int) - 1) = ((g.idx - 1 : Nat) : Int) := by omega
          refine ⟨Same.grow k7 sG, gs.reverse ++ [{ g with idx := g.idx - 1 }], _, _, _, ?_, ?_, ?_, ?_, rfl⟩
          · show PileAt K H0 (upd HG e2 (.lst [.ref L2, .int ((g.idx : Int) - 1), onS g.sg])) l _
            rw [ei]
            exact k5 (g.idx - 1)
          · rw [List.reverse_append, List.reverse_reverse]
            exact ⟨by show g.idx - 1 ≤ g.body.len; omega, okg'.2.1, okg'.2.2⟩
          · rw [List.reverse_append, List.reverse_reverse, ← es]
            show settle ({ g with idx := g.idx - 1 } :: gs) e = settle (f :: (gs.reverse ++ [g]).reverse) e
            rw [List.reverse_append, List.reverse_reverse]
            conv => rhs; unfold settle
            rw [if_neg hfl, if_pos hw]
            conv => lhs; unfold settle
            rw [if_pos (show g.idx - 1 < g.body.len by omega)]
            rfl
          · rw [List.length_append] at hl2 ⊢
            show gs.reverse.length + 1 + (i + 1) ≤ 40
            have : gs.reverse.length + 1 + 1 + i ≤ 40 := hl2
            omega
        · have es2 : settle P2.reverse e = settle Ps.reverse e := by
            rw [← es]
            show _ = settle (f :: P2.reverse) e
            conv => rhs; unfold settle
            rw [if_neg hfl, if_neg hw]
          have fin : ∀ v3 : Option V, Same H0 HG ∧ ∃ (P' : List Fr) (v2 v3' v4 : Option V), PileAt K H0 HG l P' ∧ Pok P'.reverse ∧ settle P'.reverse e = settle Ps.reverse e ∧ P'.length + (i + 1) ≤ 40 ∧ ([some (.ref l), some (.int (e : Int)), some (.int (0 + (i : Int))), v3, v4] : List (Option V)) = [some (.ref l), some (.int (e : Int)), v2, v3', v4] := fun v3 => ⟨sG, P2, _, _, v4, t6, ok'.2.2, es2, by omega, rfl⟩
          cases hs : f.sg with
          | none =>
            rw [hs] at t2'
            obtain ⟨f1, P', w2, w3, w4, f2⟩ := fin (some (.ref e'))
            exact ⟨_, rfl, e', _, 2, _, rfl, rfl, SqL.of t2', rfl, rfl, _, rfl, ifF (by decide +kernel) ⟨sG, P2, _, _, v4, t6, ok'.2.2, es2, by omega, rfl⟩⟩
          | some sgn =>
            rw [hs] at t2' hw
            exact ⟨_, rfl, e', _, 2, _, rfl, rfl, SqL.of t2', rfl, rfl, _, rfl, ifF (decide_eq_false fun h => hw (congrArg some (V.str.inj h))) ⟨sG, P2, _, _, v4, t6, ok'.2.2, es2, by omega, rfl⟩⟩
  · rintro σ H' ⟨sm, P', v2, v3, v4, hp, ok, es, hl, rfl⟩
    have e0 : P' = [] := List.length_eq_zero_iff.mp (by omega)
    subst e0
    refine ⟨_, rfl, ?_⟩
    have := q _ sm
    rw [← es] at this
    exact this
end
theorem pile_dep : ∀ (t B : Tr) (s0 : Nat) (sg : Option Str) (k q pl m : Nat), t.dep m → (pileT B s0 sg t k q pl).length ≤ m + 1
  | .nil, _, _, _, _, _, _, _, _ => Nat.zero_le _
  | .leaf w d r, B, s0, sg, k, q, pl, m, h => by
    have ih := pile_dep r B s0 sg (k + 1) (q + 1) pl m (dep_leaf h)
    unfold pileT
    split
    · show 1 ≤ m + 1
      omega
    · exact ih
  | .loop e b r, B, s0, sg, k, q, pl, m, h => by
    obtain ⟨n, rfl, d1, d2⟩ := dep_loop h
    have ih := pile_dep r B s0 sg (k + 1) (q + 1 + b.cnt) pl (n + 1) d2
    have ih1 := pile_dep b b (q + 1) (some ("while" : Str)) 0 (q + 1) pl n d1
    unfold pileT
    split
    · show 1 ≤ n + 1 + 1
      omega
    · generalize pileT b (q + 1) (some ("while" : Str)) b 0 (q + 1) pl = p at ih1 ⊢
      cases p with
      | nil => exact ih
      | cons x y => exact Nat.succ_le_succ ih1
  | .iff e b c r, B, s0, sg, k, q, pl, m, h => by
    obtain ⟨n, rfl, d1, d2, d3⟩ := dep_iff h
    have ih := pile_dep r B s0 sg (k + 1) (q + 1 + b.cnt + c.cnt) pl (n + 1) d3
    have ih1 := pile_dep b b (q + 1) (some ("if" : Str)) 0 (q + 1) pl n d1
    have ih2 := pile_dep c c (q + 1 + b.cnt) (some ("if" : Str)) 0 (q + 1 + b.cnt) pl n d2
    unfold pileT
    split
    · show 1 ≤ n + 1 + 1
      omega
    · generalize pileT b (q + 1) (some ("if" : Str)) b 0 (q + 1) pl = p at ih1 ⊢
      generalize pileT c (q + 1 + b.cnt) (some ("if" : Str)) c 0 (q + 1 + b.cnt) pl = p2 at ih2 ⊢
      cases p with
      | cons x y => exact Nat.succ_le_succ ih1
      | nil =>
        cases p2 with
        | nil => exact ih
        | cons x y => exact Nat.succ_le_succ ih2
def spFo (K : PySem.W.Frag) : Sp := fun vs H Q _ => ∃ (L : Addr) (us : List V) (A : Addr → Prop) (B : Tr) (pl e : Nat) (h : Bool), vs = [.ref L, .int (pl : Int), .int (e : Int), .bl h] ∧ H L = some (.lst us) ∧ RowsAt K H A B 0 us ∧ B.dep 8 ∧ B.cnt ≤ 400 ∧ B.okB false ∧ pl < B.cnt ∧
  ∀ H', Same H H' → Q (.int (follow (pileT B 0 none B 0 0 pl).reverse e h : Nat)) H'
section
variable {P : Program} {w : World} {K : PySem.W.Frag} {mg : Str → Option Value} {base : Heap}
theorem ok_fo (T : Txt w K mg) : FnOk P w K mg base CX0 10 T.a_l_follow T.d_l_follow p_l_follow (spFo K) := by
  have g_l_pile_at := ok_pa (P := P) (w := w) (K := K) (base := base) T 8
  have g_l_settled := ok_se (P := P) (w := w) (K := K) (base := base) T
  refine T.F_l_follow.ok sc_l_follow (fun vs H Q E h => ?_) (fun cdv A outer s H vs Q E hr h => ?_)
  · obtain ⟨L, us, A, B, pl, e, h, rfl, _⟩ := h
    rfl
  obtain ⟨L, us, Aa, B, pl, e, hh, rfl, hL, hR, hdd, hc, hok, hpl, q⟩ := h
  refine ⟨_, (pss_cons (ps_set (i := 4) sc_l_follow.nd rfl (Or.inl rfl) (pe_call g_l_pile_at (hr.mono (by first | decide | omega)) rfl T.m_l_pile_at T.F_l_pile_at.kp T.b_l_pile_at .nil pass0 (pa_cons (pv 0) (pa_cons (pv 1) (pa_cons pe_non pa_nil)))))
      (pss_cons (ps_set (i := 5) sc_l_follow.nd rfl (Or.inl rfl) (pe_ix ix_list (pv 4) (pe_un un_neg pe_int) (fun _ _ => rfl)))
      (pss_cons (ps_set (i := 6) sc_l_follow.nd rfl (Or.inl rfl) (pe_ix ix_list (pe_ix ix_list (pv 5) pe_int (fun _ _ => rfl)) (pe_ix ix_list (pv 5) pe_int (fun _ _ => rfl)) (fun _ _ => rfl)))
      (pss_cons (ps_set (i := 7) sc_l_follow.nd rfl (Or.inl rfl) (pe_ix ix_tup (pe_ix ix_list (pv 6) pe_int (fun _ _ => rfl)) pe_int (fun _ _ => rfl)))
      (pss_cons (ps_asg (pe_op op_add (pe_ix ix_list (pv 5) pe_int (fun _ _ => rfl)) pe_int) (pg_sub (pv 5) pe_int set_list))
      (pss_cons (ps_if (pt_cmpR op_eq (pv 7) pe_str (nomark _)) (pss_one (ps_ret (pv 2))) pss_nil)
      (C8.pss_cut (ps_if (PW.pt (pw_and (PW.pt (pw_or (pt_cmpR op_eq (pv 7) pe_str (nomark _)) (pw_or1 (pt_cmpR op_eq (pv 7) pe_str (nomark _))))) (pw_and1 (pt_val (pv 3))))) (pss_one (ps_expr (pe_bm PySem.F.plainAttrs_list PySem.F.slot_list_append PySem.F.type_list_append mt_append (pv 4) (pa_cons (pe_lst (pa_cons (pe_ix ix_list (pv 6) pe_int (fun _ _ => rfl)) (pa_cons pe_int (pa_cons (pv 7) pa_nil)))) pa_nil)))) pss_nil)
      (C8.pss_cut (ps_if (PW.pt (pw_and (pt_cmpR op_eq (pv 7) pe_str (nomark _)) (pw_and1 (pt_not (pt_val (pv 3)))))) (pss_one (ps_expr (pe_bm PySem.F.plainAttrs_list PySem.F.slot_list_append PySem.F.type_list_append mt_append (pv 4) (pa_cons (pe_lst (pa_cons (pe_ix ix_list (pv 6) pe_int (fun _ _ => rfl)) (pa_cons pe_int (pa_cons (pv 7) pa_nil)))) pa_nil)))) pss_nil)
      (C8.pss_cut (ps_if (pt_cmpR op_eq (pv 7) pe_str (nomark _)) (pss_one (ps_for PassesOwn.never rfl (pi_range1 rfl T.z_range (pa_cons pe_int pa_nil)) (pg_name (i := 8) sc_l_follow.nd rfl (Or.inl rfl))
        (pss_one (ps_if (pt_cmpR op_eq (pe_ix ix_list (pe_bm0 PySem.F.plainAttrs_list PySem.F.slot_list_pop PySem.F.type_list_pop mt_pop (pv 4)) pe_int (fun _ _ => rfl)) pe_str (nomark _)) (pss_one ps_break) pss_nil)))) pss_nil)
      (pss_one (ps_ret (pe_call g_l_settled (hr.mono (by first | decide | omega)) rfl T.m_l_settled T.F_l_settled.kp T.b_l_settled .nil pass0 (pa_cons (pv 4) (pa_cons (pv 2) pa_nil)))))))))))))), ?_⟩
  refine ⟨_, rfl, _, rfl, H, L, us, Aa, B, 0, pl, none, rfl, Same.refl H, hL, hR, hdd, hc, fun l H1 s1 hl0 hP => ?_⟩
  have hmain := pile_main e B B 0 none 0 0 [] (settle [⟨B, 0, B.len, none⟩] e) none false (by cases B <;> rfl) (by cases B <;> rfl) rfl (fun z => nomatch z) hok pl (Nat.zero_le _) (by omega)
  have hpok := pile_ok B B 0 none 0 0 pl [] (by cases B <;> rfl) trivial (fun z => nomatch z)
  have hbrk := pile_brk B B 0 none 0 0 pl false (by cases B <;> rfl) hok
  have hpd := pile_dep B B 0 none 0 0 pl 8 hdd
  rw [List.append_nil] at hpok
  generalize hPP : pileT B 0 none B 0 0 pl = PP at hP hmain hpok hbrk hpd q
  rcases snoc_cases PP with rfl | ⟨P2, f, rfl⟩
  · exact absurd rfl hmain.1
  rw [List.reverse_append] at hpok hbrk q
  have okf : f.idx ≤ f.body.len ∧ (f.sg = some ("while" : Str) → ∃ g gs, P2.reverse = g :: gs ∧ 1 ≤ g.idx) ∧ Pok P2.reverse := hpok.1
  have okt : f.idx + 1 ≤ f.body.len := hpok.2 f P2.reverse rfl
  have okn : Pok ({ f with idx := f.idx + 1 } :: P2.reverse) := ⟨okt, okf.2.1, okf.2.2⟩
  rw [List.length_append] at hpd
  have hpd2 : P2.length + 1 ≤ 9 := hpd
  obtain ⟨es', e', L', us', A', t1, t2, t3, t4, t5, t6, t7, t8, t9, t10⟩ := hP.top
  have ul := t4.len
  have hil : f.idx < us'.length := by omega
  have hRk := RowsAt.drop f.idx t4
  rw [List.drop_eq_getElem_cons hil] at hRk
  refine ⟨_, rfl, _, rfl, l, _, _, _, rfl, rfl, SqL.of t1, by rw [List.map_append]; exact at_last, ?_⟩
  refine ⟨_, rfl, e', _, 0, _, rfl, rfl, SqL.of t2, rfl, _, rfl, e', _, 1, _, rfl, rfl, SqL.of t2, rfl, L', us', (f.idx : Int), _, rfl, rfl, SqL.of (s1 _ _ t3), atI_nat (List.getElem?_eq_getElem hil), ?_⟩
  have hset := t5 (f.idx + 1)
  have sG : Same H (upd H1 e' (.lst [.ref L', .int ((f.idx + 1 : Nat) : Int), onS f.sg])) := Same.grow t7 s1
  have hlG : (upd H1 e' (.lst [.ref L', .int ((f.idx + 1 : Nat) : Int), onS f.sg])) l = some (.lst ((es' ++ [e']).map V.ref)) := by rw [upd_ne t9.symm]; exact t1
  have eq2 : ([f].reverse ++ P2.reverse) = f :: P2.reverse := rfl
  rw [eq2] at q
  have T2 : ∀ {w z : Str}, decide (V.str w = V.str z) = true → w = z := fun h => V.str.inj (of_decide_eq_true h)
  have T1 : ∀ {w z : Str}, ¬ (decide (V.str w = V.str z) = true) → w ≠ z := fun h e => h (decide_eq_true (congrArg V.str e))
  have fst : ∀ (X : Hd), hd (f.body.drop f.idx) = X → follow (f :: P2.reverse) e hh = (match X with
      | .none => e
      | .leaf w _ => if w = "return" then e else if w = "break" then breakT ({ f with idx := f.idx + 1 } :: P2.reverse) e else settle ({ f with idx := f.idx + 1 } :: P2.reverse) e
      | .loop _ b => if hh = true then settle (⟨b, f.at0 + f.body.offs f.idx + 1, 0, some "while"⟩ :: { f with idx := f.idx + 1 } :: P2.reverse) e else settle ({ f with idx := f.idx + 1 } :: P2.reverse) e
      | .iff _ b c => if hh = true then settle (⟨b, f.at0 + f.body.offs f.idx + 1, 0, some "if"⟩ :: { f with idx := f.idx + 1 } :: P2.reverse) e
          else settle (⟨c, f.at0 + f.body.offs f.idx + 1 + b.cnt, 0, some "if"⟩ :: { f with idx := f.idx + 1 } :: P2.reverse) e) := by
    intro X hX
    unfold follow
    dsimp only
    rw [hX]
    all_goals (cases X <;> rfl)
  cases hb : f.body.drop f.idx with
  | nil =>
    rw [hb] at hRk
    cases hRk
  | leaf wd d r =>
    rw [hb] at hRk
    have fe := fst (.leaf wd d) (by rw [hb]; rfl)
    dsimp only at fe
    obtain ⟨p, x, i1, i2, ws, ev, _, h1, ⟨z, xs, rfl, g1, _⟩, _, _, ⟨nif, nwh⟩, _⟩ := hRk
    have ev1 := (List.cons.inj ev).1
    rw [ev1]
    have h1' := s1 _ _ h1
    refine ⟨_, rfl, p, _, 1, _, rfl, rfl, SqL.of h1', rfl, z, _, 0, _, rfl, rfl, Same.tup s1 g1, at0, ?_⟩
    refine ⟨_, rfl, e', _, 1, _, rfl, rfl, SqL.of t2, rfl, _, _, rfl, rfl, _, rfl, e', _, 1, 1, rfl, rfl, t2, rfl, ?_⟩
    refine ⟨_, rfl, rfl, _, rfl, ite2 (fun c => ?_) (fun c => ?_)⟩
    · refine ⟨_, rfl, ?_⟩
      have := q _ sG
      rw [fe] at this
      rw [if_pos (T2 c)] at this
      exact this
    have nre := T1 c
    rw [if_neg nre] at fe
    obtain ⟨HG, hHG⟩ : ∃ G, G = upd H1 e' (.lst [.ref L', .int ((f.idx + 1 : Nat) : Int), onS f.sg]) := ⟨_, rfl⟩
    rw [← hHG] at hset sG hlG
    refine ⟨fun σ H6 => H6 = HG ∧ σ = [some (.ref L), some (.int (pl : Int)), some (.int (e : Int)), some (.bl hh), some (.ref l), some (.ref e'), some (.ref p), some (.str wd), none], ⟨_, rfl, rfl, _, rfl, ifF (decide_eq_false fun z => nif (V.str.inj z)) ⟨_, rfl, rfl, _, rfl, ifF (decide_eq_false fun z => nwh (V.str.inj z)) (iteF ⟨hHG.symm, rfl⟩)⟩⟩, ?_⟩
    clear hHG
    rintro σ H6 ⟨rfl, rfl⟩
    refine ⟨fun σ H7 => H7 = H6 ∧ σ = [some (.ref L), some (.int (pl : Int)), some (.int (e : Int)), some (.bl hh), some (.ref l), some (.ref e'), some (.ref p), some (.str wd), none], ⟨_, rfl, rfl, _, rfl, ifF (decide_eq_false fun z => nif (V.str.inj z)) (iteF ⟨rfl, rfl⟩)⟩, ?_⟩
    rintro σ H7 ⟨rfl, rfl⟩
    by_cases hw : wd = "break"
    · subst hw
      rw [if_pos rfl] at fe
      have hwh : ∃ g ∈ (P2 ++ [{ f with idx := f.idx + 1 }]), g.sg = some ("while" : Str) := by
        rcases hbrk f P2.reverse d rfl (by rw [hb]; rfl) with h | ⟨g, hg, hs⟩
        · cases h
        · rcases List.mem_cons.mp hg with h | h
          · subst h
            exact ⟨{ g with idx := g.idx + 1 }, List.mem_append_right _ List.mem_cons_self, hs⟩
          · exact ⟨g, List.mem_append_left _ (List.mem_reverse.mp h), hs⟩
      refine ⟨fun σ H5 => Same H H5 ∧ ∃ (P3 : List Fr) (v8 : Option V), PileAt K H H5 l P3 ∧ Pok P3.reverse ∧ P3.length ≤ 40 ∧ settle P3.reverse e = follow (f :: P2.reverse) e hh ∧ σ = [some (.ref L), some (.int (pl : Int)), some (.int (e : Int)), some (.bl hh), some (.ref l), some (.ref e'), some (.ref p), some (.str "break"), v8], ⟨_, rfl, rfl, _, rfl, ifT (by decide +kernel) ?_⟩, ?_⟩
      · refine ⟨40, rfl, by decide, by decide, for_range (lo := 0) (n := 40) (fun i σ H5 => Same H H5 ∧ ∃ (P3 : List Fr) (v8 : Option V), PileAt K H H5 l P3 ∧ Pok P3.reverse ∧ P3.length + i ≤ 40 ∧ (∃ g ∈ P3, g.sg = some ("while" : Str)) ∧ breakT P3.reverse e = follow (f :: P2.reverse) e hh ∧ σ = [some (.ref L), some (.int (pl : Int)), some (.int (e : Int)), some (.bl hh), some (.ref l), some (.ref e'), some (.ref p), some (.str "break"), v8])
          ⟨sG, _, none, hset, by rw [List.reverse_append]; exact okn, by rw [List.length_append]; show P2.length + 1 + 0 ≤ 40; omega, hwh, by rw [List.reverse_append]; exact fe.symm, rfl⟩ ?_ ?_⟩
        · rintro i σ H5 hi ⟨sm, P3, v8, hp, ok, hl, hex, eb, rfl⟩
          rcases snoc_cases P3 with rfl | ⟨P4, f4, rfl⟩
          · obtain ⟨g, hg, _⟩ := hex
            exact absurd hg List.not_mem_nil
          obtain ⟨es4, e4, L4, us4, A4, k1, k2, k3, k4, k5, k6, k7, k8, k9, k10⟩ := hp.top
          rw [List.reverse_append] at ok eb
          have ok4 : f4.idx ≤ f4.body.len ∧ (f4.sg = some ("while" : Str) → ∃ g gs, P4.reverse = g :: gs ∧ 1 ≤ g.idx) ∧ Pok P4.reverse := ok
          have eb4 : breakT (f4 :: P4.reverse) e = follow (f :: P2.reverse) e hh := eb
          rw [List.length_append] at hl
          have hl4 : P4.length + 1 + i ≤ 40 := hl
          have edl : ((es4 ++ [e4]).map V.ref).dropLast = es4.map V.ref := by
            rw [List.map_append]
            exact List.dropLast_concat
          have k2' : (upd H5 l (.lst (es4.map V.ref))) e4 = some (.lst [.ref L4, .int (f4.idx : Int), onS f4.sg]) := by rw [upd_ne k9]; exact k2
          have s4 : Same H (upd H5 l (.lst (es4.map V.ref))) := Same.grow k8 sm
          refine ⟨_, rfl, .inl ⟨rfl, _, SqL.of k1⟩, l, _, .ref e4, rfl, rfl, k1, by rw [List.map_append]; simp, ?_⟩
          rw [edl]
          generalize (upd H5 l (.lst (es4.map V.ref))) = H8 at k2' s4 k6 ⊢
          by_cases hs : f4.sg = some ("while" : Str)
          · rw [hs] at k2'
            refine ⟨e4, _, 2, _, rfl, rfl, SqL.of k2', rfl, rfl, _, rfl, ifT (by decide +kernel) ?_⟩
            refine ⟨s4, P4, _, k6, ok4.2.2, by omega, ?_, rfl⟩
            rw [← eb4, breakT, if_pos hs]
          · have ex' : ∃ g ∈ P4, g.sg = some ("while" : Str) := by
              obtain ⟨g, hg, hgs⟩ := hex
              rcases List.mem_append.mp hg with h | h
              · exact ⟨g, h, hgs⟩
              · rw [List.mem_singleton.mp h] at hgs
                exact absurd hgs hs
            have eb5 : breakT P4.reverse e = follow (f :: P2.reverse) e hh := by rw [← eb4, breakT, if_neg hs]
            cases hs2 : f4.sg with
            | none =>
              rw [hs2] at k2'
              exact ⟨e4, _, 2, _, rfl, rfl, SqL.of k2', rfl, rfl, _, rfl, ifF (by decide +kernel) ⟨s4, P4, _, k6, ok4.2.2, by omega, ex', eb5, rfl⟩⟩
            | some sgn =>
              rw [hs2] at k2' hs
              exact ⟨e4, _, 2, _, rfl, rfl, SqL.of k2', rfl, rfl, _, rfl, ifF (decide_eq_false fun h => hs (congrArg some (V.str.inj h))) ⟨s4, P4, _, k6, ok4.2.2, by omega, ex', eb5, rfl⟩⟩
        · rintro σ H5 ⟨sm, P3, v8, hp, ok, hl, ⟨g, hg, _⟩, eb, rfl⟩
          have e0 : P3 = [] := List.length_eq_zero_iff.mp (by omega)
          subst e0
          exact absurd hg List.not_mem_nil
      · rintro σ H5 ⟨a1, P3, v8, a2, a3, a4, a5, rfl⟩
        refine ⟨_, rfl, _, rfl, H, l, e, P3, rfl, a1, a2, a3, a4, fun H' s' => ?_⟩
        rw [a5]
        exact q H' s'
    · rw [if_neg hw] at fe
      refine ⟨fun σ H8 => H8 = H7 ∧ σ = [some (.ref L), some (.int (pl : Int)), some (.int (e : Int)), some (.bl hh), some (.ref l), some (.ref e'), some (.ref p), some (.str wd), none], ⟨_, rfl, rfl, _, rfl, ifF (decide_eq_false fun z => hw (V.str.inj z)) ⟨rfl, rfl⟩⟩, ?_⟩
      rintro σ H8 ⟨rfl, rfl⟩
      refine ⟨_, rfl, _, rfl, H, l, e, _, rfl, sG, hset, by rw [List.reverse_append]; exact okn, by rw [List.length_append]; show P2.length + 1 ≤ 40; omega, fun H' s' => ?_⟩
      have := q H' s'
      rw [fe] at this
      rw [List.reverse_append]
      exact this
  | loop x b r =>
    rw [hb] at hRk
    have fe := fst (.loop x b) (by rw [hb]; rfl)
    dsimp only at fe
    obtain ⟨p, xv, i1, i2, ub, ws, ev, _, h1, ⟨z, y, y2, rfl, g1, _⟩, h3, h4, h5, _⟩ := hRk
    have ev1 := (List.cons.inj ev).1
    rw [ev1]
    have h1' := s1 _ _ h1
    refine ⟨_, rfl, p, _, 1, _, rfl, rfl, SqL.of h1', rfl, z, _, 0, _, rfl, rfl, Same.tup s1 g1, rfl, ?_⟩
    refine ⟨_, rfl, e', _, 1, _, rfl, rfl, SqL.of t2, rfl, _, _, rfl, rfl, _, rfl, e', _, 1, 1, rfl, rfl, t2, rfl, ?_⟩
    have h1G := sG _ _ h1
    have h1s : p ≠ e' := fun z => by rw [z, t7] at h1; cases h1
    refine ⟨_, rfl, rfl, _, rfl, ifF (by decide +kernel) ?_⟩
    refine ⟨fun σ H5 => Same H H5 ∧ ∃ P3 : List Fr, PileAt K H H5 l P3 ∧ Pok P3.reverse ∧ P3.length ≤ 40 ∧ settle P3.reverse e = follow (f :: P2.reverse) e hh ∧ σ = [some (.ref L), some (.int (pl : Int)), some (.int (e : Int)), some (.bl hh), some (.ref l), some (.ref e'), some (.ref p), some (.str "while"), none], ⟨_, rfl, rfl, _, rfl, ifF (by decide +kernel) ⟨_, rfl, rfl, _, rfl, ifT (by decide +kernel) ⟨_, rfl, _, rfl, ?_⟩⟩⟩, ?_⟩
    · cases hh with
      | false =>
        refine iteF ⟨sG, _, hset, by rw [List.reverse_append]; exact okn, by rw [List.length_append]; show P2.length + 1 ≤ 40; omega, ?_, rfl⟩
        rw [fe, List.reverse_append]
        rfl
      | true =>
        refine iteT ⟨_, rfl, .inl ⟨rfl, _, SqL.of hlG⟩, _, rfl, p, _, 2, _, rfl, rfl, SqL.of h1G, rfl, _, rfl, by show 3 ≤ sizeLine; decide, fun en hen => ⟨l, _, _, rfl, rfl, Same.new hen _ _ _ hlG, ?_, ?_⟩⟩
        · rw [List.length_map, List.length_append]
          exact small1000 (by show es'.length + 1 ≤ 1000; omega)
        · have hpush := hset.push (f := ⟨b, f.at0 + f.body.offs f.idx + 1, 0, some ("while" : Str)⟩) (L := i1) (us := ub) (A := A') hlG hen (sG.free hen) h3 h4
          refine ⟨Same.grow t8 (sG.trans (Same.new hen _)), _, hpush, ?_, ?_, ?_, rfl⟩
          · rw [List.reverse_append, List.reverse_append]
            exact ⟨Nat.zero_le _, fun _ => ⟨_, _, rfl, by show 1 ≤ f.idx + 1; omega⟩, okn⟩
          · rw [List.length_append, List.length_append]
            show P2.length + 1 + 1 ≤ 40
            omega
          · rw [fe, List.reverse_append, List.reverse_append]
            rfl
    · rintro σ H5 ⟨a1, P3, a2, a3, a4, a5, rfl⟩
      refine ⟨fun σ H6 => H6 = H5 ∧ σ = [some (.ref L), some (.int (pl : Int)), some (.int (e : Int)), some (.bl hh), some (.ref l), some (.ref e'), some (.ref p), some (.str "while"), none], ⟨_, rfl, rfl, _, rfl, ifF (by decide +kernel) (iteF ⟨rfl, rfl⟩)⟩, ?_⟩
      rintro σ H5 ⟨rfl, rfl⟩
      refine ⟨fun σ H6 => H6 = H5 ∧ σ = [some (.ref L), some (.int (pl : Int)), some (.int (e : Int)), some (.bl hh), some (.ref l), some (.ref e'), some (.ref p), some (.str "while"), none], ⟨_, rfl, rfl, _, rfl, ifF (by decide +kernel) ⟨rfl, rfl⟩⟩, ?_⟩
      rintro σ H6 ⟨rfl, rfl⟩
      refine ⟨_, rfl, _, rfl, H, l, e, P3, rfl, a1, a2, a3, a4, fun H' s' => ?_⟩
      rw [a5]
      exact q H' s'
  | iff x b c r =>
    rw [hb] at hRk
    have fe := fst (.iff x b c) (by rw [hb]; rfl)
    dsimp only at fe
    obtain ⟨p, xv, i1, i2, ub, uc, ws, ev, _, h1, ⟨z, y, y2, y3, rfl, g1, _⟩, h3, h4, h5, h6, _⟩ := hRk
    have ev1 := (List.cons.inj ev).1
    rw [ev1]
    have h1' := s1 _ _ h1
    refine ⟨_, rfl, p, _, 1, _, rfl, rfl, SqL.of h1', rfl, z, _, 0, _, rfl, rfl, Same.tup s1 g1, rfl, ?_⟩
    refine ⟨_, rfl, e', _, 1, _, rfl, rfl, SqL.of t2, rfl, _, _, rfl, rfl, _, rfl, e', _, 1, 1, rfl, rfl, t2, rfl, ?_⟩
    have h1G := sG _ _ h1
    refine ⟨_, rfl, rfl, _, rfl, ifF (by decide +kernel) ?_⟩
    obtain ⟨HG, hHG⟩ : ∃ G, G = upd H1 e' (.lst [.ref L', .int ((f.idx + 1 : Nat) : Int), onS f.sg]) := ⟨_, rfl⟩
    have okp : ∀ (bb : Tr) (st : Nat), Pok ((P2 ++ [{ f with idx := f.idx + 1 }]) ++ [(⟨bb, st, 0, some ("if" : Str)⟩ : Fr)]).reverse := fun bb st => by
      rw [List.reverse_append, List.reverse_append]
      exact ⟨Nat.zero_le _, fun h => absurd h ifwh, okn⟩
    have lnp : ∀ (bb : Tr) (st : Nat), ((P2 ++ [{ f with idx := f.idx + 1 }]) ++ [(⟨bb, st, 0, some ("if" : Str)⟩ : Fr)]).length ≤ 40 := fun bb st => by
      rw [List.length_append, List.length_append]
      show P2.length + 1 + 1 ≤ 40
      omega
    refine ⟨fun σ H5 => Same H H5 ∧ (if hh = true then ∃ P3 : List Fr, PileAt K H H5 l P3 ∧ Pok P3.reverse ∧ P3.length ≤ 40 ∧ settle P3.reverse e = follow (f :: P2.reverse) e hh else H5 = HG) ∧ σ = [some (.ref L), some (.int (pl : Int)), some (.int (e : Int)), some (.bl hh), some (.ref l), some (.ref e'), some (.ref p), some (.str "if"), none], ⟨_, rfl, rfl, _, rfl, ifT (by decide +kernel) (iteT ⟨_, rfl, _, rfl, ?_⟩)⟩, ?_⟩
    · cases hh with
      | false => exact iteF ⟨sG, iteF hHG.symm, rfl⟩
      | true =>
        refine iteT ⟨_, rfl, .inl ⟨rfl, _, SqL.of hlG⟩, _, rfl, p, _, 2, _, rfl, rfl, SqL.of h1G, rfl, _, rfl, by show 3 ≤ sizeLine; decide, fun en hen => ⟨l, _, _, rfl, rfl, Same.new hen _ _ _ hlG, ?_, ?_⟩⟩
        · rw [List.length_map, List.length_append]
          exact small1000 (by show es'.length + 1 ≤ 1000; omega)
        · have hpush := hset.push (f := ⟨b, f.at0 + f.body.offs f.idx + 1, 0, some ("if" : Str)⟩) (L := i1) (us := ub) (A := A') hlG hen (sG.free hen) h3 h4
          refine ⟨Same.grow t8 (sG.trans (Same.new hen _)), ?_, rfl⟩
          rw [if_pos rfl]
          refine ⟨_, hpush, okp _ _, lnp _ _, ?_⟩
          rw [fe, List.reverse_append, List.reverse_append]
          rfl
    · rw [← hHG] at hset sG hlG h1G
      clear hHG
      rintro σ H5 ⟨a1, a2, rfl⟩
      refine ⟨fun σ H6 => Same H H6 ∧ (∃ P3 : List Fr, PileAt K H H6 l P3 ∧ Pok P3.reverse ∧ P3.length ≤ 40 ∧ settle P3.reverse e = follow (f :: P2.reverse) e hh) ∧ σ = [some (.ref L), some (.int (pl : Int)), some (.int (e : Int)), some (.bl hh), some (.ref l), some (.ref e'), some (.ref p), some (.str "if"), none], ⟨_, rfl, rfl, _, rfl, ifT (by decide +kernel) ⟨_, rfl, _, rfl, ?_⟩⟩, ?_⟩
      · cases hh with
        | true =>
          rw [if_pos rfl] at a2
          exact iteF ⟨a1, a2, rfl⟩
        | false =>
          rw [if_neg Bool.false_ne_true] at a2
          subst a2
          refine iteT ⟨_, rfl, .inl ⟨rfl, _, SqL.of hlG⟩, _, rfl, p, _, 3, _, rfl, rfl, SqL.of h1G, rfl, _, rfl, by show 3 ≤ sizeLine; decide, fun en hen => ⟨l, _, _, rfl, rfl, Same.new hen _ _ _ hlG, ?_, ?_⟩⟩
          · rw [List.length_map, List.length_append]
            exact small1000 (by show es'.length + 1 ≤ 1000; omega)
          · have hpush := hset.push (f := ⟨c, f.at0 + f.body.offs f.idx + 1 + b.cnt, 0, some ("if" : Str)⟩) (L := i2) (us := uc) (A := A') hlG hen (sG.free hen) h5 h6
            refine ⟨Same.grow t8 (sG.trans (Same.new hen _)), ⟨_, hpush, okp _ _, lnp _ _, ?_⟩, rfl⟩
            rw [fe, List.reverse_append, List.reverse_append]
            rfl
      · rintro σ H5 ⟨a1, ⟨P3, a2, a3, a4, a5⟩, rfl⟩
        refine ⟨fun σ H6 => H6 = H5 ∧ σ = [some (.ref L), some (.int (pl : Int)), some (.int (e : Int)), some (.bl hh), some (.ref l), some (.ref e'), some (.ref p), some (.str "if"), none], ⟨_, rfl, rfl, _, rfl, ifF (by decide +kernel) ⟨rfl, rfl⟩⟩, ?_⟩
        rintro σ H6 ⟨rfl, rfl⟩
        refine ⟨_, rfl, _, rfl, H, l, e, P3, rfl, a1, a2, a3, a4, fun H' s' => ?_⟩
        rw [a5]
        exact q H' s'
end
def spDu (K : PySem.W.Frag) : Sp := fun vs H Q _ => ∃ (F : Addr) (t : Tr), vs = [.ref F] ∧ FnAt K H F t ∧ t.dep 8 ∧ t.cnt ≤ 400 ∧ t.okB false ∧
  ∀ (z p1 p2 : Addr) (H' : Hp), Same H H' → H' z = some (.tup [.ref p1, .ref p2]) → DT K 10 H' (.ref p1) (.tuple (nodesT t 0 t.cnt none t.cnt)) → DT K 10 H' (.ref p2) (.tuple ((hdsL t.pre 0).map .int)) → Q (.ref z) H'
theorem hds_step {t : Tr} {i : Nat} {w : Str} {x : List PyData} (h : t.pre[i]? = some (.tuple (.str w :: x))) : hdsL (t.pre.take (i + 1)) 0 = hdsL (t.pre.take i) 0 ++ (if w = "while" then [((i : Nat) : Int)] else []) := by
  have hl : i < t.pre.length := (List.getElem?_eq_some_iff.mp h).1
  have e5 : t.pre.take (i + 1) = t.pre.take i ++ [.tuple (.str w :: x)] := by rw [List.take_add_one, h]; rfl
  rw [e5, hdsL_snoc]
  have l5 : (t.pre.take i).length = i := by rw [List.length_take]; omega
  rw [l5, Nat.zero_add]
  congr 1
  show (if decide (w = ("while" : Str)) = true then _ else _) = _
  by_cases h : w = "while"
  · rw [if_pos h, if_pos (decide_eq_true h)]
  · rw [if_neg h, if_neg (by rw [decide_eq_false h]; exact Bool.false_ne_true)]
section
variable {P : Program} {w : World} {K : PySem.W.Frag} {mg : Str → Option Value} {base : Heap}
theorem ok_du (T : Txt w K mg) : FnOk P w K mg base CX0 11 T.a_l_due T.d_l_due p_l_due (spDu K) := by
  have g_l_listed := ok_li (P := P) (w := w) (K := K) (base := base) T 8
  have g_l_pile_at := ok_pa (P := P) (w := w) (K := K) (base := base) T 8
  have g_l_follow := ok_fo (P := P) (w := w) (K := K) (base := base) T
  refine T.F_l_due.ok sc_l_due (fun vs H Q E h => ?_) (fun cdv A outer s H vs Q E hr h => ?_)
  · obtain ⟨F, t, rfl, _⟩ := h
    rfl
  obtain ⟨F, t, rfl, ⟨v0, v1, v2, v3, qa, us, h1, h2, h3⟩, hdd, hc, hok, q⟩ := h
  refine ⟨_, (pss_cons (ps_set (i := 1) sc_l_due.nd rfl (Or.inl rfl) (pe_call g_l_listed (hr.mono (by first | decide | omega)) rfl T.m_l_listed T.F_l_listed.kp T.b_l_listed .nil pass0 (pa_cons (pe_ix ix_tup (pv 0) pe_int (fun _ _ => rfl)) (pa_cons pe_int pa_nil))))
      (pss_cons (ps_set (i := 2) sc_l_due.nd rfl (Or.inl rfl) (pe_lst pa_nil))
      (pss_cons (ps_set (i := 3) sc_l_due.nd rfl (Or.inl rfl) (pe_lst pa_nil))
      (pss_cons (ps_for PassesOwn.never rfl (pi_range1 rfl T.z_range (pa_cons (pe_ix ix_tup (pv 1) pe_int (fun _ _ => rfl)) pa_nil)) (pg_name (i := 4) sc_l_due.nd rfl (Or.inl rfl))
        (pss_cons (ps_set (i := 5) sc_l_due.nd rfl (Or.inl rfl) (pe_ix ix_list (pe_call g_l_pile_at (hr.mono (by first | decide | omega)) rfl T.m_l_pile_at T.F_l_pile_at.kp T.b_l_pile_at .nil pass0 (pa_cons (pe_ix ix_tup (pv 1) pe_int (fun _ _ => rfl)) (pa_cons (pv 4) (pa_cons pe_non pa_nil)))) (pe_un un_neg pe_int) (fun _ _ => rfl)))
      (pss_cons (ps_set (i := 6) sc_l_due.nd rfl (Or.inl rfl) (pe_ix ix_list (pe_ix ix_list (pe_ix ix_list (pv 5) pe_int (fun _ _ => rfl)) (pe_ix ix_list (pv 5) pe_int (fun _ _ => rfl)) (fun _ _ => rfl)) pe_int (fun _ _ => rfl)))
      (pss_cons (ps_set (i := 7) sc_l_due.nd rfl (Or.inl rfl) pe_non)
      (C8.pss_cut (ps_if (pt_cmpR op_eq (pe_ix ix_tup (pv 6) pe_int (fun _ _ => rfl)) pe_str (nomark _)) (pss_one (ps_expr (pe_bm PySem.F.plainAttrs_list PySem.F.slot_list_append PySem.F.type_list_append mt_append (pv 3) (pa_cons (pv 4) pa_nil)))) pss_nil)
      (C8.pss_cut (ps_if (PW.pt (pw_or (pt_cmpR op_eq (pe_ix ix_tup (pv 6) pe_int (fun _ _ => rfl)) pe_str (nomark _)) (pw_or1 (pt_cmpR op_eq (pe_ix ix_tup (pv 6) pe_int (fun _ _ => rfl)) pe_str (nomark _))))) (pss_cons (ps_set (i := 7) sc_l_due.nd rfl (Or.inl rfl) (pe_call g_l_follow (hr.mono (by first | decide | omega)) rfl T.m_l_follow T.F_l_follow.kp T.b_l_follow .nil pass0 (pa_cons (pe_ix ix_tup (pv 1) pe_int (fun _ _ => rfl)) (pa_cons (pv 4) (pa_cons (pe_ix ix_tup (pv 1) pe_int (fun _ _ => rfl)) (pa_cons pe_bl pa_nil))))))
      (pss_one (ps_set (i := 6) sc_l_due.nd rfl (Or.inl rfl) (pe_tup (pa_cons pe_str (pa_cons (pe_ix ix_tup (pv 6) pe_int (fun _ _ => rfl)) pa_nil)))))) pss_nil)
      (C8.pss_cut (ps_if (pt_cmpR op_eq (pe_ix ix_tup (pv 6) pe_int (fun _ _ => rfl)) pe_str (nomark _)) (pss_one (ps_set (i := 6) sc_l_due.nd rfl (Or.inl rfl) (pe_tup (pa_cons pe_str pa_nil)))) pss_nil)
      (pss_one (ps_expr (pe_bm PySem.F.plainAttrs_list PySem.F.slot_list_append PySem.F.type_list_append mt_append (pv 2) (pa_cons (pe_tup (pa_cons (pv 6) (pa_cons (pe_call g_l_follow (hr.mono (by first | decide | omega)) rfl T.m_l_follow T.F_l_follow.kp T.b_l_follow .nil pass0 (pa_cons (pe_ix ix_tup (pv 1) pe_int (fun _ _ => rfl)) (pa_cons (pv 4) (pa_cons (pe_ix ix_tup (pv 1) pe_int (fun _ _ => rfl)) (pa_cons pe_bl pa_nil))))) (pa_cons (pv 7) pa_nil)))) pa_nil)))))))))))
      (pss_one (ps_ret (pe_tup (pa_cons (pe_callTy call_tuple_of rfl T.z_tuple bt_tuple (pa_cons (pv 2) pa_nil)) (pa_cons (pe_callTy call_tuple_of rfl T.z_tuple bt_tuple (pa_cons (pv 3) pa_nil)) pa_nil))))))))), ?_⟩
  refine ⟨_, rfl, F, _, 4, _, rfl, rfl, h1, rfl, qa, us, t, 0, rfl, h2, h3, hdd, hc, fun z0 L rows H1 s1 hz0 hL0 hL hR => ?_⟩
  rw [Nat.zero_add] at hz0
  refine ⟨by show 0 ≤ sizeLine; decide, fun r hr0 => ⟨by show 0 ≤ sizeLine; decide, fun w_ hw0 => ?_⟩⟩
  have nrw : r ≠ w_ := ne_of_none upd_same hw0
  have sr := (Same.new hr0 (.lst [])).trans (Same.new hw0 (.lst []))
  have hw1 : H1 w_ = none := (Same.new hr0 (.lst [])).free hw0
  have hr2 : (upd (upd H1 r (.lst [])) w_ (.lst [])) r = some (.lst []) := by rw [upd_ne nrw, upd_same]
  generalize hN : nodesT t 0 t.cnt none t.cnt = N at q
  have nl : N.length = t.cnt := by rw [← hN]; exact Tr.nodes_len t 0 t.cnt none t.cnt
  have pl := Tr.pre_len t
  refine ⟨_, rfl, z0, _, 1, _, rfl, rfl, SqT.of (sr _ _ hz0), rfl, (t.cnt : Int), rfl, by omega, by omega, for_range (lo := 0) (fun i σ H' => Same H1 H' ∧ (∃ us1 : List V, H' r = some (.lst us1) ∧ DTs K 9 H' us1 (N.take i)) ∧ H' w_ = some (.lst ((hdsL (t.pre.take i) 0).map V.int)) ∧ ∃ v4 v5 v6 v7 : Option V, σ = [some (.ref F), some (.ref z0), some (.ref r), some (.ref w_), v4, v5, v6, v7])
    ⟨sr, ⟨[], hr2, trivial⟩, upd_same, none, none, none, none, rfl⟩ ?_ ?_⟩
  · rintro i σ H' hi ⟨sm, ⟨us1, hr', hu⟩, hw', v4, v5, v6, v7, rfl⟩
    rw [Int.zero_add]
    have hil : i < t.cnt := by omega
    have hmain := pile_main t.cnt t t 0 none 0 0 [] t.cnt none false (by cases t <;> rfl) (by cases t <;> rfl) (by
      conv => rhs; unfold settle
      rw [if_neg (show ¬ t.len < t.len from Nat.lt_irrefl _), if_neg (fun h => nomatch h)]
      rfl) (fun z => nomatch z) hok i (Nat.zero_le _) (by omega)
    have hpok := (pile_ok t t 0 none 0 0 i [] (by cases t <;> rfl) trivial (fun z => nomatch z)).2
    refine ⟨_, rfl, z0, _, 0, _, rfl, rfl, SqT.of (sm _ _ hz0), rfl, _, rfl, H1, L, rows, _, t, 0, i, none, rfl, sm, hL, hR, hdd, hc, fun l H2 s2 hl0 hP => ?_⟩
    rw [Nat.sub_zero, List.append_nil, hN] at hmain
    generalize hPP : pileT t 0 none t 0 0 i = PP at hP hmain hpok
    rcases snoc_cases PP with rfl | ⟨P2, f, rfl⟩
    · exact absurd rfl hmain.1
    rw [List.reverse_append] at hmain hpok
    have eqr : ([f].reverse ++ P2.reverse) = f :: P2.reverse := rfl
    rw [eqr] at hmain hpok
    obtain ⟨_, mpre, mnod⟩ := hmain
    have okt : f.idx + 1 ≤ f.body.len := hpok f P2.reverse rfl
    obtain ⟨es', e', L', us', A', t1, t2, t3, t4, _, _, _, _, _, _⟩ := hP.top
    have ul := t4.len
    have hfl : f.idx < us'.length := by omega
    have hRk := RowsAt.drop f.idx t4
    rw [List.drop_eq_getElem_cons hfl] at hRk
    have sm2 := sm.trans s2
    have hr2' := s2 _ _ hr'
    have hw2' := s2 _ _ hw'
    have hu2 := hu.keep (Keeps.of_same s2)
    have ulen := hu.len
    have tk : (N.take i).length ≤ N.length := List.length_take_le' _ _
    have hdl := hdsL_len (t.pre.take i) 0
    have tk2 : (t.pre.take i).length ≤ t.pre.length := List.length_take_le' _ _
    refine ⟨_, rfl, l, _, _, _, rfl, rfl, SqL.of t1, by rw [List.map_append]; exact at_last, ?_⟩
    refine ⟨_, rfl, e', _, 0, _, rfl, rfl, SqL.of t2, rfl, _, rfl, e', _, 1, _, rfl, rfl, SqL.of t2, rfl, L', us', (f.idx : Int), _, rfl, rfl, SqL.of (sm2 _ _ t3), atI_nat (List.getElem?_eq_getElem hfl), ?_⟩
    have T2 : ∀ {w z : Str}, decide (V.str w = V.str z) = true → w = z := fun h => V.str.inj (of_decide_eq_true h)
    have T1 : ∀ {w z : Str}, ¬ (decide (V.str w = V.str z) = true) → w ≠ z := fun h e => h (decide_eq_true (congrArg V.str e))
    -- the end of a turn
    have fin : ∀ (H5 : Hp) (st : V) (sd : PyData) (nx : Nat) (ot : Option Nat) (v5 v6 v7 : Option V) (hd' : List Int), Same H1 H5 → H5 r = some (.lst us1) → DTs K 9 H5 us1 (N.take i) → H5 w_ = some (.lst (hd'.map V.int)) → hd' = hdsL (t.pre.take (i + 1)) 0 → DT K 8 H5 st sd → N[i]? = some (nodeD sd (some nx) ot) →
        3 ≤ sizeLine ∧ ∀ p : Addr, H5 p = none → ∃ l xs x, V.ref r = .ref l ∧ [V.ref p] = [x] ∧ (upd H5 p (.tup [st, .int (nx : Int), onV ot])) l = some (.lst xs) ∧ xs.length < sizeLine ∧
          (Same H1 (upd (upd H5 p (.tup [st, .int (nx : Int), onV ot])) l (.lst (xs ++ [x]))) ∧ (∃ us1 : List V, (upd (upd H5 p (.tup [st, .int (nx : Int), onV ot])) l (.lst (xs ++ [x]))) r = some (.lst us1) ∧ DTs K 9 (upd (upd H5 p (.tup [st, .int (nx : Int), onV ot])) l (.lst (xs ++ [x]))) us1 (N.take (i + 1))) ∧
            (upd (upd H5 p (.tup [st, .int (nx : Int), onV ot])) l (.lst (xs ++ [x]))) w_ = some (.lst ((hdsL (t.pre.take (i + 1)) 0).map V.int)) ∧ ∃ w4 w5 w6 w7 : Option V, ([some (.ref F), some (.ref z0), some (.ref r), some (.ref w_), some (.int (i : Int)), v5, v6, v7] : List (Option V)) = [some (.ref F), some (.ref z0), some (.ref r), some (.ref w_), w4, w5, w6, w7]) := by
      intro H5 st sd nx ot v5 v6 v7 hd' a1 a2 a3 a4 a5 a6 a7
      refine ⟨by decide, fun p hp => ?_⟩
      have sp := Same.new hp (.tup [st, .int (nx : Int), onV ot])
      have hrp := sp _ _ a2
      have kl := keep_lst (K := K) (o := .lst (us1 ++ [.ref p])) hrp
      have e1 : N.take (i + 1) = N.take i ++ [nodeD sd (some nx) ot] := by rw [List.take_add_one, a7]; rfl
      refine ⟨r, us1, .ref p, rfl, rfl, hrp, small1000 (by omega), Same.grow hr0 (a1.trans sp), ⟨us1 ++ [.ref p], upd_same, ?_⟩, ?_, _, _, _, _, rfl⟩
      · rw [e1]
        refine DTs.app ((a3.keep (Keeps.of_same sp)).keep kl) ⟨?_, trivial⟩
        exact (node_at (n := 7) (a := some nx) (b := ot) (SqT.of upd_same) ((a6.keep (Keeps.of_same sp)))).keep kl
      · rw [upd_ne nrw.symm, ← a5]
        exact sp _ _ a4
    cases hb : f.body.drop f.idx with
    | nil =>
      rw [hb] at hRk
      cases hRk
    | leaf wd d rr =>
      rw [hb] at hRk
      obtain ⟨p, xv, i1, i2, ws, ev, _, g1, ⟨z, xs, rfl, k1, k2, k3⟩, _, _, ⟨nif, nwh⟩, _⟩ := hRk
      rw [(List.cons.inj ev).1]
      have mp : t.pre[i]? = some (.tuple (.str wd :: d)) := by rw [mpre]; show some (hdD (hd (f.body.drop f.idx))) = _; rw [hb]; rfl
      have hs := hds_step mp
      rw [if_neg nwh, List.append_nil] at hs
      have k1' := Same.tup sm2 k1
      have mn : N[i]? = some (if wd = "break" then nodeD (.tuple [.str "go"]) (some (follow (f :: P2.reverse) t.cnt true)) none else nodeD (.tuple (.str wd :: d)) (some (follow (f :: P2.reverse) t.cnt true)) none) := by
        rw [mnod]
        unfold rowD
        dsimp only
        rw [hb]
        rfl
      refine ⟨p, _, 1, _, rfl, rfl, SqL.of (sm2 _ _ g1), rfl, ?_⟩
      refine ⟨fun σ H3 => H3 = H2 ∧ σ = [some (.ref F), some (.ref z0), some (.ref r), some (.ref w_), some (.int (i : Int)), some (.ref e'), some (.ref z), some .non], ⟨_, rfl, z, _, 0, _, rfl, rfl, k1', at0, rfl, _, rfl, ifF (decide_eq_false fun h => nwh (V.str.inj h)) ⟨rfl, rfl⟩⟩, ?_⟩
      rintro σ H3 ⟨rfl, rfl⟩
      refine ⟨fun σ H4 => H4 = H3 ∧ σ = [some (.ref F), some (.ref z0), some (.ref r), some (.ref w_), some (.int (i : Int)), some (.ref e'), some (.ref z), some .non], ⟨_, rfl, z, _, 0, _, rfl, rfl, k1', at0, rfl, _, rfl, ifF (decide_eq_false fun h => nif (V.str.inj h)) ⟨_, rfl, z, _, 0, _, rfl, rfl, k1', at0, rfl, _, rfl, ifF (decide_eq_false fun h => nwh (V.str.inj h)) ⟨rfl, rfl⟩⟩⟩, ?_⟩
      rintro σ H4 ⟨rfl, rfl⟩
      have dz : DT K 8 H4 (.ref z) (.tuple (.str wd :: d)) := (DT.tup (n := 6) (ds := .str wd :: d) k1' ⟨⟨.str _, trivial⟩, k2.keep (Keeps.of_same sm2)⟩ (by show d.length + 1 ≤ 1000; omega)).up (by decide)
      refine ⟨fun σ H5 => ∃ (st : V) (sd : PyData), Same H1 H5 ∧ H5 r = some (.lst us1) ∧ DTs K 9 H5 us1 (N.take i) ∧ H5 w_ = some (.lst ((hdsL (t.pre.take i) 0).map V.int)) ∧ DT K 8 H5 st sd ∧ N[i]? = some (nodeD sd (some (follow (f :: P2.reverse) t.cnt true)) none) ∧ σ = [some (.ref F), some (.ref z0), some (.ref r), some (.ref w_), some (.int (i : Int)), some (.ref e'), some st, some .non], ⟨_, rfl, z, _, 0, _, rfl, rfl, k1', at0, rfl, _, rfl, ite2 (fun c => ⟨by show 1 ≤ sizeLine; decide, fun u hu => ?_⟩) (fun c => ?_)⟩, ?_⟩
      · rw [if_pos (T2 c)] at mn
        have su := Same.new hu (.tup [.str "go"])
        exact ⟨.ref u, .tuple [.str "go"], sm2.trans su, su _ _ hr2', hu2.keep (Keeps.of_same su), su _ _ hw2', DT.tup (n := 7) (ds := [.str "go"]) (SqT.of upd_same) ⟨⟨.str _, trivial⟩, trivial⟩ (by decide), mn, rfl⟩
      · rw [if_neg (T1 c)] at mn
        exact ⟨.ref z, _, sm2, hr2', hu2, hw2', dz, mn, rfl⟩
      rintro σ H5 ⟨st, sd, a1, a2, a3, a4, a5, a6, rfl⟩
      refine ⟨_, rfl, .inl ⟨rfl, _, SqL.of a2⟩, _, rfl, _, rfl, z0, _, 0, _, rfl, rfl, SqT.of (a1 _ _ hz0), rfl, _, rfl, _, rfl, z0, _, 1, _, rfl, rfl, SqT.of (a1 _ _ hz0), rfl, L, rows, _, t, i, t.cnt, true, rfl, a1 _ _ hL, RowsAt.same a1 hR, hdd, hc, hok, hil, fun H6 s6 => ?_⟩
      rw [hPP, List.reverse_append]
      exact ⟨_, rfl, fin H6 st sd _ none _ _ _ _ (a1.trans s6) (s6 _ _ a2) (a3.keep (Keeps.of_same s6)) (s6 _ _ a4) hs.symm (a5.keep (Keeps.of_same s6)) a6⟩
    | loop x b rr =>
      rw [hb] at hRk
      obtain ⟨p, xv, i1, i2, ub, ws, ev, _, g1, ⟨z, y, y2, rfl, k1, k2⟩, _⟩ := hRk
      rw [(List.cons.inj ev).1]
      have mp : t.pre[i]? = some (.tuple (.str "while" :: [x, .tuple b.enc])) := by rw [mpre]; show some (hdD (hd (f.body.drop f.idx))) = _; rw [hb]; rfl
      have hs := hds_step mp
      rw [if_pos rfl] at hs
      have k1' := Same.tup sm2 k1
      have mn : N[i]? = some (nodeD (testD x) (some (follow (f :: P2.reverse) t.cnt true)) (some (follow (f :: P2.reverse) t.cnt false))) := by
        rw [mnod]
        unfold rowD
        dsimp only
        rw [hb]
        rfl
      refine ⟨p, _, 1, _, rfl, rfl, SqL.of (sm2 _ _ g1), rfl, ?_⟩
      refine ⟨fun σ H3 => Same H1 H3 ∧ H3 r = some (.lst us1) ∧ DTs K 9 H3 us1 (N.take i) ∧ H3 w_ = some (.lst ((hdsL (t.pre.take (i + 1)) 0).map V.int)) ∧ σ = [some (.ref F), some (.ref z0), some (.ref r), some (.ref w_), some (.int (i : Int)), some (.ref e'), some (.ref z), some .non], ⟨_, rfl, z, _, 0, _, rfl, rfl, k1', rfl, rfl, _, rfl, ifT (by decide +kernel) ⟨_, rfl, .inl ⟨rfl, _, SqL.of hw2'⟩, _, rfl, w_, _, _, rfl, rfl, hw2', by rw [List.length_map]; exact small1000 (by omega), ?_⟩⟩, ?_⟩
      · refine ⟨Same.grow hw1 sm2, by rw [upd_ne nrw]; exact hr2', hu2.keep (keep_lst hw2'), ?_, rfl⟩
        rw [upd_same, hs, List.map_append]
        rfl
      rintro σ H3 ⟨a1, a2, a3, a4, rfl⟩
      have k3 := Same.tup a1 k1
      refine ⟨fun σ H5 => ∃ (u : Addr) (yv : V), Same H1 H5 ∧ H5 r = some (.lst us1) ∧ DTs K 9 H5 us1 (N.take i) ∧ H5 w_ = some (.lst ((hdsL (t.pre.take (i + 1)) 0).map V.int)) ∧ SqT K H5 u [.str "test", yv] ∧ DT K 8 H5 (.ref u) (testD x) ∧ σ = [some (.ref F), some (.ref z0), some (.ref r), some (.ref w_), some (.int (i : Int)), some (.ref e'), some (.ref u), some (.int (follow (f :: P2.reverse) t.cnt false : Nat))], ⟨_, rfl, z, _, 0, _, rfl, rfl, k3, rfl, rfl, _, rfl, ifF (by decide +kernel) ⟨_, rfl, z, _, 0, _, rfl, rfl, k3, rfl, rfl, _, rfl, ifT (by decide +kernel) ?_⟩⟩, ?_⟩
      · refine ⟨_, rfl, z0, _, 0, _, rfl, rfl, SqT.of (a1 _ _ hz0), rfl, _, rfl, _, rfl, z0, _, 1, _, rfl, rfl, SqT.of (a1 _ _ hz0), rfl, L, rows, _, t, i, t.cnt, false, rfl, a1 _ _ hL, RowsAt.same a1 hR, hdd, hc, hok, hil, fun H6 s6 => ?_⟩
        rw [hPP, List.reverse_append]
        have k6 := Same.tup s6 k3
        refine ⟨_, rfl, z, _, 1, _, rfl, rfl, k6, rfl, by show 2 ≤ sizeLine; decide, fun u hu => ?_⟩
        have su := Same.new hu (.tup [.str "test", y])
        have s7 := s6.trans su
        exact ⟨u, y, a1.trans s7, s7 _ _ a2, a3.keep (Keeps.of_same s7), s7 _ _ a4, SqT.of upd_same, test_at (n := 6) (SqT.of upd_same) ((k2.keep (Keeps.of_same (a1.trans s7))).up (by decide)), rfl⟩
      rintro σ H5 ⟨u, yv, a1, a2, a3, a4, a5, a6, rfl⟩
      refine ⟨fun σ H6 => H6 = H5 ∧ σ = [some (.ref F), some (.ref z0), some (.ref r), some (.ref w_), some (.int (i : Int)), some (.ref e'), some (.ref u), some (.int (follow (f :: P2.reverse) t.cnt false : Nat))], ⟨_, rfl, u, _, 0, _, rfl, rfl, a5, rfl, rfl, _, rfl, ifF (by decide +kernel) ⟨rfl, rfl⟩⟩, ?_⟩
      rintro σ H6 ⟨rfl, rfl⟩
      refine ⟨_, rfl, .inl ⟨rfl, _, SqL.of a2⟩, _, rfl, _, rfl, z0, _, 0, _, rfl, rfl, SqT.of (a1 _ _ hz0), rfl, _, rfl, _, rfl, z0, _, 1, _, rfl, rfl, SqT.of (a1 _ _ hz0), rfl, L, rows, _, t, i, t.cnt, true, rfl, a1 _ _ hL, RowsAt.same a1 hR, hdd, hc, hok, hil, fun H6 s6 => ?_⟩
      rw [hPP, List.reverse_append]
      exact ⟨_, rfl, fin H6 (.ref u) (testD x) _ (some (follow (f :: P2.reverse) t.cnt false)) _ _ _ _ (a1.trans s6) (s6 _ _ a2) (a3.keep (Keeps.of_same s6)) (s6 _ _ a4) rfl (a6.keep (Keeps.of_same s6)) mn⟩
    | iff x b c rr =>
      rw [hb] at hRk
      obtain ⟨p, xv, i1, i2, ub, uc, ws, ev, _, g1, ⟨z, y, y2, y3, rfl, k1, k2⟩, _⟩ := hRk
      rw [(List.cons.inj ev).1]
      have mp : t.pre[i]? = some (.tuple (.str "if" :: [x, .tuple b.enc, .tuple c.enc])) := by rw [mpre]; show some (hdD (hd (f.body.drop f.idx))) = _; rw [hb]; rfl
      have hs := hds_step mp
      rw [if_neg (by decide +kernel), List.append_nil] at hs
      have k1' := Same.tup sm2 k1
      have mn : N[i]? = some (nodeD (testD x) (some (follow (f :: P2.reverse) t.cnt true)) (some (follow (f :: P2.reverse) t.cnt false))) := by
        rw [mnod]
        unfold rowD
        dsimp only
        rw [hb]
        rfl
      refine ⟨p, _, 1, _, rfl, rfl, SqL.of (sm2 _ _ g1), rfl, ?_⟩
      refine ⟨fun σ H3 => Same H1 H3 ∧ H3 r = some (.lst us1) ∧ DTs K 9 H3 us1 (N.take i) ∧ H3 w_ = some (.lst ((hdsL (t.pre.take (i + 1)) 0).map V.int)) ∧ σ = [some (.ref F), some (.ref z0), some (.ref r), some (.ref w_), some (.int (i : Int)), some (.ref e'), some (.ref z), some .non], ⟨_, rfl, z, _, 0, _, rfl, rfl, k1', rfl, rfl, _, rfl, ifF (by decide +kernel) ⟨sm2, hr2', hu2, by rw [hs]; exact hw2', rfl⟩⟩, ?_⟩
      rintro σ H3 ⟨a1, a2, a3, a4, rfl⟩
      have k3 := Same.tup a1 k1
      refine ⟨fun σ H5 => ∃ (u : Addr) (yv : V), Same H1 H5 ∧ H5 r = some (.lst us1) ∧ DTs K 9 H5 us1 (N.take i) ∧ H5 w_ = some (.lst ((hdsL (t.pre.take (i + 1)) 0).map V.int)) ∧ SqT K H5 u [.str "test", yv] ∧ DT K 8 H5 (.ref u) (testD x) ∧ σ = [some (.ref F), some (.ref z0), some (.ref r), some (.ref w_), some (.int (i : Int)), some (.ref e'), some (.ref u), some (.int (follow (f :: P2.reverse) t.cnt false : Nat))], ⟨_, rfl, z, _, 0, _, rfl, rfl, k3, rfl, rfl, _, rfl, ifT (by decide +kernel) (iteT ?_)⟩, ?_⟩
      · refine ⟨_, rfl, z0, _, 0, _, rfl, rfl, SqT.of (a1 _ _ hz0), rfl, _, rfl, _, rfl, z0, _, 1, _, rfl, rfl, SqT.of (a1 _ _ hz0), rfl, L, rows, _, t, i, t.cnt, false, rfl, a1 _ _ hL, RowsAt.same a1 hR, hdd, hc, hok, hil, fun H6 s6 => ?_⟩
        rw [hPP, List.reverse_append]
        have k6 := Same.tup s6 k3
        refine ⟨_, rfl, z, _, 1, _, rfl, rfl, k6, rfl, by show 2 ≤ sizeLine; decide, fun u hu => ?_⟩
        have su := Same.new hu (.tup [.str "test", y])
        have s7 := s6.trans su
        exact ⟨u, y, a1.trans s7, s7 _ _ a2, a3.keep (Keeps.of_same s7), s7 _ _ a4, SqT.of upd_same, test_at (n := 6) (SqT.of upd_same) ((k2.keep (Keeps.of_same (a1.trans s7))).up (by decide)), rfl⟩
      rintro σ H5 ⟨u, yv, a1, a2, a3, a4, a5, a6, rfl⟩
      refine ⟨fun σ H6 => H6 = H5 ∧ σ = [some (.ref F), some (.ref z0), some (.ref r), some (.ref w_), some (.int (i : Int)), some (.ref e'), some (.ref u), some (.int (follow (f :: P2.reverse) t.cnt false : Nat))], ⟨_, rfl, u, _, 0, _, rfl, rfl, a5, rfl, rfl, _, rfl, ifF (by decide +kernel) ⟨rfl, rfl⟩⟩, ?_⟩
      rintro σ H6 ⟨rfl, rfl⟩
      refine ⟨_, rfl, .inl ⟨rfl, _, SqL.of a2⟩, _, rfl, _, rfl, z0, _, 0, _, rfl, rfl, SqT.of (a1 _ _ hz0), rfl, _, rfl, _, rfl, z0, _, 1, _, rfl, rfl, SqT.of (a1 _ _ hz0), rfl, L, rows, _, t, i, t.cnt, true, rfl, a1 _ _ hL, RowsAt.same a1 hR, hdd, hc, hok, hil, fun H6 s6 => ?_⟩
      rw [hPP, List.reverse_append]
      exact ⟨_, rfl, fin H6 (.ref u) (testD x) _ (some (follow (f :: P2.reverse) t.cnt false)) _ _ _ _ (a1.trans s6) (s6 _ _ a2) (a3.keep (Keeps.of_same s6)) (s6 _ _ a4) rfl (a6.keep (Keeps.of_same s6)) mn⟩
  · rintro σ H' ⟨sm, ⟨us1, hr', hu⟩, hw', v4, v5, v6, v7, rfl⟩
    have e1 : (t.cnt : Int).toNat = t.cnt := Int.toNat_natCast _
    rw [e1] at hu hw'
    rw [← nl, List.take_length] at hu
    rw [← pl, List.take_length] at hw'
    have hl := hdsL_len t.pre 0
    refine ⟨_, rfl, r, us1, rfl, .inl ⟨SqL.of hr', fun p1 hp1 => ?_⟩⟩
    have s1' := Same.new hp1 (.tup us1)
    refine ⟨_, rfl, w_, _, rfl, .inl ⟨SqL.of (s1' _ _ hw'), fun p2 hp2 => ⟨by show 2 ≤ sizeLine; decide, fun z hz => ?_⟩⟩⟩
    have s2' := Same.new hp2 (.tup ((hdsL t.pre 0).map V.int))
    have s3' := Same.new hz (.tup [.ref p1, .ref p2])
    refine q z p1 p2 _ (((s1.trans sm).trans s1').trans (s2'.trans s3')) upd_same (DT.tup (n := 9) (Same.tup (s2'.trans s3') (SqT.of upd_same)) (hu.keep (Keeps.of_same (s1'.trans (s2'.trans s3')))) (by omega)) (DT.tup (n := 9) (Same.tup s3' (SqT.of upd_same)) (ints_dt _) (by rw [List.length_map]; omega))
end
/-! ### the draws -/
def NmAt (H : Hp) (p : Addr) (zs : List Str) : Prop := H p = some (.lst (zs.map V.str)) ∧ zs.length = 20
theorem lst_ne {H : Hp} {a ln : Addr} {nz : List Str} (hs : Src H a) (h : H ln = some (.lst (nz.map V.str))) : ln ≠ a := by
  obtain ⟨c, m, k, hs⟩ := hs
  exact ne_of h hs (by
    intro z
    have z' := HO.lst.inj z
    cases nz with
    | nil => cases z'
    | cons x r =>
      have z2 := (List.cons.inj z').1
      cases z2)
theorem NmAt.stp {H H' : Hp} {a p : Addr} {zs : List Str} (h : NmAt H p zs) (hs : Src H a) (s : Stp a H H') : NmAt H' p zs := ⟨s.k _ _ (lst_ne hs h.1) h.1, h.2⟩
theorem NmAt.get {H : Hp} {p : Addr} {zs : List Str} (h : NmAt H p zs) {i : Nat} (hi : i < 20) : ∃ z, atI (zs.map V.str) (i : Int) = some (.str z) := by
  have hl : i < (zs.map V.str).length := by rw [List.length_map, h.2]; exact hi
  have e := atI_nat (xs := zs.map V.str) (List.getElem?_eq_getElem hl)
  rw [List.getElem_map] at e
  exact ⟨_, e⟩
def kNm : Key := Sum.inr "names"
def kLf : Key := Sum.inr "left"
def kRs : Key := Sum.inr "result"
def kSh : Key := Sum.inr "share"
theorem DGet.at {H : Hp} {d : Addr} {kvs : List (Key × V)} {k : Key} {v : V} (h : H d = some (.dK kvs)) (e : valV kvs k = some v) : DGet H d (kV k) (some v) := by
  rw [← e]
  exact DGet.k (k := k) h
/-- the world: its names, whether there is a result, the share of ifs and whiles, how many statements are left -/
def Wm (H : Hp) (d p : Addr) (zs : List Str) (res : Bool) (sh n : Int) : Prop := ∃ kvs : List (Key × V), H d = some (.dK kvs) ∧ valV kvs kNm = some (.ref p) ∧ valV kvs kLf = some (.int n) ∧ valV kvs kRs = some (.bl res) ∧ valV kvs kSh = some (.int sh) ∧ NmAt H p zs ∧ kvs.length ≤ 10
section
variable {H H' H2 : Hp} {a d p : Addr} {zs : List Str} {res : Bool} {sh n m : Int}
theorem Wm.ne (h : Wm H d p zs res sh n) (hs : Src H a) : d ≠ a := by
  obtain ⟨kvs, h1, _⟩ := h
  obtain ⟨c, m, k, hs⟩ := hs
  exact ne_of h1 hs (by intro z; cases z)
theorem Wm.stp (h : Wm H d p zs res sh n) (hs : Src H a) (s : Stp a H H') : Wm H' d p zs res sh n := by
  have nd := h.ne hs
  obtain ⟨kvs, h1, h2, h3, h4, h5, h6, h7⟩ := h
  exact ⟨kvs, s.k _ _ nd h1, h2, h3, h4, h5, h6.stp hs s, h7⟩
theorem putK_len {kvs : List (Key × V)} {k : Key} {v y : V} (h : valV kvs k = some v) : (putK kvs k y).length = kvs.length := by
  have e : (kvs.any fun kv => decide (kv.1 = k)) = true := by rw [valV_any, h]; rfl
  unfold putK
  rw [if_pos e, List.length_map]
/-- a source and the world's count of statements may have changed, nothing else -/
structure Stq (a d : Addr) (n : Int) (H H' : Hp) : Prop where
  s : Src H' a
  k : ∀ b o, b ≠ a → b ≠ d → H b = some o → H' b = some o
  w : ∀ kvs m, H d = some (.dK kvs) → valV kvs kLf = some (.int m) → ∃ kvs', H' d = some (.dK kvs') ∧ kvs'.length = kvs.length ∧ (∀ j, j ≠ kLf → valV kvs' j = valV kvs j) ∧ valV kvs' kLf = some (.int n)
theorem Wm.stq (h : Wm H d p zs res sh m) (hs : Src H a) (s : Stq a d n H H') : Wm H' d p zs res sh n := by
  obtain ⟨kvs, h1, h2, h3, h4, h5, h6, h7⟩ := h
  obtain ⟨kvs', k1, k2, k3, k4⟩ := s.w _ _ h1 h3
  have n2 := lst_ne hs h6.1
  have n3 : p ≠ d := ne_of h6.1 h1 (by intro z; cases z)
  refine ⟨kvs', k1, ?_, k4, ?_, ?_, ⟨s.k _ _ n2 n3 h6.1, h6.2⟩, by omega⟩
  · rw [k3 _ (by decide +kernel)]; exact h2
  · rw [k3 _ (by decide +kernel)]; exact h4
  · rw [k3 _ (by decide +kernel)]; exact h5
theorem Stq.refl (hs : Src H a) (h : Wm H d p zs res sh n) : Stq a d n H H := ⟨hs, fun _ _ _ _ e => e, fun kvs m e1 e2 => ⟨kvs, e1, rfl, fun _ _ => rfl, by
  obtain ⟨kvs', h1, h2, h3, _⟩ := h
  rw [h1] at e1
  have := Option.some.inj e1
  cases this
  exact h3⟩⟩
theorem Stq.stp (nd : d ≠ a) (x : Stq a d n H H') (y : Stp a H' H2) : Stq a d n H H2 := ⟨y.s, fun b o h1 h2 e => y.k b o h1 (x.k b o h1 h2 e), fun kvs m e1 e2 => by
  obtain ⟨kvs', k1, k2⟩ := x.w kvs m e1 e2
  exact ⟨kvs', y.k _ _ nd k1, k2⟩⟩
theorem Stq.trans (x : Stq a d n H H') (y : Stq a d m H' H2) : Stq a d m H H2 := ⟨y.s, fun b o h1 h2 e => y.k b o h1 h2 (x.k b o h1 h2 e), fun kvs m e1 e2 => by
  obtain ⟨kvs', k1, k2, k3, k4⟩ := x.w kvs m e1 e2
  obtain ⟨kvs2, j1, j2, j3, j4⟩ := y.w kvs' _ k1 k4
  exact ⟨kvs2, j1, j2.trans k2, fun j hj => (j3 j hj).trans (k3 j hj), j4⟩⟩
theorem Stq.new {q : Addr} {o : HO} (x : Stq a d n H H') (h : H' q = none) : Stq a d n H (upd H' q o) := ⟨(Stp.of_same x.s (Same.new h o)).s, fun b u h1 h2 e => Same.new h o _ _ (x.k b u h1 h2 e), fun kvs m e1 e2 => by
  obtain ⟨kvs', k1, k2⟩ := x.w kvs m e1 e2
  exact ⟨kvs', Same.new h o _ _ k1, k2⟩⟩
theorem Stq.put {kvs : List (Key × V)} (nd : d ≠ a) (x : Stq a d n H H') (h : H' d = some (.dK kvs)) (hv : valV kvs kLf = some (.int n)) : Stq a d m H (upd H' d (.dK (putK kvs kLf (.int m)))) := ⟨by
  obtain ⟨c, m, k, h⟩ := x.s
  exact ⟨c, m, k, by rw [upd_ne nd.symm]; exact h⟩, fun b u h1 h2 e => by
  rw [upd_ne h2]
  exact x.k b u h1 h2 e, fun kv0 m0 e1 e2 => by
  obtain ⟨kvs', k1, k2, k3, k4⟩ := x.w kv0 m0 e1 e2
  rw [h] at k1
  have := Option.some.inj k1
  cases this
  refine ⟨_, upd_same, (putK_len hv).trans k2, fun j hj => ?_, ?_⟩
  · rw [valV_put, if_neg hj]
    exact k3 j hj
  · rw [valV_put, if_pos rfl]⟩
theorem Stq.keeps {K : PySem.W.Frag} (hs : Src H a) (hw : Wm H d p zs res sh m) (x : Stq a d n H H') : Keeps K H H' := fun q xs h => by
  obtain ⟨c, mm, kk, hs⟩ := hs
  obtain ⟨kvs, h1, _⟩ := hw
  rcases h with (h | ⟨o, h⟩) | h
  · exact .inl (.inl (x.k _ _ (ne_of h hs (by intro z; cases z)) (ne_of h h1 (by intro z; cases z)) h))
  · exact .inl (.inr ⟨o, x.k _ _ (ne_of h hs (by intro z; cases z)) (ne_of h h1 (by intro z; cases z)) h⟩)
  · exact .inr h
end
def spNu (K : PySem.W.Frag) : Sp := fun vs H Q _ => ∃ (a p : Addr) (zs : List Str), vs = [.ref a, .ref p] ∧ Src H a ∧ NmAt H p zs ∧ ∀ (v : V) (d : PyData) (H' : Hp), Stp a H H' → DT K 3 H' v d → Q v H'
def spTr (K : PySem.W.Frag) : Sp := fun vs H Q _ => ∃ (a p : Addr) (zs : List Str), vs = [.ref a, .ref p] ∧ Src H a ∧ NmAt H p zs ∧ ∀ (v : V) (d : PyData) (H' : Hp), Stp a H H' → DT K 4 H' v d → Q v H'
def spLf (K : PySem.W.Frag) : Sp := fun vs H Q _ => ∃ (a d p : Addr) (zs : List Str) (res : Bool) (sh n : Int) (lp : Bool), vs = [.ref a, .ref d, .bl lp] ∧ Src H a ∧ Wm H d p zs res sh n ∧
  ∀ (v : V) (t : Tr) (H' : Hp), Stp a H H' → TrL K H' t [v] → t.cnt = 1 → (∀ m, t.dep m) → t.okB lp → Q v H'
theorem sD {K : PySem.W.Frag} {n : Nat} {H : Hp} (z : Str) : DT K (n + 1) H (.str z) (.str z) := ⟨.str _, trivial⟩
theorem iD {K : PySem.W.Frag} {n : Nat} {H : Hp} (z : Int) : DT K (n + 1) H (.int z) (.int z) := ⟨.int _, trivial⟩
theorem bD {K : PySem.W.Frag} {n : Nat} {H : Hp} (z : Bool) : DT K (n + 1) H (.bl z) (.bool z) := ⟨.bl _, trivial⟩
theorem t1D {K : PySem.W.Frag} {n : Nat} {H : Hp} {p : Addr} {x : V} {d : PyData} (h : SqT K H p [x]) (q : DT K n H x d) : DT K (n + 1) H (.ref p) (.tuple [d]) := DT.tup h ⟨q, trivial⟩ (by show 1 ≤ 1000; decide)
theorem t2D {K : PySem.W.Frag} {n : Nat} {H : Hp} {p : Addr} {x y : V} {d e : PyData} (h : SqT K H p [x, y]) (q : DT K n H x d) (r : DT K n H y e) : DT K (n + 1) H (.ref p) (.tuple [d, e]) := DT.tup h ⟨q, r, trivial⟩ (by show 2 ≤ 1000; decide)
theorem t3D {K : PySem.W.Frag} {n : Nat} {H : Hp} {p : Addr} {x y z : V} {d e f : PyData} (h : SqT K H p [x, y, z]) (q : DT K n H x d) (r : DT K n H y e) (s : DT K n H z f) : DT K (n + 1) H (.ref p) (.tuple [d, e, f]) := DT.tup h ⟨q, r, s, trivial⟩ (by show 3 ≤ 1000; decide)
section
variable {P : Program} {w : World} {K : PySem.W.Frag} {mg : Str → Option Value} {base : Heap}
theorem ok_nu (T : Txt w K mg) : FnOk P w K mg base CX0 3 T.a_l_number T.d_l_number p_l_number (spNu K) := by
  have g_l_pick := ok_l_pick (P := P) (w := w) (base := base) T
  have g_l_one := ok_l_one (P := P) (w := w) (K := K) (base := base) T
  refine T.F_l_number.ok sc_l_number (fun vs H Q E h => ?_) (fun cdv A outer s H vs Q E hr h => ?_)
  · obtain ⟨a, p, zs, rfl, _⟩ := h
    rfl
  obtain ⟨a, p, zs, rfl, hS, hN, q⟩ := h
  refine ⟨_, (pss_cons (ps_set (i := 2) sc_l_number.nd rfl (Or.inl rfl) (pe_call g_l_pick (hr.mono (by first | decide | omega)) rfl T.m_l_pick T.F_l_pick.kp T.b_l_pick .nil pass0 (pa_cons (pv 0) (pa_cons pe_int pa_nil))))
      (pss_cons (ps_if (pt_cmpR op_eq (pv 2) pe_int (nomark _)) (pss_one (ps_ret (pe_tup (pa_cons pe_str (pa_cons (pe_ix ix_list (pv 1) pe_int (fun _ _ => rfl)) pa_nil))))) pss_nil)
      (pss_cons (ps_if (pt_cmpR op_eq (pv 2) pe_int (nomark _)) (pss_one (ps_ret (pe_tup (pa_cons (pe_call g_l_one (hr.mono (by first | decide | omega)) rfl T.m_l_one T.F_l_one.kp T.b_l_one .nil pass0 (pa_cons (pv 0) (pa_cons (pe_lst (pa_cons pe_str (pa_cons pe_str (pa_cons pe_str pa_nil)))) pa_nil))) (pa_cons (pe_tup (pa_cons pe_str (pa_cons (pe_ix ix_list (pv 1) pe_int (fun _ _ => rfl)) pa_nil))) (pa_cons (pe_tup (pa_cons pe_str (pa_cons (pe_call g_l_pick (hr.mono (by first | decide | omega)) rfl T.m_l_pick T.F_l_pick.kp T.b_l_pick .nil pass0 (pa_cons (pv 0) (pa_cons pe_int pa_nil))) pa_nil))) pa_nil)))))) pss_nil)
      (pss_one (ps_ret (pe_tup (pa_cons pe_str (pa_cons (pe_op op_sub (pe_call g_l_pick (hr.mono (by first | decide | omega)) rfl T.m_l_pick T.F_l_pick.kp T.b_l_pick .nil pass0 (pa_cons (pv 0) (pa_cons pe_int pa_nil))) pe_int) pa_nil)))))))), ?_⟩
  refine ⟨_, rfl, a, 4, rfl, hS, by decide, fun c H1 st1 c0 c1 => ?_⟩
  have hN1 := hN.stp hS st1
  obtain ⟨z0, e0⟩ := hN1.get (i := 0) (by decide)
  refine ⟨_, rfl, rfl, _, rfl, ite2 (fun _ => ?_) (fun _ => ?_)⟩
  · refine ⟨_, rfl, p, _, 0, _, rfl, rfl, SqL.of hN1.1, e0, by show 2 ≤ sizeLine; decide, fun t ht => ?_⟩
    exact q _ _ _ (st1.new ht) (t2D (SqT.of upd_same) (sD _) (sD _))
  refine ⟨_, rfl, rfl, _, rfl, ite2 (fun _ => ?_) (fun _ => ?_)⟩
  · refine ⟨_, rfl, by show 3 ≤ sizeLine; decide, fun l hl => ?_⟩
    have st2 := st1.new (o := .lst [.str "+", .str "-", .str "*"]) hl
    refine ⟨a, _, rfl, st2.s, .inl ⟨l, _, rfl, (st1.s.ne hl).symm, SqL.of upd_same, by show 0 < 3; decide, by show 3 < 1000; decide, fun v H3 hv st3 => ?_⟩⟩
    obtain ⟨sg, rfl⟩ : ∃ sg, v = .str sg := by
      simp at hv
      rcases hv with rfl | rfl | rfl <;> exact ⟨_, rfl⟩
    have st23 := st2.trans st3
    have hN3 := hN.stp hS st23
    obtain ⟨z3, e3⟩ := hN3.get (i := 0) (by decide)
    refine ⟨_, rfl, p, _, 0, _, rfl, rfl, SqL.of hN3.1, e3, by show 2 ≤ sizeLine; decide, fun t ht => ?_⟩
    have st4 := st23.new (o := .tup [.str "name", .str z3]) ht
    refine ⟨_, rfl, a, 100, rfl, st4.s, by decide, fun r H5 st5 _ _ => ⟨by show 2 ≤ sizeLine; decide, fun t2 ht2 => ⟨by show 3 ≤ sizeLine; decide, fun t3 ht3 => ?_⟩⟩⟩
    have s6 := Same.new ht2 (.tup [.str "num", .int r])
    have s7 := Same.new ht3 (.tup [.str sg, .ref t, .ref t2])
    have k5 := Keeps.of_stp (K := K) st5 st4.s
    have k6 := Keeps.of_same (K := K) (s6.trans s7)
    exact q _ _ _ (((st4.trans st5).new ht2).new ht3) (t3D (SqT.of upd_same) (sD _) (DT.keep k6 (DT.keep k5 (t2D (n := 1) (SqT.of upd_same) (sD _) (sD _)))) (DT.keep (Keeps.of_same s7) (t2D (n := 1) (SqT.of upd_same) (sD _) (iD _))))
  · refine ⟨_, rfl, a, 2000, rfl, st1.s, by decide, fun r H5 st5 _ _ => ⟨_, _, rfl, rfl, by show 2 ≤ sizeLine; decide, fun t ht => ?_⟩⟩
    exact q _ _ _ ((st1.trans st5).new ht) (t2D (SqT.of upd_same) (sD _) (iD _))
theorem ok_tr (T : Txt w K mg) : FnOk P w K mg base CX0 4 T.a_l_truth T.d_l_truth p_l_truth (spTr K) := by
  have g_l_pick := ok_l_pick (P := P) (w := w) (base := base) T
  have g_l_one := ok_l_one (P := P) (w := w) (K := K) (base := base) T
  have g_l_number := ok_nu (P := P) (w := w) (K := K) (base := base) T
  refine T.F_l_truth.ok sc_l_truth (fun vs H Q E h => ?_) (fun cdv A outer s H vs Q E hr h => ?_)
  · obtain ⟨a, p, zs, rfl, _⟩ := h
    rfl
  obtain ⟨a, p, zs, rfl, hS, hN, q⟩ := h
  refine ⟨_, (pss_cons (ps_set (i := 2) sc_l_truth.nd rfl (Or.inl rfl) (pe_call g_l_pick (hr.mono (by first | decide | omega)) rfl T.m_l_pick T.F_l_pick.kp T.b_l_pick .nil pass0 (pa_cons (pv 0) (pa_cons pe_int pa_nil))))
      (pss_cons (ps_if (pt_cmpR op_eq (pv 2) pe_int (nomark _)) (pss_one (ps_ret (pe_tup (pa_cons pe_str (pa_cons (pe_cmpR op_eq (pe_call g_l_pick (hr.mono (by first | decide | omega)) rfl T.m_l_pick T.F_l_pick.kp T.b_l_pick .nil pass0 (pa_cons (pv 0) (pa_cons pe_int pa_nil))) pe_int (nomark _)) pa_nil))))) pss_nil)
      (pss_cons (ps_if (pt_cmpR op_eq (pv 2) pe_int (nomark _)) (pss_one (ps_ret (pe_tup (pa_cons pe_str (pa_cons (pe_tup (pa_cons pe_str (pa_cons (pe_ix ix_list (pv 1) pe_int (fun _ _ => rfl)) pa_nil))) pa_nil))))) pss_nil)
      (pss_cons (ps_if (pt_cmpR op_eq (pv 2) pe_int (nomark _)) (pss_one (ps_ret (pe_tup (pa_cons pe_str (pa_cons (pe_tup (pa_cons pe_str (pa_cons (pe_ix ix_list (pv 1) pe_int (fun _ _ => rfl)) pa_nil))) (pa_cons (pe_tup (pa_cons pe_str pa_nil)) pa_nil)))))) pss_nil)
      (pss_cons (ps_if (pt_cmpR op_eq (pv 2) pe_int (nomark _)) (pss_one (ps_ret (pe_tup (pa_cons (pe_call g_l_one (hr.mono (by first | decide | omega)) rfl T.m_l_one T.F_l_one.kp T.b_l_one .nil pass0 (pa_cons (pv 0) (pa_cons (pe_lst (pa_cons pe_str (pa_cons pe_str pa_nil))) pa_nil))) (pa_cons (pe_tup (pa_cons pe_str (pa_cons (pe_ix ix_list (pv 1) pe_int (fun _ _ => rfl)) pa_nil))) (pa_cons (pe_tup (pa_cons pe_str (pa_cons pe_bl pa_nil))) pa_nil)))))) pss_nil)
      (pss_cons (ps_if (pt_cmpR op_eq (pv 2) pe_int (nomark _)) (pss_one (ps_ret (pe_tup (pa_cons (pe_call g_l_one (hr.mono (by first | decide | omega)) rfl T.m_l_one T.F_l_one.kp T.b_l_one .nil pass0 (pa_cons (pv 0) (pa_cons (pe_lst (pa_cons pe_str (pa_cons pe_str (pa_cons pe_str (pa_cons pe_str pa_nil))))) pa_nil))) (pa_cons (pe_call g_l_number (hr.mono (by first | decide | omega)) rfl T.m_l_number T.F_l_number.kp T.b_l_number .nil pass0 (pa_cons (pv 0) (pa_cons (pv 1) pa_nil))) (pa_cons (pe_call g_l_number (hr.mono (by first | decide | omega)) rfl T.m_l_number T.F_l_number.kp T.b_l_number .nil pass0 (pa_cons (pv 0) (pa_cons (pv 1) pa_nil))) pa_nil)))))) pss_nil)
      (pss_one (ps_ret (pe_tup (pa_cons pe_str (pa_cons (pe_ix ix_list (pv 1) pe_int (fun _ _ => rfl)) pa_nil))))))))))), ?_⟩
  refine ⟨_, rfl, a, 6, rfl, hS, by decide, fun c H1 st1 c0 c1 => ?_⟩
  have hN1 := hN.stp hS st1
  obtain ⟨z1, e1⟩ := hN1.get (i := 1) (by decide)
  obtain ⟨z2, e2⟩ := hN1.get (i := 2) (by decide)
  refine ⟨_, rfl, rfl, _, rfl, ite2 (fun _ => ?_) (fun _ => ?_)⟩
  · refine ⟨_, rfl, a, 2, rfl, st1.s, by decide, fun r H2 st2 _ _ => ⟨rfl, by show 2 ≤ sizeLine; decide, fun t ht => ?_⟩⟩
    exact q _ _ _ ((st1.trans st2).new ht) (t2D (SqT.of upd_same) (sD _) (bD _))
  refine ⟨_, rfl, rfl, _, rfl, ite2 (fun _ => ?_) (fun _ => ?_)⟩
  · refine ⟨_, rfl, p, _, 1, _, rfl, rfl, SqL.of hN1.1, e1, by show 2 ≤ sizeLine; decide, fun t ht => ⟨by show 2 ≤ sizeLine; decide, fun t2 ht2 => ?_⟩⟩
    exact q _ _ _ ((st1.new ht).new ht2) (t2D (SqT.of upd_same) (sD _) (DT.keep (keeps_new ht2) (t2D (n := 2) (SqT.of upd_same) (sD _) (sD _))))
  refine ⟨_, rfl, rfl, _, rfl, ite2 (fun _ => ?_) (fun _ => ?_)⟩
  · refine ⟨_, rfl, p, _, 2, _, rfl, rfl, SqL.of hN1.1, e2, by show 2 ≤ sizeLine; decide, fun t ht => ⟨by show 1 ≤ sizeLine; decide, fun t2 ht2 => ⟨by show 3 ≤ sizeLine; decide, fun t3 ht3 => ?_⟩⟩⟩
    exact q _ _ _ (((st1.new ht).new ht2).new ht3) (t3D (SqT.of upd_same) (sD _) (DT.keep (keeps_new ht3) (DT.keep (keeps_new ht2) (t2D (n := 2) (SqT.of upd_same) (sD _) (sD _)))) (DT.keep (keeps_new ht3) (t1D (n := 2) (SqT.of upd_same) (sD _))))
  refine ⟨_, rfl, rfl, _, rfl, ite2 (fun _ => ?_) (fun _ => ?_)⟩
  · refine ⟨_, rfl, by show 2 ≤ sizeLine; decide, fun l hl => ?_⟩
    have st2 := st1.new (o := .lst [.str "and", .str "or"]) hl
    refine ⟨a, _, rfl, st2.s, .inl ⟨l, _, rfl, (st1.s.ne hl).symm, SqL.of upd_same, by show 0 < 2; decide, by show 2 < 1000; decide, fun v H3 hv st3 => ?_⟩⟩
    obtain ⟨sg, rfl⟩ : ∃ sg, v = .str sg := by
      simp at hv
      rcases hv with rfl | rfl <;> exact ⟨_, rfl⟩
    have st23 := st2.trans st3
    have hN3 := hN.stp hS st23
    obtain ⟨z3, e3⟩ := hN3.get (i := 1) (by decide)
    refine ⟨_, rfl, p, _, 1, _, rfl, rfl, SqL.of hN3.1, e3, by show 2 ≤ sizeLine; decide, fun t ht => ⟨by show 2 ≤ sizeLine; decide, fun t2 ht2 => ⟨by show 3 ≤ sizeLine; decide, fun t3 ht3 => ?_⟩⟩⟩
    exact q _ _ _ (((st23.new ht).new ht2).new ht3) (t3D (SqT.of upd_same) (sD _) (DT.keep (keeps_new ht3) (DT.keep (keeps_new ht2) (t2D (n := 2) (SqT.of upd_same) (sD _) (sD _)))) (DT.keep (keeps_new ht3) (t2D (n := 2) (SqT.of upd_same) (sD _) (bD _))))
  refine ⟨_, rfl, rfl, _, rfl, ite2 (fun _ => ?_) (fun _ => ?_)⟩
  · refine ⟨_, rfl, by show 4 ≤ sizeLine; decide, fun l hl => ?_⟩
    have st2 := st1.new (o := .lst [.str "<", .str "<=", .str "==", .str "!="]) hl
    refine ⟨a, _, rfl, st2.s, .inl ⟨l, _, rfl, (st1.s.ne hl).symm, SqL.of upd_same, by show 0 < 4; decide, by show 4 < 1000; decide, fun v H3 hv st3 => ?_⟩⟩
    obtain ⟨sg, rfl⟩ : ∃ sg, v = .str sg := by
      simp at hv
      rcases hv with rfl | rfl | rfl | rfl <;> exact ⟨_, rfl⟩
    have st23 := st2.trans st3
    refine ⟨_, rfl, _, rfl, a, p, zs, rfl, st23.s, hN.stp hS st23, fun x dx H4 st4 hx => ?_⟩
    have st24 := st23.trans st4
    refine ⟨_, rfl, _, rfl, a, p, zs, rfl, st24.s, hN.stp hS st24, fun y dy H5 st5 hy => ⟨by show 3 ≤ sizeLine; decide, fun t ht => ?_⟩⟩
    exact q _ _ _ ((st24.trans st5).new ht) (t3D (SqT.of upd_same) (sD _) (DT.keep (keeps_new ht) (hx.keep (Keeps.of_stp st5 st24.s))) (DT.keep (keeps_new ht) hy))
  · refine ⟨_, rfl, p, _, 1, _, rfl, rfl, SqL.of hN1.1, e1, by show 2 ≤ sizeLine; decide, fun t ht => ?_⟩
    exact q _ _ _ (st1.new ht) (t2D (SqT.of upd_same) (sD _) (sD _))
end
section
variable {P : Program} {w : World} {K : PySem.W.Frag} {mg : Str → Option Value} {base : Heap}
theorem ok_lf (T : Txt w K mg) : FnOk P w K mg base CX0 5 T.a_l_leaf T.d_l_leaf p_l_leaf (spLf K) := by
  have g_l_pick := ok_l_pick (P := P) (w := w) (base := base) T
  have g_l_one := ok_l_one (P := P) (w := w) (K := K) (base := base) T
  have g_l_number := ok_nu (P := P) (w := w) (K := K) (base := base) T
  have g_l_truth := ok_tr (P := P) (w := w) (K := K) (base := base) T
  refine T.F_l_leaf.ok sc_l_leaf (fun vs H Q E h => ?_) (fun cdv A outer s H vs Q E hr h => ?_)
  · obtain ⟨a, d, p, zs, res, sh, n, lp, rfl, _⟩ := h
    rfl
  obtain ⟨a, d, p, zs, res, sh, n, lp, rfl, hS, hW, q⟩ := h
  refine ⟨_, (pss_cons (ps_set (i := 3) sc_l_leaf.nd rfl (Or.inl rfl) (pe_dget (hu_of hr) (pv 1) pe_str (fun _ _ => rfl)))
      (pss_cons (ps_set (i := 4) sc_l_leaf.nd rfl (Or.inl rfl) (pe_call g_l_one (hr.mono (by first | decide | omega)) rfl T.m_l_one T.F_l_one.kp T.b_l_one .nil pass0 (pa_cons (pv 0) (pa_cons (pe_lst (pa_cons pe_str (pa_cons pe_str (pa_cons pe_str (pa_cons pe_str (pa_cons pe_str (pa_cons pe_str (pa_cons pe_str (pa_cons pe_str (pa_cons pe_str (pa_cons pe_str (pa_cons pe_str (pa_cons pe_str pa_nil))))))))))))) pa_nil))))
      (pss_cons (ps_if (PW.pt (pw_and (pt_cmpR op_eq (pv 4) pe_str (nomark _)) (pw_and1 (pt_val (pv 2))))) (pss_one (ps_ret (pe_tup (pa_cons pe_str pa_nil)))) pss_nil)
      (pss_cons (ps_if (PW.pt (pw_and (pt_cmpR op_eq (pv 4) pe_str (nomark _)) (pw_and1 (pt_val (pe_dget (hu_of hr) (pv 1) pe_str (fun _ _ => rfl)))))) (pss_one (ps_ret (pe_tup (pa_cons pe_str (pa_cons (pe_call g_l_number (hr.mono (by first | decide | omega)) rfl T.m_l_number T.F_l_number.kp T.b_l_number .nil pass0 (pa_cons (pv 0) (pa_cons (pv 3) pa_nil))) pa_nil))))) pss_nil)
      (pss_cons (ps_if (pt_cmpR op_eq (pv 4) pe_str (nomark _)) (pss_one (ps_ret (pe_tup (pa_cons pe_str (pa_cons pe_non pa_nil))))) pss_nil)
      (pss_cons (ps_if (PW.pt (pw_and (pt_cmpR op_eq (pv 4) pe_str (nomark _)) (pw_and1 (pt_cmpR op_eq (pe_call g_l_pick (hr.mono (by first | decide | omega)) rfl T.m_l_pick T.F_l_pick.kp T.b_l_pick .nil pass0 (pa_cons (pv 0) (pa_cons pe_int pa_nil))) pe_int (nomark _))))) (pss_one (ps_ret (pe_tup (pa_cons pe_str (pa_cons (pe_ix ix_list (pv 3) pe_int (fun _ _ => rfl)) (pa_cons (pe_call g_l_truth (hr.mono (by first | decide | omega)) rfl T.m_l_truth T.F_l_truth.kp T.b_l_truth .nil pass0 (pa_cons (pv 0) (pa_cons (pv 3) pa_nil))) pa_nil)))))) pss_nil)
      (pss_cons (ps_if (pt_cmpR op_eq (pv 4) pe_str (nomark _)) (pss_one (ps_ret (pe_tup (pa_cons pe_str (pa_cons (pe_ix ix_list (pv 3) (pe_call g_l_pick (hr.mono (by first | decide | omega)) rfl T.m_l_pick T.F_l_pick.kp T.b_l_pick .nil pass0 (pa_cons (pv 0) (pa_cons pe_int pa_nil))) (fun _ _ => rfl)) pa_nil))))) pss_nil)
      (pss_cons (ps_if (PW.pt (pw_or (pt_cmpR op_eq (pv 4) pe_str (nomark _)) (pw_or1 (pt_cmpR op_eq (pv 4) pe_str (nomark _))))) (pss_one (ps_ret (pe_tup (pa_cons (pv 4) (pa_cons (pe_ix ix_list (pv 3) pe_int (fun _ _ => rfl)) pa_nil))))) pss_nil)
      (pss_cons (ps_if (pt_cmpR op_eq (pv 4) pe_str (nomark _)) (pss_one (ps_ret (pe_tup (pa_cons pe_str (pa_cons (pe_ix ix_list (pv 3) pe_int (fun _ _ => rfl)) (pa_cons (pe_ix ix_list (pv 3) pe_int (fun _ _ => rfl)) (pa_cons (pe_ix ix_list (pv 3) pe_int (fun _ _ => rfl)) pa_nil))))))) pss_nil)
      (pss_cons (ps_if (pt_cmpR op_eq (pv 4) pe_str (nomark _)) (pss_one (ps_ret (pe_tup (pa_cons pe_str (pa_cons (pe_ix ix_list (pv 3) pe_int (fun _ _ => rfl)) (pa_cons (pe_ix ix_list (pv 3) pe_int (fun _ _ => rfl)) (pa_cons (pe_call g_l_truth (hr.mono (by first | decide | omega)) rfl T.m_l_truth T.F_l_truth.kp T.b_l_truth .nil pass0 (pa_cons (pv 0) (pa_cons (pv 3) pa_nil))) pa_nil))))))) pss_nil)
      (pss_cons (ps_if (pt_cmpR op_eq (pv 4) pe_str (nomark _)) (pss_one (ps_ret (pe_tup (pa_cons pe_str (pa_cons (pe_ix ix_list (pv 3) pe_int (fun _ _ => rfl)) (pa_cons (pe_ix ix_list (pv 3) pe_int (fun _ _ => rfl)) (pa_cons (pe_call g_l_number (hr.mono (by first | decide | omega)) rfl T.m_l_number T.F_l_number.kp T.b_l_number .nil pass0 (pa_cons (pv 0) (pa_cons (pv 3) pa_nil))) pa_nil))))))) pss_nil)
      (pss_cons (ps_if (pt_cmpR op_eq (pv 4) pe_str (nomark _)) (pss_one (ps_ret (pe_tup (pa_cons pe_str (pa_cons (pe_ix ix_list (pv 3) pe_int (fun _ _ => rfl)) (pa_cons (pe_call g_l_number (hr.mono (by first | decide | omega)) rfl T.m_l_number T.F_l_number.kp T.b_l_number .nil pass0 (pa_cons (pv 0) (pa_cons (pv 3) pa_nil))) (pa_cons (pe_call g_l_number (hr.mono (by first | decide | omega)) rfl T.m_l_number T.F_l_number.kp T.b_l_number .nil pass0 (pa_cons (pv 0) (pa_cons (pv 3) pa_nil))) pa_nil))))))) pss_nil)
      (pss_cons (ps_if (pt_cmpR op_eq (pv 4) pe_str (nomark _)) (pss_one (ps_ret (pe_tup (pa_cons pe_str (pa_cons (pe_call g_l_one (hr.mono (by first | decide | omega)) rfl T.m_l_one T.F_l_one.kp T.b_l_one .nil pass0 (pa_cons (pv 0) (pa_cons (pe_lst (pa_cons pe_non (pa_cons (pe_ix ix_list (pv 3) pe_int (fun _ _ => rfl)) pa_nil))) pa_nil))) (pa_cons (pe_ix ix_list (pv 3) pe_int (fun _ _ => rfl)) (pa_cons (pe_tup (pa_cons (pe_call g_l_number (hr.mono (by first | decide | omega)) rfl T.m_l_number T.F_l_number.kp T.b_l_number .nil pass0 (pa_cons (pv 0) (pa_cons (pv 3) pa_nil))) pa_nil)) pa_nil))))))) pss_nil)
      (pss_cons (ps_if (pt_cmpR op_eq (pv 4) pe_str (nomark _)) (pss_one (ps_ret (pe_tup (pa_cons pe_str (pa_cons (pe_call g_l_truth (hr.mono (by first | decide | omega)) rfl T.m_l_truth T.F_l_truth.kp T.b_l_truth .nil pass0 (pa_cons (pv 0) (pa_cons (pv 3) pa_nil))) pa_nil))))) pss_nil)
      (pss_one (ps_ret (pe_tup (pa_cons pe_str (pa_cons (pe_ix ix_list (pv 3) pe_int (fun _ _ => rfl)) (pa_cons (pe_call g_l_number (hr.mono (by first | decide | omega)) rfl T.m_l_number T.F_l_number.kp T.b_l_number .nil pass0 (pa_cons (pv 0) (pa_cons (pv 3) pa_nil))) pa_nil)))))))))))))))))))), ?_⟩
  have fin : ∀ (pp : Addr) (wd : Str) (xs : List V) (ds : List PyData) (H5 : Hp), Stp a H H5 → SqT K H5 pp (.str wd :: xs) → DTs K 6 H5 xs ds → LeafOk wd ds → (wd = "break" → lp = true) → Q (.ref pp) H5 :=
    fun pp wd xs ds H5 st h1 h2 h3 h4 => q (.ref pp) (.leaf wd ds .nil) H5 st ⟨pp, xs, [], rfl, h1, h2, h3, rfl⟩ rfl (fun m => by cases m <;> trivial) ⟨h4, trivial⟩
  obtain ⟨kvs, d1, d2, d3, d4, d5, hN, _⟩ := id hW
  refine ⟨_, rfl, d, _, rfl, DGet.at d1 d2, ?_⟩
  refine ⟨_, rfl, by show 12 ≤ sizeLine; decide, fun l hl => ?_⟩
  have s0 := (Stp.refl hS).new (o := .lst [.str "set", .str "input", .str "new", .str "free", .str "load", .str "store", .str "get", .str "put", .str "call", .str "return", .str "break", .str "assert"]) hl
  refine ⟨a, _, rfl, s0.s, .inl ⟨l, _, rfl, (hS.ne hl).symm, SqL.of upd_same, by show 0 < 12; decide, by show 12 < 1000; decide, fun v H1 hv st1 => ?_⟩⟩
  have s1 := s0.trans st1
  have hW1 := hW.stp hS s1
  obtain ⟨kvs1, f1, f2, f3, f4, f5, hN1, _⟩ := id hW1
  obtain ⟨z0, e0⟩ := hN1.get (i := 0) (by decide)
  obtain ⟨z1, e1⟩ := hN1.get (i := 1) (by decide)
  obtain ⟨z2, e2⟩ := hN1.get (i := 2) (by decide)
  obtain ⟨z3, e3⟩ := hN1.get (i := 3) (by decide)
  obtain ⟨z4, e4⟩ := hN1.get (i := 4) (by decide)
  obtain ⟨z5, e5⟩ := hN1.get (i := 5) (by decide)
  obtain ⟨sg, rfl⟩ : ∃ sg, v = .str sg := by
    simp at hv
    rcases hv with rfl | rfl | rfl | rfl | rfl | rfl | rfl | rfl | rfl | rfl | rfl | rfl <;> exact ⟨_, rfl⟩
  have T2 : ∀ {w z : Str}, decide (V.str w = V.str z) = true → w = z := fun h => V.str.inj (of_decide_eq_true h)
  -- the last way out: a number is set
  have nb : ∀ {z : Str}, z ≠ "break" → (z = "break" → lp = true) := fun h e => absurd e h
  have tl : ∀ {k : Nat} {H' : Hp} {x : V} {d : PyData}, DT K k H' x d → k ≤ 6 → DT K 6 H' x d := fun h l => h.up l
  -- break
  refine ⟨_, rfl, rfl, _, rfl, ite2 (fun c => ⟨_, rfl, lp, rfl, ite2 (fun c2 => ?_) (fun _ => ?W1)⟩) (fun _ => iteF ?W2)⟩
  · exact ⟨by show 1 ≤ sizeLine; decide, fun t ht => fin t "break" [] [] _ (s1.new ht) (SqT.of upd_same) trivial ⟨[], by decide +kernel, rfl, by decide, by decide +kernel⟩ (fun _ => c2)⟩
  all_goals
    -- return
    refine ⟨_, rfl, rfl, _, rfl, ite2 (fun c => ⟨_, rfl, d, _, rfl, DGet.at f1 f4, res, rfl, ite2 (fun _ => ?_) (fun _ => ?_)⟩) (fun c => iteF ?_)⟩
    · refine ⟨_, rfl, _, rfl, a, p, zs, rfl, s1.s, hN1, fun x dx H2 st2 hx => ⟨by show 2 ≤ sizeLine; decide, fun t ht => ?_⟩⟩
      exact fin t "return" [x] [dx] _ ((s1.trans st2).new ht) (SqT.of upd_same) ⟨tl (hx.keep (keeps_new ht)) (by decide), trivial⟩ ⟨["expression"], by decide +kernel, rfl, by decide, by decide +kernel⟩ (nb (by decide +kernel))
    · refine ⟨_, rfl, rfl, _, rfl, ifT c ?_⟩
      exact ⟨by show 2 ≤ sizeLine; decide, fun t ht => fin t "return" [.non] [.none] _ (s1.new ht) (SqT.of upd_same) ⟨⟨.non, trivial⟩, trivial⟩ ⟨["expression"], by decide +kernel, rfl, by decide, by decide +kernel⟩ (nb (by decide +kernel))⟩
    refine ⟨_, rfl, rfl, _, rfl, ifF (Bool.eq_false_iff.mpr c) ?_⟩
    -- set
    have rest : ∀ (H1' : Hp), Stp a H1 H1' → (∃ z, atI (zs.map V.str) 0 = some (.str z)) := fun _ _ => ⟨z0, e0⟩
    refine ⟨_, rfl, rfl, _, rfl, ite2 (fun c => ⟨_, rfl, a, 2, rfl, s1.s, by decide, fun r H2 st2 _ _ => ⟨rfl, _, rfl, ite2 (fun _ => ?_) (fun _ => ?_)⟩⟩) (fun c => iteF ?_)⟩
    · refine ⟨_, rfl, p, _, 1, _, rfl, rfl, SqL.of (hN1.stp s1.s st2).1, e1, _, rfl, _, rfl, a, p, zs, rfl, st2.s, hN1.stp s1.s st2, fun x dx H3 st3 hx => ⟨by show 3 ≤ sizeLine; decide, fun t ht => ?_⟩⟩
      exact fin t "set" [.str z1, x] [.str z1, dx] _ (((s1.trans st2).trans st3).new ht) (SqT.of upd_same) ⟨sD _, tl (hx.keep (keeps_new ht)) (by decide), trivial⟩ ⟨["variable", "expression"], by decide +kernel, rfl, by decide, by decide +kernel⟩ (nb (by decide +kernel))
    · obtain rfl := T2 c
      refine ⟨_, rfl, rfl, _, rfl, ifF (by decide +kernel) ⟨_, rfl, rfl, _, rfl, ifF (by decide +kernel) ⟨_, rfl, rfl, _, rfl, ifF (by decide +kernel) ⟨_, rfl, rfl, _, rfl, ifF (by decide +kernel) ⟨_, rfl, rfl, _, rfl, ifF (by decide +kernel) ⟨_, rfl, rfl, _, rfl, ifF (by decide +kernel) ⟨_, rfl, rfl, _, rfl, ifF (by decide +kernel) ⟨_, rfl, rfl, _, rfl, ifF (by decide +kernel) ⟨_, rfl, rfl, _, rfl, ifF (by decide +kernel) ?_⟩⟩⟩⟩⟩⟩⟩⟩⟩
      refine ⟨_, rfl, p, _, 0, _, rfl, rfl, SqL.of (hN1.stp s1.s st2).1, e0, _, rfl, _, rfl, a, p, zs, rfl, st2.s, hN1.stp s1.s st2, fun x dx H3 st3 hx => ⟨by show 3 ≤ sizeLine; decide, fun t ht => ?_⟩⟩
      exact fin t "set" [.str z0, x] [.str z0, dx] _ (((s1.trans st2).trans st3).new ht) (SqT.of upd_same) ⟨sD _, tl (hx.keep (keeps_new ht)) (by decide), trivial⟩ ⟨["variable", "expression"], by decide +kernel, rfl, by decide, by decide +kernel⟩ (nb (by decide +kernel))
    -- input
    refine ⟨_, rfl, rfl, _, rfl, ite2 (fun _ => ?_) (fun _ => ?_)⟩
    · refine ⟨_, rfl, _, rfl, a, 2, rfl, s1.s, by decide, fun r H2 st2 r0 r1 => ?_⟩
      obtain ⟨zr, er⟩ : ∃ z, atI (zs.map V.str) r = some (.str z) := by
        obtain rfl | rfl : r = 0 ∨ r = 1 := by omega
        · exact ⟨z0, e0⟩
        · exact ⟨z1, e1⟩
      refine ⟨p, _, r, _, rfl, rfl, SqL.of (hN1.stp s1.s st2).1, er, by show 2 ≤ sizeLine; decide, fun t ht => ?_⟩
      exact fin t "input" [.str zr] [.str zr] _ ((s1.trans st2).new ht) (SqT.of upd_same) ⟨sD _, trivial⟩ ⟨["variable"], by decide +kernel, rfl, by decide, by decide +kernel⟩ (nb (by decide +kernel))
    -- new, free
    refine ⟨_, rfl, rfl, _, rfl, ite2 (fun c => iteT ?_) (fun c => ⟨_, rfl, rfl, _, rfl, ite2 (fun c => ?_) (fun c => ?_)⟩)⟩
    · obtain rfl := T2 c
      refine ⟨_, rfl, _, rfl, p, _, 2, _, rfl, rfl, SqL.of hN1.1, e2, by show 2 ≤ sizeLine; decide, fun t ht => ?_⟩
      exact fin t "new" [.str z2] [.str z2] _ (s1.new ht) (SqT.of upd_same) ⟨sD _, trivial⟩ ⟨["variable"], by decide +kernel, rfl, by decide, by decide +kernel⟩ (nb (by decide +kernel))
    · obtain rfl := T2 c
      refine ⟨_, rfl, _, rfl, p, _, 2, _, rfl, rfl, SqL.of hN1.1, e2, by show 2 ≤ sizeLine; decide, fun t ht => ?_⟩
      exact fin t "free" [.str z2] [.str z2] _ (s1.new ht) (SqT.of upd_same) ⟨sD _, trivial⟩ ⟨["variable"], by decide +kernel, rfl, by decide, by decide +kernel⟩ (nb (by decide +kernel))
    -- load
    refine ⟨_, rfl, rfl, _, rfl, ite2 (fun _ => ?_) (fun _ => ?_)⟩
    · refine ⟨_, rfl, p, _, 1, _, rfl, rfl, SqL.of hN1.1, e1, _, rfl, p, _, 2, _, rfl, rfl, SqL.of hN1.1, e2, _, rfl, p, _, 3, _, rfl, rfl, SqL.of hN1.1, e3, by show 4 ≤ sizeLine; decide, fun t ht => ?_⟩
      exact fin t "load" [.str z1, .str z2, .str z3] [.str z1, .str z2, .str z3] _ (s1.new ht) (SqT.of upd_same) ⟨sD _, sD _, sD _, trivial⟩ ⟨["variable", "variable", "field"], by decide +kernel, rfl, by decide, by decide +kernel⟩ (nb (by decide +kernel))
    -- store
    refine ⟨_, rfl, rfl, _, rfl, ite2 (fun _ => ?_) (fun _ => ?_)⟩
    · refine ⟨_, rfl, p, _, 2, _, rfl, rfl, SqL.of hN1.1, e2, _, rfl, p, _, 3, _, rfl, rfl, SqL.of hN1.1, e3, _, rfl, _, rfl, a, p, zs, rfl, s1.s, hN1, fun x dx H2 st2 hx => ⟨by show 4 ≤ sizeLine; decide, fun t ht => ?_⟩⟩
      exact fin t "store" [.str z2, .str z3, x] [.str z2, .str z3, dx] _ ((s1.trans st2).new ht) (SqT.of upd_same) ⟨sD _, sD _, tl (hx.keep (keeps_new ht)) (by decide), trivial⟩ ⟨["variable", "field", "expression"], by decide +kernel, rfl, by decide, by decide +kernel⟩ (nb (by decide +kernel))
    -- get
    refine ⟨_, rfl, rfl, _, rfl, ite2 (fun _ => ?_) (fun _ => ?_)⟩
    · refine ⟨_, rfl, p, _, 0, _, rfl, rfl, SqL.of hN1.1, e0, _, rfl, p, _, 4, _, rfl, rfl, SqL.of hN1.1, e4, _, rfl, _, rfl, a, p, zs, rfl, s1.s, hN1, fun x dx H2 st2 hx => ⟨by show 4 ≤ sizeLine; decide, fun t ht => ?_⟩⟩
      exact fin t "get" [.str z0, .str z4, x] [.str z0, .str z4, dx] _ ((s1.trans st2).new ht) (SqT.of upd_same) ⟨sD _, sD _, tl (hx.keep (keeps_new ht)) (by decide), trivial⟩ ⟨["variable", "array", "expression"], by decide +kernel, rfl, by decide, by decide +kernel⟩ (nb (by decide +kernel))
    -- put
    refine ⟨_, rfl, rfl, _, rfl, ite2 (fun _ => ?_) (fun _ => ?_)⟩
    · refine ⟨_, rfl, p, _, 4, _, rfl, rfl, SqL.of hN1.1, e4, _, rfl, _, rfl, a, p, zs, rfl, s1.s, hN1, fun x dx H2 st2 hx => ?_⟩
      refine ⟨_, rfl, _, rfl, a, p, zs, rfl, st2.s, hN1.stp s1.s st2, fun y dy H3 st3 hy => ⟨by show 4 ≤ sizeLine; decide, fun t ht => ?_⟩⟩
      exact fin t "put" [.str z4, x, y] [.str z4, dx, dy] _ (((s1.trans st2).trans st3).new ht) (SqT.of upd_same) ⟨sD _, tl ((hx.keep (Keeps.of_stp st3 st2.s)).keep (keeps_new ht)) (by decide), tl (hy.keep (keeps_new ht)) (by decide), trivial⟩ ⟨["array", "expression", "expression"], by decide +kernel, rfl, by decide, by decide +kernel⟩ (nb (by decide +kernel))
    -- call
    refine ⟨_, rfl, rfl, _, rfl, ite2 (fun _ => ?_) (fun _ => ?_)⟩
    · refine ⟨_, rfl, _, rfl, p, _, 0, _, rfl, rfl, SqL.of hN1.1, e0, by show 2 ≤ sizeLine; decide, fun l2 hl2 => ?_⟩
      have s2 := s1.new (o := .lst [.non, .str z0]) hl2
      refine ⟨a, _, rfl, s2.s, .inl ⟨l2, _, rfl, (s1.s.ne hl2).symm, SqL.of upd_same, by show 0 < 2; decide, by show 2 < 1000; decide, fun v H2 hv2 st2 => ?_⟩⟩
      have s3 := s2.trans st2
      have hN3 := hN.stp hS s3
      have hvd : ∃ dv, ∀ H', DT K 6 H' v dv := by
        simp at hv2
        rcases hv2 with rfl | rfl
        · exact ⟨.none, fun _ => ⟨.non, trivial⟩⟩
        · exact ⟨.str z0, fun _ => sD _⟩
      obtain ⟨dv, hvd⟩ := hvd
      refine ⟨_, rfl, p, _, 5, _, rfl, rfl, SqL.of hN3.1, e5, _, rfl, _, rfl, a, p, zs, rfl, s3.s, hN3, fun x dx H4 st4 hx => ⟨by show 1 ≤ sizeLine; decide, fun t2 ht2 => ⟨by show 4 ≤ sizeLine; decide, fun t ht => ?_⟩⟩⟩
      exact fin t "call" [v, .str z5, .ref t2] [dv, .str z5, .tuple [dx]] _ (((s3.trans st4).new ht2).new ht) (SqT.of upd_same) ⟨hvd _, sD _, tl (DT.keep (keeps_new ht) (t1D (n := 3) (SqT.of upd_same) (hx.keep (keeps_new ht2)))) (by decide), trivial⟩ ⟨["variable", "function", "arguments"], by decide +kernel, rfl, by decide, by decide +kernel⟩ (nb (by decide +kernel))
    -- assert
    refine ⟨_, rfl, rfl, _, rfl, ite2 (fun _ => ?_) (fun _ => ?_)⟩
    · refine ⟨_, rfl, _, rfl, a, p, zs, rfl, s1.s, hN1, fun x dx H2 st2 hx => ⟨by show 2 ≤ sizeLine; decide, fun t ht => ?_⟩⟩
      exact fin t "assert" [x] [dx] _ ((s1.trans st2).new ht) (SqT.of upd_same) ⟨tl (hx.keep (keeps_new ht)) (by decide), trivial⟩ ⟨["expression"], by decide +kernel, rfl, by decide, by decide +kernel⟩ (nb (by decide +kernel))
    · refine ⟨_, rfl, p, _, 0, _, rfl, rfl, SqL.of hN1.1, e0, _, rfl, _, rfl, a, p, zs, rfl, s1.s, hN1, fun x dx H3 st3 hx => ⟨by show 3 ≤ sizeLine; decide, fun t ht => ?_⟩⟩
      exact fin t "set" [.str z0, x] [.str z0, dx] _ ((s1.trans st3).new ht) (SqT.of upd_same) ⟨sD _, tl (hx.keep (keeps_new ht)) (by decide), trivial⟩ ⟨["variable", "expression"], by decide +kernel, rfl, by decide, by decide +kernel⟩ (nb (by decide +kernel))
end
theorem Tr.dep_up : ∀ {m k : Nat} {t : Tr}, m ≤ k → t.dep m → t.dep k
  | m, k, .nil, _, _ => by cases k <;> trivial
  | m, k, .leaf w d r, h, q => by
    have := Tr.dep_up h (dep_leaf q)
    cases k <;> exact this
  | m, k, .loop e b r, h, q => by
    obtain ⟨j, rfl, d1, d2⟩ := dep_loop q
    cases k with
    | zero => omega
    | succ k => exact ⟨Tr.dep_up (by omega) d1, Tr.dep_up h d2⟩
  | m, k, .iff e b c r, h, q => by
    obtain ⟨j, rfl, d1, d2, d3⟩ := dep_iff q
    cases k with
    | zero => omega
    | succ k => exact ⟨Tr.dep_up (by omega) d1, Tr.dep_up (by omega) d2, Tr.dep_up h d3⟩
theorem okB_app : ∀ {i : Bool} {t u : Tr}, t.okB i → u.okB i → (t.app u).okB i
  | _, .nil, _, _, h => h
  | _, .leaf _ _ _, _, h, q => ⟨h.1, okB_app h.2 q⟩
  | _, .loop _ _ _, _, h, q => ⟨h.1, okB_app h.2 q⟩
  | _, .iff _ _ _ _, _, h, q => ⟨h.1, h.2.1, okB_app h.2.2 q⟩
def spBo (K : PySem.W.Frag) (m : Nat) : Sp := fun vs H Q _ => ∃ (a d p : Addr) (zs : List Str) (res : Bool) (sh n u : Int) (D : Nat) (lp : Bool), vs = [.ref a, .ref d, .int u, .int (D : Int), .bl lp] ∧ Src H a ∧ Wm H d p zs res sh n ∧ 0 ≤ u ∧ u ≤ 20 ∧ D < m ∧ 0 ≤ n ∧
  ∀ (q : Addr) (us : List V) (t : Tr) (n' : Int) (H' : Hp), Stq a d n' H H' → SqT K H' q us → TrL K H' t us → t.dep D → t.okB lp → 0 ≤ n' → (t.cnt : Int) + n' ≤ n → us.length ≤ 20 → Q (.ref q) H'
section
variable {P : Program} {w : World} {K : PySem.W.Frag} {mg : Str → Option Value} {base : Heap}
theorem ok_bo0 (T : Txt w K mg) {m : Nat} (g_l_body : FnOk P w K mg base CX0 (m + 6) T.a_l_body T.d_l_body p_l_body (spBo K m)) :
    FnOk P w K mg base CX0 (m + 7) T.a_l_body T.d_l_body p_l_body (spBo K (m + 1)) := by
  have g_l_pick := ok_l_pick (P := P) (w := w) (base := base) T
  have g_l_leaf := ok_lf (P := P) (w := w) (K := K) (base := base) T
  have g_l_truth := ok_tr (P := P) (w := w) (K := K) (base := base) T
  refine T.F_l_body.ok sc_l_body (fun vs H Q E h => ?_) (fun cdv A outer s H vs Q E hr h => ?_)
  · obtain ⟨a, d, p, zs, res, sh, n, u, D, lp, rfl, _⟩ := h
    rfl
  obtain ⟨a, d, p, zs, res, sh, n, u, D, lp, rfl, hS, hW, u0, u1, hD, hn, q⟩ := h
  have nd := hW.ne hS
  refine ⟨_, (pss_cons (ps_set (i := 5) sc_l_body.nd rfl (Or.inl rfl) (pe_tup pa_nil))
      (pss_cons (ps_for PassesOwn.never rfl (pi_range1 rfl T.z_range (pa_cons (pe_call g_l_pick (hr.mono (by first | decide | omega)) rfl T.m_l_pick T.F_l_pick.kp T.b_l_pick .nil pass0 (pa_cons (pv 0) (pa_cons (pv 2) pa_nil))) pa_nil)) (pg_name (i := 6) sc_l_body.nd rfl (Or.inl rfl))
        (pss_one (ps_if (pt_cmpR op_gt (pe_dget (hu_of hr) (pv 1) pe_str (fun _ _ => rfl)) pe_int (nomark _)) (pss_cons (ps_dput (hu_of hr) (pv 1) pe_str (pe_op op_sub (pe_dget (hu_of hr) (pv 1) pe_str (fun _ _ => rfl)) pe_int) rfl)
      (pss_cons (ps_set (i := 7) sc_l_body.nd rfl (Or.inl rfl) (pe_call g_l_pick (hr.mono (by first | decide | omega)) rfl T.m_l_pick T.F_l_pick.kp T.b_l_pick .nil pass0 (pa_cons (pv 0) (pa_cons pe_int pa_nil))))
      (pss_cons (ps_set (i := 8) sc_l_body.nd rfl (Or.inl rfl) (pe_call g_l_leaf (hr.mono (by first | decide | omega)) rfl T.m_l_leaf T.F_l_leaf.kp T.b_l_leaf .nil pass0 (pa_cons (pv 0) (pa_cons (pv 1) (pa_cons (pv 4) pa_nil)))))
      (C8.pss_cut (ps_if (PW.pt (pw_and (pt_cmpR op_gt (pv 3) pe_int (nomark _)) (pw_and1 (pt_cmpR op_lt (pv 7) (pe_dget (hu_of hr) (pv 1) pe_str (fun _ _ => rfl)) (nomark _))))) (pss_one (ps_set (i := 8) sc_l_body.nd rfl (Or.inl rfl) (pe_tup (pa_cons pe_str (pa_cons (pe_call g_l_truth (hr.mono (by first | decide | omega)) rfl T.m_l_truth T.F_l_truth.kp T.b_l_truth .nil pass0 (pa_cons (pv 0) (pa_cons (pe_dget (hu_of hr) (pv 1) pe_str (fun _ _ => rfl)) pa_nil))) (pa_cons (pe_call g_l_body (hr.mono (by first | decide | omega)) rfl T.m_l_body T.F_l_body.kp T.b_l_body .nil pass0 (pa_cons (pv 0) (pa_cons (pv 1) (pa_cons pe_int (pa_cons (pe_op op_sub (pv 3) pe_int) (pa_cons pe_bl pa_nil)))))) pa_nil)))))) (pss_one (ps_if (PW.pt (pw_and (pt_cmpR op_gt (pv 3) pe_int (nomark _)) (pw_and1 (pt_cmpR op_lt (pv 7) (pe_op op_mul pe_int (pe_dget (hu_of hr) (pv 1) pe_str (fun _ _ => rfl))) (nomark _))))) (pss_cons (ps_set (i := 9) sc_l_body.nd rfl (Or.inl rfl) (pe_call g_l_body (hr.mono (by first | decide | omega)) rfl T.m_l_body T.F_l_body.kp T.b_l_body .nil pass0 (pa_cons (pv 0) (pa_cons (pv 1) (pa_cons pe_int (pa_cons (pe_op op_sub (pv 3) pe_int) (pa_cons (pv 4) pa_nil)))))))
      (pss_cons (ps_set (i := 10) sc_l_body.nd rfl (Or.inl rfl) (pe_call g_l_body (hr.mono (by first | decide | omega)) rfl T.m_l_body T.F_l_body.kp T.b_l_body .nil pass0 (pa_cons (pv 0) (pa_cons (pv 1) (pa_cons pe_int (pa_cons (pe_op op_sub (pv 3) pe_int) (pa_cons (pv 4) pa_nil)))))))
      (pss_one (ps_set (i := 8) sc_l_body.nd rfl (Or.inl rfl) (pe_tup (pa_cons pe_str (pa_cons (pe_call g_l_truth (hr.mono (by first | decide | omega)) rfl T.m_l_truth T.F_l_truth.kp T.b_l_truth .nil pass0 (pa_cons (pv 0) (pa_cons (pe_dget (hu_of hr) (pv 1) pe_str (fun _ _ => rfl)) pa_nil))) (pa_cons (pv 9) (pa_cons (pv 10) pa_nil))))))))) pss_nil)))
      (pss_one (ps_set (i := 5) sc_l_body.nd rfl (Or.inl rfl) (pe_op op_catA (pv 5) (pe_tup (pa_cons (pv 8) pa_nil))))))))) pss_nil)))
      (pss_one (ps_ret (pv 5))))), ?_⟩
  refine ⟨by show 0 ≤ sizeLine; decide, fun b0 hb0 => ?_⟩
  have s0 := (Stq.refl hS hW).new (o := .tup []) hb0
  refine ⟨_, rfl, _, rfl, a, u, rfl, s0.s, by omega, fun r H1 st1 r0 r1 => ?_⟩
  have s1 := s0.stp nd st1
  have hb1 : SqT K H1 b0 [] := st1.rd (SqT.of upd_same) s0.s
  refine ⟨r, rfl, by omega, by omega, for_range (lo := 0) (fun i σ H' => ∃ (n' : Int) (bq : Addr) (us : List V) (t : Tr) (v6 v7 v8 v9 v10 : Option V), Stq a d n' H H' ∧ SqT K H' bq us ∧ TrL K H' t us ∧ us.length ≤ i ∧ t.dep D ∧ t.okB lp ∧ 0 ≤ n' ∧ (t.cnt : Int) + n' ≤ n ∧ σ = [some (.ref a), some (.ref d), some (.int u), some (.int (D : Int)), some (.bl lp), some (.ref bq), v6, v7, v8, v9, v10])
    ⟨n, b0, [], .nil, none, none, none, none, none, s1, hb1, rfl, Nat.le_refl _, by cases D <;> trivial, trivial, hn, by show ((0 : Nat) : Int) + n ≤ n; omega, rfl⟩ ?_ ?_⟩
  · rintro i σ H' hi ⟨n', bq, us, t, v6, v7, v8, v9, v10, st, hq, ht, hui, dt, okt, hn', hc, rfl⟩
    have hWi := hW.stq hS st
    obtain ⟨kvs, g1, g2, g3, g4, g5, hN, g7⟩ := id hWi
    refine ⟨_, rfl, d, _, rfl, DGet.at g1 g3, _, _, rfl, rfl, _, rfl, ite2 (fun c => ?_) (fun c => ?_)⟩
    · have c' : 0 < n' := of_decide_eq_true c
      refine ⟨_, rfl, d, _, rfl, DGet.at g1 g3, _, _, rfl, rfl, _, rfl, d, _, rfl, DPut.k (k := kLf) g1 (small1000 (by omega)), ?_⟩
      have sA := Stq.put (m := n' - 1) nd st g1 g3
      have sB := Stq.put (m := n' - 1) nd (Stq.refl st.s hWi) g1 g3
      have kB := Stq.keeps (K := K) st.s hWi sB
      generalize (upd H' d (.dK (putK kvs kLf (.int (n' - 1))))) = HA at sA sB kB ⊢
      have hWA := hW.stq hS sA
      refine ⟨_, rfl, a, 12, rfl, sA.s, by decide, fun ch H2 st2 _ _ => ?_⟩
      have sA2 := sA.stp nd st2
      have hW2 := hWA.stp sA.s st2
      refine ⟨_, rfl, _, rfl, _, rfl, a, d, p, zs, res, sh, n' - 1, lp, rfl, sA2.s, hW2, fun v0 t0 H3 st3 ht0 hc0 hd0 hk0 => ?_⟩
      have sA3 := sA2.stp nd st3
      have hW3 := hW2.stp sA2.s st3
      obtain ⟨kv3, e1, e2, e3, e4, e5, hN3, _⟩ := id hW3
      -- the statement that is made
      refine ⟨fun σ H4 => ∃ (n4 : Int) (vm : V) (tm : Tr) (w9 w10 : Option V), Stq a d n4 HA H4 ∧ TrL K H4 tm [vm] ∧ tm.dep D ∧ tm.okB lp ∧ 0 ≤ n4 ∧ (tm.cnt : Int) + n4 ≤ n' ∧ σ = [some (.ref a), some (.ref d), some (.int u), some (.int (D : Int)), some (.bl lp), some (.ref bq), some (.int (0 + (i : Int))), some (.int ch), some vm, w9, w10], ?_, ?_⟩
      · have LEAF : Stq a d (n' - 1) HA H3 := ((Stq.refl sA.s hWA).stp nd st2).stp nd st3
        have lf : ∃ (n4 : Int) (vm : V) (tm : Tr) (w9 w10 : Option V), Stq a d n4 HA H3 ∧ TrL K H3 tm [vm] ∧ tm.dep D ∧ tm.okB lp ∧ 0 ≤ n4 ∧ (tm.cnt : Int) + n4 ≤ n' ∧ ([some (.ref a), some (.ref d), some (.int u), some (.int (D : Int)), some (.bl lp), some (.ref bq), some (.int (0 + (i : Int))), some (.int ch), some v0, v9, v10] : List (Option V)) = [some (.ref a), some (.ref d), some (.int u), some (.int (D : Int)), some (.bl lp), some (.ref bq), some (.int (0 + (i : Int))), some (.int ch), some vm, w9, w10] :=
          ⟨n' - 1, v0, t0, v9, v10, LEAF, ht0, hd0 D, hk0, by omega, by rw [hc0]; omega, rfl⟩
        cases D with
        | zero => exact ⟨_, rfl, _, _, rfl, rfl, _, rfl, ifF (by decide) (iteF ⟨_, rfl, _, _, rfl, rfl, _, rfl, ifF (by decide) (iteF lf)⟩)⟩
        | succ D1 =>
          have eD : ((D1 + 1 : Nat) : Int) - 1 = (D1 : Int) := by omega
          have pos : decide ((0 : Int) < ((D1 + 1 : Nat) : Int)) = true := decide_eq_true (by omega)
          refine ⟨_, rfl, _, _, rfl, rfl, _, rfl, ifT pos ⟨_, rfl, _, rfl, d, _, rfl, DGet.at e1 e5, _, _, rfl, rfl, _, rfl, ite2 (fun _ => ?_) (fun _ => ?_)⟩⟩
          · -- while
            refine ⟨_, rfl, _, rfl, d, _, rfl, DGet.at e1 e2, a, p, zs, rfl, sA3.s, hN3, fun x dx H4 st4 hx => ?_⟩
            have sA4 := sA3.stp nd st4
            have hW4 := hW3.stp sA3.s st4
            refine ⟨_, rfl, _, rfl, _, rfl, _, _, rfl, rfl, a, d, p, zs, res, sh, n' - 1, 4, D1, true, by show [V.ref a, V.ref d, V.int 4, V.int (((D1 + 1 : Nat) : Int) - 1), V.bl true] = _; rw [eD], sA4.s, hW4, by decide, by decide, by omega, by omega, fun q1 us1 b1 n1 H5 st5 hq1 hb1 dp1 ok1 n10 c1 _ => ⟨by show 3 ≤ sizeLine; decide, fun z hz => ?_⟩⟩
            have kz := keeps_new (K := K) (o := .tup [.str "while", x, .ref q1]) hz
            have k5 := Stq.keeps (K := K) sA4.s hW4 st5
            refine ⟨n1, .ref z, .loop dx b1 .nil, _, _, (((LEAF.stp nd st4).trans st5).new hz), ⟨z, x, q1, us1, [], rfl, SqT.of upd_same, ((hx.up (by decide)).keep k5).keep kz, kz _ _ hq1, TrL.keep kz hb1, rfl⟩, ⟨dp1, trivial⟩, ⟨ok1, trivial⟩, n10, by show ((1 + b1.cnt + 0 : Nat) : Int) + n1 ≤ n'; omega, rfl⟩
          refine ⟨_, rfl, _, _, rfl, rfl, _, rfl, ifT pos ⟨_, rfl, _, rfl, d, _, rfl, DGet.at e1 e5, _, _, rfl, rfl, .inl ⟨by decide, by decide⟩, _, _, rfl, rfl, _, rfl, ite2 (fun _ => ?_) (fun _ => lf)⟩⟩
          -- if
          refine ⟨_, rfl, _, rfl, _, rfl, _, _, rfl, rfl, _, rfl, a, d, p, zs, res, sh, n' - 1, 4, D1, lp, by show [V.ref a, V.ref d, V.int 4, V.int (((D1 + 1 : Nat) : Int) - 1), V.bl lp] = _; rw [eD], sA3.s, hW3, by decide, by decide, by omega, by omega, fun q1 us1 b1 n1 H4 st4 hq1 hb1 dp1 ok1 n10 c1 _ => ?_⟩
          have sA4 := sA3.trans st4
          have hW4 := hW3.stq sA3.s st4
          refine ⟨_, rfl, _, rfl, _, rfl, _, _, rfl, rfl, _, rfl, a, d, p, zs, res, sh, n1, 3, D1, lp, by show [V.ref a, V.ref d, V.int 3, V.int (((D1 + 1 : Nat) : Int) - 1), V.bl lp] = _; rw [eD], sA4.s, hW4, by decide, by decide, by omega, n10, fun q2 us2 b2 n2 H5 st5 hq2 hb2 dp2 ok2 n20 c2 _ => ?_⟩
          have sA5 := sA4.trans st5
          have hW5 := hW4.stq sA4.s st5
          obtain ⟨kv5, i1, i2, i3, i4, i5, hN5, _⟩ := id hW5
          refine ⟨_, rfl, _, rfl, d, _, rfl, DGet.at i1 i2, a, p, zs, rfl, sA5.s, hN5, fun x dx H6 st6 hx => ⟨_, rfl, _, rfl, by show 4 ≤ sizeLine; decide, fun z hz => ?_⟩⟩
          have kz := keeps_new (K := K) (o := .tup [.str "if", x, .ref q1, .ref q2]) hz
          have k5 := Stq.keeps (K := K) sA4.s hW4 st5
          have k6 := Keeps.of_stp (K := K) st6 sA5.s
          refine ⟨n2, .ref z, .iff dx b1 b2 .nil, _, _, ((((LEAF.trans st4).trans st5).stp nd st6).new hz), ⟨z, x, q1, us1, q2, us2, [], rfl, SqT.of upd_same, (hx.up (by decide)).keep kz, kz _ _ (k6 _ _ (k5 _ _ hq1)), TrL.keep kz (TrL.keep k6 (TrL.keep k5 hb1)), kz _ _ (k6 _ _ hq2), TrL.keep kz (TrL.keep k6 hb2), rfl⟩, ⟨dp1, dp2, trivial⟩, ⟨ok1, ok2, trivial⟩, n20, by show ((1 + b1.cnt + b2.cnt + 0 : Nat) : Int) + n2 ≤ n'; omega, rfl⟩
      · rintro σ H4 ⟨n4, vm, tm, w9, w10, st4, htm, dtm, oktm, hn4, hc4, rfl⟩
        have k4 := Stq.keeps (K := K) sA.s hWA st4
        have hq4 := k4 _ _ (kB _ _ hq)
        have ht4 := TrL.keep k4 (TrL.keep kB ht)
        have sF := sA.trans st4
        refine ⟨_, rfl, _, rfl, by show 1 ≤ sizeLine; decide, fun z1 hz1 => ?_⟩
        have k1 := keeps_new (K := K) (o := .tup [vm]) hz1
        have hz4 := TrL.keep k1 htm
        refine ⟨bq, z1, us, [vm], rfl, rfl, k1 _ _ hq4, SqT.of upd_same, by show us.length + 1 ≤ sizeLine; have : (21 : Nat) ≤ sizeLine := by decide
                                                                            omega, fun e => ?_, fun _ e => (List.cons_ne_nil _ _ e).elim, fun _ _ p0 hp0 => ?_⟩
        · have e2 : TrL K (upd H4 z1 (HO.tup [vm])) (t.app tm) [vm] := by
            have := TrL.app hz4 (TrL.keep k1 ht4)
            rw [e] at this
            exact this
          exact ⟨n4, z1, [vm], t.app tm, _, _, _, _, _, sF.new hz1, SqT.of upd_same, e2, by show 1 ≤ i + 1; omega, Tr.dep_app dt dtm, okB_app okt oktm, hn4, by rw [Tr.cnt_app]; omega, rfl⟩
        · have kp := keeps_new (K := K) (o := .tup (us ++ [vm])) hp0
          exact ⟨n4, p0, us ++ [vm], t.app tm, _, _, _, _, _, (sF.new hz1).new hp0, SqT.of upd_same, TrL.keep kp (TrL.app hz4 (TrL.keep k1 ht4)), by rw [List.length_append]; show us.length + 1 ≤ i + 1; omega, Tr.dep_app dt dtm, okB_app okt oktm, hn4, by rw [Tr.cnt_app]; omega, rfl⟩
    · exact ⟨n', bq, us, t, _, v7, v8, v9, v10, st, hq, ht, by omega, dt, okt, hn', hc, rfl⟩
  · rintro σ H' ⟨n', bq, us, t, v6, v7, v8, v9, v10, st, hq, ht, hui, dt, okt, hn', hc, rfl⟩
    exact ⟨_, rfl, q bq us t n' H' st hq ht dt okt hn' hc (by omega)⟩
theorem ok_bo (T : Txt w K mg) : ∀ m, FnOk P w K mg base CX0 (m + 6) T.a_l_body T.d_l_body p_l_body (spBo K m)
  | 0 => fn_vac (fun vs H Q E ⟨a, d, p, zs, res, sh, n, u, D, lp, e1, e2, e3, e4, e5, e6, _⟩ => by omega)
  | m + 1 => ok_bo0 T (ok_bo T m)
end
theorem Stp.grow {H H' : Hp} {a l : Addr} {o : HO} (hl : H l = none) (na : l ≠ a) (x : Stp a H H') : Stp a H (upd H' l o) := ⟨by
  obtain ⟨c, m, k, h⟩ := x.s
  exact ⟨c, m, k, by rw [upd_ne na.symm]; exact h⟩, fun b u hb e => by
  rw [upd_ne (ne_of_none e hl)]
  exact x.k b u hb e⟩
def wKv (l : Addr) (res : Bool) : List (Key × V) := [(kNm, .ref l), (kLf, .int 40), (kRs, .bl res)]
theorem vw1 (l : Addr) (res : Bool) (sh : Int) : valV (putK (mergeK [] (wKv l res)) kSh (.int sh)) kNm = some (.ref l) := by kernel_rfl
theorem vw2 (l : Addr) (res : Bool) (sh : Int) : valV (putK (mergeK [] (wKv l res)) kSh (.int sh)) kLf = some (.int 40) := by kernel_rfl
theorem vw3 (l : Addr) (res : Bool) (sh : Int) : valV (putK (mergeK [] (wKv l res)) kSh (.int sh)) kRs = some (.bl res) := by kernel_rfl
theorem vw4 (l : Addr) (res : Bool) (sh : Int) : valV (putK (mergeK [] (wKv l res)) kSh (.int sh)) kSh = some (.int sh) := by kernel_rfl
theorem vw5 (l : Addr) (res : Bool) (sh : Int) : (putK (mergeK [] (wKv l res)) kSh (.int sh)).length = 4 := by kernel_rfl
theorem vw6 (l : Addr) (res : Bool) : (mergeK [] (wKv l res)).length = 3 := by kernel_rfl
theorem rot_len {α : Type} {xs : List α} {r n : Nat} (hn : xs.length = n) (hr : r ≤ n) : (xs.drop r ++ xs.take r).length = n := by
  rw [List.length_append, List.length_drop, List.length_take]
  omega
theorem cut_lo {xs : List V} {r : Int} (h0 : 0 ≤ r) (h : r.toNat ≤ xs.length) : cutV xs (some r) none = xs.drop r.toNat := by
  have e : HT.sIx xs.length 0 (some r) = r.toNat := by
    show (if r < 0 then (r + (xs.length : Int)).toNat else min r.toNat xs.length) = r.toNat
    rw [if_neg (by omega), Nat.min_eq_left h]
  unfold cutV
  rw [e]
  show (xs.drop r.toNat).take (xs.length - r.toNat) = _
  exact List.take_of_length_le (by rw [List.length_drop]; omega)
theorem cut_hi {xs : List V} {r : Int} (h0 : 0 ≤ r) (h : r.toNat ≤ xs.length) : cutV xs none (some r) = xs.take r.toNat := by
  have e : HT.sIx xs.length xs.length (some r) = r.toNat := by
    show (if r < 0 then (r + (xs.length : Int)).toNat else min r.toNat xs.length) = r.toNat
    rw [if_neg (by omega), Nat.min_eq_left h]
  unfold cutV
  rw [e]
  show (xs.drop 0).take (r.toNat - 0) = _
  rw [List.drop_zero, Nat.sub_zero]
def spFu (K : PySem.W.Frag) : Sp := fun vs H Q _ => ∃ c : Int, vs = [.int c] ∧ ∀ (F : Addr) (t : Tr) (H' : Hp), Same H H' → FnAt K H' F t → t.dep 8 → t.cnt ≤ 400 → t.okB false → Q (.ref F) H'
section
variable {P : Program} {w : World} {K : PySem.W.Frag} {mg : Str → Option Value} {base : Heap}
theorem ok_fu (T : Txt w K mg) : FnOk P w K mg base CX0 15 T.a_l_function T.d_l_function p_l_function (spFu K) := by
  have g_l_pick := ok_l_pick (P := P) (w := w) (base := base) T
  have g_l_one := ok_l_one (P := P) (w := w) (K := K) (base := base) T
  have g_l_names := ok_l_names (P := P) (w := w) (K := K) (base := base) T
  have g_l_source := ok_l_source (P := P) (w := w) (K := K) (base := base) T
  have g_l_body := ok_bo (P := P) (w := w) (K := K) (base := base) T 8
  refine T.F_l_function.ok sc_l_function (fun vs H Q E h => ?_) (fun cdv A outer s H vs Q E hr h => ?_)
  · obtain ⟨c, rfl, _⟩ := h
    rfl
  obtain ⟨c, rfl, q⟩ := h
  refine ⟨_, (pss_cons (ps_set (i := 1) sc_l_function.nd rfl (Or.inl rfl) (pe_call g_l_source (hr.mono (by first | decide | omega)) rfl T.m_l_source T.F_l_source.kp T.b_l_source .nil pass0 (pa_cons (pv 0) pa_nil)))
      (pss_cons (ps_set (i := 2) sc_l_function.nd rfl (Or.inl rfl) (pe_call g_l_names (hr.mono (by first | decide | omega)) rfl T.m_l_names T.F_l_names.kp T.b_l_names .nil pass0 (pa_cons (pv 1) pa_nil)))
      (pss_cons (ps_set (i := 3) sc_l_function.nd rfl (Or.inl rfl) (pe_call g_l_pick (hr.mono (by first | decide | omega)) rfl T.m_l_pick T.F_l_pick.kp T.b_l_pick .nil pass0 (pa_cons (pv 1) (pa_cons pe_int pa_nil))))
      (pss_cons (ps_set (i := 2) sc_l_function.nd rfl (Or.inl rfl) (pe_op op_cat (pe_slice sl_list (pv 2) (po_some (pv 3)) po_none) (pe_slice sl_list (pv 2) po_none (po_some (pv 3)))))
      (pss_cons (ps_set (i := 4) sc_l_function.nd rfl (Or.inl rfl) (pe_call g_l_one (hr.mono (by first | decide | omega)) rfl T.m_l_one T.F_l_one.kp T.b_l_one .nil pass0 (pa_cons (pv 1) (pa_cons (pe_lst (pa_cons pe_non (pa_cons (pe_tup (pa_cons pe_str (pa_cons pe_int (pa_cons pe_int pa_nil)))) pa_nil))) pa_nil))))
      (pss_cons (ps_set (i := 5) sc_l_function.nd rfl (Or.inl rfl) (pe_disp (pps_cons pe_str (pv 2) (pps_cons pe_str pe_int (pps_cons pe_str (pe_cmpR op_notN (pv 4) pe_non (nomark _)) pps_nil))) (by rfl) (by rfl) (fun z => by cases z) (by decide)))
      (pss_cons (ps_dput (hu_of hr) (pv 5) pe_str (pe_call g_l_one (hr.mono (by first | decide | omega)) rfl T.m_l_one T.F_l_one.kp T.b_l_one .nil pass0 (pa_cons (pv 1) (pa_cons (pe_lst (pa_cons pe_int (pa_cons pe_int (pa_cons pe_int pa_nil)))) pa_nil))) rfl)
      (pss_cons (ps_set (i := 6) sc_l_function.nd rfl (Or.inl rfl) (pe_tup (pa_cons (pe_tup (pa_cons (pe_ix ix_list (pv 2) pe_int (fun _ _ => rfl)) (pa_cons (pe_tup (pa_cons pe_str (pa_cons pe_int (pa_cons pe_int pa_nil)))) pa_nil))) (pa_cons (pe_tup (pa_cons (pe_ix ix_list (pv 2) pe_int (fun _ _ => rfl)) (pa_cons (pe_tup (pa_cons pe_str pa_nil)) pa_nil))) (pa_cons (pe_tup (pa_cons (pe_ix ix_list (pv 2) pe_int (fun _ _ => rfl)) (pa_cons (pe_tup (pa_cons pe_str (pa_cons (pe_ix ix_list (pv 2) pe_int (fun _ _ => rfl)) pa_nil))) pa_nil))) pa_nil)))))
      (pss_cons (ps_set (i := 7) sc_l_function.nd rfl (Or.inl rfl) (pe_tup pa_nil))
      (pss_cons (ps_for PassesOwn.never rfl (pi_range1 rfl T.z_range (pa_cons pe_int pa_nil)) (pg_name (i := 8) sc_l_function.nd rfl (Or.inl rfl))
        (pss_one (ps_set (i := 7) sc_l_function.nd rfl (Or.inl rfl) (pe_op op_catA (pv 7) (pe_call g_l_body (hr.mono (by first | decide | omega)) rfl T.m_l_body T.F_l_body.kp T.b_l_body .nil pass0 (pa_cons (pv 1) (pa_cons (pv 5) (pa_cons pe_int (pa_cons pe_int (pa_cons pe_bl pa_nil))))))))))
      (C8.pss_cut (ps_if (pt_cmpR op_eq (pe_call g_l_pick (hr.mono (by first | decide | omega)) rfl T.m_l_pick T.F_l_pick.kp T.b_l_pick .nil pass0 (pa_cons (pv 1) (pa_cons pe_int pa_nil))) pe_int (nomark _)) (pss_one (ps_set (i := 7) sc_l_function.nd rfl (Or.inl rfl) (pe_tup pa_nil))) pss_nil)
      (pss_one (ps_ret (pe_tup (pa_cons (pe_ix ix_list (pv 2) pe_int (fun _ _ => rfl)) (pa_cons (pe_tup pa_nil) (pa_cons (pv 4) (pa_cons (pv 6) (pa_cons (pv 7) pa_nil))))))))))))))))))), ?_⟩
  refine ⟨_, rfl, c, rfl, fun a H1 ha1 s1 hS => ?_⟩
  refine ⟨_, rfl, a, rfl, hS, fun st p H2 st2 hp2 st0 st4 hN => ?_⟩
  refine ⟨_, rfl, a, 20, rfl, st2.s, by decide, fun r H3 st3 r0 r1 => ?_⟩
  have hr2 : r.toNat ≤ ((namesOf st).map V.str).length := by
    rw [List.length_map]
    show r.toNat ≤ 20
    omega
  have hp3 : H3 p = some (.lst ((namesOf st).map V.str)) := st3.k _ _ (lst_ne st2.s hN) hN
  refine ⟨_, rfl, _, rfl, r, rfl, p, _, rfl, SqL.of hp3, fun q1 hq1 => ?_⟩
  have k1 := Same.new hq1 (.lst (cutV ((namesOf st).map V.str) (some r) none))
  refine ⟨_, rfl, _, rfl, r, rfl, p, _, rfl, SqL.of (k1 _ _ hp3), fun q2 hq2 => ?_⟩
  have k2 := k1.trans (Same.new hq2 (.lst (cutV ((namesOf st).map V.str) none (some r))))
  have n12 : q1 ≠ q2 := ne_of_none upd_same hq2
  refine ⟨q1, q2, _, _, rfl, rfl, by rw [upd_ne n12, upd_same], upd_same, ?_, fun ln hln => ?_⟩
  · have c1 := cutV_length ((namesOf st).map V.str) (some r) none
    have c2 := cutV_length ((namesOf st).map V.str) none (some r)
    have c3 : ((namesOf st).map V.str).length = 20 := by rw [List.length_map]; rfl
    have c4 : (40 : Nat) ≤ sizeLine := by decide
    omega
  rw [cut_lo r0 hr2, cut_hi r0 hr2, ← List.map_drop, ← List.map_take, ← List.map_append]
  have zl : ((namesOf st).drop r.toNat ++ (namesOf st).take r.toNat).length = 20 := rot_len (by rfl) (by omega)
  generalize ((namesOf st).drop r.toNat ++ (namesOf st).take r.toNat) = zs at zl
  rw [cut_lo r0 hr2, cut_hi r0 hr2, ← List.map_drop, ← List.map_take] at k2 hln
  have hln2 : ∃ G, G = (upd (upd (upd H3 q1 (.lst (((namesOf st).drop r.toNat).map V.str))) q2 (.lst (((namesOf st).take r.toNat).map V.str))) ln (.lst (zs.map V.str))) ∧ NmAt G ln zs ∧ Stp a H1 G := ⟨_, rfl, ⟨upd_same, zl⟩, ((st2.trans st3).same k2).new hln⟩
  obtain ⟨G, eG, hG, stA⟩ := hln2
  rw [← eG]
  refine ⟨_, rfl, by show 3 ≤ sizeLine; decide, fun t1 ht1 => ⟨by show 2 ≤ sizeLine; decide, fun l1 hl1 => ⟨a, .ref l1, rfl, ((stA.new ht1).new hl1).s, .inl ⟨l1, _, rfl, ?_, SqL.of upd_same, Nat.succ_pos _, by show 2 < 1000; decide, fun rv H5 _ st5 => ?_⟩⟩⟩⟩
  · exact (((stA.new ht1).s).ne hl1).symm
  have stB := ((stA.new ht1).new hl1).trans st5
  have hG5 : NmAt H5 ln zs := NmAt.stp (H := upd (upd G t1 (.tup [.str "num", .int 0, .int 9])) l1 (.lst [.non, .ref t1])) ⟨Same.new hl1 _ _ _ (Same.new ht1 _ _ _ hG.1), hG.2⟩ ((stA.new ht1).new hl1).s st5
  generalize hres : (!decide (rv = .non)) = res
  refine fun d hd => ⟨_, rfl, _, rfl, rfl, upd_same, wKv ln res, by rw [← hres]; rfl, by show 3 ≤ 15; decide, ?_⟩
  have hd1 : H1 d = none := stB.free hd
  have nda : d ≠ a := (stB.s.ne hd).symm
  have stC := Stp.grow (o := .dK (mergeK [] (wKv ln res))) hd1 nda (stB.new (o := .dK []) hd)
  have nld : ln ≠ d := ne_of_none hG5.1 hd
  have hGC : NmAt (upd (upd H5 d (.dK [])) d (.dK (mergeK [] (wKv ln res)))) ln zs := ⟨by rw [upd_ne nld, upd_ne nld]; exact hG5.1, hG5.2⟩
  refine ⟨_, rfl, by show 3 ≤ sizeLine; decide, fun l2 hl2 => ⟨a, .ref l2, rfl, (stC.new hl2).s, .inl ⟨l2, _, rfl, (stC.s.ne hl2).symm, SqL.of upd_same, Nat.succ_pos _, by show 3 < 1000; decide, fun shv H6 hsh st6 => ?_⟩⟩⟩
  have hd6 : H6 d = some (.dK (mergeK [] (wKv ln res))) := st6.k _ _ nda (Same.new hl2 _ _ _ upd_same)
  have hG6 : NmAt H6 ln zs := NmAt.stp ⟨Same.new hl2 _ _ _ hGC.1, hGC.2⟩ (stC.new hl2).s st6
  have ⟨sh, esh⟩ : ∃ i : Int, shv = .int i := by
    simp only [List.mem_cons, List.not_mem_nil, or_false] at hsh
    rcases hsh with e | e | e <;> exact ⟨_, e⟩
  subst esh
  refine ⟨_, rfl, d, _, rfl, DPut.k (k := kSh) hd6 (by rw [vw6]; decide), ?_⟩
  have stD := Stp.grow (o := .dK (putK (mergeK [] (wKv ln res)) kSh (.int sh))) hd1 nda ((stC.new hl2).trans st6)
  have hW : Wm (upd H6 d (.dK (putK (mergeK [] (wKv ln res)) kSh (.int sh)))) d ln zs res sh 40 := ⟨_, upd_same, vw1 .., vw2 .., vw3 .., vw4 .., ⟨by rw [upd_ne nld]; exact hG6.1, hG6.2⟩, by rw [vw5]; decide⟩
  generalize (upd H6 d (.dK (putK (mergeK [] (wKv ln res)) kSh (.int sh)))) = HW at stD hW ⊢
  have nmW : NmAt HW ln zs := by
    obtain ⟨_, _, _, _, _, _, h, _⟩ := hW
    exact h
  have gt : ∀ HX : Hp, Same HW HX → NmAt HX ln zs := fun HX k => ⟨k _ _ nmW.1, nmW.2⟩
  obtain ⟨z0, e0⟩ := nmW.get (i := 0) (by decide)
  obtain ⟨z1, e1⟩ := nmW.get (i := 1) (by decide)
  obtain ⟨z2, e2⟩ := nmW.get (i := 2) (by decide)
  obtain ⟨z6, e6⟩ := nmW.get (i := 6) (by decide)
  obtain ⟨z7, e7⟩ := nmW.get (i := 7) (by decide)
  refine ⟨_, rfl, ln, _, 0, _, rfl, rfl, SqL.of nmW.1, e0, by show 3 ≤ sizeLine; decide, fun u1 hu1 => ⟨by show 2 ≤ sizeLine; decide, fun u2 hu2 => ?_⟩⟩
  have m2 := (Same.new hu1 (.tup [.str "num", .int 0, .int 9])).trans (Same.new hu2 (.tup [.str z0, .ref u1]))
  refine ⟨_, rfl, ln, _, 1, _, rfl, rfl, SqL.of (gt _ m2).1, e1, by show 1 ≤ sizeLine; decide, fun u3 hu3 => ⟨by show 2 ≤ sizeLine; decide, fun u4 hu4 => ?_⟩⟩
  have m4 := (m2.trans (Same.new hu3 (.tup [.str "flag"]))).trans (Same.new hu4 (.tup [.str z1, .ref u3]))
  refine ⟨_, rfl, ln, _, 2, _, rfl, rfl, SqL.of (gt _ m4).1, e2, _, rfl, ln, _, 6, _, rfl, rfl, SqL.of (gt _ m4).1, e6, by show 2 ≤ sizeLine; decide, fun u5 hu5 => ⟨by show 2 ≤ sizeLine; decide, fun u6 hu6 => ?_⟩⟩
  have m6 := (m4.trans (Same.new hu5 (.tup [.str "ref", .str z6]))).trans (Same.new hu6 (.tup [.str z2, .ref u5]))
  refine ⟨by show 3 ≤ sizeLine; decide, fun ow how => ?_⟩
  have m7 := m6.trans (Same.new how (.tup [.ref u2, .ref u4, .ref u6]))
  refine ⟨by show 0 ≤ sizeLine; decide, fun b0 hb0 => ?_⟩
  have hQ := (((((((((Stq.refl stD.s hW).new hu1).new hu2).new hu3).new hu4).new hu5).new hu6).new how).new (o := .tup []) hb0)
  have hbB : ∀ HX : Hp, (upd HX b0 (.tup [])) b0 = some (.tup []) := fun HX => upd_same
  specialize hbB (upd (upd (upd (upd (upd (upd (upd HW u1 (.tup [.str "num", .int 0, .int 9])) u2 (.tup [.str z0, .ref u1])) u3 (.tup [.str "flag"])) u4 (.tup [.str z1, .ref u3])) u5 (.tup [.str "ref", .str z6])) u6 (.tup [.str z2, .ref u5])) ow (.tup [.ref u2, .ref u4, .ref u6]))
  generalize (upd (upd (upd (upd (upd (upd (upd (upd HW u1 (.tup [.str "num", .int 0, .int 9])) u2 (.tup [.str z0, .ref u1])) u3 (.tup [.str "flag"])) u4 (.tup [.str z1, .ref u3])) u5 (.tup [.str "ref", .str z6])) u6 (.tup [.str z2, .ref u5])) ow (.tup [.ref u2, .ref u4, .ref u6])) b0 (.tup [])) = HB at hQ hbB ⊢
  have dna : d ≠ a := hW.ne stD.s
  refine ⟨3, rfl, by decide, by decide, for_range (lo := 0) (n := 3) (fun i σ H' => ∃ (n' : Int) (bq : Addr) (us : List V) (t : Tr) (v8 : Option V), Stq a d n' HW H' ∧ SqT K H' bq us ∧ TrL K H' t us ∧ us.length ≤ 20 * i ∧ t.dep 8 ∧ t.okB false ∧ 0 ≤ n' ∧ (t.cnt : Int) + n' ≤ 40 ∧ σ = [some (.int c), some (.ref a), some (.ref ln), some (.int r), some rv, some (.ref d), some (.ref ow), some (.ref bq), v8])
    ⟨40, b0, [], .nil, none, hQ, SqT.of hbB, rfl, Nat.le_refl _, trivial, trivial, by decide, by decide, rfl⟩ ?_ ?_⟩
  · rintro i σ H' hi ⟨n', bq, us, t, v8, st, hq, ht, hui, dt, okt, hn', hc, rfl⟩
    have hWi := hW.stq stD.s st
    refine ⟨_, rfl, _, rfl, _, rfl, a, d, ln, zs, res, sh, n', 5, 7, false, rfl, st.s, hWi, by decide, by decide, by decide, hn', fun q9 us9 b9 n9 H9 st9 hq9 hb9 dp9 ok9 n90 c9 l9 => ?_⟩
    have k9 := Stq.keeps (K := K) st.s hWi st9
    have hq8 := k9 _ _ hq
    have ht8 := TrL.keep k9 ht
    have sF := st.trans st9
    have dp8 := Tr.dep_up (k := 8) (by decide) dp9
    have g4 : (80 : Nat) ≤ sizeLine := by decide
    refine ⟨bq, q9, us, us9, rfl, rfl, hq8, hq9, by omega, fun e => ?_, fun _ e => ?_, fun _ _ p0 hp0 => ?_⟩
    · have e2 := TrL.app hb9 ht8
      rw [e] at e2
      exact ⟨n9, q9, us9, t.app b9, _, sF, hq9, e2, by omega, Tr.dep_app dt dp8, okB_app okt ok9, n90, by rw [Tr.cnt_app]; omega, rfl⟩
    · have e2 := TrL.app hb9 ht8
      rw [e, List.append_nil] at e2
      exact ⟨n9, bq, us, t.app b9, _, sF, hq8, e2, by omega, Tr.dep_app dt dp8, okB_app okt ok9, n90, by rw [Tr.cnt_app]; omega, rfl⟩
    · have kp := keeps_new (K := K) (o := .tup (us ++ us9)) hp0
      exact ⟨n9, p0, us ++ us9, t.app b9, _, sF.new hp0, SqT.of upd_same, TrL.keep kp (TrL.app hb9 ht8), by rw [List.length_append]; omega, Tr.dep_app dt dp8, okB_app okt ok9, n90, by rw [Tr.cnt_app]; omega, rfl⟩
  · rintro σ H' ⟨n', bq, us, t, v8, st, hq, ht, hui, dt, okt, hn', hc, rfl⟩
    refine ⟨fun σ H4 => ∃ (bq : Addr) (us : List V) (t : Tr), Stq a d n' HW H4 ∧ SqT K H4 bq us ∧ TrL K H4 t us ∧ t.dep 8 ∧ t.okB false ∧ t.cnt ≤ 400 ∧ σ = [some (.int c), some (.ref a), some (.ref ln), some (.int r), some rv, some (.ref d), some (.ref ow), some (.ref bq), v8], ?_, ?_⟩
    · refine ⟨_, rfl, a, 8, rfl, st.s, by decide, fun ch H2 st2 c0 c1 => ⟨rfl, _, rfl, ?_⟩⟩
      have k2 := Keeps.of_stp (K := K) st2 st.s
      have sF := st.stp dna st2
      refine ite2 (fun _ => ⟨by show 0 ≤ sizeLine; decide, fun b1 hb1 => ?_⟩) (fun _ => ?_)
      · exact ⟨b1, [], .nil, sF.new hb1, SqT.of upd_same, rfl, trivial, trivial, by decide, rfl⟩
      · exact ⟨bq, us, t, sF, k2 _ _ hq, TrL.keep k2 ht, dt, okt, by omega, rfl⟩
    · rintro σ H4 ⟨b5, us5, t5, st5, hq5, ht5, dt5, ok5, c5, rfl⟩
      have nm5 : NmAt H4 ln zs := by
        obtain ⟨_, _, _, _, _, _, h, _⟩ := hW.stq stD.s st5
        exact h
      have hd0 := s1.free hd1
      have sm : Same H H4 := fun b o e => st5.k b o (ne_of_none e ha1) (ne_of_none e hd0) (Stp.fresh s1 ha1 stD b o e)
      refine ⟨_, rfl, ln, _, 7, _, rfl, rfl, SqL.of nm5.1, e7, by show 0 ≤ sizeLine; decide, fun pe hpe => ⟨_, rfl, _, rfl, _, rfl, by show 5 ≤ sizeLine; decide, fun F hF => ?_⟩⟩
      have kk : Keeps K H4 _ := fun p0 xs0 h0 => keeps_new (K := K) (o := .tup [.str z7, .ref pe, rv, .ref ow, .ref b5]) hF _ _ (keeps_new (K := K) (o := .tup []) hpe _ _ h0)
      exact q F t5 _ ((sm.trans (Same.new hpe _)).trans (Same.new hF _)) ⟨_, _, _, _, b5, us5, SqT.of upd_same, kk _ _ hq5, TrL.keep kk ht5⟩ dt5 c5 ok5
end
/-! ### the law -/
def spLaw (K : PySem.W.Frag) : Sp := fun vs H Q _ => ∃ (a : Addr) (ns : List Int), vs = [.ref a] ∧ SqL K H a (ns.map V.int) ∧ ns.length ≤ 63 ∧ ∀ H', Q (.bl true) H'
/-- a function and what is due of it -/
def PaAt (K : PySem.W.Frag) (H : Hp) (y : V) : Prop := ∃ (pr F z p1 p2 : Addr) (t : Tr), y = .ref pr ∧ SqT K H pr [.ref F, .ref z] ∧ FnAt K H F t ∧ t.dep 8 ∧ t.cnt ≤ 400 ∧ SqT K H z [.ref p1, .ref p2] ∧
  DT K 10 H (.ref p1) (.tuple (nodesT t 0 t.cnt none t.cnt)) ∧ DT K 10 H (.ref p2) (.tuple ((hdsL t.pre 0).map .int))
theorem PaAt.keep {K : PySem.W.Frag} {H H' : Hp} {y : V} (k : Keeps K H H') (h : PaAt K H y) : PaAt K H' y := by
  obtain ⟨pr, F, z, p1, p2, t, e, h1, h2, h3, h4, h5, h6, h7⟩ := h
  exact ⟨pr, F, z, p1, p2, t, e, k _ _ h1, h2.keep k, h3, h4, k _ _ h5, h6.keep k, h7.keep k⟩
section
variable {P : Program} {w : World} {K : PySem.W.Frag} {mg : Str → Option Value} {base : Heap}
theorem ok_law (T : Txt w K mg) : FnOk P w K mg base CX0 45 T.a_law T.d_law p_law (spLaw K) := by
  have g_l_cell := ok_l_cell (P := P) (w := w) (K := K) (base := base) T
  have g_l_function := ok_fu (P := P) (w := w) (K := K) (base := base) T
  have g_l_due := ok_du (P := P) (w := w) (K := K) (base := base) T
  have g_l_same := ok_l_same (P := P) (w := w) (K := K) (base := base) T 10
  have g_nodes := ok_nodes (P := P) (w := w) (K := K) (base := base) T
  have g_heads := ok_heads (P := P) (w := w) (K := K) (base := base) T
  refine T.F_law.ok sc_law (fun vs H Q E h => ?_) (fun cdv A outer s H vs Q E hr h => ?_)
  · obtain ⟨a, ns, rfl, _⟩ := h
    rfl
  obtain ⟨a, ns, rfl, hS, h63, q⟩ := h
  refine ⟨_, (pss_cons (ps_set (i := 1) sc_law.nd rfl (Or.inl rfl) (pe_lst pa_nil))
      (pss_cons (ps_for PassesOwn.never rfl (pi_range1 rfl T.z_range (pa_cons (pe_callB (call_max2 rfl) rfl T.z_max bb_max (pa_cons pe_int (pa_cons (pe_callB (call_min2 rfl) rfl T.z_min bb_min (pa_cons (pe_callB call_len_seq rfl T.z_len PySem.boot_len (pa_cons (pv 0) pa_nil)) (pa_cons pe_int pa_nil))) pa_nil))) pa_nil)) (pg_name (i := 2) sc_law.nd rfl (Or.inl rfl))
        (pss_cons (ps_set (i := 3) sc_law.nd rfl (Or.inl rfl) (pe_call g_l_function (hr.mono (by first | decide | omega)) rfl T.m_l_function T.F_l_function.kp T.b_l_function .nil pass0 (pa_cons (pe_call g_l_cell (hr.mono (by first | decide | omega)) rfl T.m_l_cell T.F_l_cell.kp T.b_l_cell .nil pass0 (pa_cons (pv 0) (pa_cons (pv 2) pa_nil))) pa_nil)))
      (pss_one (ps_expr (pe_bm PySem.F.plainAttrs_list PySem.F.slot_list_append PySem.F.type_list_append mt_append (pv 1) (pa_cons (pe_tup (pa_cons (pv 3) (pa_cons (pe_call g_l_due (hr.mono (by first | decide | omega)) rfl T.m_l_due T.F_l_due.kp T.b_l_due .nil pass0 (pa_cons (pv 3) pa_nil)) pa_nil))) pa_nil))))))
      (pss_cons (ps_for PassesOwn.never rfl (pi_list (pe_op op_cat (pv 1) (pe_revL (pv 1)))) (pg_name (i := 4) sc_law.nd rfl (Or.inl rfl))
        (pss_one (ps_if (PW.pt (pw_or (pt_not (pt_val (pe_call g_l_same (hr.mono (by first | decide | omega)) rfl T.m_l_same T.F_l_same.kp T.b_l_same .nil pass0 (pa_cons (pe_call g_nodes (hr.mono (by first | decide | omega)) rfl T.m_nodes T.F_nodes.kp T.b_nodes .nil pass0 (pa_cons (pe_ix ix_tup (pv 4) pe_int (fun _ _ => rfl)) pa_nil)) (pa_cons (pe_ix ix_tup (pe_ix ix_tup (pv 4) pe_int (fun _ _ => rfl)) pe_int (fun _ _ => rfl)) pa_nil))))) (pw_or1 (pt_not (pt_val (pe_call g_l_same (hr.mono (by first | decide | omega)) rfl T.m_l_same T.F_l_same.kp T.b_l_same .nil pass0 (pa_cons (pe_call g_heads (hr.mono (by first | decide | omega)) rfl T.m_heads T.F_heads.kp T.b_heads .nil pass0 (pa_cons (pe_ix ix_tup (pv 4) pe_int (fun _ _ => rfl)) pa_nil)) (pa_cons (pe_ix ix_tup (pe_ix ix_tup (pv 4) pe_int (fun _ _ => rfl)) pe_int (fun _ _ => rfl)) pa_nil)))))))) (pss_one (ps_ret pe_bl)) pss_nil)))
      (pss_one (ps_ret pe_bl))))), ?_⟩
  have hl : (ns.map V.int).length = ns.length := List.length_map _
  refine ⟨by show 0 ≤ sizeLine; decide, fun l hl0 => ?_⟩
  refine ⟨_, rfl, a, _, rfl, .inl ((Same.new hl0 _).seq hS), _, _, rfl, _, _, rfl, _, rfl, ?_, ?_, for_range (lo := 0) (fun i σ H' => Same H H' ∧ ∃ (xs : List V) (v2 v3 v4 : Option V), σ = [some (.ref a), some (.ref l), v2, v3, v4] ∧
    H' l = some (.lst xs) ∧ xs.length = i ∧ ∀ v ∈ xs, PaAt K H' v) ⟨Same.new hl0 _, [], none, none, none, rfl, upd_same, rfl, fun v hv => nomatch hv⟩ ?_ ?_⟩
  · repeat' split
    all_goals omega
  · rw [hl]
    repeat' split
    all_goals omega
  · rintro i σ H' hi ⟨sm, xs, v2, v3, v4, rfl, hl', hx2, hx⟩
    have hi63 : i < 63 := by
      rw [hl] at hi
      revert hi
      repeat' split
      all_goals omega
    refine ⟨_, rfl, _, rfl, a, ns, _, rfl, sm.seq hS, by omega, fun ci => ?_⟩
    refine ⟨ci, rfl, fun F t H1 s1 fa dd cc okk => ?_⟩
    refine ⟨_, rfl, .inl ⟨rfl, _, SqL.of (s1 _ _ hl')⟩, _, rfl, _, rfl, F, t, rfl, fa, dd, cc, okk, fun z p1 p2 H2 s2 hz d1 d2 => ⟨by show 2 ≤ sizeLine; decide, fun pr hpr => ?_⟩⟩
    have s3 := Same.new hpr (.tup [.ref F, .ref z])
    have s13 := (s1.trans s2).trans s3
    have hl3 := s13 _ _ hl'
    refine ⟨l, xs, _, rfl, rfl, hl3, small1000 (by omega), Same.grow hl0 (sm.trans s13), xs ++ [.ref pr], _, _, _, rfl, upd_same, by rw [List.length_append]; show xs.length + 1 = _; omega, fun v hv => ?_⟩
    have kl := keep_lst (K := K) (o := .lst (xs ++ [.ref pr])) hl3
    rcases List.mem_append.mp hv with hv | hv
    · exact ((hx v hv).keep (Keeps.of_same s13)).keep kl
    · obtain rfl := List.mem_singleton.mp hv
      exact PaAt.keep kl ⟨pr, F, z, p1, p2, t, rfl, SqT.of upd_same, fa.keep (Keeps.of_same (s2.trans s3)), dd, cc, SqT.of (s3 _ _ hz), d1.keep (Keeps.of_same s3), d2.keep (Keeps.of_same s3)⟩
  · rintro σ H' ⟨sm, xs, v2, v3, v4, rfl, hl', hx2, hx⟩
    have hx126 : xs.length ≤ 126 := by
      rw [hl] at hx2
      revert hx2
      repeat' split
      all_goals omega
    refine ⟨_, rfl, _, rfl, l, xs, rfl, SqL.of hl', fun r hr => ?_⟩
    have sm1 := Same.new hr (.lst xs.reverse)
    refine ⟨l, r, _, _, rfl, rfl, sm1 _ _ hl', upd_same, ?_, fun e he => ?_⟩
    · rw [List.length_reverse]
      exact Nat.le_of_lt (small1000 (by omega))
    have sm2 := Same.new he (.lst (xs ++ xs.reverse))
    have smE := sm1.trans sm2
    refine ⟨e, rfl, ⟨_, SqL.of upd_same⟩, for_list (K := K) (a := e) (xs := xs ++ xs.reverse) (fun i σ H2 => Same (upd (upd H' r (.lst xs.reverse)) e (.lst (xs ++ xs.reverse))) H2 ∧ ∃ (v2 v3 v4 : Option V), σ = [some (.ref a), some (.ref l), v2, v3, v4])
      ⟨Same.refl _, _, _, _, rfl⟩ (fun i σ H2 _ ⟨s2, _⟩ => s2.seq (SqL.of upd_same)) ?_ ?_⟩
    · rintro i y σ H2 hi ⟨sm3, v2, v3, v4, rfl⟩
      have hy : y ∈ xs := by
        rcases List.mem_append.mp (List.mem_of_getElem? hi) with h | h
        · exact h
        · exact List.mem_reverse.mp h
      have pa := (hx y hy).keep (Keeps.of_same (smE.trans sm3))
      obtain ⟨pr, F, z, p1, p2, t, rfl, h1, h2, h3, h4, h5, h6, h7⟩ := pa
      refine ⟨_, rfl, pr, _, 0, _, rfl, rfl, h1, rfl, F, t, rfl, h2, h3, h4, fun g1 H3 s3 dg1 => ?_⟩
      have k3 := Keeps.of_same (K := K) s3
      refine ⟨_, rfl, pr, _, 1, _, rfl, rfl, k3 _ _ h1, rfl, z, _, 0, _, rfl, rfl, k3 _ _ h5, rfl, _, _, _, rfl, dg1.1, (h6.keep k3).1, Tok.dok h6.2, _, rfl, iteF ?_⟩
      refine ⟨_, rfl, pr, _, 0, _, rfl, rfl, k3 _ _ h1, rfl, F, t, rfl, h2.keep k3, h3, h4, fun g2 H4 s4 dg2 => ?_⟩
      have k4 := Keeps.of_same (K := K) s4
      refine ⟨_, rfl, pr, _, 1, _, rfl, rfl, k4 _ _ (k3 _ _ h1), rfl, z, _, 1, _, rfl, rfl, k4 _ _ (k3 _ _ h5), rfl, _, _, _, rfl, dg2.1, ((h7.keep k3).keep k4).1, Tok.dok h7.2, _, rfl, iteF ?_⟩
      exact ⟨sm3.trans (s3.trans s4), _, _, _, rfl⟩
    · rintro σ H2 ⟨_, _⟩
      exact q H2
end
theorem all_mk {l : PySem.W.OpenLaw} {w : World} {K : PySem.W.Frag} {h : Heap} {mg : Str → Option Value} {fa : Addr} (X : K.In h) (G : h.Ns mainGlobals mg) (hfa : mg "law" = some (.ref fa))
    {f_bodies_of : Addr} {od_bodies_of an_bodies_of : Option Addr} {sl_bodies_of : Array (Option Value)} {oc_bodies_of kV_bodies_of dc_bodies_of pm_bodies_of cd_bodies_of ct_bodies_of : Value}
    (A_bodies_of : PySem.W.nsIn K mainGlobals "bodies_of" = some (some (.ref f_bodies_of))) (L_bodies_of : K.lookup f_bodies_of = some ⟨oc_bodies_of, od_bodies_of, .func (PySem.W.fnOf "bodies_of" "bodies_of" (defArgs s_bodies_of) (defBody s_bodies_of) (defScope s_bodies_of) .none kV_bodies_of dc_bodies_of pm_bodies_of an_bodies_of cd_bodies_of ct_bodies_of), sl_bodies_of⟩) (C_bodies_of : PySem.W.codeIn K cd_bodies_of "bodies_of" = true) (K_bodies_of : PySem.W.keepIn K (.ref f_bodies_of) = true)
    {f_list_statements td_list_statements : Addr} {od_list_statements an_list_statements dd_list_statements : Option Addr} {sl_list_statements sk_list_statements : Array (Option Value)} {its_list_statements : Array Value} {n_list_statements : Nat} {oc_list_statements kV_list_statements dc_list_statements pm_list_statements cd_list_statements ct_list_statements tt_list_statements : Value}
    (A_list_statements : PySem.W.nsIn K mainGlobals "list_statements" = some (some (.ref f_list_statements))) (L_list_statements : K.lookup f_list_statements = some ⟨oc_list_statements, od_list_statements, .func (PySem.W.fnOf "list_statements" "list_statements" (defArgs s_list_statements) (defBody s_list_statements) (defScope s_list_statements) (.ref td_list_statements) kV_list_statements dc_list_statements pm_list_statements an_list_statements cd_list_statements ct_list_statements), sl_list_statements⟩) (R_list_statements : K.lookup td_list_statements = some ⟨tt_list_statements, dd_list_statements, .seq its_list_statements n_list_statements, sk_list_statements⟩) (W_list_statements : isVs [.bl false] its_list_statements.toList = true) (C_list_statements : PySem.W.codeIn K cd_list_statements "list_statements" = true) (K_list_statements : PySem.W.keepIn K (.ref f_list_statements) = true)
    {f_count_statements : Addr} {od_count_statements an_count_statements : Option Addr} {sl_count_statements : Array (Option Value)} {oc_count_statements kV_count_statements dc_count_statements pm_count_statements cd_count_statements ct_count_statements : Value}
    (A_count_statements : PySem.W.nsIn K mainGlobals "count_statements" = some (some (.ref f_count_statements))) (L_count_statements : K.lookup f_count_statements = some ⟨oc_count_statements, od_count_statements, .func (PySem.W.fnOf "count_statements" "count_statements" (defArgs s_count_statements) (defBody s_count_statements) (defScope s_count_statements) .none kV_count_statements dc_count_statements pm_count_statements an_count_statements cd_count_statements ct_count_statements), sl_count_statements⟩) (C_count_statements : PySem.W.codeIn K cd_count_statements "count_statements" = true) (K_count_statements : PySem.W.keepIn K (.ref f_count_statements) = true)
    {f_nodes : Addr} {od_nodes an_nodes : Option Addr} {sl_nodes : Array (Option Value)} {oc_nodes kV_nodes dc_nodes pm_nodes cd_nodes ct_nodes : Value}
    (A_nodes : PySem.W.nsIn K mainGlobals "nodes" = some (some (.ref f_nodes))) (L_nodes : K.lookup f_nodes = some ⟨oc_nodes, od_nodes, .func (PySem.W.fnOf "nodes" "nodes" (defArgs s_nodes) (defBody s_nodes) (defScope s_nodes) .none kV_nodes dc_nodes pm_nodes an_nodes cd_nodes ct_nodes), sl_nodes⟩) (C_nodes : PySem.W.codeIn K cd_nodes "nodes" = true) (K_nodes : PySem.W.keepIn K (.ref f_nodes) = true)
    {f_heads : Addr} {od_heads an_heads : Option Addr} {sl_heads : Array (Option Value)} {oc_heads kV_heads dc_heads pm_heads cd_heads ct_heads : Value}
    (A_heads : PySem.W.nsIn K mainGlobals "heads" = some (some (.ref f_heads))) (L_heads : K.lookup f_heads = some ⟨oc_heads, od_heads, .func (PySem.W.fnOf "heads" "heads" (defArgs s_heads) (defBody s_heads) (defScope s_heads) .none kV_heads dc_heads pm_heads an_heads cd_heads ct_heads), sl_heads⟩) (C_heads : PySem.W.codeIn K cd_heads "heads" = true) (K_heads : PySem.W.keepIn K (.ref f_heads) = true)
    {f_body_nodes : Addr} {od_body_nodes an_body_nodes : Option Addr} {sl_body_nodes : Array (Option Value)} {oc_body_nodes kV_body_nodes dc_body_nodes pm_body_nodes cd_body_nodes ct_body_nodes : Value}
    (A_body_nodes : PySem.W.nsIn K mainGlobals "body_nodes" = some (some (.ref f_body_nodes))) (L_body_nodes : K.lookup f_body_nodes = some ⟨oc_body_nodes, od_body_nodes, .func (PySem.W.fnOf "body_nodes" "body_nodes" (defArgs s_body_nodes) (defBody s_body_nodes) (defScope s_body_nodes) .none kV_body_nodes dc_body_nodes pm_body_nodes an_body_nodes cd_body_nodes ct_body_nodes), sl_body_nodes⟩) (C_body_nodes : PySem.W.codeIn K cd_body_nodes "body_nodes" = true) (K_body_nodes : PySem.W.keepIn K (.ref f_body_nodes) = true)
    {f_statement_nodes : Addr} {od_statement_nodes an_statement_nodes : Option Addr} {sl_statement_nodes : Array (Option Value)} {oc_statement_nodes kV_statement_nodes dc_statement_nodes pm_statement_nodes cd_statement_nodes ct_statement_nodes : Value}
    (A_statement_nodes : PySem.W.nsIn K mainGlobals "statement_nodes" = some (some (.ref f_statement_nodes))) (L_statement_nodes : K.lookup f_statement_nodes = some ⟨oc_statement_nodes, od_statement_nodes, .func (PySem.W.fnOf "statement_nodes" "statement_nodes" (defArgs s_statement_nodes) (defBody s_statement_nodes) (defScope s_statement_nodes) .none kV_statement_nodes dc_statement_nodes pm_statement_nodes an_statement_nodes cd_statement_nodes ct_statement_nodes), sl_statement_nodes⟩) (C_statement_nodes : PySem.W.codeIn K cd_statement_nodes "statement_nodes" = true) (K_statement_nodes : PySem.W.keepIn K (.ref f_statement_nodes) = true)
    {f_if_nodes : Addr} {od_if_nodes an_if_nodes : Option Addr} {sl_if_nodes : Array (Option Value)} {oc_if_nodes kV_if_nodes dc_if_nodes pm_if_nodes cd_if_nodes ct_if_nodes : Value}
    (A_if_nodes : PySem.W.nsIn K mainGlobals "if_nodes" = some (some (.ref f_if_nodes))) (L_if_nodes : K.lookup f_if_nodes = some ⟨oc_if_nodes, od_if_nodes, .func (PySem.W.fnOf "if_nodes" "if_nodes" (defArgs s_if_nodes) (defBody s_if_nodes) (defScope s_if_nodes) .none kV_if_nodes dc_if_nodes pm_if_nodes an_if_nodes cd_if_nodes ct_if_nodes), sl_if_nodes⟩) (C_if_nodes : PySem.W.codeIn K cd_if_nodes "if_nodes" = true) (K_if_nodes : PySem.W.keepIn K (.ref f_if_nodes) = true)
    {f_first_place : Addr} {od_first_place an_first_place : Option Addr} {sl_first_place : Array (Option Value)} {oc_first_place kV_first_place dc_first_place pm_first_place cd_first_place ct_first_place : Value}
    (A_first_place : PySem.W.nsIn K mainGlobals "first_place" = some (some (.ref f_first_place))) (L_first_place : K.lookup f_first_place = some ⟨oc_first_place, od_first_place, .func (PySem.W.fnOf "first_place" "first_place" (defArgs s_first_place) (defBody s_first_place) (defScope s_first_place) .none kV_first_place dc_first_place pm_first_place an_first_place cd_first_place ct_first_place), sl_first_place⟩) (C_first_place : PySem.W.codeIn K cd_first_place "first_place" = true) (K_first_place : PySem.W.keepIn K (.ref f_first_place) = true)
    {f_l_cell : Addr} {od_l_cell an_l_cell : Option Addr} {sl_l_cell : Array (Option Value)} {oc_l_cell kV_l_cell dc_l_cell pm_l_cell cd_l_cell ct_l_cell : Value}
    (A_l_cell : PySem.W.nsIn K mainGlobals "_law_cell" = some (some (.ref f_l_cell))) (L_l_cell : K.lookup f_l_cell = some ⟨oc_l_cell, od_l_cell, .func (PySem.W.fnOf "_law_cell" "_law_cell" (defArgs s_l_cell) (defBody s_l_cell) (defScope s_l_cell) .none kV_l_cell dc_l_cell pm_l_cell an_l_cell cd_l_cell ct_l_cell), sl_l_cell⟩) (C_l_cell : PySem.W.codeIn K cd_l_cell "_law_cell" = true) (K_l_cell : PySem.W.keepIn K (.ref f_l_cell) = true)
    {f_l_source : Addr} {od_l_source an_l_source : Option Addr} {sl_l_source : Array (Option Value)} {oc_l_source kV_l_source dc_l_source pm_l_source cd_l_source ct_l_source : Value}
    (A_l_source : PySem.W.nsIn K mainGlobals "_law_source" = some (some (.ref f_l_source))) (L_l_source : K.lookup f_l_source = some ⟨oc_l_source, od_l_source, .func (PySem.W.fnOf "_law_source" "_law_source" (defArgs s_l_source) (defBody s_l_source) (defScope s_l_source) .none kV_l_source dc_l_source pm_l_source an_l_source cd_l_source ct_l_source), sl_l_source⟩) (C_l_source : PySem.W.codeIn K cd_l_source "_law_source" = true) (K_l_source : PySem.W.keepIn K (.ref f_l_source) = true)
    {f_l_pick : Addr} {od_l_pick an_l_pick : Option Addr} {sl_l_pick : Array (Option Value)} {oc_l_pick kV_l_pick dc_l_pick pm_l_pick cd_l_pick ct_l_pick : Value}
    (A_l_pick : PySem.W.nsIn K mainGlobals "_law_pick" = some (some (.ref f_l_pick))) (L_l_pick : K.lookup f_l_pick = some ⟨oc_l_pick, od_l_pick, .func (PySem.W.fnOf "_law_pick" "_law_pick" (defArgs s_l_pick) (defBody s_l_pick) (defScope s_l_pick) .none kV_l_pick dc_l_pick pm_l_pick an_l_pick cd_l_pick ct_l_pick), sl_l_pick⟩) (C_l_pick : PySem.W.codeIn K cd_l_pick "_law_pick" = true) (K_l_pick : PySem.W.keepIn K (.ref f_l_pick) = true)
    {f_l_one : Addr} {od_l_one an_l_one : Option Addr} {sl_l_one : Array (Option Value)} {oc_l_one kV_l_one dc_l_one pm_l_one cd_l_one ct_l_one : Value}
    (A_l_one : PySem.W.nsIn K mainGlobals "_law_one" = some (some (.ref f_l_one))) (L_l_one : K.lookup f_l_one = some ⟨oc_l_one, od_l_one, .func (PySem.W.fnOf "_law_one" "_law_one" (defArgs s_l_one) (defBody s_l_one) (defScope s_l_one) .none kV_l_one dc_l_one pm_l_one an_l_one cd_l_one ct_l_one), sl_l_one⟩) (C_l_one : PySem.W.codeIn K cd_l_one "_law_one" = true) (K_l_one : PySem.W.keepIn K (.ref f_l_one) = true)
    {f_l_names : Addr} {od_l_names an_l_names : Option Addr} {sl_l_names : Array (Option Value)} {oc_l_names kV_l_names dc_l_names pm_l_names cd_l_names ct_l_names : Value}
    (A_l_names : PySem.W.nsIn K mainGlobals "_law_names" = some (some (.ref f_l_names))) (L_l_names : K.lookup f_l_names = some ⟨oc_l_names, od_l_names, .func (PySem.W.fnOf "_law_names" "_law_names" (defArgs s_l_names) (defBody s_l_names) (defScope s_l_names) .none kV_l_names dc_l_names pm_l_names an_l_names cd_l_names ct_l_names), sl_l_names⟩) (C_l_names : PySem.W.codeIn K cd_l_names "_law_names" = true) (K_l_names : PySem.W.keepIn K (.ref f_l_names) = true)
    {f_l_pile_at : Addr} {od_l_pile_at an_l_pile_at : Option Addr} {sl_l_pile_at : Array (Option Value)} {oc_l_pile_at kV_l_pile_at dc_l_pile_at pm_l_pile_at cd_l_pile_at ct_l_pile_at : Value}
    (A_l_pile_at : PySem.W.nsIn K mainGlobals "_law_pile_at" = some (some (.ref f_l_pile_at))) (L_l_pile_at : K.lookup f_l_pile_at = some ⟨oc_l_pile_at, od_l_pile_at, .func (PySem.W.fnOf "_law_pile_at" "_law_pile_at" (defArgs s_l_pile_at) (defBody s_l_pile_at) (defScope s_l_pile_at) .none kV_l_pile_at dc_l_pile_at pm_l_pile_at an_l_pile_at cd_l_pile_at ct_l_pile_at), sl_l_pile_at⟩) (C_l_pile_at : PySem.W.codeIn K cd_l_pile_at "_law_pile_at" = true) (K_l_pile_at : PySem.W.keepIn K (.ref f_l_pile_at) = true)
    {f_l_listed : Addr} {od_l_listed an_l_listed : Option Addr} {sl_l_listed : Array (Option Value)} {oc_l_listed kV_l_listed dc_l_listed pm_l_listed cd_l_listed ct_l_listed : Value}
    (A_l_listed : PySem.W.nsIn K mainGlobals "_law_listed" = some (some (.ref f_l_listed))) (L_l_listed : K.lookup f_l_listed = some ⟨oc_l_listed, od_l_listed, .func (PySem.W.fnOf "_law_listed" "_law_listed" (defArgs s_l_listed) (defBody s_l_listed) (defScope s_l_listed) .none kV_l_listed dc_l_listed pm_l_listed an_l_listed cd_l_listed ct_l_listed), sl_l_listed⟩) (C_l_listed : PySem.W.codeIn K cd_l_listed "_law_listed" = true) (K_l_listed : PySem.W.keepIn K (.ref f_l_listed) = true)
    {f_l_same : Addr} {od_l_same an_l_same : Option Addr} {sl_l_same : Array (Option Value)} {oc_l_same kV_l_same dc_l_same pm_l_same cd_l_same ct_l_same : Value}
    (A_l_same : PySem.W.nsIn K mainGlobals "_law_same" = some (some (.ref f_l_same))) (L_l_same : K.lookup f_l_same = some ⟨oc_l_same, od_l_same, .func (PySem.W.fnOf "_law_same" "_law_same" (defArgs s_l_same) (defBody s_l_same) (defScope s_l_same) .none kV_l_same dc_l_same pm_l_same an_l_same cd_l_same ct_l_same), sl_l_same⟩) (C_l_same : PySem.W.codeIn K cd_l_same "_law_same" = true) (K_l_same : PySem.W.keepIn K (.ref f_l_same) = true)
    {f_l_number : Addr} {od_l_number an_l_number : Option Addr} {sl_l_number : Array (Option Value)} {oc_l_number kV_l_number dc_l_number pm_l_number cd_l_number ct_l_number : Value}
    (A_l_number : PySem.W.nsIn K mainGlobals "_law_number" = some (some (.ref f_l_number))) (L_l_number : K.lookup f_l_number = some ⟨oc_l_number, od_l_number, .func (PySem.W.fnOf "_law_number" "_law_number" (defArgs s_l_number) (defBody s_l_number) (defScope s_l_number) .none kV_l_number dc_l_number pm_l_number an_l_number cd_l_number ct_l_number), sl_l_number⟩) (C_l_number : PySem.W.codeIn K cd_l_number "_law_number" = true) (K_l_number : PySem.W.keepIn K (.ref f_l_number) = true)
    {f_l_truth : Addr} {od_l_truth an_l_truth : Option Addr} {sl_l_truth : Array (Option Value)} {oc_l_truth kV_l_truth dc_l_truth pm_l_truth cd_l_truth ct_l_truth : Value}
    (A_l_truth : PySem.W.nsIn K mainGlobals "_law_truth" = some (some (.ref f_l_truth))) (L_l_truth : K.lookup f_l_truth = some ⟨oc_l_truth, od_l_truth, .func (PySem.W.fnOf "_law_truth" "_law_truth" (defArgs s_l_truth) (defBody s_l_truth) (defScope s_l_truth) .none kV_l_truth dc_l_truth pm_l_truth an_l_truth cd_l_truth ct_l_truth), sl_l_truth⟩) (C_l_truth : PySem.W.codeIn K cd_l_truth "_law_truth" = true) (K_l_truth : PySem.W.keepIn K (.ref f_l_truth) = true)
    {f_l_leaf : Addr} {od_l_leaf an_l_leaf : Option Addr} {sl_l_leaf : Array (Option Value)} {oc_l_leaf kV_l_leaf dc_l_leaf pm_l_leaf cd_l_leaf ct_l_leaf : Value}
    (A_l_leaf : PySem.W.nsIn K mainGlobals "_law_leaf" = some (some (.ref f_l_leaf))) (L_l_leaf : K.lookup f_l_leaf = some ⟨oc_l_leaf, od_l_leaf, .func (PySem.W.fnOf "_law_leaf" "_law_leaf" (defArgs s_l_leaf) (defBody s_l_leaf) (defScope s_l_leaf) .none kV_l_leaf dc_l_leaf pm_l_leaf an_l_leaf cd_l_leaf ct_l_leaf), sl_l_leaf⟩) (C_l_leaf : PySem.W.codeIn K cd_l_leaf "_law_leaf" = true) (K_l_leaf : PySem.W.keepIn K (.ref f_l_leaf) = true)
    {f_l_body : Addr} {od_l_body an_l_body : Option Addr} {sl_l_body : Array (Option Value)} {oc_l_body kV_l_body dc_l_body pm_l_body cd_l_body ct_l_body : Value}
    (A_l_body : PySem.W.nsIn K mainGlobals "_law_body" = some (some (.ref f_l_body))) (L_l_body : K.lookup f_l_body = some ⟨oc_l_body, od_l_body, .func (PySem.W.fnOf "_law_body" "_law_body" (defArgs s_l_body) (defBody s_l_body) (defScope s_l_body) .none kV_l_body dc_l_body pm_l_body an_l_body cd_l_body ct_l_body), sl_l_body⟩) (C_l_body : PySem.W.codeIn K cd_l_body "_law_body" = true) (K_l_body : PySem.W.keepIn K (.ref f_l_body) = true)
    {f_l_function : Addr} {od_l_function an_l_function : Option Addr} {sl_l_function : Array (Option Value)} {oc_l_function kV_l_function dc_l_function pm_l_function cd_l_function ct_l_function : Value}
    (A_l_function : PySem.W.nsIn K mainGlobals "_law_function" = some (some (.ref f_l_function))) (L_l_function : K.lookup f_l_function = some ⟨oc_l_function, od_l_function, .func (PySem.W.fnOf "_law_function" "_law_function" (defArgs s_l_function) (defBody s_l_function) (defScope s_l_function) .none kV_l_function dc_l_function pm_l_function an_l_function cd_l_function ct_l_function), sl_l_function⟩) (C_l_function : PySem.W.codeIn K cd_l_function "_law_function" = true) (K_l_function : PySem.W.keepIn K (.ref f_l_function) = true)
    {f_l_settled : Addr} {od_l_settled an_l_settled : Option Addr} {sl_l_settled : Array (Option Value)} {oc_l_settled kV_l_settled dc_l_settled pm_l_settled cd_l_settled ct_l_settled : Value}
    (A_l_settled : PySem.W.nsIn K mainGlobals "_law_settled" = some (some (.ref f_l_settled))) (L_l_settled : K.lookup f_l_settled = some ⟨oc_l_settled, od_l_settled, .func (PySem.W.fnOf "_law_settled" "_law_settled" (defArgs s_l_settled) (defBody s_l_settled) (defScope s_l_settled) .none kV_l_settled dc_l_settled pm_l_settled an_l_settled cd_l_settled ct_l_settled), sl_l_settled⟩) (C_l_settled : PySem.W.codeIn K cd_l_settled "_law_settled" = true) (K_l_settled : PySem.W.keepIn K (.ref f_l_settled) = true)
    {f_l_follow : Addr} {od_l_follow an_l_follow : Option Addr} {sl_l_follow : Array (Option Value)} {oc_l_follow kV_l_follow dc_l_follow pm_l_follow cd_l_follow ct_l_follow : Value}
    (A_l_follow : PySem.W.nsIn K mainGlobals "_law_follow" = some (some (.ref f_l_follow))) (L_l_follow : K.lookup f_l_follow = some ⟨oc_l_follow, od_l_follow, .func (PySem.W.fnOf "_law_follow" "_law_follow" (defArgs s_l_follow) (defBody s_l_follow) (defScope s_l_follow) .none kV_l_follow dc_l_follow pm_l_follow an_l_follow cd_l_follow ct_l_follow), sl_l_follow⟩) (C_l_follow : PySem.W.codeIn K cd_l_follow "_law_follow" = true) (K_l_follow : PySem.W.keepIn K (.ref f_l_follow) = true)
    {f_l_due : Addr} {od_l_due an_l_due : Option Addr} {sl_l_due : Array (Option Value)} {oc_l_due kV_l_due dc_l_due pm_l_due cd_l_due ct_l_due : Value}
    (A_l_due : PySem.W.nsIn K mainGlobals "_law_due" = some (some (.ref f_l_due))) (L_l_due : K.lookup f_l_due = some ⟨oc_l_due, od_l_due, .func (PySem.W.fnOf "_law_due" "_law_due" (defArgs s_l_due) (defBody s_l_due) (defScope s_l_due) .none kV_l_due dc_l_due pm_l_due an_l_due cd_l_due ct_l_due), sl_l_due⟩) (C_l_due : PySem.W.codeIn K cd_l_due "_law_due" = true) (K_l_due : PySem.W.keepIn K (.ref f_l_due) = true)
    {f_law : Addr} {od_law an_law : Option Addr} {sl_law : Array (Option Value)} {oc_law kV_law dc_law pm_law cd_law ct_law : Value}
    (A_law : PySem.W.nsIn K mainGlobals "law" = some (some (.ref f_law))) (L_law : K.lookup f_law = some ⟨oc_law, od_law, .func (PySem.W.fnOf "law" "law" (defArgs s_law) (defBody s_law) (defScope s_law) .none kV_law dc_law pm_law an_law cd_law ct_law), sl_law⟩) (C_law : PySem.W.codeIn K cd_law "law" = true) (K_law : PySem.W.keepIn K (.ref f_law) = true)
    {d_PARTS : Addr} {es_PARTS : Array DictEntry} {n_PARTS : Nat} (A_PARTS : PySem.W.nsIn K mainGlobals "PARTS" = some (some (.ref d_PARTS))) (D_PARTS : K.lookup d_PARTS = some ⟨.type "dict", none, .dict es_PARTS n_PARTS, #[]⟩) (Y_PARTS : PySem.W.KeysLit w.params es_PARTS.toList)
    {r_PARTS_0 : Addr} {dd_PARTS_0 : Option Addr} {its_PARTS_0 : Array Value} {n_PARTS_0 : Nat} {sl_PARTS_0 : Array (Option Value)} (N_PARTS_0 : PySem.W.nsIn K d_PARTS "set" = some (some (.ref r_PARTS_0))) (R_PARTS_0 : K.lookup r_PARTS_0 = some ⟨.type "tuple", dd_PARTS_0, .seq its_PARTS_0 n_PARTS_0, sl_PARTS_0⟩) (V_PARTS_0 : isStrs ["variable", "expression"] its_PARTS_0.toList = true)
    {r_PARTS_1 : Addr} {dd_PARTS_1 : Option Addr} {its_PARTS_1 : Array Value} {n_PARTS_1 : Nat} {sl_PARTS_1 : Array (Option Value)} (N_PARTS_1 : PySem.W.nsIn K d_PARTS "input" = some (some (.ref r_PARTS_1))) (R_PARTS_1 : K.lookup r_PARTS_1 = some ⟨.type "tuple", dd_PARTS_1, .seq its_PARTS_1 n_PARTS_1, sl_PARTS_1⟩) (V_PARTS_1 : isStrs ["variable"] its_PARTS_1.toList = true)
    {r_PARTS_2 : Addr} {dd_PARTS_2 : Option Addr} {its_PARTS_2 : Array Value} {n_PARTS_2 : Nat} {sl_PARTS_2 : Array (Option Value)} (N_PARTS_2 : PySem.W.nsIn K d_PARTS "new" = some (some (.ref r_PARTS_2))) (R_PARTS_2 : K.lookup r_PARTS_2 = some ⟨.type "tuple", dd_PARTS_2, .seq its_PARTS_2 n_PARTS_2, sl_PARTS_2⟩) (V_PARTS_2 : isStrs ["variable"] its_PARTS_2.toList = true)
    {r_PARTS_3 : Addr} {dd_PARTS_3 : Option Addr} {its_PARTS_3 : Array Value} {n_PARTS_3 : Nat} {sl_PARTS_3 : Array (Option Value)} (N_PARTS_3 : PySem.W.nsIn K d_PARTS "free" = some (some (.ref r_PARTS_3))) (R_PARTS_3 : K.lookup r_PARTS_3 = some ⟨.type "tuple", dd_PARTS_3, .seq its_PARTS_3 n_PARTS_3, sl_PARTS_3⟩) (V_PARTS_3 : isStrs ["variable"] its_PARTS_3.toList = true)
    {r_PARTS_4 : Addr} {dd_PARTS_4 : Option Addr} {its_PARTS_4 : Array Value} {n_PARTS_4 : Nat} {sl_PARTS_4 : Array (Option Value)} (N_PARTS_4 : PySem.W.nsIn K d_PARTS "load" = some (some (.ref r_PARTS_4))) (R_PARTS_4 : K.lookup r_PARTS_4 = some ⟨.type "tuple", dd_PARTS_4, .seq its_PARTS_4 n_PARTS_4, sl_PARTS_4⟩) (V_PARTS_4 : isStrs ["variable", "variable", "field"] its_PARTS_4.toList = true)
    {r_PARTS_5 : Addr} {dd_PARTS_5 : Option Addr} {its_PARTS_5 : Array Value} {n_PARTS_5 : Nat} {sl_PARTS_5 : Array (Option Value)} (N_PARTS_5 : PySem.W.nsIn K d_PARTS "store" = some (some (.ref r_PARTS_5))) (R_PARTS_5 : K.lookup r_PARTS_5 = some ⟨.type "tuple", dd_PARTS_5, .seq its_PARTS_5 n_PARTS_5, sl_PARTS_5⟩) (V_PARTS_5 : isStrs ["variable", "field", "expression"] its_PARTS_5.toList = true)
    {r_PARTS_6 : Addr} {dd_PARTS_6 : Option Addr} {its_PARTS_6 : Array Value} {n_PARTS_6 : Nat} {sl_PARTS_6 : Array (Option Value)} (N_PARTS_6 : PySem.W.nsIn K d_PARTS "get" = some (some (.ref r_PARTS_6))) (R_PARTS_6 : K.lookup r_PARTS_6 = some ⟨.type "tuple", dd_PARTS_6, .seq its_PARTS_6 n_PARTS_6, sl_PARTS_6⟩) (V_PARTS_6 : isStrs ["variable", "array", "expression"] its_PARTS_6.toList = true)
    {r_PARTS_7 : Addr} {dd_PARTS_7 : Option Addr} {its_PARTS_7 : Array Value} {n_PARTS_7 : Nat} {sl_PARTS_7 : Array (Option Value)} (N_PARTS_7 : PySem.W.nsIn K d_PARTS "put" = some (some (.ref r_PARTS_7))) (R_PARTS_7 : K.lookup r_PARTS_7 = some ⟨.type "tuple", dd_PARTS_7, .seq its_PARTS_7 n_PARTS_7, sl_PARTS_7⟩) (V_PARTS_7 : isStrs ["array", "expression", "expression"] its_PARTS_7.toList = true)
    {r_PARTS_8 : Addr} {dd_PARTS_8 : Option Addr} {its_PARTS_8 : Array Value} {n_PARTS_8 : Nat} {sl_PARTS_8 : Array (Option Value)} (N_PARTS_8 : PySem.W.nsIn K d_PARTS "call" = some (some (.ref r_PARTS_8))) (R_PARTS_8 : K.lookup r_PARTS_8 = some ⟨.type "tuple", dd_PARTS_8, .seq its_PARTS_8 n_PARTS_8, sl_PARTS_8⟩) (V_PARTS_8 : isStrs ["variable", "function", "arguments"] its_PARTS_8.toList = true)
    {r_PARTS_9 : Addr} {dd_PARTS_9 : Option Addr} {its_PARTS_9 : Array Value} {n_PARTS_9 : Nat} {sl_PARTS_9 : Array (Option Value)} (N_PARTS_9 : PySem.W.nsIn K d_PARTS "return" = some (some (.ref r_PARTS_9))) (R_PARTS_9 : K.lookup r_PARTS_9 = some ⟨.type "tuple", dd_PARTS_9, .seq its_PARTS_9 n_PARTS_9, sl_PARTS_9⟩) (V_PARTS_9 : isStrs ["expression"] its_PARTS_9.toList = true)
    {r_PARTS_10 : Addr} {dd_PARTS_10 : Option Addr} {its_PARTS_10 : Array Value} {n_PARTS_10 : Nat} {sl_PARTS_10 : Array (Option Value)} (N_PARTS_10 : PySem.W.nsIn K d_PARTS "if" = some (some (.ref r_PARTS_10))) (R_PARTS_10 : K.lookup r_PARTS_10 = some ⟨.type "tuple", dd_PARTS_10, .seq its_PARTS_10 n_PARTS_10, sl_PARTS_10⟩) (V_PARTS_10 : isStrs ["expression", "body", "body"] its_PARTS_10.toList = true)
    {r_PARTS_11 : Addr} {dd_PARTS_11 : Option Addr} {its_PARTS_11 : Array Value} {n_PARTS_11 : Nat} {sl_PARTS_11 : Array (Option Value)} (N_PARTS_11 : PySem.W.nsIn K d_PARTS "while" = some (some (.ref r_PARTS_11))) (R_PARTS_11 : K.lookup r_PARTS_11 = some ⟨.type "tuple", dd_PARTS_11, .seq its_PARTS_11 n_PARTS_11, sl_PARTS_11⟩) (V_PARTS_11 : isStrs ["expression", "body"] its_PARTS_11.toList = true)
    {r_PARTS_12 : Addr} {dd_PARTS_12 : Option Addr} {its_PARTS_12 : Array Value} {n_PARTS_12 : Nat} {sl_PARTS_12 : Array (Option Value)} (N_PARTS_12 : PySem.W.nsIn K d_PARTS "break" = some (some (.ref r_PARTS_12))) (R_PARTS_12 : K.lookup r_PARTS_12 = some ⟨.type "tuple", dd_PARTS_12, .seq its_PARTS_12 n_PARTS_12, sl_PARTS_12⟩) (V_PARTS_12 : isStrs [] its_PARTS_12.toList = true)
    {r_PARTS_13 : Addr} {dd_PARTS_13 : Option Addr} {its_PARTS_13 : Array Value} {n_PARTS_13 : Nat} {sl_PARTS_13 : Array (Option Value)} (N_PARTS_13 : PySem.W.nsIn K d_PARTS "assert" = some (some (.ref r_PARTS_13))) (R_PARTS_13 : K.lookup r_PARTS_13 = some ⟨.type "tuple", dd_PARTS_13, .seq its_PARTS_13 n_PARTS_13, sl_PARTS_13⟩) (V_PARTS_13 : isStrs ["expression"] its_PARTS_13.toList = true)
    (Z_bool : PySem.W.nsIn K mainGlobals "bool" = some none)
    (Z_enumerate : PySem.W.nsIn K mainGlobals "enumerate" = some none)
    (Z_int : PySem.W.nsIn K mainGlobals "int" = some none)
    (Z_isinstance : PySem.W.nsIn K mainGlobals "isinstance" = some none)
    (Z_len : PySem.W.nsIn K mainGlobals "len" = some none)
    (Z_list : PySem.W.nsIn K mainGlobals "list" = some none)
    (Z_max : PySem.W.nsIn K mainGlobals "max" = some none)
    (Z_min : PySem.W.nsIn K mainGlobals "min" = some none)
    (Z_range : PySem.W.nsIn K mainGlobals "range" = some none)
    (Z_str : PySem.W.nsIn K mainGlobals "str" = some none)
    (Z_tuple : PySem.W.nsIn K mainGlobals "tuple" = some none)
    (Z_zip : PySem.W.nsIn K mainGlobals "zip" = some none) :
    ∃ fd : FuncData, (∀ (s : Shared) (v : Value), BindsTo s fd ⟨[v], []⟩ [("_law_script", v)]) ∧ ∀ base : Heap, K.In base → base.Ns mainGlobals mg → FnOk l.prog w K mg base CX0 45 fa fd ["_law_script"] (spLaw K) := by
  have e := hfa.symm.trans (PySem.W.mg_of X G A_law)
  cases e
  let T : Txt w K mg := {
    a_bodies_of := f_bodies_of, d_bodies_of := _, F_bodies_of := fun_mk (st := s_bodies_of) L_bodies_of C_bodies_of K_bodies_of, b_bodies_of := (fun_mk (st := s_bodies_of) L_bodies_of C_bodies_of K_bodies_of).binds (ps := p_bodies_of) (fun _ _ _ _ _ _ us hl => match us, hl with | [_], _ => rfl), m_bodies_of := PySem.W.mg_of X G A_bodies_of,
    a_list_statements := f_list_statements, d_list_statements := _, F_list_statements := (fund_mk (st := s_list_statements) L_list_statements R_list_statements (isVs_vals W_list_statements) (by decide) C_list_statements K_list_statements), b_list_statements := FunD.binds1 (fund_mk (st := s_list_statements) L_list_statements R_list_statements (isVs_vals W_list_statements) (by decide) C_list_statements K_list_statements) 2 1 (by decide) rfl (fun T kV doc pm an cdv ct us its h1 h2 => match us, its, h1, h2 with | [_, _], [_], _, _ => ⟨_, rfl, rfl⟩), e_list_statements := FunD.binds1 (fund_mk (st := s_list_statements) L_list_statements R_list_statements (isVs_vals W_list_statements) (by decide) C_list_statements K_list_statements) 1 0 (by decide) rfl (fun T kV doc pm an cdv ct us its h1 h2 => match us, its, h1, h2 with | [_], [_], _, _ => ⟨_, rfl, rfl⟩), m_list_statements := PySem.W.mg_of X G A_list_statements,
    a_count_statements := f_count_statements, d_count_statements := _, F_count_statements := fun_mk (st := s_count_statements) L_count_statements C_count_statements K_count_statements, b_count_statements := (fun_mk (st := s_count_statements) L_count_statements C_count_statements K_count_statements).binds (ps := p_count_statements) (fun _ _ _ _ _ _ us hl => match us, hl with | [_], _ => rfl), m_count_statements := PySem.W.mg_of X G A_count_statements,
    a_nodes := f_nodes, d_nodes := _, F_nodes := fun_mk (st := s_nodes) L_nodes C_nodes K_nodes, b_nodes := (fun_mk (st := s_nodes) L_nodes C_nodes K_nodes).binds (ps := p_nodes) (fun _ _ _ _ _ _ us hl => match us, hl with | [_], _ => rfl), m_nodes := PySem.W.mg_of X G A_nodes,
    a_heads := f_heads, d_heads := _, F_heads := fun_mk (st := s_heads) L_heads C_heads K_heads, b_heads := (fun_mk (st := s_heads) L_heads C_heads K_heads).binds (ps := p_heads) (fun _ _ _ _ _ _ us hl => match us, hl with | [_], _ => rfl), m_heads := PySem.W.mg_of X G A_heads,
    a_body_nodes := f_body_nodes, d_body_nodes := _, F_body_nodes := fun_mk (st := s_body_nodes) L_body_nodes C_body_nodes K_body_nodes, b_body_nodes := (fun_mk (st := s_body_nodes) L_body_nodes C_body_nodes K_body_nodes).binds (ps := p_body_nodes) (fun _ _ _ _ _ _ us hl => match us, hl with | [_, _, _], _ => rfl), m_body_nodes := PySem.W.mg_of X G A_body_nodes,
    a_statement_nodes := f_statement_nodes, d_statement_nodes := _, F_statement_nodes := fun_mk (st := s_statement_nodes) L_statement_nodes C_statement_nodes K_statement_nodes, b_statement_nodes := (fun_mk (st := s_statement_nodes) L_statement_nodes C_statement_nodes K_statement_nodes).binds (ps := p_statement_nodes) (fun _ _ _ _ _ _ us hl => match us, hl with | [_, _, _], _ => rfl), m_statement_nodes := PySem.W.mg_of X G A_statement_nodes,
    a_if_nodes := f_if_nodes, d_if_nodes := _, F_if_nodes := fun_mk (st := s_if_nodes) L_if_nodes C_if_nodes K_if_nodes, b_if_nodes := (fun_mk (st := s_if_nodes) L_if_nodes C_if_nodes K_if_nodes).binds (ps := p_if_nodes) (fun _ _ _ _ _ _ us hl => match us, hl with | [_, _, _], _ => rfl), m_if_nodes := PySem.W.mg_of X G A_if_nodes,
    a_first_place := f_first_place, d_first_place := _, F_first_place := fun_mk (st := s_first_place) L_first_place C_first_place K_first_place, b_first_place := (fun_mk (st := s_first_place) L_first_place C_first_place K_first_place).binds (ps := p_first_place) (fun _ _ _ _ _ _ us hl => match us, hl with | [_, _, _], _ => rfl), m_first_place := PySem.W.mg_of X G A_first_place,
    a_l_cell := f_l_cell, d_l_cell := _, F_l_cell := fun_mk (st := s_l_cell) L_l_cell C_l_cell K_l_cell, b_l_cell := (fun_mk (st := s_l_cell) L_l_cell C_l_cell K_l_cell).binds (ps := p_l_cell) (fun _ _ _ _ _ _ us hl => match us, hl with | [_, _], _ => rfl), m_l_cell := PySem.W.mg_of X G A_l_cell,
    a_l_source := f_l_source, d_l_source := _, F_l_source := fun_mk (st := s_l_source) L_l_source C_l_source K_l_source, b_l_source := (fun_mk (st := s_l_source) L_l_source C_l_source K_l_source).binds (ps := p_l_source) (fun _ _ _ _ _ _ us hl => match us, hl with | [_], _ => rfl), m_l_source := PySem.W.mg_of X G A_l_source,
    a_l_pick := f_l_pick, d_l_pick := _, F_l_pick := fun_mk (st := s_l_pick) L_l_pick C_l_pick K_l_pick, b_l_pick := (fun_mk (st := s_l_pick) L_l_pick C_l_pick K_l_pick).binds (ps := p_l_pick) (fun _ _ _ _ _ _ us hl => match us, hl with | [_, _], _ => rfl), m_l_pick := PySem.W.mg_of X G A_l_pick,
    a_l_one := f_l_one, d_l_one := _, F_l_one := fun_mk (st := s_l_one) L_l_one C_l_one K_l_one, b_l_one := (fun_mk (st := s_l_one) L_l_one C_l_one K_l_one).binds (ps := p_l_one) (fun _ _ _ _ _ _ us hl => match us, hl with | [_, _], _ => rfl), m_l_one := PySem.W.mg_of X G A_l_one,
    a_l_names := f_l_names, d_l_names := _, F_l_names := fun_mk (st := s_l_names) L_l_names C_l_names K_l_names, b_l_names := (fun_mk (st := s_l_names) L_l_names C_l_names K_l_names).binds (ps := p_l_names) (fun _ _ _ _ _ _ us hl => match us, hl with | [_], _ => rfl), m_l_names := PySem.W.mg_of X G A_l_names,
    a_l_pile_at := f_l_pile_at, d_l_pile_at := _, F_l_pile_at := fun_mk (st := s_l_pile_at) L_l_pile_at C_l_pile_at K_l_pile_at, b_l_pile_at := (fun_mk (st := s_l_pile_at) L_l_pile_at C_l_pile_at K_l_pile_at).binds (ps := p_l_pile_at) (fun _ _ _ _ _ _ us hl => match us, hl with | [_, _, _], _ => rfl), m_l_pile_at := PySem.W.mg_of X G A_l_pile_at,
    a_l_listed := f_l_listed, d_l_listed := _, F_l_listed := fun_mk (st := s_l_listed) L_l_listed C_l_listed K_l_listed, b_l_listed := (fun_mk (st := s_l_listed) L_l_listed C_l_listed K_l_listed).binds (ps := p_l_listed) (fun _ _ _ _ _ _ us hl => match us, hl with | [_, _], _ => rfl), m_l_listed := PySem.W.mg_of X G A_l_listed,
    a_l_same := f_l_same, d_l_same := _, F_l_same := fun_mk (st := s_l_same) L_l_same C_l_same K_l_same, b_l_same := (fun_mk (st := s_l_same) L_l_same C_l_same K_l_same).binds (ps := p_l_same) (fun _ _ _ _ _ _ us hl => match us, hl with | [_, _], _ => rfl), m_l_same := PySem.W.mg_of X G A_l_same,
    a_l_number := f_l_number, d_l_number := _, F_l_number := fun_mk (st := s_l_number) L_l_number C_l_number K_l_number, b_l_number := (fun_mk (st := s_l_number) L_l_number C_l_number K_l_number).binds (ps := p_l_number) (fun _ _ _ _ _ _ us hl => match us, hl with | [_, _], _ => rfl), m_l_number := PySem.W.mg_of X G A_l_number,
    a_l_truth := f_l_truth, d_l_truth := _, F_l_truth := fun_mk (st := s_l_truth) L_l_truth C_l_truth K_l_truth, b_l_truth := (fun_mk (st := s_l_truth) L_l_truth C_l_truth K_l_truth).binds (ps := p_l_truth) (fun _ _ _ _ _ _ us hl => match us, hl with | [_, _], _ => rfl), m_l_truth := PySem.W.mg_of X G A_l_truth,
    a_l_leaf := f_l_leaf, d_l_leaf := _, F_l_leaf := fun_mk (st := s_l_leaf) L_l_leaf C_l_leaf K_l_leaf, b_l_leaf := (fun_mk (st := s_l_leaf) L_l_leaf C_l_leaf K_l_leaf).binds (ps := p_l_leaf) (fun _ _ _ _ _ _ us hl => match us, hl with | [_, _, _], _ => rfl), m_l_leaf := PySem.W.mg_of X G A_l_leaf,
    a_l_body := f_l_body, d_l_body := _, F_l_body := fun_mk (st := s_l_body) L_l_body C_l_body K_l_body, b_l_body := (fun_mk (st := s_l_body) L_l_body C_l_body K_l_body).binds (ps := p_l_body) (fun _ _ _ _ _ _ us hl => match us, hl with | [_, _, _, _, _], _ => rfl), m_l_body := PySem.W.mg_of X G A_l_body,
    a_l_function := f_l_function, d_l_function := _, F_l_function := fun_mk (st := s_l_function) L_l_function C_l_function K_l_function, b_l_function := (fun_mk (st := s_l_function) L_l_function C_l_function K_l_function).binds (ps := p_l_function) (fun _ _ _ _ _ _ us hl => match us, hl with | [_], _ => rfl), m_l_function := PySem.W.mg_of X G A_l_function,
    a_l_settled := f_l_settled, d_l_settled := _, F_l_settled := fun_mk (st := s_l_settled) L_l_settled C_l_settled K_l_settled, b_l_settled := (fun_mk (st := s_l_settled) L_l_settled C_l_settled K_l_settled).binds (ps := p_l_settled) (fun _ _ _ _ _ _ us hl => match us, hl with | [_, _], _ => rfl), m_l_settled := PySem.W.mg_of X G A_l_settled,
    a_l_follow := f_l_follow, d_l_follow := _, F_l_follow := fun_mk (st := s_l_follow) L_l_follow C_l_follow K_l_follow, b_l_follow := (fun_mk (st := s_l_follow) L_l_follow C_l_follow K_l_follow).binds (ps := p_l_follow) (fun _ _ _ _ _ _ us hl => match us, hl with | [_, _, _, _], _ => rfl), m_l_follow := PySem.W.mg_of X G A_l_follow,
    a_l_due := f_l_due, d_l_due := _, F_l_due := fun_mk (st := s_l_due) L_l_due C_l_due K_l_due, b_l_due := (fun_mk (st := s_l_due) L_l_due C_l_due K_l_due).binds (ps := p_l_due) (fun _ _ _ _ _ _ us hl => match us, hl with | [_], _ => rfl), m_l_due := PySem.W.mg_of X G A_l_due,
    a_law := fa, d_law := _, F_law := fun_mk (st := s_law) L_law C_law K_law, b_law := (fun_mk (st := s_law) L_law C_law K_law).binds (ps := p_law) (fun _ _ _ _ _ _ us hl => match us, hl with | [_], _ => rfl), m_law := PySem.W.mg_of X G A_law,
    c_PARTS := ⟨d_PARTS, PySem.W.mg_of X G A_PARTS, by
      intro q hq
      simp only [tb_PARTS, List.mem_cons, List.not_mem_nil, or_false] at hq
      rcases hq with rfl | rfl | rfl | rfl | rfl | rfl | rfl | rfl | rfl | rfl | rfl | rfl | rfl | rfl
      · exact kpart D_PARTS Y_PARTS N_PARTS_0 R_PARTS_0 (by decide) V_PARTS_0
      · exact kpart D_PARTS Y_PARTS N_PARTS_1 R_PARTS_1 (by decide) V_PARTS_1
      · exact kpart D_PARTS Y_PARTS N_PARTS_2 R_PARTS_2 (by decide) V_PARTS_2
      · exact kpart D_PARTS Y_PARTS N_PARTS_3 R_PARTS_3 (by decide) V_PARTS_3
      · exact kpart D_PARTS Y_PARTS N_PARTS_4 R_PARTS_4 (by decide) V_PARTS_4
      · exact kpart D_PARTS Y_PARTS N_PARTS_5 R_PARTS_5 (by decide) V_PARTS_5
      · exact kpart D_PARTS Y_PARTS N_PARTS_6 R_PARTS_6 (by decide) V_PARTS_6
      · exact kpart D_PARTS Y_PARTS N_PARTS_7 R_PARTS_7 (by decide) V_PARTS_7
      · exact kpart D_PARTS Y_PARTS N_PARTS_8 R_PARTS_8 (by decide) V_PARTS_8
      · exact kpart D_PARTS Y_PARTS N_PARTS_9 R_PARTS_9 (by decide) V_PARTS_9
      · exact kpart D_PARTS Y_PARTS N_PARTS_10 R_PARTS_10 (by decide) V_PARTS_10
      · exact kpart D_PARTS Y_PARTS N_PARTS_11 R_PARTS_11 (by decide) V_PARTS_11
      · exact kpart D_PARTS Y_PARTS N_PARTS_12 R_PARTS_12 (by decide) V_PARTS_12
      · exact kpart D_PARTS Y_PARTS N_PARTS_13 R_PARTS_13 (by decide) V_PARTS_13⟩,
    z_bool := PySem.W.mg_none_of X G Z_bool,
    z_enumerate := PySem.W.mg_none_of X G Z_enumerate,
    z_int := PySem.W.mg_none_of X G Z_int,
    z_isinstance := PySem.W.mg_none_of X G Z_isinstance,
    z_len := PySem.W.mg_none_of X G Z_len,
    z_list := PySem.W.mg_none_of X G Z_list,
    z_max := PySem.W.mg_none_of X G Z_max,
    z_min := PySem.W.mg_none_of X G Z_min,
    z_range := PySem.W.mg_none_of X G Z_range,
    z_str := PySem.W.mg_none_of X G Z_str,
    z_tuple := PySem.W.mg_none_of X G Z_tuple,
    z_zip := PySem.W.mg_none_of X G Z_zip }
  refine ⟨PySem.W.fnOf "law" "law" (defArgs s_law) (defBody s_law) (defScope s_law) .none kV_law dc_law pm_law an_law cd_law ct_law, fun s v => .of_eq rfl, fun base _ _ => ok_law T⟩
theorem walk {l : PySem.W.OpenLaw} {q : Program} {loose : List Str} {XP : (Str → Option Value) → Heap → Prop} {YP : World → Heap → Prop} {d : DefRec} {K : Params → PySem.W.Frag} (hn : l.most = some 63) (hdf : d.params.defaults = [])
    (hY : ∀ (w : World) (h : Heap), YP w h → (K w.params).In h)
    (F : ∀ (w : World) (mg : Str → Option Value) (fa : Addr) (h : Heap), (K w.params).In h → h.Ns mainGlobals mg → mg d.name = some (.ref fa) →
      ∃ fd : FuncData, (∀ (s : Shared) (u : Value), BindsTo s fd ⟨[u], []⟩ [("_law_script", u)]) ∧ ∀ base : Heap, (K w.params).In base → base.Ns mainGlobals mg → FnOk l.prog w (K w.params) mg base CX0 45 fa fd ["_law_script"] (spLaw (K w.params))) :
    PySem.W.WalkO q loose XP YP l.row.toRowW d [] (fun f vs => PySem.call f vs) :=
  L2.walk_of (n := 63) (k := 45) (x := "_law_script") (CX := fun _ => CX0) (sp := fun w => spLaw (K w.params)) hn (by decide) hdf ⟨rfl, by decide, by decide⟩ hY F (fun _ _ a ns hl _ hS => ⟨a, ns, rfl, hS, hl, fun _ => rfl⟩) fun _ _ _ _ _ z => z
end Mine
open PySem PySem.W PyProof.Rows
set_option maxRecDepth 100000 in
set_option maxHeartbeats 0 in
theorem PySem.Challenge.cw_neverhappens_k10_nodes_holds : PySem.Challenge.rw_neverhappens_k10_nodes.Holds := by
  w_on; o_law; k_head; (case hw => w_witness2)
  k_fill
  refine Mine.walk (l := PySem.Challenge.rw_neverhappens_k10_nodes) rfl rfl (fun w h Y => PySem.W.kIn_of Y) ?F
  case F =>
    intro w mg fa h KX G hmg
    refine' Mine.all_mk KX G hmg ?A_bodies_of ?L_bodies_of ?C_bodies_of ?K_bodies_of ?A_list_statements ?L_list_statements ?R_list_statements ?W_list_statements ?C_list_statements ?K_list_statements ?A_count_statements ?L_count_statements ?C_count_statements ?K_count_statements ?A_nodes ?L_nodes ?C_nodes ?K_nodes ?A_heads ?L_heads ?C_heads ?K_heads ?A_body_nodes ?L_body_nodes ?C_body_nodes ?K_body_nodes ?A_statement_nodes ?L_statement_nodes ?C_statement_nodes ?K_statement_nodes ?A_if_nodes ?L_if_nodes ?C_if_nodes ?K_if_nodes ?A_first_place ?L_first_place ?C_first_place ?K_first_place ?A_l_cell ?L_l_cell ?C_l_cell ?K_l_cell ?A_l_source ?L_l_source ?C_l_source ?K_l_source ?A_l_pick ?L_l_pick ?C_l_pick ?K_l_pick ?A_l_one ?L_l_one ?C_l_one ?K_l_one ?A_l_names ?L_l_names ?C_l_names ?K_l_names ?A_l_pile_at ?L_l_pile_at ?C_l_pile_at ?K_l_pile_at ?A_l_listed ?L_l_listed ?C_l_listed ?K_l_listed ?A_l_same ?L_l_same ?C_l_same ?K_l_same ?A_l_number ?L_l_number ?C_l_number ?K_l_number ?A_l_truth ?L_l_truth ?C_l_truth ?K_l_truth ?A_l_leaf ?L_l_leaf ?C_l_leaf ?K_l_leaf ?A_l_body ?L_l_body ?C_l_body ?K_l_body ?A_l_function ?L_l_function ?C_l_function ?K_l_function ?A_l_settled ?L_l_settled ?C_l_settled ?K_l_settled ?A_l_follow ?L_l_follow ?C_l_follow ?K_l_follow ?A_l_due ?L_l_due ?C_l_due ?K_l_due ?A_law ?L_law ?C_law ?K_law ?A_PARTS ?D_PARTS ?Y_PARTS ?N_PARTS_0 ?R_PARTS_0 ?V_PARTS_0 ?N_PARTS_1 ?R_PARTS_1 ?V_PARTS_1 ?N_PARTS_2 ?R_PARTS_2 ?V_PARTS_2 ?N_PARTS_3 ?R_PARTS_3 ?V_PARTS_3 ?N_PARTS_4 ?R_PARTS_4 ?V_PARTS_4 ?N_PARTS_5 ?R_PARTS_5 ?V_PARTS_5 ?N_PARTS_6 ?R_PARTS_6 ?V_PARTS_6 ?N_PARTS_7 ?R_PARTS_7 ?V_PARTS_7 ?N_PARTS_8 ?R_PARTS_8 ?V_PARTS_8 ?N_PARTS_9 ?R_PARTS_9 ?V_PARTS_9 ?N_PARTS_10 ?R_PARTS_10 ?V_PARTS_10 ?N_PARTS_11 ?R_PARTS_11 ?V_PARTS_11 ?N_PARTS_12 ?R_PARTS_12 ?V_PARTS_12 ?N_PARTS_13 ?R_PARTS_13 ?V_PARTS_13 ?Z_bool ?Z_enumerate ?Z_int ?Z_isinstance ?Z_len ?Z_list ?Z_max ?Z_min ?Z_range ?Z_str ?Z_tuple ?Z_zip
    (case A_bodies_of => k_is)
    (case L_bodies_of => k_is)
    (case C_bodies_of => k_is)
    (case K_bodies_of => k_is)
    (case A_list_statements => k_is)
    (case L_list_statements => k_is)
    (case R_list_statements => k_is)
    (case W_list_statements => first | rfl | decide +kernel)
    (case C_list_statements => k_is)
    (case K_list_statements => k_is)
    (case A_count_statements => k_is)
    (case L_count_statements => k_is)
    (case C_count_statements => k_is)
    (case K_count_statements => k_is)
    (case A_nodes => k_is)
    (case L_nodes => k_is)
    (case C_nodes => k_is)
    (case K_nodes => k_is)
    (case A_heads => k_is)
    (case L_heads => k_is)
    (case C_heads => k_is)
    (case K_heads => k_is)
    (case A_body_nodes => k_is)
    (case L_body_nodes => k_is)
    (case C_body_nodes => k_is)
    (case K_body_nodes => k_is)
    (case A_statement_nodes => k_is)
    (case L_statement_nodes => k_is)
    (case C_statement_nodes => k_is)
    (case K_statement_nodes => k_is)
    (case A_if_nodes => k_is)
    (case L_if_nodes => k_is)
    (case C_if_nodes => k_is)
    (case K_if_nodes => k_is)
    (case A_first_place => k_is)
    (case L_first_place => k_is)
    (case C_first_place => k_is)
    (case K_first_place => k_is)
    (case A_l_cell => k_is)
    (case L_l_cell => k_is)
    (case C_l_cell => k_is)
    (case K_l_cell => k_is)
    (case A_l_source => k_is)
    (case L_l_source => k_is)
    (case C_l_source => k_is)
    (case K_l_source => k_is)
    (case A_l_pick => k_is)
    (case L_l_pick => k_is)
    (case C_l_pick => k_is)
    (case K_l_pick => k_is)
    (case A_l_one => k_is)
    (case L_l_one => k_is)
    (case C_l_one => k_is)
    (case K_l_one => k_is)
    (case A_l_names => k_is)
    (case L_l_names => k_is)
    (case C_l_names => k_is)
    (case K_l_names => k_is)
    (case A_l_pile_at => k_is)
    (case L_l_pile_at => k_is)
    (case C_l_pile_at => k_is)
    (case K_l_pile_at => k_is)
    (case A_l_listed => k_is)
    (case L_l_listed => k_is)
    (case C_l_listed => k_is)
    (case K_l_listed => k_is)
    (case A_l_same => k_is)
    (case L_l_same => k_is)
    (case C_l_same => k_is)
    (case K_l_same => k_is)
    (case A_l_number => k_is)
    (case L_l_number => k_is)
    (case C_l_number => k_is)
    (case K_l_number => k_is)
    (case A_l_truth => k_is)
    (case L_l_truth => k_is)
    (case C_l_truth => k_is)
    (case K_l_truth => k_is)
    (case A_l_leaf => k_is)
    (case L_l_leaf => k_is)
    (case C_l_leaf => k_is)
    (case K_l_leaf => k_is)
    (case A_l_body => k_is)
    (case L_l_body => k_is)
    (case C_l_body => k_is)
    (case K_l_body => k_is)
    (case A_l_function => k_is)
    (case L_l_function => k_is)
    (case C_l_function => k_is)
    (case K_l_function => k_is)
    (case A_l_settled => k_is)
    (case L_l_settled => k_is)
    (case C_l_settled => k_is)
    (case K_l_settled => k_is)
    (case A_l_follow => k_is)
    (case L_l_follow => k_is)
    (case C_l_follow => k_is)
    (case K_l_follow => k_is)
    (case A_l_due => k_is)
    (case L_l_due => k_is)
    (case C_l_due => k_is)
    (case K_l_due => k_is)
    (case A_law => k_is)
    (case L_law => k_is)
    (case C_law => k_is)
    (case K_law => k_is)
    (case A_PARTS => k_is)
    (case D_PARTS => k_is)
    (case Y_PARTS => (repeat' (first | exact True.intro | (refine ⟨⟨_, _, rfl, rfl⟩, ?_⟩))))
    (case N_PARTS_0 => k_is)
    (case R_PARTS_0 => k_is)
    (case V_PARTS_0 => first | rfl | decide +kernel)
    (case N_PARTS_1 => k_is)
    (case R_PARTS_1 => k_is)
    (case V_PARTS_1 => first | rfl | decide +kernel)
    (case N_PARTS_2 => k_is)
    (case R_PARTS_2 => k_is)
    (case V_PARTS_2 => first | rfl | decide +kernel)
    (case N_PARTS_3 => k_is)
    (case R_PARTS_3 => k_is)
    (case V_PARTS_3 => first | rfl | decide +kernel)
    (case N_PARTS_4 => k_is)
    (case R_PARTS_4 => k_is)
    (case V_PARTS_4 => first | rfl | decide +kernel)
    (case N_PARTS_5 => k_is)
    (case R_PARTS_5 => k_is)
    (case V_PARTS_5 => first | rfl | decide +kernel)
    (case N_PARTS_6 => k_is)
    (case R_PARTS_6 => k_is)
    (case V_PARTS_6 => first | rfl | decide +kernel)
    (case N_PARTS_7 => k_is)
    (case R_PARTS_7 => k_is)
    (case V_PARTS_7 => first | rfl | decide +kernel)
    (case N_PARTS_8 => k_is)
    (case R_PARTS_8 => k_is)
    (case V_PARTS_8 => first | rfl | decide +kernel)
    (case N_PARTS_9 => k_is)
    (case R_PARTS_9 => k_is)
    (case V_PARTS_9 => first | rfl | decide +kernel)
    (case N_PARTS_10 => k_is)
    (case R_PARTS_10 => k_is)
    (case V_PARTS_10 => first | rfl | decide +kernel)
    (case N_PARTS_11 => k_is)
    (case R_PARTS_11 => k_is)
    (case V_PARTS_11 => first | rfl | decide +kernel)
    (case N_PARTS_12 => k_is)
    (case R_PARTS_12 => k_is)
    (case V_PARTS_12 => first | rfl | decide +kernel)
    (case N_PARTS_13 => k_is)
    (case R_PARTS_13 => k_is)
    (case V_PARTS_13 => first | rfl | decide +kernel)
    (case Z_bool => k_is)
    (case Z_enumerate => k_is)
    (case Z_int => k_is)
    (case Z_isinstance => k_is)
    (case Z_len => k_is)
    (case Z_list => k_is)
    (case Z_max => k_is)
    (case Z_min => k_is)
    (case Z_range => k_is)
    (case Z_str => k_is)
    (case Z_tuple => k_is)
    (case Z_zip => k_is)
#print axioms PySem.Challenge.cw_neverhappens_k10_nodes_holds
