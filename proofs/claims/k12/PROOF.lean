import PyProof.Rows.All
import Wide.All
import OpenK.AllK
import Wide.FinOn
import HandS.ForMost
import HandS.IsInst
import HandS.Codes
import HandS.Wide
import HandS.More
import HandS.DictComp
import PySem.Challenge.RW_neverhappens_k12_evaluate
set_option Elab.async false
set_option linter.all false
set_option maxRecDepth 100000
set_option maxHeartbeats 4000000
namespace Mine
open PySem L2
def top (i : Nat) : Stmt := PySem.Challenge.pw_neverhappens_k12_evaluate.main.body.getD i (.Pass ⟨0, 0, 0, 0⟩)
abbrev s_evaluate : Stmt := top 1
abbrev s_apply : Stmt := top 2
abbrev s_l_cell : Stmt := top 4
abbrev s_l_source : Stmt := top 5
abbrev s_l_pick : Stmt := top 6
abbrev s_l_one : Stmt := top 7
abbrev s_l_names : Stmt := top 8
abbrev s_l_value : Stmt := top 9
abbrev s_l_same : Stmt := top 10
abbrev s_l_figure : Stmt := top 11
abbrev s_l_term : Stmt := top 12
abbrev s_l_link : Stmt := top 13
abbrev s_l_fact : Stmt := top 14
abbrev s_l_variables : Stmt := top 15
abbrev s_l_values : Stmt := top 16
abbrev s_l_agrees : Stmt := top 17
abbrev s_law : Stmt := top 18
abbrev p_evaluate : List Str := ["expression", "values"]
abbrev p_apply : List Str := ["word", "left", "right"]
abbrev p_l_cell : List Str := ["_law_script", "_law_at"]
abbrev p_l_source : List Str := ["_law_cell_here"]
abbrev p_l_pick : List Str := ["_law_source_here", "_law_size"]
abbrev p_l_one : List Str := ["_law_source_here", "_law_row"]
abbrev p_l_names : List Str := ["_law_source_here"]
abbrev p_l_value : List Str := ["_law_expression", "_law_env"]
abbrev p_l_same : List Str := ["_law_actual", "_law_due"]
abbrev p_l_figure : List Str := ["_law_source_here"]
abbrev p_l_term : List Str := ["_law_source_here", "_law_names_here", "_law_depth"]
abbrev p_l_link : List Str := ["_law_source_here", "_law_group"]
abbrev p_l_fact : List Str := ["_law_source_here", "_law_names_here", "_law_depth"]
abbrev p_l_variables : List Str := ["_law_expression"]
abbrev p_l_values : List Str := ["_law_source_here", "_law_names_here", "_law_expression"]
abbrev p_l_agrees : List Str := ["_law_expression", "_law_first", "_law_second"]
abbrev p_law : List Str := ["_law_script"]
/-- what the program's top leaves: where each def stands -/
structure Txt (K : PySem.W.Frag) (mg : Str → Option Value) where
  a_evaluate : Addr
  d_evaluate : FuncData
  F_evaluate : Fun K "evaluate" "evaluate" s_evaluate a_evaluate d_evaluate
  b_evaluate : Binds K d_evaluate p_evaluate []
  m_evaluate : mg "evaluate" = some (.ref a_evaluate)
  a_apply : Addr
  d_apply : FuncData
  F_apply : Fun K "apply" "apply" s_apply a_apply d_apply
  b_apply : Binds K d_apply p_apply []
  m_apply : mg "apply" = some (.ref a_apply)
  a_l_cell : Addr
  d_l_cell : FuncData
  F_l_cell : Fun K "_law_cell" "_law_cell" s_l_cell a_l_cell d_l_cell
  b_l_cell : Binds K d_l_cell p_l_cell []
  m_l_cell : mg "_law_cell" = some (.ref a_l_cell)
  a_l_source : Addr
  d_l_source : FuncData
  F_l_source : Fun K "_law_source" "_law_source" s_l_source a_l_source d_l_source
  b_l_source : Binds K d_l_source p_l_source []
  m_l_source : mg "_law_source" = some (.ref a_l_source)
  a_l_pick : Addr
  d_l_pick : FuncData
  F_l_pick : Fun K "_law_pick" "_law_pick" s_l_pick a_l_pick d_l_pick
  b_l_pick : Binds K d_l_pick p_l_pick []
  m_l_pick : mg "_law_pick" = some (.ref a_l_pick)
  a_l_one : Addr
  d_l_one : FuncData
  F_l_one : Fun K "_law_one" "_law_one" s_l_one a_l_one d_l_one
  b_l_one : Binds K d_l_one p_l_one []
  m_l_one : mg "_law_one" = some (.ref a_l_one)
  a_l_names : Addr
  d_l_names : FuncData
  F_l_names : Fun K "_law_names" "_law_names" s_l_names a_l_names d_l_names
  b_l_names : Binds K d_l_names p_l_names []
  m_l_names : mg "_law_names" = some (.ref a_l_names)
  a_l_value : Addr
  d_l_value : FuncData
  F_l_value : Fun K "_law_value" "_law_value" s_l_value a_l_value d_l_value
  b_l_value : Binds K d_l_value p_l_value []
  m_l_value : mg "_law_value" = some (.ref a_l_value)
  a_l_same : Addr
  d_l_same : FuncData
  F_l_same : Fun K "_law_same" "_law_same" s_l_same a_l_same d_l_same
  b_l_same : Binds K d_l_same p_l_same []
  m_l_same : mg "_law_same" = some (.ref a_l_same)
  a_l_figure : Addr
  d_l_figure : FuncData
  F_l_figure : Fun K "_law_figure" "_law_figure" s_l_figure a_l_figure d_l_figure
  b_l_figure : Binds K d_l_figure p_l_figure []
  m_l_figure : mg "_law_figure" = some (.ref a_l_figure)
  a_l_term : Addr
  d_l_term : FuncData
  F_l_term : Fun K "_law_term" "_law_term" s_l_term a_l_term d_l_term
  b_l_term : Binds K d_l_term p_l_term []
  m_l_term : mg "_law_term" = some (.ref a_l_term)
  a_l_link : Addr
  d_l_link : FuncData
  F_l_link : Fun K "_law_link" "_law_link" s_l_link a_l_link d_l_link
  b_l_link : Binds K d_l_link p_l_link []
  m_l_link : mg "_law_link" = some (.ref a_l_link)
  a_l_fact : Addr
  d_l_fact : FuncData
  F_l_fact : Fun K "_law_fact" "_law_fact" s_l_fact a_l_fact d_l_fact
  b_l_fact : Binds K d_l_fact p_l_fact []
  m_l_fact : mg "_law_fact" = some (.ref a_l_fact)
  a_l_variables : Addr
  d_l_variables : FuncData
  F_l_variables : Fun K "_law_variables" "_law_variables" s_l_variables a_l_variables d_l_variables
  b_l_variables : Binds K d_l_variables p_l_variables []
  m_l_variables : mg "_law_variables" = some (.ref a_l_variables)
  a_l_values : Addr
  d_l_values : FuncData
  F_l_values : Fun K "_law_values" "_law_values" s_l_values a_l_values d_l_values
  b_l_values : Binds K d_l_values p_l_values []
  m_l_values : mg "_law_values" = some (.ref a_l_values)
  a_l_agrees : Addr
  d_l_agrees : FuncData
  F_l_agrees : Fun K "_law_agrees" "_law_agrees" s_l_agrees a_l_agrees d_l_agrees
  b_l_agrees : Binds K d_l_agrees p_l_agrees []
  m_l_agrees : mg "_law_agrees" = some (.ref a_l_agrees)
  a_law : Addr
  d_law : FuncData
  F_law : Fun K "law" "law" s_law a_law d_law
  b_law : Binds K d_law p_law []
  m_law : mg "law" = some (.ref a_law)
  z_bool : mg "bool" = none
  z_dict : mg "dict" = none
  z_int : mg "int" = none
  z_isinstance : mg "isinstance" = none
  z_len : mg "len" = none
  z_list : mg "list" = none
  z_range : mg "range" = none
  z_str : mg "str" = none
  z_tuple : mg "tuple" = none
abbrev n_evaluate : List Str := ["expression", "values", "word", "left"]
theorem sc_evaluate : FnScope n_evaluate p_evaluate (defScope s_evaluate) := ⟨rfl, rfl, rfl, by decide +kernel, rfl, by decide +kernel, by decide +kernel⟩
abbrev n_apply : List Str := ["word", "left", "right"]
theorem sc_apply : FnScope n_apply p_apply (defScope s_apply) := ⟨rfl, rfl, rfl, by decide +kernel, rfl, by decide +kernel, by decide +kernel⟩
abbrev n_l_cell : List Str := ["_law_script", "_law_at"]
theorem sc_l_cell : FnScope n_l_cell p_l_cell (defScope s_l_cell) := ⟨rfl, rfl, rfl, by decide +kernel, rfl, by decide +kernel, by decide +kernel⟩
abbrev n_l_source : List Str := ["_law_cell_here"]
theorem sc_l_source : FnScope n_l_source p_l_source (defScope s_l_source) := ⟨rfl, rfl, rfl, by decide +kernel, rfl, by decide +kernel, by decide +kernel⟩
abbrev n_l_pick : List Str := ["_law_source_here", "_law_size", "_law_k", "_law_digit", "_law_mixed"]
theorem sc_l_pick : FnScope n_l_pick p_l_pick (defScope s_l_pick) := ⟨rfl, rfl, rfl, by decide +kernel, rfl, by decide +kernel, by decide +kernel⟩
abbrev n_l_one : List Str := ["_law_source_here", "_law_row"]
theorem sc_l_one : FnScope n_l_one p_l_one (defScope s_l_one) := ⟨rfl, rfl, rfl, by decide +kernel, rfl, by decide +kernel, by decide +kernel⟩
abbrev n_l_names : List Str := ["_law_source_here", "_law_style", "_law_names_here", "_law_k", "_law_word"]
theorem sc_l_names : FnScope n_l_names p_l_names (defScope s_l_names) := ⟨rfl, rfl, rfl, by decide +kernel, rfl, by decide +kernel, by decide +kernel⟩
abbrev n_l_value : List Str := ["_law_expression", "_law_env", "_law_sign", "_law_left", "_law_right"]
theorem sc_l_value : FnScope n_l_value p_l_value (defScope s_l_value) := ⟨rfl, rfl, rfl, by decide +kernel, rfl, by decide +kernel, by decide +kernel⟩
abbrev n_l_same : List Str := ["_law_actual", "_law_due", "_law_k"]
theorem sc_l_same : FnScope n_l_same p_l_same (defScope s_l_same) := ⟨rfl, rfl, rfl, by decide +kernel, rfl, by decide +kernel, by decide +kernel⟩
abbrev n_l_figure : List Str := ["_law_source_here", "_law_choice"]
theorem sc_l_figure : FnScope n_l_figure p_l_figure (defScope s_l_figure) := ⟨rfl, rfl, rfl, by decide +kernel, rfl, by decide +kernel, by decide +kernel⟩
abbrev n_l_term : List Str := ["_law_source_here", "_law_names_here", "_law_depth", "_law_choice", "_law_left"]
theorem sc_l_term : FnScope n_l_term p_l_term (defScope s_l_term) := ⟨rfl, rfl, rfl, by decide +kernel, rfl, by decide +kernel, by decide +kernel⟩
abbrev n_l_link : List Str := ["_law_source_here", "_law_group"]
theorem sc_l_link : FnScope n_l_link p_l_link (defScope s_l_link) := ⟨rfl, rfl, rfl, by decide +kernel, rfl, by decide +kernel, by decide +kernel⟩
abbrev n_l_fact : List Str := ["_law_source_here", "_law_names_here", "_law_depth", "_law_choice", "_law_left", "_law_right", "_law_group"]
theorem sc_l_fact : FnScope n_l_fact p_l_fact (defScope s_l_fact) := ⟨rfl, rfl, rfl, by decide +kernel, rfl, by decide +kernel, by decide +kernel⟩
abbrev n_l_variables : List Str := ["_law_expression", "_law_found", "_law_part"]
theorem sc_l_variables : FnScope n_l_variables p_l_variables (defScope s_l_variables) := ⟨rfl, rfl, rfl, by decide +kernel, rfl, by decide +kernel, by decide +kernel⟩
abbrev n_l_values : List Str := ["_law_source_here", "_law_names_here", "_law_expression", "_law_values_here", "_law_name", "_law_at"]
theorem sc_l_values : FnScope n_l_values p_l_values (defScope s_l_values) := ⟨rfl, rfl, rfl, by decide +kernel, rfl, by decide +kernel, by decide +kernel⟩
abbrev n_l_agrees : List Str := ["_law_expression", "_law_first", "_law_second", "_law_due", "_law_other", "_law_passed"]
theorem sc_l_agrees : FnScope n_l_agrees p_l_agrees (defScope s_l_agrees) := ⟨rfl, rfl, rfl, by decide +kernel, rfl, by decide +kernel, by decide +kernel⟩
abbrev n_law : List Str := ["_law_script", "_law_source_here", "_law_told", "_law_names_here", "_law_depth", "_law_choice", "_law_expression", "_law_first", "_law_second"]
theorem sc_law : FnScope n_law p_law (defScope s_law) := ⟨rfl, rfl, rfl, by decide +kernel, rfl, by decide +kernel, by decide +kernel⟩
/-! ### built-in names -/
theorem bt_int : bootBuiltins "int" = some (.type "int") := by decide +kernel
theorem bt_str : bootBuiltins "str" = some (.type "str") := by decide +kernel
theorem bt_bool : bootBuiltins "bool" = some (.type "bool") := by decide +kernel
theorem bt_tuple : bootBuiltins "tuple" = some (.type "tuple") := by decide +kernel
theorem bt_list : bootBuiltins "list" = some (.type "list") := by decide +kernel
theorem bt_dict : bootBuiltins "dict" = some (.type "dict") := by decide +kernel
theorem bb_max : bootBuiltins "max" = some (.builtin "max") := by decide +kernel
theorem bb_min : bootBuiltins "min" = some (.builtin "min") := by decide +kernel
theorem bb_isinstance : bootBuiltins "isinstance" = some (.builtin "isinstance") := by decide +kernel
/-! ### a source of draws: a list of three ints, which draws alone change -/
def Src (H : Hp) (a : Addr) : Prop := ∃ c m k : Int, H a = some (.lst [.int c, .int m, .int k])
/-- a source stands at a, and nothing else that was tracked has changed -/
structure Stp (a : Addr) (H H' : Hp) : Prop where
  s : Src H' a
  k : ∀ b o, b ≠ a → H b = some o → H' b = some o
theorem Stp.refl {a : Addr} {H : Hp} (h : Src H a) : Stp a H H := ⟨h, fun _ _ _ e => e⟩
theorem Stp.trans {a : Addr} {H H1 H2 : Hp} (x : Stp a H H1) (y : Stp a H1 H2) : Stp a H H2 := ⟨y.s, fun b o hb e => y.k b o hb (x.k b o hb e)⟩
theorem Src.ne {a p : Addr} {H : Hp} (h : Src H a) (n : H p = none) : a ≠ p := by
  obtain ⟨c, m, k, h⟩ := h
  exact ne_of_none h n
theorem Stp.free {a p : Addr} {H H' : Hp} (x : Stp a H H') (n : H' p = none) : H p = none := by
  cases q : H p with
  | none => rfl
  | some o =>
    have ne : p ≠ a := fun z => x.s.ne n z.symm
    rw [x.k p o ne q] at n
    cases n
/-- a new object beside the source -/
theorem Stp.new {a p : Addr} {H H' : Hp} {o : HO} (x : Stp a H H') (n : H' p = none) : Stp a H (upd H' p o) := by
  have ne := x.s.ne n
  obtain ⟨c, m, k, h⟩ := x.s
  refine ⟨⟨c, m, k, by rw [upd_ne ne]; exact h⟩, fun b u hb e => ?_⟩
  have e' := x.k b u hb e
  rw [upd_ne (ne_of_none e' n)]
  exact e'
theorem Stp.same {a : Addr} {H H' H2 : Hp} (x : Stp a H H') (s : Same H' H2) : Stp a H H2 := by
  obtain ⟨c, m, k, h⟩ := x.s
  exact ⟨⟨c, m, k, s _ _ h⟩, fun b o hb e => s b o (x.k b o hb e)⟩
theorem Stp.of_same {a : Addr} {H H' : Hp} (h : Src H a) (s : Same H H') : Stp a H H' := (Stp.refl h).same s
theorem Same.new {H : Hp} {p : Addr} (h : H p = none) (o : HO) : Same H (upd H p o) := fun b u q => by rw [upd_ne (ne_of_none q h)]; exact q
/-- a source that is new ahead of its draws: all that was tracked stands -/
theorem Stp.fresh {a : Addr} {H H1 H2 : Hp} (s : Same H H1) (n : H a = none) (x : Stp a H1 H2) : Same H H2 := fun b o e => x.k b o (ne_of_none e n) (s b o e)
theorem Stp.rd {K : PySem.W.Frag} {a p : Addr} {H H' : Hp} {xs : List V} (x : Stp a H H') (h : SqT K H p xs) (hs : Src H a) : SqT K H' p xs := by
  obtain ⟨c, m, k, hs⟩ := hs
  rcases h with (h | ⟨o, h⟩) | h
  · exact .inl (.inl (x.k _ _ (ne_of h hs (by intro z; cases z)) h))
  · exact .inl (.inr ⟨o, x.k _ _ (ne_of h hs (by intro z; cases z)) h⟩)
  · exact .inr h
theorem Stp.rdL {K : PySem.W.Frag} {a p : Addr} {H H' : Hp} {xs : List V} (x : Stp a H H') (h : SqL K H p xs) (ne : p ≠ a) : SqL K H' p xs := by
  rcases h with (h | ⟨o, h⟩) | h
  · exact .inl (.inl (x.k _ _ ne h))
  · exact .inl (.inr ⟨o, x.k _ _ ne h⟩)
  · exact .inr h
theorem Same.tup {K : PySem.W.Frag} {p : Addr} {H H' : Hp} {xs : List V} (x : Same H H') (h : SqT K H p xs) : SqT K H' p xs := by
  rcases h with (h | ⟨o, h⟩) | h
  · exact .inl (.inl (x _ _ h))
  · exact .inl (.inr ⟨o, x _ _ h⟩)
  · exact .inr h
/-! ### numbers -/
theorem ifT {c : Bool} {A B : Prop} (h : c = true) (a : A) : if c = true then A else B := by rw [if_pos h]; exact a
theorem ifF {c : Bool} {A B : Prop} (h : c = false) (b : B) : if c = true then A else B := by rw [h]; exact iteF b
theorem fmod_bd {x m : Int} (h : 0 < m) : 0 ≤ x.fmod m ∧ x.fmod m < m := ⟨Int.fmod_nonneg_of_pos x h, Int.fmod_lt_of_pos x h⟩
theorem fm64 {x m : Int} (h : 0 < m) (h2 : m ≤ 2 ^ 64) : -(2 ^ 64) < x.fmod m ∧ x.fmod m < 2 ^ 64 :=
  ⟨Int.lt_of_lt_of_le (by decide) (fmod_bd h).1, Int.lt_of_lt_of_le (fmod_bd h).2 h2⟩
theorem atI_int {α : Type} {xs : List α} {r : Int} (h0 : 0 ≤ r) (h : r.toNat < xs.length) : atI xs r = some xs[r.toNat] := by
  have e := atI_nat (xs := xs) (j := r.toNat) (List.getElem?_eq_getElem h)
  rwa [Int.toNat_of_nonneg h0] at e
/-! ### the promises of the draws -/
def spCell (K : PySem.W.Frag) : Sp := fun vs H Q _ => ∃ (l : Addr) (ns : List Int) (j : Int), vs = [.ref l, .int j] ∧ SqL K H l (ns.map V.int) ∧ 0 ≤ j ∧ ∀ i : Int, Q (.int i) H
def spSource : Sp := fun vs H Q _ => ∃ c : Int, vs = [.int c] ∧ ∀ p H', H p = none → Same H H' → Src H' p → Q (.ref p) H'
def spPick : Sp := fun vs H Q _ => ∃ (a : Addr) (n : Int), vs = [.ref a, .int n] ∧ Src H a ∧ n < 1073741824 ∧ ∀ (r : Int) (H' : Hp), Stp a H H' → 0 ≤ r → (r < n ∨ r = 0) → Q (.int r) H'
def spOne (K : PySem.W.Frag) : Sp := fun vs H Q _ => ∃ (a : Addr) (row : V), vs = [.ref a, row] ∧ Src H a ∧
  ((∃ (p : Addr) (xs : List V), row = .ref p ∧ p ≠ a ∧ SqL K H p xs ∧ 0 < xs.length ∧ xs.length < 1000 ∧ ∀ v H', v ∈ xs → Stp a H H' → Q v H') ∨
   (∃ z : Str, row = .str z ∧ 0 < z.length ∧ z.length < 1000 ∧ ∀ (c : Nat) H', c ∈ z.cps.toList → Stp a H H' → Q (.str ⟨#[c]⟩) H'))
section
variable {P : Program} {w : World} {K : PySem.W.Frag} {mg : Str → Option Value} {base : Heap}
theorem ok_l_cell (T : Txt K mg) : FnOk P w K mg base CX0 1 T.a_l_cell T.d_l_cell p_l_cell (spCell K) := by
  refine T.F_l_cell.ok sc_l_cell (fun vs H Q E h => ?_) (fun cdv A outer s H vs Q E hr h => ?_)
  · obtain ⟨l, ns, j, rfl, _⟩ := h
    rfl
  obtain ⟨l, ns, j, rfl, hS, h0, q⟩ := h
  refine ⟨_, (pss_cons (ps_if (pt_cmpR op_lt (pv 1) (pe_callB call_len_seq rfl T.z_len PySem.boot_len (pa_cons (pv 0) pa_nil)) (nomark _)) (pss_one (ps_ret (pe_ix ix_list (pv 0) (pv 1) (fun _ _ => rfl)))) pss_nil)
      (pss_one (ps_ret pe_int))), ?_⟩
  have hl : (ns.map V.int).length = ns.length := List.length_map _
  refine ⟨_, rfl, _, rfl, l, _, rfl, .inl hS, _, _, rfl, rfl, _, rfl, ?_⟩
  refine ite2 (fun c => ?_) (fun c => ?_)
  · have c' : j < (((ns.map V.int).length : Nat) : Int) := of_decide_eq_true c
    rw [hl] at c'
    have hk : j.toNat < ns.length := by omega
    have e := atI_int (xs := ns.map V.int) h0 (by omega)
    rw [List.getElem_map] at e
    exact ⟨_, rfl, _, rfl, l, _, _, _, rfl, rfl, hS, e, q _⟩
  · exact q 0
theorem ok_l_source (T : Txt K mg) : FnOk P w K mg base CX0 1 T.a_l_source T.d_l_source p_l_source spSource := by
  refine T.F_l_source.ok sc_l_source (fun vs H Q E h => ?_) (fun cdv A outer s H vs Q E hr h => ?_)
  · obtain ⟨c, rfl, _⟩ := h
    rfl
  obtain ⟨c, rfl, q⟩ := h
  refine ⟨_, (pss_one (ps_ret (pe_lst (pa_cons (pv 0) (pa_cons (pv 0) (pa_cons pe_int pa_nil)))))), ?_⟩
  refine ⟨_, rfl, _, rfl, (by show 3 ≤ sizeLine; decide), fun p hp => ?_⟩
  exact q p _ hp (Same.new hp _) ⟨c, c, 0, upd_same⟩
theorem ok_l_pick (T : Txt K mg) : FnOk P w K mg base CX0 1 T.a_l_pick T.d_l_pick p_l_pick spPick := by
  refine T.F_l_pick.ok sc_l_pick (fun vs H Q E h => ?_) (fun cdv A outer s H vs Q E hr h => ?_)
  · obtain ⟨a, n, rfl, _⟩ := h
    rfl
  obtain ⟨a, n, rfl, ⟨c, m, k, hS⟩, hn, q⟩ := h
  refine ⟨_, (pss_cons (ps_set (i := 2) sc_l_pick.nd rfl (Or.inl rfl) (pe_ix ix_list (pv 0) pe_int (fun _ _ => rfl)))
      (pss_cons (ps_asg (pe_op op_add (pv 2) pe_int) (pg_sub (pv 0) pe_int set_list))
      (pss_cons (ps_if (pt_cmpR op_lt (pv 1) pe_int (nomark _)) (pss_one (ps_ret pe_int)) pss_nil)
      (pss_cons (ps_if (PW.pt (pw_and (pt_cmpR op_ge (pe_ix ix_list (pv 0) pe_int (fun _ _ => rfl)) (pe_op op_pow pe_int pe_int) (nomark _)) (pw_and1 (pt_cmpR op_gt (pe_ix ix_list (pv 0) pe_int (fun _ _ => rfl)) pe_int (nomark _))))) (pss_cons (ps_set (i := 3) sc_l_pick.nd rfl (Or.inl rfl) (pe_op op_modN (pe_callTy call_int1 rfl T.z_int bt_int (pa_cons (pe_ix ix_list (pv 0) pe_int (fun _ _ => rfl)) pa_nil)) (pv 1)))
      (pss_cons (ps_asg (pe_op op_fdivN (pe_ix ix_list (pv 0) pe_int (fun _ _ => rfl)) (pv 1)) (pg_sub (pv 0) pe_int set_list))
      (pss_one (ps_ret (pv 3))))) pss_nil)
      (pss_cons (ps_set (i := 4) sc_l_pick.nd rfl (Or.inl rfl) (pe_op op_modN (pe_callTy call_int1 rfl T.z_int bt_int (pa_cons (pe_op op_add (pe_op op_add (pe_ix ix_list (pv 0) pe_int (fun _ _ => rfl)) (pe_op op_mul pe_int (pv 2))) pe_int) pa_nil)) pe_int))
      (pss_cons (ps_set (i := 4) sc_l_pick.nd rfl (Or.inl rfl) (pe_op op_modN (pe_callTy call_int1 rfl T.z_int bt_int (pa_cons (pe_op op_mul (pv 4) (pe_op op_add (pv 4) pe_int)) pa_nil)) pe_int))
      (pss_cons (ps_set (i := 4) sc_l_pick.nd rfl (Or.inl rfl) (pe_op op_modN (pe_callTy call_int1 rfl T.z_int bt_int (pa_cons (pe_op op_add (pe_op op_mul (pv 4) (pe_op op_add (pv 4) pe_int)) (pe_op op_mul pe_int (pv 2))) pa_nil)) pe_int))
      (pss_one (ps_ret (pe_op op_modN (pe_callTy call_int1 rfl T.z_int bt_int (pa_cons (pe_op op_fdivN (pv 4) pe_int) pa_nil)) (pv 1))))))))))), ?_⟩
  refine ⟨_, rfl, a, _, 2, _, rfl, rfl, SqL.of hS, rfl, ?_⟩
  refine ⟨_, rfl, k, 1, rfl, rfl, _, rfl, a, _, 2, 2, rfl, rfl, hS, rfl, ?_⟩
  have h1 : (upd H a (.lst [.int c, .int m, .int (k + 1)])) a = some (.lst [.int c, .int m, .int (k + 1)]) := upd_same
  have st : Stp a H (upd H a (.lst [.int c, .int m, .int (k + 1)])) := ⟨⟨c, m, k + 1, upd_same⟩, fun b o hb e => by rw [upd_ne hb]; exact e⟩
  refine ⟨_, rfl, n, 2, rfl, rfl, _, rfl, ?_⟩
  refine ite2 (fun _ => ?_) (fun c2 => ?_)
  · exact q 0 _ st (Int.le_refl 0) (.inr rfl)
  have hn2 : ¬ n < 2 := of_decide_eq_false (Bool.eq_false_iff.mpr c2)
  refine ⟨_, rfl, a, _, 0, _, rfl, rfl, SqL.of h1, rfl, 10, 18, rfl, rfl, ⟨by decide, by decide, by decide⟩, _, _, rfl, rfl, _, rfl, ?_⟩
  refine ite2 (fun _ => ⟨_, rfl, a, _, 1, _, rfl, rfl, SqL.of h1, rfl, _, _, rfl, rfl, _, rfl, ite2 (fun _ => ?first) (fun _ => ?second)⟩) (fun _ => iteF ?third)
  case first =>
    refine ⟨_, rfl, a, _, 1, _, rfl, rfl, SqL.of h1, rfl, .inl ⟨_, rfl, ?_⟩⟩
    refine ⟨_, rfl, _, _, rfl, rfl, by omega, ?_⟩
    refine ⟨_, rfl, a, _, 1, _, rfl, rfl, SqL.of h1, rfl, _, rfl, m, n, rfl, rfl, ⟨by omega, by omega⟩, _, rfl, a, _, 1, 1, rfl, rfl, h1, rfl, ?_⟩
    refine ⟨_, rfl, ?_⟩
    have b := fmod_bd (x := m) (m := n) (by omega)
    refine q _ _ ⟨⟨c, m.fdiv n, k + 1, upd_same⟩, fun b o hb e => ?_⟩ b.1 (.inl b.2)
    rw [upd_ne hb]
    exact st.k b o hb e
  all_goals
    refine ⟨_, rfl, a, _, 0, _, rfl, rfl, SqL.of h1, rfl, _, rfl, 7919, k, rfl, rfl, .inl ⟨by decide, by decide⟩, _, _, rfl, rfl, _, _, rfl, rfl, .inl ⟨_, rfl, ?_⟩⟩
    refine ⟨_, _, rfl, rfl, (by intro z; cases z), ?_⟩
    refine ⟨_, rfl, _, rfl, _, _, rfl, rfl, _, _, rfl, rfl, .inl (fm64 (by decide) (by decide)), .inl ⟨_, rfl, ?_⟩⟩
    refine ⟨_, _, rfl, rfl, (by intro z; cases z), ?_⟩
    refine ⟨_, rfl, _, rfl, _, _, rfl, rfl, _, _, rfl, rfl, .inl (fm64 (by decide) (by decide)), _, rfl, 31, k, rfl, rfl, .inl ⟨by decide, by decide⟩, _, _, rfl, rfl, .inl ⟨_, rfl, ?_⟩⟩
    refine ⟨_, _, rfl, rfl, (by intro z; cases z), ?_⟩
    refine ⟨_, rfl, _, _, rfl, rfl, ⟨by decide, by decide⟩, .inl ⟨_, rfl, ?_⟩⟩
    refine ⟨_, rfl, _, _, rfl, rfl, (by omega), ?_⟩
    exact q _ _ st (fmod_bd (by omega)).1 (.inl (fmod_bd (by omega)).2)
theorem ok_l_one (T : Txt K mg) : FnOk P w K mg base CX0 2 T.a_l_one T.d_l_one p_l_one (spOne K) := by
  have g_l_pick := ok_l_pick (P := P) (w := w) (base := base) T
  refine T.F_l_one.ok sc_l_one (fun vs H Q E h => ?_) (fun cdv A outer s H vs Q E hr h => ?_)
  · obtain ⟨a, row, rfl, _⟩ := h
    rfl
  obtain ⟨a, row, rfl, hS, h⟩ := h
  refine ⟨_, (pss_one (ps_ret (pe_ix ix_seq (pv 1) (pe_call g_l_pick (hr.mono (by first | decide | omega)) rfl T.m_l_pick T.F_l_pick.kp T.b_l_pick .nil pass0 (pa_cons (pv 0) (pa_cons (pe_callB call_len rfl T.z_len PySem.boot_len (pa_cons (pv 1) pa_nil)) pa_nil))) (fun _ _ => rfl)))), ?_⟩
  rcases h with ⟨p, xs, rfl, ne, hx, h0, h9, q⟩ | ⟨z, rfl, h0, h9, q⟩
  · refine ⟨_, rfl, _, rfl, _, rfl, .ref p, xs.length, rfl, .inl ⟨_, hx, rfl⟩, ?_⟩
    refine ⟨a, _, rfl, hS, by omega, fun r H' st r0 r1 => ?_⟩
    have hr' : r.toNat < xs.length := by omega
    have e := atI_int (xs := xs) r0 hr'
    exact .inl ⟨p, xs, r, _, rfl, rfl, st.rdL hx ne, e, q _ _ (List.getElem_mem hr') st⟩
  · refine ⟨_, rfl, _, rfl, _, rfl, .str z, z.length, rfl, ⟨Nat.le_of_lt (small1000 (by omega)), rfl⟩, ?_⟩
    refine ⟨a, _, rfl, hS, by omega, fun r H' st r0 r1 => ?_⟩
    have ez : z.length = z.cps.toList.length := by simp [Str.length]
    have hr' : r.toNat < z.cps.toList.length := by omega
    have e := atI_int (xs := z.cps.toList) r0 hr'
    exact .inr (.inr ⟨z, r, _, rfl, rfl, Nat.le_of_lt (small1000 (by omega)), e, q _ _ (List.getElem_mem hr') st⟩)
end
/-! ### data: equal data are the same to _law_same -/
def Dok : Nat → PyData → Prop
  | 0, _ => False
  | _ + 1, .none => True
  | _ + 1, .bool _ => True
  | _ + 1, .int _ => True
  | _ + 1, .str _ => True
  | n + 1, .tuple ds => ds.length ≤ 100000 ∧ ∀ d ∈ ds, Dok n d
  | n + 1, .list ds => ds.length ≤ 100000 ∧ ∀ d ∈ ds, Dok n d
  | _ + 1, .dict _ => False
theorem dpAll_len {K : PySem.W.Frag} {H : Hp} : ∀ {vs : List V} {ds : List PyData}, DpAll K H vs ds → vs.length = ds.length
  | _, _, .nil => rfl
  | _, _, .cons _ r => congrArg (· + 1) (dpAll_len r)
theorem dpAll_get {K : PySem.W.Frag} {H : Hp} : ∀ {vs : List V} {ds : List PyData} {i : Nat} {d : PyData}, DpAll K H vs ds → ds[i]? = some d → ∃ v, vs[i]? = some v ∧ Dp K H v d
  | _, _, _, _, .nil, e => by simp at e
  | _, _, 0, d, .cons h _, e => by
    simp at e
    subst e
    exact ⟨_, rfl, h⟩
  | _, _, i + 1, d, .cons _ r, e => by
    obtain ⟨v, h1, h2⟩ := dpAll_get (i := i) r (by simpa using e)
    exact ⟨v, by simpa using h1, h2⟩
theorem tyL {K : PySem.W.Frag} {H : Hp} {a : Addr} {xs : List V} (h : SqL K H a xs) : TyX K H (.ref a) (.type "list") := by
  rcases h with (h | ⟨o, h⟩) | ⟨o, its, n, h, c, _⟩
  · exact .base (.lst h)
  · exact .base (.frz h)
  · exact .kList h c
theorem tyT {K : PySem.W.Frag} {H : Hp} {a : Addr} {xs : List V} (h : SqT K H a xs) : TyX K H (.ref a) (.type "tuple") := by
  rcases h with (h | ⟨o, h⟩) | ⟨o, its, n, h, c, _⟩
  · exact .base (.tup h)
  · exact .fTuple h
  · exact .kTuple h c
theorem isi {K : PySem.W.Frag} {H : Hp} {Q : VK} {x : V} {t c : String} (b : Bool) (ty : TyX K H x (.type t)) (kb : kitB t c = some b) (q : Q (.bl b) H) : rIsi K [x, .ty c] H Q := ⟨x, .ty c, _, _, b, rfl, .ty c, ty, kit_ty kb, q⟩
theorem kb_nt : kitB "NoneType" "tuple" = some false := by decide +kernel
theorem kb_nl : kitB "NoneType" "list" = some false := by decide +kernel
theorem kb_bt : kitB "bool" "tuple" = some false := by decide +kernel
theorem kb_bl : kitB "bool" "list" = some false := by decide +kernel
theorem kb_bb : kitB "bool" "bool" = some true := by decide +kernel
theorem kb_it : kitB "int" "tuple" = some false := by decide +kernel
theorem kb_il : kitB "int" "list" = some false := by decide +kernel
theorem kb_ib : kitB "int" "bool" = some false := by decide +kernel
theorem kb_ii : kitB "int" "int" = some true := by decide +kernel
theorem kb_st : kitB "str" "tuple" = some false := by decide +kernel
theorem kb_sl : kitB "str" "list" = some false := by decide +kernel
theorem kb_sb : kitB "str" "bool" = some false := by decide +kernel
theorem kb_si : kitB "str" "int" = some false := by decide +kernel
theorem kb_ss : kitB "str" "str" = some true := by decide +kernel
theorem kb_tt : kitB "tuple" "tuple" = some true := by decide +kernel
theorem kb_tl : kitB "tuple" "list" = some false := by decide +kernel
theorem kb_lt : kitB "list" "tuple" = some false := by decide +kernel
theorem kb_ll : kitB "list" "list" = some true := by decide +kernel
def spSame (K : PySem.W.Frag) (n : Nat) : Sp := fun vs H Q _ => ∃ (x y : V) (d : PyData), vs = [x, y] ∧ Dp K H x d ∧ Dp K H y d ∧ Dok n d ∧ Q (.bl true) H
section
variable {P : Program} {w : World} {K : PySem.W.Frag} {mg : Str → Option Value} {base : Heap}
theorem ok_l_same0 (T : Txt K mg) : FnOk P w K mg base CX0 0 T.a_l_same T.d_l_same p_l_same (spSame K 0) := by
  have no : ∀ vs H Q E, ¬ spSame K 0 vs H Q E := fun vs H Q E h => by
    obtain ⟨x, y, d, _, _, _, h, _⟩ := h
    exact h
  exact ⟨fun vs H Q E h => absurd h (no vs H Q E), fun A outer s H args us vs Q E _ _ _ _ h => absurd h (no vs H Q E)⟩
/-- the part for two lists or two tuples -/
theorem same_seq {n : Nat} {H : Hp} {p r : Addr} {xs ys : List V} {ds : List PyData} (h1 : SqL K H p xs ∨ SqT K H p xs) (h2 : SqL K H r ys ∨ SqT K H r ys) (d1 : DpAll K H xs ds) (d2 : DpAll K H ys ds)
    (hd : ∀ d ∈ ds, Dok n d) {i : Nat} (hi : i < ds.length) {R : V → Hp → Prop} (q : R (.bl true) H) :
    tCall (spSame K n) [] E0 (tCons (tOp (rIx K) (tVar 0) (tVar 2)) (tCons (tOp (rIx K) (tVar 1) (tVar 2)) tNil)) [some (.ref p), some (.ref r), some (.int (0 + (i : Int)))] H R := by
  obtain ⟨x, e1, q1⟩ := dpAll_get (i := i) d1 (List.getElem?_eq_getElem hi)
  obtain ⟨y, e2, q2⟩ := dpAll_get (i := i) d2 (List.getElem?_eq_getElem hi)
  have a1 : atI xs (0 + (i : Int)) = some x := by rw [Int.zero_add]; exact atI_nat e1
  have a2 : atI ys (0 + (i : Int)) = some y := by rw [Int.zero_add]; exact atI_nat e2
  have k2 : tOp (rIx K) (tVar 1) (tVar 2) [some (.ref p), some (.ref r), some (.int (0 + (i : Int)))] H (fun v H' => tNil [some (.ref p), some (.ref r), some (.int (0 + (i : Int)))] H' fun vs H'' => spSame K n ((x :: v :: vs) ++ []) H'' R E0) := by
    refine ⟨_, rfl, _, rfl, ?_⟩
    have z : spSame K n [x, y] H R E0 := ⟨x, y, _, rfl, q1, q2, hd _ (List.getElem_mem hi), q⟩
    rcases h2 with h2 | h2
    · exact .inl ⟨r, _, _, _, rfl, rfl, h2, a2, z⟩
    · exact .inr (.inl ⟨r, _, _, _, rfl, rfl, h2, a2, z⟩)
  refine ⟨_, rfl, _, rfl, ?_⟩
  rcases h1 with h1 | h1
  · exact .inl ⟨p, _, _, _, rfl, rfl, h1, a1, k2⟩
  · exact .inr (.inl ⟨p, _, _, _, rfl, rfl, h1, a1, k2⟩)
theorem ok_l_same (T : Txt K mg) : ∀ n : Nat, FnOk P w K mg base CX0 n T.a_l_same T.d_l_same p_l_same (spSame K n)
  | 0 => ok_l_same0 T
  | n + 1 => by
    have g_l_same := ok_l_same T n
    refine T.F_l_same.ok sc_l_same (fun vs H Q E h => ?_) (fun cdv A outer s H vs Q E hr h => ?_)
    · obtain ⟨x, y, d, rfl, _⟩ := h
      rfl
    obtain ⟨x, y, d, rfl, hx, hy, hd, q⟩ := h
    refine ⟨_, (pss_cons (ps_if (PW.pt (pw_or (pt_val (pe_callB call_isi rfl T.z_isinstance bb_isinstance (pa_cons (pv 1) (pa_cons (pe_bltn (v := .ty "tuple") rfl T.z_tuple bt_tuple rfl) pa_nil)))) (pw_or1 (pt_val (pe_callB call_isi rfl T.z_isinstance bb_isinstance (pa_cons (pv 1) (pa_cons (pe_bltn (v := .ty "list") rfl T.z_list bt_list rfl) pa_nil))))))) (pss_cons (ps_if (PW.pt (pw_or (pt_cmpR op_ne (pe_callB call_isi rfl T.z_isinstance bb_isinstance (pa_cons (pv 1) (pa_cons (pe_bltn (v := .ty "tuple") rfl T.z_tuple bt_tuple rfl) pa_nil))) (pe_callB call_isi rfl T.z_isinstance bb_isinstance (pa_cons (pv 0) (pa_cons (pe_bltn (v := .ty "tuple") rfl T.z_tuple bt_tuple rfl) pa_nil))) (nomark _)) (pw_or1 (pt_cmpR op_ne (pe_callB call_isi rfl T.z_isinstance bb_isinstance (pa_cons (pv 1) (pa_cons (pe_bltn (v := .ty "list") rfl T.z_list bt_list rfl) pa_nil))) (pe_callB call_isi rfl T.z_isinstance bb_isinstance (pa_cons (pv 0) (pa_cons (pe_bltn (v := .ty "list") rfl T.z_list bt_list rfl) pa_nil))) (nomark _))))) (pss_one (ps_ret pe_bl)) pss_nil)
      (pss_cons (ps_if (pt_cmpR op_ne (pe_callB call_len_seq rfl T.z_len PySem.boot_len (pa_cons (pv 0) pa_nil)) (pe_callB call_len_seq rfl T.z_len PySem.boot_len (pa_cons (pv 1) pa_nil)) (nomark _)) (pss_one (ps_ret pe_bl)) pss_nil)
      (pss_cons (ps_for PassesOwn.never rfl (pi_range1 rfl T.z_range (pa_cons (pe_callB call_len_seq rfl T.z_len PySem.boot_len (pa_cons (pv 1) pa_nil)) pa_nil)) (pg_name (i := 2) sc_l_same.nd rfl (Or.inl rfl))
        (pss_one (ps_if (pt_not (pt_val (pe_call g_l_same (hr.mono (by first | decide | omega)) rfl T.m_l_same T.F_l_same.kp T.b_l_same .nil pass0 (pa_cons (pe_ix ix_seq (pv 0) (pv 2) (fun _ _ => rfl)) (pa_cons (pe_ix ix_seq (pv 1) (pv 2) (fun _ _ => rfl)) pa_nil))))) (pss_one (ps_ret pe_bl)) pss_nil)))
      (pss_one (ps_ret pe_bl))))) pss_nil)
      (pss_cons (ps_if (pt_cmpR op_isN (pv 1) pe_non (nomark _)) (pss_one (ps_ret (pe_cmpR op_isN (pv 0) pe_non (nomark _)))) pss_nil)
      (pss_cons (ps_if (pt_val (pe_callB call_isi rfl T.z_isinstance bb_isinstance (pa_cons (pv 1) (pa_cons (pe_bltn (v := .ty "bool") rfl T.z_bool bt_bool rfl) pa_nil)))) (pss_one (ps_ret (pe_and (pe_callB call_isi rfl T.z_isinstance bb_isinstance (pa_cons (pv 0) (pa_cons (pe_bltn (v := .ty "bool") rfl T.z_bool bt_bool rfl) pa_nil))) (pe_one (pe_cmpR op_eq (pv 0) (pv 1) (nomark _)))))) pss_nil)
      (pss_cons (ps_if (pt_val (pe_callB call_isi rfl T.z_isinstance bb_isinstance (pa_cons (pv 1) (pa_cons (pe_bltn (v := .ty "int") rfl T.z_int bt_int rfl) pa_nil)))) (pss_one (ps_ret (pe_and (pe_callB call_isi rfl T.z_isinstance bb_isinstance (pa_cons (pv 0) (pa_cons (pe_bltn (v := .ty "int") rfl T.z_int bt_int rfl) pa_nil))) (pe_and (pe_not (pe_callB call_isi rfl T.z_isinstance bb_isinstance (pa_cons (pv 0) (pa_cons (pe_bltn (v := .ty "bool") rfl T.z_bool bt_bool rfl) pa_nil)))) (pe_one (pe_cmpR op_eq (pv 0) (pv 1) (nomark _))))))) pss_nil)
      (pss_one (ps_ret (pe_and (pe_callB call_isi rfl T.z_isinstance bb_isinstance (pa_cons (pv 0) (pa_cons (pe_bltn (v := .ty "str") rfl T.z_str bt_str rfl) pa_nil))) (pe_one (pe_cmpR op_eq (pv 0) (pv 1) (nomark _)))))))))), ?_⟩
    cases hx with
    | non =>
      cases hy
      refine ⟨_, rfl, _, _, _, _, false, rfl, .ty _, (.base .non), kit_ty kb_nt, ⟨_, rfl, iteF ⟨_, rfl, _, _, _, _, false, rfl, .ty _, (.base .non), kit_ty kb_nl, ⟨_, rfl, iteF ?_⟩⟩⟩⟩
      refine ⟨_, rfl, rfl, _, rfl, iteT ?_⟩
      exact ⟨_, rfl, rfl, q⟩
    | bl b =>
      cases hy
      refine ⟨_, rfl, _, _, _, _, false, rfl, .ty _, (.base (.bl _)), kit_ty kb_bt, ⟨_, rfl, iteF ⟨_, rfl, _, _, _, _, false, rfl, .ty _, (.base (.bl _)), kit_ty kb_bl, ⟨_, rfl, iteF ?_⟩⟩⟩⟩
      refine ⟨_, rfl, rfl, _, rfl, iteF ?_⟩
      refine ⟨_, rfl, _, _, _, _, true, rfl, .ty _, (.base (.bl _)), kit_ty kb_bb, ⟨_, rfl, iteT ?_⟩⟩
      refine ⟨_, rfl, _, _, _, _, true, rfl, .ty _, (.base (.bl _)), kit_ty kb_bb, ⟨_, rfl, iteT ?_⟩⟩
      refine ⟨_, rfl, _, rfl, rfl, ?_⟩
      rw [decide_eq_true rfl]
      exact q
    | int b =>
      cases hy
      refine ⟨_, rfl, _, _, _, _, false, rfl, .ty _, (.base (.int _)), kit_ty kb_it, ⟨_, rfl, iteF ⟨_, rfl, _, _, _, _, false, rfl, .ty _, (.base (.int _)), kit_ty kb_il, ⟨_, rfl, iteF ?_⟩⟩⟩⟩
      refine ⟨_, rfl, rfl, _, rfl, iteF ?_⟩
      refine ⟨_, rfl, _, _, _, _, false, rfl, .ty _, (.base (.int _)), kit_ty kb_ib, ⟨_, rfl, iteF ?_⟩⟩
      refine ⟨_, rfl, _, _, _, _, true, rfl, .ty _, (.base (.int _)), kit_ty kb_ii, ⟨_, rfl, iteT ?_⟩⟩
      refine ⟨_, rfl, _, _, _, _, true, rfl, .ty _, (.base (.int _)), kit_ty kb_ii, ⟨_, rfl, iteT ?_⟩⟩
      refine ⟨_, rfl, _, _, _, _, false, rfl, .ty _, (.base (.int _)), kit_ty kb_ib, ⟨_, rfl, _, rfl, iteT ?_⟩⟩
      refine ⟨_, rfl, _, rfl, rfl, ?_⟩
      rw [decide_eq_true rfl]
      exact q
    | str b =>
      cases hy
      refine ⟨_, rfl, _, _, _, _, false, rfl, .ty _, (.base (.str _)), kit_ty kb_st, ⟨_, rfl, iteF ⟨_, rfl, _, _, _, _, false, rfl, .ty _, (.base (.str _)), kit_ty kb_sl, ⟨_, rfl, iteF ?_⟩⟩⟩⟩
      refine ⟨_, rfl, rfl, _, rfl, iteF ?_⟩
      refine ⟨_, rfl, _, _, _, _, false, rfl, .ty _, (.base (.str _)), kit_ty kb_sb, ⟨_, rfl, iteF ?_⟩⟩
      refine ⟨_, rfl, _, _, _, _, false, rfl, .ty _, (.base (.str _)), kit_ty kb_si, ⟨_, rfl, iteF ?_⟩⟩
      refine ⟨_, rfl, _, _, _, _, true, rfl, .ty _, (.base (.str _)), kit_ty kb_ss, ⟨_, rfl, iteT ?_⟩⟩
      refine ⟨_, rfl, _, rfl, rfl, ?_⟩
      rw [decide_eq_true rfl]
      exact q
    | @lst p xs ds h1 d1 =>
      cases hy with
      | @lst r ys _ h2 d2 =>
      have l1 := dpAll_len d1
      have l2 := dpAll_len d2
      obtain ⟨hlen, hd⟩ := hd
      refine ⟨_, rfl, _, _, _, _, false, rfl, .ty _, (tyL h2), kit_ty kb_lt, ⟨_, rfl, iteF ⟨_, rfl, _, _, _, _, true, rfl, .ty _, (tyL h2), kit_ty kb_ll, ⟨_, rfl, iteT ?_⟩⟩⟩⟩
      refine ⟨_, rfl, _, _, _, _, false, rfl, .ty _, (tyL h2), kit_ty kb_lt, ⟨_, rfl, _, _, _, _, false, rfl, .ty _, (tyL h1), kit_ty kb_lt, ⟨rfl, _, rfl, iteF ?_⟩⟩⟩
      refine ⟨_, rfl, _, _, _, _, true, rfl, .ty _, (tyL h2), kit_ty kb_ll, ⟨_, rfl, _, _, _, _, true, rfl, .ty _, (tyL h1), kit_ty kb_ll, ⟨rfl, _, rfl, iteF ?_⟩⟩⟩
      refine ⟨_, rfl, p, _, rfl, .inl h1, _, rfl, r, _, rfl, .inl h2, rfl, _, rfl, ?_⟩
      refine iteNS (congrArg V.int (by omega)) ?_
      refine ⟨_, rfl, r, _, rfl, .inl h2, _, rfl, by omega, by omega, for_range (lo := 0) (fun i σ H' => H' = H ∧ ∃ v : Option V, σ = [some (.ref p), some (.ref r), v]) ⟨rfl, none, rfl⟩ ?_ ?_⟩
      · rintro i σ H' hi ⟨rfl, v, rfl⟩
        refine same_seq (.inl h1) (.inl h2) d1 d2 hd (by omega) ⟨_, rfl, iteF ?_⟩
        exact ⟨rfl, _, rfl⟩
      · rintro σ H' ⟨rfl, v, rfl⟩
        exact q
    | @tup p xs ds h1 d1 =>
      cases hy with
      | @tup r ys _ h2 d2 =>
      have l1 := dpAll_len d1
      have l2 := dpAll_len d2
      obtain ⟨hlen, hd⟩ := hd
      refine ⟨_, rfl, _, _, _, _, true, rfl, .ty _, (tyT h2), kit_ty kb_tt, ⟨_, rfl, iteT ?_⟩⟩
      refine ⟨_, rfl, _, _, _, _, true, rfl, .ty _, (tyT h2), kit_ty kb_tt, ⟨_, rfl, _, _, _, _, true, rfl, .ty _, (tyT h1), kit_ty kb_tt, ⟨rfl, _, rfl, iteF ?_⟩⟩⟩
      refine ⟨_, rfl, _, _, _, _, false, rfl, .ty _, (tyT h2), kit_ty kb_tl, ⟨_, rfl, _, _, _, _, false, rfl, .ty _, (tyT h1), kit_ty kb_tl, ⟨rfl, _, rfl, iteF ?_⟩⟩⟩
      refine ⟨_, rfl, p, _, rfl, .inr h1, _, rfl, r, _, rfl, .inr h2, rfl, _, rfl, ?_⟩
      refine iteNS (congrArg V.int (by omega)) ?_
      refine ⟨_, rfl, r, _, rfl, .inr h2, _, rfl, by omega, by omega, for_range (lo := 0) (fun i σ H' => H' = H ∧ ∃ v : Option V, σ = [some (.ref p), some (.ref r), v]) ⟨rfl, none, rfl⟩ ?_ ?_⟩
      · rintro i σ H' hi ⟨rfl, v, rfl⟩
        refine same_seq (.inr h1) (.inr h2) d1 d2 hd (by omega) ⟨_, rfl, iteF ?_⟩
        exact ⟨rfl, _, rfl⟩
      · rintro σ H' ⟨rfl, v, rfl⟩
        exact q
end
/-! ### the names of the draws: twenty texts in one of four styles -/
def numS (i : Int) : Str := Str.ofString (toString i)
theorem len_app (x y : Str) : (x ++ y).length = x.length + y.length := Array.size_append
def lettersL : List Nat := ("bcdeghijklmnopqrtuvw" : Str).cps.toList
def nmW (st : Int) (k : Nat) : Str :=
  if st = 3 then ("n" : Str) ++ numS ((k : Int) * (k : Int) + 3)
  else if st = 2 then ("zz" : Str) ++ ⟨#[lettersL.getD k 0]⟩
  else if st = 1 then (⟨#[lettersL.getD k 0]⟩ : Str) ++ ("q7" : Str)
  else ⟨#[lettersL.getD k 0]⟩
def namesOf (st : Int) : List Str := (List.range 20).map (nmW st)
theorem numS_short {i : Int} (h : -1000000000 ≤ i ∧ i ≤ 1000000000) : (numS i).length ≤ 11 := by
  have e := int_text_length_le10 (a := i) (k := 10) (by decide) (by omega)
  unfold numS
  rw [ofString_length]
  exact e
theorem log_short {i : Int} (h : -1000000000 ≤ i ∧ i ≤ 1000000000) : i.natAbs.log2 < 1920 := by
  by_cases z : i.natAbs = 0
  · rw [z]
    decide
  · refine (Nat.log2_lt z).mpr (Nat.lt_of_lt_of_le (m := 2 ^ 32) ?_ (Nat.pow_le_pow_right (by decide) (by decide)))
    omega
def spNames : Sp := fun vs H Q _ => ∃ a : Addr, vs = [.ref a] ∧ Src H a ∧ ∀ (st : Int) (p : Addr) (H' : Hp), Stp a H H' → H p = none → 0 ≤ st → st < 4 → H' p = some (.lst ((namesOf st).map V.str)) → Q (.ref p) H'
section
variable {P : Program} {w : World} {K : PySem.W.Frag} {mg : Str → Option Value} {base : Heap}
theorem ok_l_names (T : Txt K mg) : FnOk P w K mg base CX0 2 T.a_l_names T.d_l_names p_l_names spNames := by
  have g_l_pick := ok_l_pick (P := P) (w := w) (base := base) T
  refine T.F_l_names.ok sc_l_names (fun vs H Q E h => ?_) (fun cdv A outer s H vs Q E hr h => ?_)
  · obtain ⟨a, rfl, _⟩ := h
    rfl
  obtain ⟨a, rfl, hS, q⟩ := h
  refine ⟨_, (pss_cons (ps_set (i := 1) sc_l_names.nd rfl (Or.inl rfl) (pe_call g_l_pick (hr.mono (by first | decide | omega)) rfl T.m_l_pick T.F_l_pick.kp T.b_l_pick .nil pass0 (pa_cons (pv 0) (pa_cons pe_int pa_nil))))
      (pss_cons (ps_set (i := 2) sc_l_names.nd rfl (Or.inl rfl) (pe_lst pa_nil))
      (pss_cons (ps_for PassesOwn.never rfl (pi_range1 rfl T.z_range (pa_cons pe_int pa_nil)) (pg_name (i := 3) sc_l_names.nd rfl (Or.inl rfl))
        (pss_cons (ps_set (i := 4) sc_l_names.nd rfl (Or.inl rfl) (pe_ix ix_str pe_str (pv 3) (fun _ _ => rfl)))
      (C8.pss_cut (ps_if (pt_cmpR op_eq (pv 1) pe_int (nomark _)) (pss_one (ps_set (i := 4) sc_l_names.nd rfl (Or.inl rfl) (pe_op op_add_str (pv 4) pe_str))) pss_nil)
      (C8.pss_cut (ps_if (pt_cmpR op_eq (pv 1) pe_int (nomark _)) (pss_one (ps_set (i := 4) sc_l_names.nd rfl (Or.inl rfl) (pe_op op_add_str pe_str (pv 4)))) pss_nil)
      (C8.pss_cut (ps_if (pt_cmpR op_eq (pv 1) pe_int (nomark _)) (pss_one (ps_set (i := 4) sc_l_names.nd rfl (Or.inl rfl) (pe_op op_add_str pe_str (pe_callTy call_str_int rfl T.z_str bt_str (pa_cons (pe_op op_add (pe_op op_mul (pv 3) (pv 3)) pe_int) pa_nil))))) pss_nil)
      (pss_one (ps_expr (pe_bm PySem.F.plainAttrs_list PySem.F.slot_list_append PySem.F.type_list_append mt_append (pv 2) (pa_cons (pv 4) pa_nil)))))))))
      (pss_one (ps_ret (pv 2)))))), ?_⟩
  refine ⟨_, rfl, a, 4, rfl, hS, by decide, fun st H1 st1 s0 s1 => ?_⟩
  refine ⟨by show 0 ≤ sizeLine; decide, fun l hl => ?_⟩
  have n0 : H l = none := st1.free hl
  refine ⟨20, rfl, by decide, by decide, for_range (lo := 0) (n := 20) (fun i σ H' => Stp a H H' ∧ H' l = some (.lst ((List.range i).map fun k => V.str (nmW st k))) ∧ ∃ v1 v2 : Option V, σ = [some (.ref a), some (.int st), some (.ref l), v1, v2]) ⟨st1.new hl, upd_same, none, none, rfl⟩ ?_ ?_⟩
  · rintro i σ H' hi ⟨sti, hli, v1, v2, rfl⟩
    have hi' : (0 + (i : Int)).toNat < ("bcdeghijklmnopqrtuvw" : Str).cps.toList.length := by
      show (0 + (i : Int)).toNat < 20
      omega
    have e0 := atI_int (xs := ("bcdeghijklmnopqrtuvw" : Str).cps.toList) (r := 0 + (i : Int)) (by omega) hi'
    have e1 : ("bcdeghijklmnopqrtuvw" : Str).cps.toList[(0 + (i : Int)).toNat] = lettersL.getD i 0 := by
      have z : (0 + (i : Int)).toNat = i := by omega
      have hi2 : i < lettersL.length := by show i < 20; exact hi
      show lettersL[(0 + (i : Int)).toNat]'_ = _
      rw [List.getD_eq_getElem?_getD, List.getElem?_eq_getElem hi2]
      show _ = lettersL[i]
      congr 1
    rw [e1] at e0
    refine ⟨_, rfl, _, _, _, rfl, rfl, by decide +kernel, e0, ?_⟩
    generalize ec : lettersL.getD i 0 = c
    refine ⟨fun σ H2 => H2 = H' ∧ σ = [some (.ref a), some (.int st), some (.ref l), some (.int (0 + (i : Int))), some (.str (if st = 1 then (⟨#[c]⟩ : Str) ++ ("q7" : Str) else ⟨#[c]⟩))], ⟨_, rfl, rfl, _, rfl, ?_⟩, ?_⟩
    · refine ite2 (fun h => ?_) (fun h => ?_)
      · have h1 : st = 1 := V.int.inj (of_decide_eq_true h)
        refine ⟨_, rfl, _, _, rfl, rfl, (by show 1 + 2 ≤ sizeLine; decide), rfl, ?_⟩
        rw [if_pos h1]
        rfl
      · have h1 : ¬ st = 1 := fun z => h (decide_eq_true (congrArg V.int z))
        refine ⟨rfl, ?_⟩
        rw [if_neg h1]
        rfl
    rintro σ H2 ⟨rfl, rfl⟩
    refine ⟨fun σ H3 => H3 = H2 ∧ σ = [some (.ref a), some (.int st), some (.ref l), some (.int (0 + (i : Int))), some (.str (if st = 2 then ("zz" : Str) ++ ⟨#[c]⟩ else if st = 1 then (⟨#[c]⟩ : Str) ++ ("q7" : Str) else ⟨#[c]⟩))], ⟨_, rfl, rfl, _, rfl, ?_⟩, ?_⟩
    · refine ite2 (fun h => ?_) (fun h => ?_)
      · have h1 : st = 2 := V.int.inj (of_decide_eq_true h)
        subst h1
        refine ⟨_, rfl, _, _, rfl, rfl, ?_, rfl, rfl⟩
        rw [if_neg (by decide)]
        show 2 + 1 ≤ sizeLine
        decide
      · have h1 : ¬ st = 2 := fun z => h (decide_eq_true (congrArg V.int z))
        refine ⟨rfl, ?_⟩
        rw [if_neg h1]
    rintro σ H3 ⟨rfl, rfl⟩
    refine ⟨fun σ H4 => H4 = H3 ∧ σ = [some (.ref a), some (.int st), some (.ref l), some (.int (0 + (i : Int))), some (.str (nmW st i))], ⟨_, rfl, rfl, _, rfl, ?_⟩, ?_⟩
    · refine ite2 (fun h => ?_) (fun h => ?_)
      · have h1 : st = 3 := V.int.inj (of_decide_eq_true h)
        subst h1
        have hb : ((0 + (i : Int)) * (0 + (i : Int)) + 3) = ((i : Int) * (i : Int) + 3) := by rw [Int.zero_add]
        have hsq : 0 ≤ (i : Int) * (i : Int) ∧ (i : Int) * (i : Int) ≤ 400 := by
          refine ⟨Int.mul_nonneg (by omega) (by omega), ?_⟩
          exact Int.le_trans (Int.mul_le_mul (by omega : (i : Int) ≤ 20) (by omega : (i : Int) ≤ 20) (by omega) (by decide)) (by decide)
        have hbd : -1000000000 ≤ (i : Int) * (i : Int) + 3 ∧ (i : Int) * (i : Int) + 3 ≤ 1000000000 := by omega
        refine ⟨_, rfl, _, rfl, _, _, rfl, rfl, .inl ⟨by omega, by omega⟩, _, _, rfl, rfl, _, rfl, ?_, _, _, rfl, rfl, ?_, rfl, ?_⟩
        · rw [hb]
          exact log_short hbd
        · rw [hb]
          have z := numS_short hbd
          show 1 + (numS ((i : Int) * (i : Int) + 3)).length ≤ sizeLine
          rw [sizeLine_eq]
          omega
        · rw [hb]
          rfl
      · have h1 : ¬ st = 3 := fun z => h (decide_eq_true (congrArg V.int z))
        refine ⟨rfl, ?_⟩
        unfold nmW
        rw [if_neg h1, ec]
    rintro σ H4 ⟨rfl, rfl⟩
    refine ⟨_, rfl, .inl ⟨rfl, _, SqL.of hli⟩, _, rfl, l, _, _, rfl, rfl, hli, ?_, ?_⟩
    · rw [List.length_map, List.length_range]
      exact small1000 (by omega)
    have nl : l ≠ a := (st1.s.ne hl).symm
    have st2 : Stp a H (upd H4 l (.lst ((List.range i).map (fun k => V.str (nmW st k)) ++ [.str (nmW st i)]))) := by
      obtain ⟨c1, m1, k1, hc⟩ := sti.s
      refine ⟨⟨c1, m1, k1, by rw [upd_ne nl.symm]; exact hc⟩, fun b o hb e => ?_⟩
      rw [upd_ne (ne_of_none e n0)]
      exact sti.k b o hb e
    refine ⟨st2, ?_, _, _, rfl⟩
    rw [upd_same, List.range_succ, List.map_append]
    rfl
  · rintro σ H' ⟨sti, hli, v1, v2, rfl⟩
    refine ⟨_, rfl, q st l H' sti n0 s0 (by omega) ?_⟩
    rw [hli]
    exact congrArg (fun z => some (HO.lst z)) (by show _ = (List.map V.str (List.map (nmW st) (List.range 20))); rw [List.map_map]; rfl)
end
/-! ### expressions with typed variables: the place of a variable among the names tells its type -/
inductive Ty where
  | N | B | R
  deriving DecidableEq
def vt (j : Nat) : Ty := if j < 3 then .N else if j < 5 then .B else .R
inductive Ex where
  | num (i : Int) | flag (b : Bool) | null | var (j : Nat) | not (a : Ex) | bin (op : Str) (a b : Ex)
def opsN : List Str := ["+", "-", "*"]
def opsC : List Str := ["<", "<=", "==", "!="]
def opsS : List Str := ["same"]
def opsB : List Str := ["and", "or"]
def fits (i : Int) : Prop := -1000000000 ≤ i ∧ i ≤ 1000000000
def Ex.ok : Nat → Ex → Ty → Prop
  | 0, _, _ => False
  | _ + 1, .num i, t => t = .N ∧ fits i
  | _ + 1, .flag _, t => t = .B
  | _ + 1, .null, t => t = .R
  | _ + 1, .var j, t => vt j = t ∧ j < 9
  | m + 1, .not a, t => t = .B ∧ a.ok m .B
  | m + 1, .bin op a b, t => (t = .N ∧ op ∈ opsN ∧ a.ok m .N ∧ b.ok m .N) ∨ (t = .B ∧ op ∈ opsC ∧ a.ok m .N ∧ b.ok m .N) ∨ (t = .B ∧ op ∈ opsS ∧ a.ok m .R ∧ b.ok m .R) ∨ (t = .B ∧ op ∈ opsB ∧ a.ok m .B ∧ b.ok m .B)
def ExAt (K : PySem.W.Frag) (H : Hp) (st : Int) : Ex → V → Prop
  | .num i, v => ∃ p, v = .ref p ∧ SqT K H p [.str "num", .int i]
  | .flag b, v => ∃ p, v = .ref p ∧ SqT K H p [.str "flag", .bl b]
  | .null, v => ∃ p, v = .ref p ∧ SqT K H p [.str "null"]
  | .var j, v => ∃ p, v = .ref p ∧ SqT K H p [.str "name", .str (nmW st j)]
  | .not a, v => ∃ p x, v = .ref p ∧ SqT K H p [.str "not", x] ∧ ExAt K H st a x
  | .bin op a b, v => ∃ p x y, v = .ref p ∧ SqT K H p [.str op, x, y] ∧ ExAt K H st a x ∧ ExAt K H st b y
def Keeps (K : PySem.W.Frag) (H H' : Hp) : Prop := ∀ p xs, SqT K H p xs → SqT K H' p xs
theorem Keeps.of_same {K : PySem.W.Frag} {H H' : Hp} (s : Same H H') : Keeps K H H' := fun _ _ h => Same.tup s h
theorem Keeps.of_stp {K : PySem.W.Frag} {a : Addr} {H H' : Hp} (s : Stp a H H') (h : Src H a) : Keeps K H H' := fun _ _ q => s.rd q h
theorem ExAt.keep {K : PySem.W.Frag} {H H' : Hp} {st : Int} (k : Keeps K H H') : ∀ {e : Ex} {v : V}, ExAt K H st e v → ExAt K H' st e v
  | .num _, _, ⟨p, e, h⟩ => ⟨p, e, k _ _ h⟩
  | .flag _, _, ⟨p, e, h⟩ => ⟨p, e, k _ _ h⟩
  | .null, _, ⟨p, e, h⟩ => ⟨p, e, k _ _ h⟩
  | .var _, _, ⟨p, e, h⟩ => ⟨p, e, k _ _ h⟩
  | .not _, _, ⟨p, x, e, h, q⟩ => ⟨p, x, e, k _ _ h, ExAt.keep k q⟩
  | .bin _ _ _, _, ⟨p, x, y, e, h, q, r⟩ => ⟨p, x, y, e, k _ _ h, ExAt.keep k q, ExAt.keep k r⟩
/-! ### what an expression is worth -/
def toI : V → Int
  | .int i => i
  | _ => 0
def toB : V → Bool
  | .bl b => b
  | _ => false
def apv (op : Str) (x y : V) : V :=
  if op = "+" then .int (toI x + toI y) else if op = "-" then .int (toI x - toI y) else if op = "*" then .int (toI x * toI y)
  else if op = "<" then .bl (decide (toI x < toI y)) else if op = "<=" then .bl (decide (toI x ≤ toI y))
  else if op = "and" then .bl (toB x && toB y) else if op = "or" then .bl (toB x || toB y)
  else if op = "!=" then .bl (!decide (x = y)) else .bl (decide (x = y))
def ev (ρ : Nat → V) : Ex → V
  | .num i => .int i
  | .flag b => .bl b
  | .null => .non
  | .var j => ρ j
  | .not a => .bl (!toB (ev ρ a))
  | .bin op a b => apv op (ev ρ a) (ev ρ b)
def vars : Ex → List Nat
  | .var j => [j]
  | .not a => vars a
  | .bin _ a b => vars a ++ vars b
  | _ => []
def VOk : Ty → V → Prop
  | .N, v => ∃ i, v = .int i ∧ fits i
  | .B, v => ∃ b, v = .bl b
  | .R, v => v = .non ∨ ∃ i, v = .int i
def EOk (m : Nat) : Ty → V → Prop
  | .N, v => ∃ i, v = .int i ∧ i.natAbs < 2 ^ (31 * 2 ^ m)
  | .B, v => ∃ b, v = .bl b
  | .R, v => v = .non ∨ ∃ i, v = .int i
theorem vars_lt : ∀ {m : Nat} {e : Ex} {t : Ty}, e.ok m t → ∀ j ∈ vars e, j < 9
  | 0, _, _, h, _, _ => h.elim
  | _ + 1, .num _, _, _, _, h => nomatch h
  | _ + 1, .flag _, _, _, _, h => nomatch h
  | _ + 1, .null, _, _, _, h => nomatch h
  | _ + 1, .var j, _, h, k, hk => by
    have e : k = j := by simpa [vars] using hk
    rw [e]
    exact h.2
  | m + 1, .not a, _, h, k, hk => vars_lt (m := m) h.2 k hk
  | m + 1, .bin op a b, _, h, k, hk => by
    have hh : ∃ t1 t2, a.ok m t1 ∧ b.ok m t2 := by
      rcases h with h | h | h | h
      · exact ⟨_, _, h.2.2.1, h.2.2.2⟩
      · exact ⟨_, _, h.2.2.1, h.2.2.2⟩
      · exact ⟨_, _, h.2.2.1, h.2.2.2⟩
      · exact ⟨_, _, h.2.2.1, h.2.2.2⟩
    obtain ⟨t1, t2, h1, h2⟩ := hh
    rcases List.mem_append.mp hk with hk | hk
    · exact vars_lt h1 k hk
    · exact vars_lt h2 k hk
theorem vars_len : ∀ {m : Nat} {e : Ex} {t : Ty}, e.ok m t → (vars e).length ≤ 2 ^ m
  | 0, _, _, h => h.elim
  | m + 1, .num _, _, _ => Nat.zero_le _
  | m + 1, .flag _, _, _ => Nat.zero_le _
  | m + 1, .null, _, _ => Nat.zero_le _
  | m + 1, .var j, _, _ => Nat.pow_pos (by decide)
  | m + 1, .not a, _, h => Nat.le_trans (vars_len (m := m) (e := a) h.2) (Nat.pow_le_pow_right (by decide) (Nat.le_succ m))
  | m + 1, .bin op a b, _, h => by
    have hh : ∃ t1 t2, a.ok m t1 ∧ b.ok m t2 := by
      rcases h with h | h | h | h
      · exact ⟨_, _, h.2.2.1, h.2.2.2⟩
      · exact ⟨_, _, h.2.2.1, h.2.2.2⟩
      · exact ⟨_, _, h.2.2.1, h.2.2.2⟩
      · exact ⟨_, _, h.2.2.1, h.2.2.2⟩
    obtain ⟨t1, t2, h1, h2⟩ := hh
    have l1 := vars_len h1
    have l2 := vars_len h2
    show (vars a ++ vars b).length ≤ 2 ^ (m + 1)
    rw [List.length_append, Nat.pow_succ]
    omega
theorem opsN_cases {op : Str} (h : op ∈ opsN) : op = "+" ∨ op = "-" ∨ op = "*" := by simpa [opsN] using h
theorem opsC_cases {op : Str} (h : op ∈ opsC) : op = "<" ∨ op = "<=" ∨ op = "==" ∨ op = "!=" := by simpa [opsC] using h
theorem opsS_cases {op : Str} (h : op ∈ opsS) : op = "same" := by simpa [opsS] using h
theorem opsB_cases {op : Str} (h : op ∈ opsB) : op = "and" ∨ op = "or" := by simpa [opsB] using h
theorem ap_add (x y : V) : apv "+" x y = .int (toI x + toI y) := if_pos rfl
theorem ap_sub (x y : V) : apv "-" x y = .int (toI x - toI y) := (if_neg (by decide +kernel)).trans (if_pos rfl)
theorem ap_mul (x y : V) : apv "*" x y = .int (toI x * toI y) := (if_neg (by decide +kernel)).trans ((if_neg (by decide +kernel)).trans (if_pos rfl))
theorem ap_lt (x y : V) : apv "<" x y = .bl (decide (toI x < toI y)) := (if_neg (by decide +kernel)).trans ((if_neg (by decide +kernel)).trans ((if_neg (by decide +kernel)).trans (if_pos rfl)))
theorem ap_le (x y : V) : apv "<=" x y = .bl (decide (toI x ≤ toI y)) := (if_neg (by decide +kernel)).trans ((if_neg (by decide +kernel)).trans ((if_neg (by decide +kernel)).trans ((if_neg (by decide +kernel)).trans (if_pos rfl))))
theorem ap_and (x y : V) : apv "and" x y = .bl (toB x && toB y) := (if_neg (by decide +kernel)).trans ((if_neg (by decide +kernel)).trans ((if_neg (by decide +kernel)).trans ((if_neg (by decide +kernel)).trans ((if_neg (by decide +kernel)).trans (if_pos rfl)))))
theorem ap_or (x y : V) : apv "or" x y = .bl (toB x || toB y) := (if_neg (by decide +kernel)).trans ((if_neg (by decide +kernel)).trans ((if_neg (by decide +kernel)).trans ((if_neg (by decide +kernel)).trans ((if_neg (by decide +kernel)).trans ((if_neg (by decide +kernel)).trans (if_pos rfl))))))
theorem ap_ne (x y : V) : apv "!=" x y = .bl (!decide (x = y)) := (if_neg (by decide +kernel)).trans ((if_neg (by decide +kernel)).trans ((if_neg (by decide +kernel)).trans ((if_neg (by decide +kernel)).trans ((if_neg (by decide +kernel)).trans ((if_neg (by decide +kernel)).trans ((if_neg (by decide +kernel)).trans (if_pos rfl)))))))
theorem ap_eq (x y : V) : apv "==" x y = .bl (decide (x = y)) := (if_neg (by decide +kernel)).trans ((if_neg (by decide +kernel)).trans ((if_neg (by decide +kernel)).trans ((if_neg (by decide +kernel)).trans ((if_neg (by decide +kernel)).trans ((if_neg (by decide +kernel)).trans ((if_neg (by decide +kernel)).trans (if_neg (by decide +kernel))))))))
theorem ap_same (x y : V) : apv "same" x y = .bl (decide (x = y)) := (if_neg (by decide +kernel)).trans ((if_neg (by decide +kernel)).trans ((if_neg (by decide +kernel)).trans ((if_neg (by decide +kernel)).trans ((if_neg (by decide +kernel)).trans ((if_neg (by decide +kernel)).trans ((if_neg (by decide +kernel)).trans (if_neg (by decide +kernel))))))))
theorem fits_abs {i : Int} (h : fits i) : i.natAbs < 2 ^ 31 := by
  have := h.1
  have := h.2
  omega
theorem abs_add {m : Nat} {i j : Int} (h : i.natAbs < 2 ^ (31 * 2 ^ m)) (k : j.natAbs < 2 ^ (31 * 2 ^ m)) : (i + j).natAbs < 2 ^ (31 * 2 ^ (m + 1)) ∧ (i - j).natAbs < 2 ^ (31 * 2 ^ (m + 1)) := by
  have p : 2 * 2 ^ (31 * 2 ^ m) ≤ 2 ^ (31 * 2 ^ (m + 1)) := by
    rw [← Nat.pow_succ']
    refine Nat.pow_le_pow_right (by decide) ?_
    have : 0 < 2 ^ m := Nat.pow_pos (by decide)
    rw [Nat.pow_succ]
    omega
  have e1 := Int.natAbs_add_le i j
  have e2 := Int.natAbs_sub_le i j
  omega
theorem abs_mul {m : Nat} {i j : Int} (h : i.natAbs < 2 ^ (31 * 2 ^ m)) (k : j.natAbs < 2 ^ (31 * 2 ^ m)) : (i * j).natAbs < 2 ^ (31 * 2 ^ (m + 1)) := by
  have e : 31 * 2 ^ (m + 1) = 31 * 2 ^ m + 31 * 2 ^ m := by
    rw [Nat.pow_succ]
    omega
  rw [Int.natAbs_mul, e, Nat.pow_add]
  exact Nat.mul_lt_mul_of_lt_of_lt h k
theorem ev_ok {ρ : Nat → V} : ∀ {m : Nat} {e : Ex} {t : Ty}, e.ok m t → (∀ j ∈ vars e, VOk (vt j) (ρ j)) → EOk m t (ev ρ e)
  | 0, _, _, h, _ => h.elim
  | m + 1, .num i, t, h, _ => by
    obtain ⟨rfl, h⟩ := h
    refine ⟨i, rfl, Nat.lt_of_lt_of_le (fits_abs h) (Nat.pow_le_pow_right (by decide) ?_)⟩
    have : 0 < 2 ^ (m + 1) := Nat.pow_pos (by decide)
    omega
  | m + 1, .flag b, t, h, _ => by
    subst h
    exact ⟨b, rfl⟩
  | m + 1, .null, t, h, _ => by
    subst h
    exact .inl rfl
  | m + 1, .var j, t, h, hv => by
    obtain ⟨rfl, _⟩ := h
    have q := hv j (List.mem_singleton.mpr rfl)
    show EOk (m + 1) (vt j) (ρ j)
    cases e : vt j with
    | N =>
      rw [e] at q
      obtain ⟨i, e1, h⟩ := q
      refine ⟨i, e1, Nat.lt_of_lt_of_le (fits_abs h) (Nat.pow_le_pow_right (by decide) ?_)⟩
      have : 0 < 2 ^ (m + 1) := Nat.pow_pos (by decide)
      omega
    | B =>
      rw [e] at q
      exact q
    | R =>
      rw [e] at q
      exact q
  | m + 1, .not a, t, h, hv => by
    obtain ⟨rfl, _⟩ := h
    exact ⟨_, rfl⟩
  | m + 1, .bin op a b, t, h, hv => by
    have hva : ∀ j ∈ vars a, VOk (vt j) (ρ j) := fun j hj => hv j (List.mem_append_left _ hj)
    have hvb : ∀ j ∈ vars b, VOk (vt j) (ρ j) := fun j hj => hv j (List.mem_append_right _ hj)
    show EOk (m + 1) t (apv op (ev ρ a) (ev ρ b))
    rcases h with ⟨rfl, ho, ha, hb⟩ | ⟨rfl, ho, ha, hb⟩ | ⟨rfl, ho, ha, hb⟩ | ⟨rfl, ho, ha, hb⟩
    · obtain ⟨i, ei, hi⟩ := ev_ok ha hva
      obtain ⟨j, ej, hj⟩ := ev_ok hb hvb
      rw [ei, ej]
      rcases opsN_cases ho with rfl | rfl | rfl
      · rw [ap_add]
        exact ⟨_, rfl, (abs_add hi hj).1⟩
      · rw [ap_sub]
        exact ⟨_, rfl, (abs_add hi hj).2⟩
      · rw [ap_mul]
        exact ⟨_, rfl, abs_mul hi hj⟩
    · rcases opsC_cases ho with rfl | rfl | rfl | rfl
      · rw [ap_lt]; exact ⟨_, rfl⟩
      · rw [ap_le]; exact ⟨_, rfl⟩
      · rw [ap_eq]; exact ⟨_, rfl⟩
      · rw [ap_ne]; exact ⟨_, rfl⟩
    · cases opsS_cases ho
      rw [ap_same]; exact ⟨_, rfl⟩
    · rcases opsB_cases ho with rfl | rfl
      · rw [ap_and]; exact ⟨_, rfl⟩
      · rw [ap_or]; exact ⟨_, rfl⟩
/-- the dict at d holds the values ρ of the variables of e -/
def kW (st : Int) (j : Nat) : Key := Sum.inr (nmW st j)
def Holds (kvs : List (Key × V)) (st : Int) (ρ : Nat → V) (l : List Nat) : Prop := ∀ j ∈ l, valV kvs (kW st j) = some (ρ j) ∧ VOk (vt j) (ρ j)
/-! ### the program -/
def spApply : Sp := fun vs H Q _ => ∃ (m : Nat) (op : Str) (x y : V) (s t : Ty), vs = [.str op, x, y] ∧ m ≤ 10 ∧ EOk m s x ∧ EOk m s y ∧ ((s = .N ∧ op ∈ opsN) ∨ (s = .N ∧ op ∈ opsC) ∨ (s = .R ∧ op ∈ opsS) ∨ (s = .B ∧ op ∈ opsB)) ∧ Q (apv op x y) H
def spEval (K : PySem.W.Frag) (m : Nat) : Sp := fun vs H Q _ => ∃ (v : V) (d : Addr) (e : Ex) (t : Ty) (st : Int) (ρ : Nat → V) (kvs : List (Key × V)), vs = [v, .ref d] ∧ ExAt K H st e v ∧ e.ok m t ∧ H d = some (.dK kvs) ∧ Holds kvs st ρ (vars e) ∧ Q (ev ρ e) H
theorem wide_of {m : Nat} {i j : Int} (hm : m ≤ 10) (hi : i.natAbs < 2 ^ (31 * 2 ^ m)) (hj : j.natAbs < 2 ^ (31 * 2 ^ m)) : CMulW i j := by
  have p : 0 < 2 ^ m := Nat.pow_pos (by decide)
  have p2 : 2 ^ m ≤ 2 ^ 10 := Nat.pow_le_pow_right (by decide) hm
  have p3 : (2 : Nat) ^ 10 = 1024 := by decide
  exact wide_mul hi hj (by omega) (by omega) (by omega)
section
variable {P : Program} {w : World} {K : PySem.W.Frag} {mg : Str → Option Value} {base : Heap}
theorem ok_apply (T : Txt K mg) : FnOk P w K mg base CX0 1 T.a_apply T.d_apply p_apply spApply := by
  refine T.F_apply.ok sc_apply (fun vs H Q E h => ?_) (fun cdv A outer s H vs Q E hr h => ?_)
  · obtain ⟨m, op, x, y, s, t, rfl, _⟩ := h
    rfl
  obtain ⟨m, op, x, y, s, t, rfl, hm, hx, hy, ho, q⟩ := h
  refine ⟨_, (pss_cons (ps_if (pt_cmpR op_eq (pv 0) pe_str (nomark _)) (pss_one (ps_ret (pe_op op_add (pv 1) (pv 2)))) pss_nil)
      (pss_cons (ps_if (pt_cmpR op_eq (pv 0) pe_str (nomark _)) (pss_one (ps_ret (pe_op op_sub (pv 1) (pv 2)))) pss_nil)
      (pss_cons (ps_if (pt_cmpR op_eq (pv 0) pe_str (nomark _)) (pss_one (ps_ret (pe_op op_mulW (pv 1) (pv 2)))) pss_nil)
      (pss_cons (ps_if (pt_cmpR op_eq (pv 0) pe_str (nomark _)) (pss_one (ps_ret (pe_cmpR op_lt (pv 1) (pv 2) (nomark _)))) pss_nil)
      (pss_cons (ps_if (pt_cmpR op_eq (pv 0) pe_str (nomark _)) (pss_one (ps_ret (pe_cmpR op_le (pv 1) (pv 2) (nomark _)))) pss_nil)
      (pss_cons (ps_if (pt_cmpR op_eq (pv 0) pe_str (nomark _)) (pss_one (ps_ret (pe_and (pv 1) (pe_one (pv 2))))) pss_nil)
      (pss_cons (ps_if (pt_cmpR op_eq (pv 0) pe_str (nomark _)) (pss_one (ps_ret (pe_or (pv 1) (pe_one (pv 2))))) pss_nil)
      (pss_one (ps_ret (pe_ifExp (pt_cmpR op_eq (pv 0) pe_str (nomark _)) (pe_cmpR op_ne (pv 1) (pv 2) (nomark _)) (pe_cmpR op_eq (pv 1) (pv 2) (nomark _)))))))))))), ?_⟩
  rcases ho with ⟨rfl, ho⟩ | ⟨rfl, ho⟩ | ⟨rfl, ho⟩ | ⟨rfl, ho⟩
  · obtain ⟨i, rfl, hi⟩ := hx
    obtain ⟨j, rfl, hj⟩ := hy
    rcases opsN_cases ho with rfl | rfl | rfl
    · rw [ap_add] at q
      exact ⟨_, rfl, rfl, _, rfl, ifT (by decide +kernel) ⟨_, rfl, _, rfl, _, _, rfl, rfl, q⟩⟩
    · rw [ap_sub] at q
      exact ⟨_, rfl, rfl, _, rfl, ifF (by decide +kernel) ⟨_, rfl, rfl, _, rfl, ifT (by decide +kernel) ⟨_, rfl, _, rfl, _, _, rfl, rfl, q⟩⟩⟩
    · rw [ap_mul] at q
      exact ⟨_, rfl, rfl, _, rfl, ifF (by decide +kernel) ⟨_, rfl, rfl, _, rfl, ifF (by decide +kernel) ⟨_, rfl, rfl, _, rfl, ifT (by decide +kernel) ⟨_, rfl, _, rfl, _, _, rfl, rfl, wide_of hm hi hj, q⟩⟩⟩⟩
  · obtain ⟨i, rfl, hi⟩ := hx
    obtain ⟨j, rfl, hj⟩ := hy
    rcases opsC_cases ho with rfl | rfl | rfl | rfl
    · rw [ap_lt] at q
      exact ⟨_, rfl, rfl, _, rfl, ifF (by decide +kernel) ⟨_, rfl, rfl, _, rfl, ifF (by decide +kernel) ⟨_, rfl, rfl, _, rfl, ifF (by decide +kernel) ⟨_, rfl, rfl, _, rfl, ifT (by decide +kernel) ⟨_, rfl, _, rfl, _, _, rfl, rfl, q⟩⟩⟩⟩⟩
    · rw [ap_le] at q
      exact ⟨_, rfl, rfl, _, rfl, ifF (by decide +kernel) ⟨_, rfl, rfl, _, rfl, ifF (by decide +kernel) ⟨_, rfl, rfl, _, rfl, ifF (by decide +kernel) ⟨_, rfl, rfl, _, rfl, ifF (by decide +kernel) ⟨_, rfl, rfl, _, rfl, ifT (by decide +kernel) ⟨_, rfl, _, rfl, _, _, rfl, rfl, q⟩⟩⟩⟩⟩⟩
    · rw [ap_eq] at q
      exact ⟨_, rfl, rfl, _, rfl, ifF (by decide +kernel) ⟨_, rfl, rfl, _, rfl, ifF (by decide +kernel) ⟨_, rfl, rfl, _, rfl, ifF (by decide +kernel) ⟨_, rfl, rfl, _, rfl, ifF (by decide +kernel) ⟨_, rfl, rfl, _, rfl, ifF (by decide +kernel) ⟨_, rfl, rfl, _, rfl, ifF (by decide +kernel) ⟨_, rfl, rfl, _, rfl, ifF (by decide +kernel) ⟨_, rfl, rfl, _, rfl, ifF (by decide +kernel) ⟨_, rfl, _, rfl, rfl, q⟩⟩⟩⟩⟩⟩⟩⟩⟩
    · rw [ap_ne] at q
      exact ⟨_, rfl, rfl, _, rfl, ifF (by decide +kernel) ⟨_, rfl, rfl, _, rfl, ifF (by decide +kernel) ⟨_, rfl, rfl, _, rfl, ifF (by decide +kernel) ⟨_, rfl, rfl, _, rfl, ifF (by decide +kernel) ⟨_, rfl, rfl, _, rfl, ifF (by decide +kernel) ⟨_, rfl, rfl, _, rfl, ifF (by decide +kernel) ⟨_, rfl, rfl, _, rfl, ifF (by decide +kernel) ⟨_, rfl, rfl, _, rfl, ifT (by decide +kernel) ⟨_, rfl, _, rfl, rfl, q⟩⟩⟩⟩⟩⟩⟩⟩⟩
  · cases opsS_cases ho
    rw [ap_same] at q
    have hf : scal x y = true := by
      rcases hx with rfl | ⟨i, rfl⟩ <;> rcases hy with rfl | ⟨j, rfl⟩ <;> rfl
    exact ⟨_, rfl, rfl, _, rfl, ifF (by decide +kernel) ⟨_, rfl, rfl, _, rfl, ifF (by decide +kernel) ⟨_, rfl, rfl, _, rfl, ifF (by decide +kernel) ⟨_, rfl, rfl, _, rfl, ifF (by decide +kernel) ⟨_, rfl, rfl, _, rfl, ifF (by decide +kernel) ⟨_, rfl, rfl, _, rfl, ifF (by decide +kernel) ⟨_, rfl, rfl, _, rfl, ifF (by decide +kernel) ⟨_, rfl, rfl, _, rfl, ifF (by decide +kernel) ⟨_, rfl, _, rfl, hf, q⟩⟩⟩⟩⟩⟩⟩⟩⟩
  · obtain ⟨i, rfl⟩ := hx
    obtain ⟨j, rfl⟩ := hy
    rcases opsB_cases ho with rfl | rfl
    · rw [ap_and] at q
      refine ⟨_, rfl, rfl, _, rfl, ifF (by decide +kernel) ⟨_, rfl, rfl, _, rfl, ifF (by decide +kernel) ⟨_, rfl, rfl, _, rfl, ifF (by decide +kernel) ⟨_, rfl, rfl, _, rfl, ifF (by decide +kernel) ⟨_, rfl, rfl, _, rfl, ifF (by decide +kernel) ⟨_, rfl, rfl, _, rfl, ifT (by decide +kernel) ⟨_, rfl, _, rfl, ?_⟩⟩⟩⟩⟩⟩⟩
      cases i with
      | true => exact iteT ⟨_, rfl, q⟩
      | false => exact iteF q
    · rw [ap_or] at q
      refine ⟨_, rfl, rfl, _, rfl, ifF (by decide +kernel) ⟨_, rfl, rfl, _, rfl, ifF (by decide +kernel) ⟨_, rfl, rfl, _, rfl, ifF (by decide +kernel) ⟨_, rfl, rfl, _, rfl, ifF (by decide +kernel) ⟨_, rfl, rfl, _, rfl, ifF (by decide +kernel) ⟨_, rfl, rfl, _, rfl, ifF (by decide +kernel) ⟨_, rfl, rfl, _, rfl, ifT (by decide +kernel) ⟨_, rfl, _, rfl, ?_⟩⟩⟩⟩⟩⟩⟩⟩
      cases i with
      | true => exact iteT q
      | false => exact iteF ⟨_, rfl, q⟩
theorem fn_vac {k : Nat} {f : Addr} {fd : FuncData} {ps : List Str} {sp : Sp} (no : ∀ vs H Q E, ¬ sp vs H Q E) : FnOk P w K mg base CX0 k f fd ps sp :=
  ⟨fun vs H Q E h => absurd h (no vs H Q E), fun A outer s H args us vs Q E _ _ _ _ h => absurd h (no vs H Q E)⟩
theorem ops_ne {op : Str} {t : Ty} {m : Nat} {a b : Ex} (h : Ex.ok (m + 1) (.bin op a b) t) :
    ¬ (V.str op = V.str "num") ∧ ¬ (V.str op = V.str "flag") ∧ ¬ (V.str op = V.str "null") ∧ ¬ (V.str op = V.str "name") ∧ ¬ (V.str op = V.str "not") := by
  have all : ∀ s ∈ opsN ++ opsC ++ opsS ++ opsB, ¬ (V.str s = V.str "num") ∧ ¬ (V.str s = V.str "flag") ∧ ¬ (V.str s = V.str "null") ∧ ¬ (V.str s = V.str "name") ∧ ¬ (V.str s = V.str "not") := by decide +kernel
  refine all op ?_
  rcases h with h | h | h | h
  · exact List.mem_append_left _ (List.mem_append_left _ (List.mem_append_left _ h.2.1))
  · exact List.mem_append_left _ (List.mem_append_left _ (List.mem_append_right _ h.2.1))
  · exact List.mem_append_left _ (List.mem_append_right _ h.2.1)
  · exact List.mem_append_right _ h.2.1
/-- both operands, typed -/
theorem two_ok {op : Str} {t : Ty} {m : Nat} {a b : Ex} (h : Ex.ok (m + 1) (.bin op a b) t) : ∃ s, a.ok m s ∧ b.ok m s ∧ ((s = .N ∧ op ∈ opsN) ∨ (s = .N ∧ op ∈ opsC) ∨ (s = .R ∧ op ∈ opsS) ∨ (s = .B ∧ op ∈ opsB)) := by
  rcases h with h | h | h | h
  · exact ⟨_, h.2.2.1, h.2.2.2, .inl ⟨rfl, h.2.1⟩⟩
  · exact ⟨_, h.2.2.1, h.2.2.2, .inr (.inl ⟨rfl, h.2.1⟩)⟩
  · exact ⟨_, h.2.2.1, h.2.2.2, .inr (.inr (.inl ⟨rfl, h.2.1⟩))⟩
  · exact ⟨_, h.2.2.1, h.2.2.2, .inr (.inr (.inr ⟨rfl, h.2.1⟩))⟩
theorem DGet.at {H : Hp} {d : Addr} {kvs : List (Key × V)} {k : Key} {v : V} (h : H d = some (.dK kvs)) (e : valV kvs k = some v) : DGet H d (kV k) (some v) := by
  rw [← e]
  exact DGet.k (k := k) h
theorem ok_evaluate (T : Txt K mg) : ∀ m : Nat, m ≤ 10 → FnOk P w K mg base CX0 (m + 1) T.a_evaluate T.d_evaluate p_evaluate (spEval K m)
  | 0, _ => fn_vac fun vs H Q E h => by obtain ⟨v, d, e, t, st, ρ, kvs, _, _, h, _⟩ := h; exact h
  | m + 1, hm => by
    have g_evaluate := ok_evaluate T m (by omega)
    have g_apply := ok_apply (P := P) (w := w) (base := base) T
    refine T.F_evaluate.ok sc_evaluate (fun vs H Q E h => ?_) (fun cdv A outer s H vs Q E hr h => ?_)
    · obtain ⟨v, d, e, t, st, ρ, kvs, rfl, _⟩ := h
      rfl
    obtain ⟨v, d, e, t, st, ρ, kvs, rfl, hx, ho, hd, hv, q⟩ := h
    refine ⟨_, (pss_cons (ps_set (i := 2) sc_evaluate.nd rfl (Or.inl rfl) (pe_ix ix_tup (pv 0) pe_int (fun _ _ => rfl)))
      (pss_cons (ps_if (PW.pt (pw_or (pt_cmpR op_eq (pv 2) pe_str (nomark _)) (pw_or1 (pt_cmpR op_eq (pv 2) pe_str (nomark _))))) (pss_one (ps_ret (pe_ix ix_tup (pv 0) pe_int (fun _ _ => rfl)))) pss_nil)
      (pss_cons (ps_if (pt_cmpR op_eq (pv 2) pe_str (nomark _)) (pss_one (ps_ret pe_non)) pss_nil)
      (pss_cons (ps_if (pt_cmpR op_eq (pv 2) pe_str (nomark _)) (pss_one (ps_ret (pe_dget (hu_of hr) (pv 1) (pe_ix ix_tup (pv 0) pe_int (fun _ _ => rfl)) (fun _ _ => rfl)))) pss_nil)
      (pss_cons (ps_set (i := 3) sc_evaluate.nd rfl (Or.inl rfl) (pe_call g_evaluate (hr.mono (by first | decide | omega)) rfl T.m_evaluate T.F_evaluate.kp T.b_evaluate .nil pass0 (pa_cons (pe_ix ix_tup (pv 0) pe_int (fun _ _ => rfl)) (pa_cons (pv 1) pa_nil))))
      (pss_cons (ps_if (pt_cmpR op_eq (pv 2) pe_str (nomark _)) (pss_one (ps_ret (pe_not (pv 3)))) pss_nil)
      (pss_one (ps_ret (pe_call g_apply (hr.mono (by first | decide | omega)) rfl T.m_apply T.F_apply.kp T.b_apply .nil pass0 (pa_cons (pv 2) (pa_cons (pv 3) (pa_cons (pe_call g_evaluate (hr.mono (by first | decide | omega)) rfl T.m_evaluate T.F_evaluate.kp T.b_evaluate .nil pass0 (pa_cons (pe_ix ix_tup (pv 0) pe_int (fun _ _ => rfl)) (pa_cons (pv 1) pa_nil))) pa_nil)))))))))))), ?_⟩
    cases e with
    | num i =>
      obtain ⟨p, rfl, hp⟩ := hx
      exact ⟨_, rfl, p, _, 0, _, rfl, rfl, hp, rfl, _, rfl, rfl, _, rfl, ifT (by decide +kernel) (iteT ⟨_, rfl, p, _, 1, _, rfl, rfl, hp, rfl, q⟩)⟩
    | flag b =>
      obtain ⟨p, rfl, hp⟩ := hx
      exact ⟨_, rfl, p, _, 0, _, rfl, rfl, hp, rfl, _, rfl, rfl, _, rfl, ifF (by decide +kernel) ⟨_, rfl, rfl, _, rfl, ifT (by decide +kernel) ⟨_, rfl, p, _, 1, _, rfl, rfl, hp, rfl, q⟩⟩⟩
    | null =>
      obtain ⟨p, rfl, hp⟩ := hx
      exact ⟨_, rfl, p, _, 0, _, rfl, rfl, hp, rfl, _, rfl, rfl, _, rfl, ifF (by decide +kernel) ⟨_, rfl, rfl, _, rfl, ifF (by decide +kernel) ⟨_, rfl, rfl, _, rfl, ifT (by decide +kernel) q⟩⟩⟩
    | var j =>
      obtain ⟨p, rfl, hp⟩ := hx
      have g := hv j (List.mem_singleton.mpr rfl)
      exact ⟨_, rfl, p, _, 0, _, rfl, rfl, hp, rfl, _, rfl, rfl, _, rfl, ifF (by decide +kernel) ⟨_, rfl, rfl, _, rfl, ifF (by decide +kernel) ⟨_, rfl, rfl, _, rfl, ifF (by decide +kernel) ⟨_, rfl, rfl, _, rfl, ifT (by decide +kernel) ⟨_, rfl, _, rfl, p, _, 1, _, rfl, rfl, hp, rfl, d, _, rfl, DGet.at hd g.1, q⟩⟩⟩⟩⟩
    | not a =>
      obtain ⟨p, x, rfl, hp, hx⟩ := hx
      obtain ⟨rfl, oa⟩ := ho
      obtain ⟨b, eb⟩ := ev_ok oa (fun j hj => (hv j hj).2)
      have q' : Q (.bl (!toB (ev ρ a))) H := q
      rw [eb] at q'
      refine ⟨_, rfl, p, _, 0, _, rfl, rfl, hp, rfl, _, rfl, rfl, _, rfl, ifF (by decide +kernel) ⟨_, rfl, rfl, _, rfl, ifF (by decide +kernel) ⟨_, rfl, rfl, _, rfl, ifF (by decide +kernel) ⟨_, rfl, rfl, _, rfl, ifF (by decide +kernel) ?_⟩⟩⟩⟩
      refine ⟨_, rfl, p, _, 1, _, rfl, rfl, hp, rfl, _, rfl, x, d, a, .B, st, ρ, kvs, rfl, hx, oa, hd, hv, ?_⟩
      exact ⟨_, rfl, rfl, _, rfl, ifT (by decide +kernel) ⟨_, rfl, b, eb, q'⟩⟩
    | bin op a b =>
      obtain ⟨p, x, y, rfl, hp, hx, hy⟩ := hx
      obtain ⟨n1, n2, n3, n4, n5⟩ := ops_ne ho
      obtain ⟨s, oa, ob, hs⟩ := two_ok ho
      have hva : Holds kvs st ρ (vars a) := fun j hj => hv j (List.mem_append_left _ hj)
      have hvb : Holds kvs st ρ (vars b) := fun j hj => hv j (List.mem_append_right _ hj)
      have ea := ev_ok oa (fun j hj => (hva j hj).2)
      have eb := ev_ok ob (fun j hj => (hvb j hj).2)
      refine ⟨_, rfl, p, _, 0, _, rfl, rfl, hp, rfl, _, rfl, rfl, _, rfl, ifF (decide_eq_false n1) ⟨_, rfl, rfl, _, rfl, ifF (decide_eq_false n2) ⟨_, rfl, rfl, _, rfl, ifF (decide_eq_false n3) ⟨_, rfl, rfl, _, rfl, ifF (decide_eq_false n4) ?_⟩⟩⟩⟩
      refine ⟨_, rfl, p, _, 1, _, rfl, rfl, hp, rfl, _, rfl, x, d, a, s, st, ρ, kvs, rfl, hx, oa, hd, hva, ?_⟩
      refine ⟨_, rfl, rfl, _, rfl, ifF (decide_eq_false n5) ?_⟩
      exact ⟨_, rfl, _, rfl, _, rfl, p, _, 2, _, rfl, rfl, hp, rfl, _, rfl, y, d, b, s, st, ρ, kvs, rfl, hy, ob, hd, hvb, m, op, _, _, s, t, rfl, by omega, ea, eb, hs, q⟩
end
/-! ### the law's own value -/
def spValue (K : PySem.W.Frag) (m : Nat) : Sp := fun vs H Q _ => ∃ (v : V) (d : Addr) (e : Ex) (t : Ty) (st : Int) (ρ : Nat → V) (kvs : List (Key × V)), vs = [v, .ref d] ∧ ExAt K H st e v ∧ e.ok m t ∧ H d = some (.dK kvs) ∧ Holds kvs st ρ (vars e) ∧ ∀ H', Same H H' → Q (ev ρ e) H'
theorem in_N : ∀ s ∈ opsN, inV (.str s) [.str "+", .str "-", .str "*"] = true := by decide +kernel
theorem in_C : ∀ s ∈ opsC ++ opsS ++ opsB, inV (.str s) [.str "+", .str "-", .str "*"] = false := by decide +kernel
section
variable {P : Program} {w : World} {K : PySem.W.Frag} {mg : Str → Option Value} {base : Heap}
theorem ok_l_value (T : Txt K mg) : ∀ m : Nat, m ≤ 10 → FnOk P w K mg base CX0 m T.a_l_value T.d_l_value p_l_value (spValue K m)
  | 0, _ => fn_vac fun vs H Q E h => by obtain ⟨v, d, e, t, st, ρ, kvs, _, _, h, _⟩ := h; exact h
  | m + 1, hm => by
    have g_l_value := ok_l_value T m (by omega)
    refine T.F_l_value.ok sc_l_value (fun vs H Q E h => ?_) (fun cdv A outer s H vs Q E hr h => ?_)
    · obtain ⟨v, d, e, t, st, ρ, kvs, rfl, _⟩ := h
      rfl
    obtain ⟨v, d, e, t, st, ρ, kvs, rfl, hx, ho, hd, hv, q⟩ := h
    refine ⟨_, (pss_cons (ps_set (i := 2) sc_l_value.nd rfl (Or.inl rfl) (pe_ix ix_tup (pv 0) pe_int (fun _ _ => rfl)))
      (pss_cons (ps_if (pt_cmpR op_eq (pv 2) pe_str (nomark _)) (pss_one (ps_ret pe_non)) pss_nil)
      (pss_cons (ps_if (pt_cmpR op_eq (pv 2) pe_str (nomark _)) (pss_one (ps_ret (pe_dget (hu_of hr) (pv 1) (pe_ix ix_tup (pv 0) pe_int (fun _ _ => rfl)) (fun _ _ => rfl)))) pss_nil)
      (pss_cons (ps_if (PW.pt (pw_or (pt_cmpR op_eq (pv 2) pe_str (nomark _)) (pw_or1 (pt_cmpR op_eq (pv 2) pe_str (nomark _))))) (pss_one (ps_ret (pe_ix ix_tup (pv 0) pe_int (fun _ _ => rfl)))) pss_nil)
      (pss_cons (ps_set (i := 3) sc_l_value.nd rfl (Or.inl rfl) (pe_call g_l_value (hr.mono (by first | decide | omega)) rfl T.m_l_value T.F_l_value.kp T.b_l_value .nil pass0 (pa_cons (pe_ix ix_tup (pv 0) pe_int (fun _ _ => rfl)) (pa_cons (pv 1) pa_nil))))
      (pss_cons (ps_if (pt_cmpR op_eq (pv 2) pe_str (nomark _)) (pss_one (ps_ret (pe_not (pv 3)))) pss_nil)
      (pss_cons (ps_set (i := 4) sc_l_value.nd rfl (Or.inl rfl) (pe_call g_l_value (hr.mono (by first | decide | omega)) rfl T.m_l_value T.F_l_value.kp T.b_l_value .nil pass0 (pa_cons (pe_ix ix_tup (pv 0) pe_int (fun _ _ => rfl)) (pa_cons (pv 1) pa_nil))))
      (pss_cons (ps_if (pt_cmpR op_in_seq (pv 2) (pe_lst (pa_cons pe_str (pa_cons pe_str (pa_cons pe_str pa_nil)))) (by rfl)) (pss_one (ps_ret (pe_ix ix_list (pe_lst (pa_cons (pe_op op_add (pv 3) (pv 4)) (pa_cons (pe_op op_sub (pv 3) (pv 4)) (pa_cons (pe_op op_mulW (pv 3) (pv 4)) pa_nil)))) (pe_bm PySem.F.plainAttrs_list PySem.F.slot_list_index PySem.F.type_list_index mt_index (pe_lst (pa_cons pe_str (pa_cons pe_str (pa_cons pe_str pa_nil)))) (pa_cons (pv 2) pa_nil)) (fun _ _ => rfl)))) pss_nil)
      (pss_cons (ps_if (pt_cmpR op_in_seq (pv 2) (pe_lst (pa_cons pe_str (pa_cons pe_str pa_nil))) (by rfl)) (pss_one (ps_ret (pe_or (pe_cmpR op_lt (pv 3) (pv 4) (nomark _)) (pe_one (pe_and (pe_cmpR op_eq (pv 2) pe_str (nomark _)) (pe_one (pe_cmpR op_eq (pv 3) (pv 4) (nomark _)))))))) pss_nil)
      (pss_cons (ps_if (pt_cmpR op_eq (pv 2) pe_str (nomark _)) (pss_one (ps_ret (pe_and (pv 3) (pe_one (pv 4))))) pss_nil)
      (pss_cons (ps_if (pt_cmpR op_eq (pv 2) pe_str (nomark _)) (pss_one (ps_ret (pe_or (pv 3) (pe_one (pv 4))))) pss_nil)
      (pss_one (ps_ret (pe_cmpR op_eq (pe_cmpR op_eq (pv 3) (pv 4) (nomark _)) (pe_cmpR op_ne (pv 2) pe_str (nomark _)) (nomark _))))))))))))))), ?_⟩
    cases e with
    | num i =>
      obtain ⟨p, rfl, hp⟩ := hx
      exact ⟨_, rfl, p, _, 0, _, rfl, rfl, hp, rfl, _, rfl, rfl, _, rfl, ifF (by decide +kernel) ⟨_, rfl, rfl, _, rfl, ifF (by decide +kernel) ⟨_, rfl, rfl, _, rfl, ifT (by decide +kernel) (iteT ⟨_, rfl, p, _, 1, _, rfl, rfl, hp, rfl, q _ (Same.refl H)⟩)⟩⟩⟩
    | flag b =>
      obtain ⟨p, rfl, hp⟩ := hx
      exact ⟨_, rfl, p, _, 0, _, rfl, rfl, hp, rfl, _, rfl, rfl, _, rfl, ifF (by decide +kernel) ⟨_, rfl, rfl, _, rfl, ifF (by decide +kernel) ⟨_, rfl, rfl, _, rfl, ifF (by decide +kernel) ⟨_, rfl, rfl, _, rfl, ifT (by decide +kernel) ⟨_, rfl, p, _, 1, _, rfl, rfl, hp, rfl, q _ (Same.refl H)⟩⟩⟩⟩⟩
    | null =>
      obtain ⟨p, rfl, hp⟩ := hx
      exact ⟨_, rfl, p, _, 0, _, rfl, rfl, hp, rfl, _, rfl, rfl, _, rfl, ifT (by decide +kernel) (q _ (Same.refl H))⟩
    | var j =>
      obtain ⟨p, rfl, hp⟩ := hx
      have g := hv j (List.mem_singleton.mpr rfl)
      exact ⟨_, rfl, p, _, 0, _, rfl, rfl, hp, rfl, _, rfl, rfl, _, rfl, ifF (by decide +kernel) ⟨_, rfl, rfl, _, rfl, ifT (by decide +kernel) ⟨_, rfl, _, rfl, p, _, 1, _, rfl, rfl, hp, rfl, d, _, rfl, DGet.at hd g.1, q _ (Same.refl H)⟩⟩⟩
    | not a =>
      obtain ⟨p, x, rfl, hp, hx⟩ := hx
      obtain ⟨rfl, oa⟩ := ho
      obtain ⟨b, eb⟩ := ev_ok oa (fun j hj => (hv j hj).2)
      have q' : ∀ H', Same H H' → Q (.bl (!toB (ev ρ a))) H' := q
      rw [eb] at q'
      refine ⟨_, rfl, p, _, 0, _, rfl, rfl, hp, rfl, _, rfl, rfl, _, rfl, ifF (by decide +kernel) ⟨_, rfl, rfl, _, rfl, ifF (by decide +kernel) ⟨_, rfl, rfl, _, rfl, ifF (by decide +kernel) ⟨_, rfl, rfl, _, rfl, ifF (by decide +kernel) ?_⟩⟩⟩⟩
      refine ⟨_, rfl, p, _, 1, _, rfl, rfl, hp, rfl, _, rfl, x, d, a, .B, st, ρ, kvs, rfl, hx, oa, hd, hv, fun H1 s1 => ?_⟩
      exact ⟨_, rfl, rfl, _, rfl, ifT (by decide +kernel) ⟨_, rfl, b, eb, q' _ s1⟩⟩
    | bin op a b =>
      obtain ⟨p, x, y, rfl, hp, hx, hy⟩ := hx
      obtain ⟨n1, n2, n3, n4, n5⟩ := ops_ne ho
      obtain ⟨s, oa, ob, hs⟩ := two_ok ho
      have hva : Holds kvs st ρ (vars a) := fun j hj => hv j (List.mem_append_left _ hj)
      have hvb : Holds kvs st ρ (vars b) := fun j hj => hv j (List.mem_append_right _ hj)
      have ea := ev_ok oa (fun j hj => (hva j hj).2)
      have eb := ev_ok ob (fun j hj => (hvb j hj).2)
      refine ⟨_, rfl, p, _, 0, _, rfl, rfl, hp, rfl, _, rfl, rfl, _, rfl, ifF (decide_eq_false n3) ⟨_, rfl, rfl, _, rfl, ifF (decide_eq_false n4) ⟨_, rfl, rfl, _, rfl, ifF (decide_eq_false n1) ⟨_, rfl, rfl, _, rfl, ifF (decide_eq_false n2) ?_⟩⟩⟩⟩
      refine ⟨_, rfl, p, _, 1, _, rfl, rfl, hp, rfl, _, rfl, x, d, a, s, st, ρ, kvs, rfl, hx, oa, hd, hva, fun H1 s1 => ?_⟩
      refine ⟨_, rfl, rfl, _, rfl, ifF (decide_eq_false n5) ?_⟩
      have hp1 := Same.tup s1 hp
      refine ⟨_, rfl, p, _, 2, _, rfl, rfl, hp1, rfl, _, rfl, y, d, b, s, st, ρ, kvs, rfl, ExAt.keep (Keeps.of_same s1) hy, ob, s1 _ _ hd, hvb, fun H2 s2 => ?_⟩
      have s12 := s1.trans s2
      -- sign in ['+', '-', '*']
      refine ⟨_, rfl, by show 3 ≤ sizeLine; decide, fun l hl => ⟨l, _, rfl, .inl (SqL.of upd_same), rfl, rfl, _, rfl, ?_⟩⟩
      have s3 := Same.new hl (.lst [.str "+", .str "-", .str "*"])
      have s13 := s12.trans s3
      rcases hs with ⟨rfl, hs⟩ | hs
      · refine ifT (in_N _ hs) ?_
        obtain ⟨i, ei, hi⟩ := ea
        obtain ⟨j, ej, hj⟩ := eb
        have q' : ∀ H', Same H H' → Q (apv op (ev ρ a) (ev ρ b)) H' := q
        rw [ei, ej] at q'
        refine ⟨_, rfl, _, rfl, i, j, ei, ej, _, rfl, _, rfl, i, j, ei, ej, _, rfl, _, rfl, i, j, ei, ej, wide_of (m := m) (by omega) hi hj, by show 3 ≤ sizeLine; decide, fun l2 hl2 => ?_⟩
        have s4 := Same.new hl2 (.lst [.int (i + j), .int (i - j), .int (i * j)])
        refine ⟨by show 3 ≤ sizeLine; decide, fun l3 hl3 => ⟨.inl ⟨rfl, _, SqL.of upd_same⟩, _, rfl, ?_⟩⟩
        have s5 := Same.new hl3 (.lst [.str "+", .str "-", .str "*"])
        have sE := s13.trans (s4.trans s5)
        have hl2' := s5 _ _ (upd_same (H := upd H2 l (.lst [.str "+", .str "-", .str "*"])) (a := l2) (o := .lst [.int (i + j), .int (i - j), .int (i * j)]))
        rcases opsN_cases hs with rfl | rfl | rfl
        · rw [ap_add] at q'
          refine ⟨l3, _, _, 0, _, rfl, rfl, SqL.of upd_same, rfl, rfl, rfl, by decide +kernel, fun m' z' hm' _ => by omega, ?_⟩
          exact ⟨l2, _, 0, _, rfl, rfl, SqL.of hl2', rfl, q' _ sE⟩
        · rw [ap_sub] at q'
          refine ⟨l3, _, _, 1, _, rfl, rfl, SqL.of upd_same, rfl, rfl, rfl, by decide +kernel, fun m' z' hm' hz => ?_, ?_⟩
          · obtain rfl : m' = 0 := by omega
            cases hz
            decide +kernel
          · exact ⟨l2, _, 1, _, rfl, rfl, SqL.of hl2', rfl, q' _ sE⟩
        · rw [ap_mul] at q'
          refine ⟨l3, _, _, 2, _, rfl, rfl, SqL.of upd_same, rfl, rfl, rfl, by decide +kernel, fun m' z' hm' hz => ?_, ?_⟩
          · have hm2 : m' = 0 ∨ m' = 1 := by omega
            rcases hm2 with rfl | rfl
            · cases hz
              decide +kernel
            · cases hz
              decide +kernel
          · exact ⟨l2, _, 2, _, rfl, rfl, SqL.of hl2', rfl, q' _ sE⟩
      · have nin : inV (.str op) [.str "+", .str "-", .str "*"] = false := by
          refine in_C op ?_
          rcases hs with ⟨_, h⟩ | ⟨_, h⟩ | ⟨_, h⟩
          · exact List.mem_append_left _ (List.mem_append_left _ h)
          · exact List.mem_append_left _ (List.mem_append_right _ h)
          · exact List.mem_append_right _ h
        refine ifF nin ?_
        have q' : ∀ H', Same H H' → Q (apv op (ev ρ a) (ev ρ b)) H' := q
        refine ⟨_, rfl, by show 2 ≤ sizeLine; decide, fun l2 hl2 => ⟨l2, _, rfl, .inl (SqL.of upd_same), rfl, rfl, _, rfl, ?_⟩⟩
        have s4 := Same.new hl2 (.lst [.str "<", .str "<="])
        have sE := s13.trans s4
        rcases hs with ⟨rfl, hs⟩ | ⟨rfl, hs⟩ | ⟨rfl, hs⟩
        · obtain ⟨i, ei, hi⟩ := ea
          obtain ⟨j, ej, hj⟩ := eb
          rw [ei, ej] at q'
          rcases opsC_cases hs with rfl | rfl | rfl | rfl
          · rw [ap_lt] at q'
            refine ifT (by decide +kernel) ⟨_, rfl, _, rfl, i, j, ei, ej, _, rfl, ?_⟩
            refine ite2 (fun h => ?_) (fun h => ⟨_, rfl, rfl, _, rfl, ifF (by decide +kernel) ?_⟩)
            · have q2 := q' _ sE
              rwa [show toI (.int i) = i from rfl, show toI (.int j) = j from rfl, h] at q2
            · have q2 := q' _ sE
              have h' : decide (i < j) = false := Bool.eq_false_iff.mpr h
              rwa [show toI (.int i) = i from rfl, show toI (.int j) = j from rfl, h'] at q2
          · rw [ap_le] at q'
            have q2 : Q (.bl (decide (i ≤ j))) _ := q' _ sE
            refine ifT (by decide +kernel) ⟨_, rfl, _, rfl, i, j, ei, ej, _, rfl, ?_⟩
            refine ite2 (fun h => ?_) (fun h => ⟨_, rfl, rfl, _, rfl, ifT (by decide +kernel) ⟨_, rfl, _, rfl, ?_⟩⟩)
            · have h' : i < j := of_decide_eq_true h
              rwa [decide_eq_true (show i ≤ j by omega)] at q2
            · have h' : ¬ i < j := of_decide_eq_false (Bool.eq_false_iff.mpr h)
              rw [ei, ej]
              refine ⟨rfl, ?_⟩
              by_cases e : i = j
              · rw [decide_eq_true (show i ≤ j by omega)] at q2
                rwa [decide_eq_true (congrArg V.int e)]
              · rw [decide_eq_false (show ¬ i ≤ j by omega)] at q2
                rwa [decide_eq_false (fun z => e (V.int.inj z))]
          · rw [ap_eq] at q'
            refine ifF (by decide +kernel) ⟨_, rfl, rfl, _, rfl, ifF (by decide +kernel) ⟨_, rfl, rfl, _, rfl, ifF (by decide +kernel) ⟨_, rfl, _, rfl, ?_⟩⟩⟩
            rw [ei, ej]
            refine ⟨rfl, _, rfl, rfl, rfl, ?_⟩
            have q2 := q' _ sE
            by_cases e : V.int i = V.int j
            · rw [decide_eq_true e] at q2 ⊢
              exact q2
            · rw [decide_eq_false e] at q2 ⊢
              exact q2
          · rw [ap_ne] at q'
            refine ifF (by decide +kernel) ⟨_, rfl, rfl, _, rfl, ifF (by decide +kernel) ⟨_, rfl, rfl, _, rfl, ifF (by decide +kernel) ⟨_, rfl, _, rfl, ?_⟩⟩⟩
            rw [ei, ej]
            refine ⟨rfl, _, rfl, rfl, rfl, ?_⟩
            have q2 := q' _ sE
            by_cases e : V.int i = V.int j
            · rw [decide_eq_true e] at q2 ⊢
              exact q2
            · rw [decide_eq_false e] at q2 ⊢
              exact q2
        · cases opsS_cases hs
          rw [ap_same] at q'
          have hf : scal (ev ρ a) (ev ρ b) = true := by
            rcases ea with ea | ⟨i, ea⟩ <;> rcases eb with eb | ⟨j, eb⟩ <;> rw [ea, eb] <;> rfl
          refine ifF (by decide +kernel) ⟨_, rfl, rfl, _, rfl, ifF (by decide +kernel) ⟨_, rfl, rfl, _, rfl, ifF (by decide +kernel) ⟨_, rfl, _, rfl, hf, _, rfl, rfl, rfl, ?_⟩⟩⟩
          have q2 := q' _ sE
          by_cases e : ev ρ a = ev ρ b
          · rw [decide_eq_true e] at q2 ⊢
            exact q2
          · rw [decide_eq_false e] at q2 ⊢
            exact q2
        · obtain ⟨i, ei⟩ := ea
          obtain ⟨j, ej⟩ := eb
          rw [ei, ej] at q'
          rcases opsB_cases hs with rfl | rfl
          · rw [ap_and] at q'
            have q2 : Q (.bl (i && j)) _ := q' _ sE
            refine ifF (by decide +kernel) ⟨_, rfl, rfl, _, rfl, ifT (by decide +kernel) ⟨_, rfl, i, ei, ?_⟩⟩
            cases i with
            | true => exact iteT ⟨_, rfl, by rw [ej]; exact q2⟩
            | false => exact iteF q2
          · rw [ap_or] at q'
            have q2 : Q (.bl (i || j)) _ := q' _ sE
            refine ifF (by decide +kernel) ⟨_, rfl, rfl, _, rfl, ifF (by decide +kernel) ⟨_, rfl, rfl, _, rfl, ifT (by decide +kernel) ⟨_, rfl, i, ei, ?_⟩⟩⟩
            cases i with
            | true => exact iteT q2
            | false => exact iteF ⟨_, rfl, by rw [ej]; exact q2⟩
end
/-! ### the draws -/
theorem nm_inj : ∀ st ∈ [(0 : Int), 1, 2, 3], ∀ i ∈ List.range 9, ∀ j ∈ List.range 9, nmW st i = nmW st j → i = j := by decide +kernel
theorem nm_inj' {st : Int} (h0 : 0 ≤ st) (h1 : st < 4) {i j : Nat} (hi : i < 9) (hj : j < 9) (e : nmW st i = nmW st j) : i = j := by
  refine nm_inj st ?_ i (List.mem_range.mpr hi) j (List.mem_range.mpr hj) e
  have : st = 0 ∨ st = 1 ∨ st = 2 ∨ st = 3 := by omega
  rcases this with rfl | rfl | rfl | rfl <;> simp
def nm9 (st : Int) : List V := (List.range 9).map fun j => V.str (nmW st j)
structure Nms (K : PySem.W.Frag) (H : Hp) (p : Addr) (st : Int) : Prop where
  at_ : SqL K H p (nm9 st)
  lo : 0 ≤ st
  hi : st < 4
theorem cut_9 (st : Int) : cutV ((namesOf st).map V.str) none (some 9) = nm9 st := rfl
theorem cut_3 (st : Int) : cutV (nm9 st) none (some 3) = [.str (nmW st 0), .str (nmW st 1), .str (nmW st 2)] := rfl
theorem cut_35 (st : Int) : cutV (nm9 st) (some 3) (some 5) = [.str (nmW st 3), .str (nmW st 4)] := rfl
theorem cut_57 (st : Int) : cutV (nm9 st) (some 5) (some 7) = [.str (nmW st 5), .str (nmW st 6)] := rfl
theorem cut_79 (st : Int) : cutV (nm9 st) (some 7) (some 9) = [.str (nmW st 7), .str (nmW st 8)] := rfl
def spFigure : Sp := fun vs H Q _ => ∃ a : Addr, vs = [.ref a] ∧ Src H a ∧ ∀ (r : Int) (H' : Hp), Stp a H H' → fits r → Q (.int r) H'
def spTerm (K : PySem.W.Frag) (m : Nat) : Sp := fun vs H Q _ => ∃ (a p : Addr) (n st : Int), vs = [.ref a, .ref p, .int n] ∧ Src H a ∧ Nms K H p st ∧ p ≠ a ∧ 0 ≤ n ∧ n < (m : Int) ∧ ∀ (v : V) (e : Ex) (H' : Hp), Stp a H H' → e.ok m .N → ExAt K H' st e v → Q v H'
def spFact (K : PySem.W.Frag) (m : Nat) : Sp := fun vs H Q _ => ∃ (a p : Addr) (n st : Int), vs = [.ref a, .ref p, .int n] ∧ Src H a ∧ Nms K H p st ∧ p ≠ a ∧ 0 ≤ n ∧ n < (m : Int) ∧ ∀ (v : V) (e : Ex) (H' : Hp), Stp a H H' → e.ok m .B → ExAt K H' st e v → Q v H'
def spLink (K : PySem.W.Frag) : Sp := fun vs H Q _ => ∃ (a g : Addr) (st : Int) (j : Nat), vs = [.ref a, .ref g] ∧ Src H a ∧ SqL K H g [.str (nmW st j), .str (nmW st (j + 1))] ∧ g ≠ a ∧ (j = 5 ∨ j = 7) ∧ ∀ (v : V) (e : Ex) (H' : Hp), Stp a H H' → (∀ m, e.ok (m + 1) .R) → ExAt K H' st e v → Q v H'
section
variable {P : Program} {w : World} {K : PySem.W.Frag} {mg : Str → Option Value} {base : Heap}
theorem Nms.stp {H H' : Hp} {p a : Addr} {st : Int} (h : Nms K H p st) (s : Stp a H H') (ne : p ≠ a) : Nms K H' p st := ⟨s.rdL h.at_ ne, h.lo, h.hi⟩
theorem Nms.same {H H' : Hp} {p : Addr} {st : Int} (h : Nms K H p st) (s : Same H H') : Nms K H' p st := ⟨s.seq h.at_, h.lo, h.hi⟩
theorem ok_l_figure (T : Txt K mg) : FnOk P w K mg base CX0 3 T.a_l_figure T.d_l_figure p_l_figure spFigure := by
  have g_l_pick := ok_l_pick (P := P) (w := w) (base := base) T
  have g_l_one := ok_l_one (P := P) (w := w) (K := K) (base := base) T
  refine T.F_l_figure.ok sc_l_figure (fun vs H Q E h => ?_) (fun cdv A outer s H vs Q E hr h => ?_)
  · obtain ⟨a, rfl, _⟩ := h
    rfl
  obtain ⟨a, rfl, hS, q⟩ := h
  refine ⟨_, (pss_cons (ps_set (i := 1) sc_l_figure.nd rfl (Or.inl rfl) (pe_call g_l_pick (hr.mono (by first | decide | omega)) rfl T.m_l_pick T.F_l_pick.kp T.b_l_pick .nil pass0 (pa_cons (pv 0) (pa_cons pe_int pa_nil))))
      (pss_cons (ps_if (pt_cmpR op_lt (pv 1) pe_int (nomark _)) (pss_one (ps_ret (pe_op op_sub (pe_call g_l_pick (hr.mono (by first | decide | omega)) rfl T.m_l_pick T.F_l_pick.kp T.b_l_pick .nil pass0 (pa_cons (pv 0) (pa_cons pe_int pa_nil))) pe_int))) pss_nil)
      (pss_cons (ps_if (pt_cmpR op_eq (pv 1) pe_int (nomark _)) (pss_one (ps_ret (pe_call g_l_one (hr.mono (by first | decide | omega)) rfl T.m_l_one T.F_l_one.kp T.b_l_one .nil pass0 (pa_cons (pv 0) (pa_cons (pe_lst (pa_cons (pe_un un_neg (pe_op op_pow pe_int pe_int)) (pa_cons (pe_op op_pow pe_int pe_int) pa_nil))) pa_nil))))) pss_nil)
      (pss_one (ps_ret (pe_op op_sub (pe_op op_add (pe_op op_mul (pe_call g_l_pick (hr.mono (by first | decide | omega)) rfl T.m_l_pick T.F_l_pick.kp T.b_l_pick .nil pass0 (pa_cons (pv 0) (pa_cons pe_int pa_nil))) pe_int) (pe_call g_l_pick (hr.mono (by first | decide | omega)) rfl T.m_l_pick T.F_l_pick.kp T.b_l_pick .nil pass0 (pa_cons (pv 0) (pa_cons pe_int pa_nil)))) (pe_op op_pow pe_int pe_int))))))), ?_⟩
  have e9 : (10 ^ (9 : Int).toNat : Int) = 1000000000 := by decide
  refine ⟨_, rfl, a, 8, rfl, hS, by decide, fun c H1 st1 c0 c1 => ?_⟩
  refine ⟨_, rfl, _, _, rfl, rfl, _, rfl, ite2 (fun _ => ?_) (fun _ => ?_)⟩
  · exact ⟨_, rfl, a, 5, rfl, st1.s, by decide, fun r H2 st2 r0 r1 => ⟨_, _, rfl, rfl, q _ _ (st1.trans st2) ⟨by omega, by omega⟩⟩⟩
  refine ⟨_, rfl, rfl, _, rfl, ite2 (fun _ => ?_) (fun _ => ?_)⟩
  · refine ⟨_, rfl, 10, 9, rfl, rfl, ⟨by decide, by decide, by decide⟩, _, rfl, 10, 9, rfl, rfl, ⟨by decide, by decide, by decide⟩, by show 2 ≤ sizeLine; decide, fun l hl => ?_⟩
    have st2 := st1.new (o := .lst [.int (-(10 ^ (9 : Int).toNat)), .int (10 ^ (9 : Int).toNat)]) hl
    refine ⟨a, _, rfl, st2.s, .inl ⟨l, _, rfl, (st1.s.ne hl).symm, SqL.of upd_same, by decide, by decide, fun v H3 hv st3 => ?_⟩⟩
    rw [e9] at hv
    simp at hv
    rcases hv with rfl | rfl
    · exact q _ _ (st2.trans st3) ⟨by decide, by decide⟩
    · exact q _ _ (st2.trans st3) ⟨by decide, by decide⟩
  · refine ⟨_, rfl, a, 40000, rfl, st1.s, by decide, fun r H2 st2 r0 r1 => ⟨_, _, rfl, rfl, .inl ⟨by omega, by omega⟩, ?_⟩⟩
    refine ⟨_, rfl, a, 50000, rfl, st2.s, by decide, fun r2 H3 st3 r20 r21 => ⟨_, _, rfl, rfl, 10, 9, rfl, rfl, ⟨by decide, by decide, by decide⟩, _, _, rfl, rfl, ?_⟩⟩
    refine q _ _ ((st1.trans st2).trans st3) ⟨?_, ?_⟩
    · rw [e9]; omega
    · rw [e9]; omega
theorem ok_l_link (T : Txt K mg) : FnOk P w K mg base CX0 3 T.a_l_link T.d_l_link p_l_link (spLink K) := by
  have g_l_pick := ok_l_pick (P := P) (w := w) (base := base) T
  have g_l_one := ok_l_one (P := P) (w := w) (K := K) (base := base) T
  refine T.F_l_link.ok sc_l_link (fun vs H Q E h => ?_) (fun cdv A outer s H vs Q E hr h => ?_)
  · obtain ⟨a, g, st, j, rfl, _⟩ := h
    rfl
  obtain ⟨a, g, st, j, rfl, hS, hg, ne, hj, q⟩ := h
  refine ⟨_, (pss_cons (ps_if (pt_cmpR op_eq (pe_call g_l_pick (hr.mono (by first | decide | omega)) rfl T.m_l_pick T.F_l_pick.kp T.b_l_pick .nil pass0 (pa_cons (pv 0) (pa_cons pe_int pa_nil))) pe_int (nomark _)) (pss_one (ps_ret (pe_tup (pa_cons pe_str pa_nil)))) pss_nil)
      (pss_one (ps_ret (pe_tup (pa_cons pe_str (pa_cons (pe_call g_l_one (hr.mono (by first | decide | omega)) rfl T.m_l_one T.F_l_one.kp T.b_l_one .nil pass0 (pa_cons (pv 0) (pa_cons (pv 1) pa_nil))) pa_nil)))))), ?_⟩
  refine ⟨_, rfl, a, 4, rfl, hS, by decide, fun c H1 st1 c0 c1 => ⟨rfl, _, rfl, ite2 (fun _ => ?_) (fun _ => ?_)⟩⟩
  · refine ⟨by show 1 ≤ sizeLine; decide, fun p hp => ?_⟩
    exact q _ .null _ (st1.new hp) (fun m => rfl) ⟨p, rfl, SqT.of upd_same⟩
  · refine ⟨_, rfl, _, rfl, a, _, rfl, st1.s, .inl ⟨g, _, rfl, ne, st1.rdL hg ne, by show 0 < 2; decide, by show 2 < 1000; decide, fun v H2 hv st2 => ?_⟩⟩
    refine ⟨by show 2 ≤ sizeLine; decide, fun p hp => ?_⟩
    have ho : ∀ j', (j' = j ∨ j' = j + 1) → ∀ m, Ex.ok (m + 1) (.var j') .R := by
      intro j' h m
      have : j' = 5 ∨ j' = 6 ∨ j' = 7 ∨ j' = 8 := by omega
      rcases this with rfl | rfl | rfl | rfl <;> exact ⟨rfl, by decide⟩
    simp at hv
    rcases hv with rfl | rfl
    · exact q _ (.var j) _ ((st1.trans st2).new hp) (ho j (.inl rfl)) ⟨p, rfl, SqT.of upd_same⟩
    · exact q _ (.var (j + 1)) _ ((st1.trans st2).new hp) (ho (j + 1) (.inr rfl)) ⟨p, rfl, SqT.of upd_same⟩
theorem ok_l_term (T : Txt K mg) : ∀ m : Nat, FnOk P w K mg base CX0 (m + 4) T.a_l_term T.d_l_term p_l_term (spTerm K m)
  | 0 => fn_vac fun vs H Q E h => by obtain ⟨a, p, n, st, _, _, _, _, h1, h2, _⟩ := h; omega
  | m + 1 => by
    have g_l_pick := ok_l_pick (P := P) (w := w) (base := base) T
    have g_l_one := ok_l_one (P := P) (w := w) (K := K) (base := base) T
    have g_l_figure := ok_l_figure (P := P) (w := w) (K := K) (base := base) T
    have g_l_term := ok_l_term T m
    refine T.F_l_term.ok sc_l_term (fun vs H Q E h => ?_) (fun cdv A outer s H vs Q E hr h => ?_)
    · obtain ⟨a, p, n, st, rfl, _⟩ := h
      rfl
    obtain ⟨a, p, n, st, rfl, hS, hN, ne, n0, n1, q⟩ := h
    refine ⟨_, (pss_cons (ps_set (i := 3) sc_l_term.nd rfl (Or.inl rfl) (pe_call g_l_pick (hr.mono (by first | decide | omega)) rfl T.m_l_pick T.F_l_pick.kp T.b_l_pick .nil pass0 (pa_cons (pv 0) (pa_cons pe_int pa_nil))))
      (pss_cons (ps_if (PW.pt (pw_and (pt_cmpR op_gt (pv 2) pe_int (nomark _)) (pw_and1 (pt_cmpR op_lt (pv 3) pe_int (nomark _))))) (pss_cons (ps_set (i := 4) sc_l_term.nd rfl (Or.inl rfl) (pe_call g_l_term (hr.mono (by first | decide | omega)) rfl T.m_l_term T.F_l_term.kp T.b_l_term .nil pass0 (pa_cons (pv 0) (pa_cons (pv 1) (pa_cons (pe_op op_sub (pv 2) pe_int) pa_nil)))))
      (pss_one (ps_ret (pe_tup (pa_cons (pe_ix ix_list (pe_lst (pa_cons pe_str (pa_cons pe_str (pa_cons pe_str (pa_cons pe_str pa_nil))))) (pv 3) (fun _ _ => rfl)) (pa_cons (pv 4) (pa_cons (pe_call g_l_term (hr.mono (by first | decide | omega)) rfl T.m_l_term T.F_l_term.kp T.b_l_term .nil pass0 (pa_cons (pv 0) (pa_cons (pv 1) (pa_cons (pe_op op_sub (pv 2) pe_int) pa_nil)))) pa_nil))))))) pss_nil)
      (pss_cons (ps_if (pt_cmpR op_eq (pv 3) pe_int (nomark _)) (pss_one (ps_ret (pe_tup (pa_cons pe_str (pa_cons (pe_call g_l_figure (hr.mono (by first | decide | omega)) rfl T.m_l_figure T.F_l_figure.kp T.b_l_figure .nil pass0 (pa_cons (pv 0) pa_nil)) pa_nil))))) pss_nil)
      (pss_one (ps_ret (pe_tup (pa_cons pe_str (pa_cons (pe_call g_l_one (hr.mono (by first | decide | omega)) rfl T.m_l_one T.F_l_one.kp T.b_l_one .nil pass0 (pa_cons (pv 0) (pa_cons (pe_slice sl_list (pv 1) po_none (po_some pe_int)) pa_nil))) pa_nil)))))))), ?_⟩
    refine ⟨_, rfl, a, 6, rfl, hS, by decide, fun c H1 st1 c0 c1 => ?_⟩
    have hN1 := hN.stp st1 ne
    refine ⟨_, rfl, n, 0, rfl, rfl, _, rfl, ?_⟩
    refine ite2 (fun h1 => ⟨_, rfl, _, _, rfl, rfl, _, rfl, ite2 (fun h2 => ?yes) (fun _ => ?no1)⟩) (fun _ => iteF ?no2)
    case yes =>
      have c4 : c < 4 := of_decide_eq_true h2
      have n' : 0 < n := of_decide_eq_true h1
      refine ⟨_, rfl, _, rfl, _, rfl, _, _, rfl, rfl, a, p, _, st, rfl, st1.s, hN1, ne, by omega, by omega, fun x e1 H2 st2 o1 x1 => ?_⟩
      refine ⟨by show 4 ≤ sizeLine; decide, fun l hl => ?_⟩
      have s3 := Same.new hl (.lst [.str "+", .str "-", .str "*", .str "-"])
      obtain ⟨sg, hsg, e⟩ : ∃ sg ∈ opsN, atI [V.str "+", .str "-", .str "*", .str "-"] c = some (.str sg) := by
        have : c = 0 ∨ c = 1 ∨ c = 2 ∨ c = 3 := by omega
        rcases this with rfl | rfl | rfl | rfl
        · exact ⟨"+", by simp [opsN], rfl⟩
        · exact ⟨"-", by simp [opsN], rfl⟩
        · exact ⟨"*", by simp [opsN], rfl⟩
        · exact ⟨"-", by simp [opsN], rfl⟩
      have st3 := st2.same s3
      refine ⟨_, rfl, l, _, _, _, rfl, rfl, SqL.of upd_same, e, _, rfl, _, rfl, _, rfl, _, rfl, _, _, rfl, rfl, a, p, _, st, rfl, st3.s, hN1.stp st3 ne, ne, by omega, by omega, fun y e2 H4 st4 o2 y1 => ?_⟩
      refine ⟨by show 3 ≤ sizeLine; decide, fun r hr => ?_⟩
      have x4 : ExAt K H4 st e1 x := ExAt.keep (Keeps.of_stp ((Stp.of_same st2.s s3).trans st4) st2.s) x1
      have kp : Keeps K H4 (upd H4 r (.tup [.str sg, x, y])) := Keeps.of_same (Same.new hr _)
      exact q _ (.bin sg e1 e2) _ ((st1.trans (st3.trans st4)).new hr) (.inl ⟨rfl, hsg, o1, o2⟩) ⟨r, x, y, rfl, SqT.of upd_same, ExAt.keep kp x4, ExAt.keep kp y1⟩
    all_goals
      refine ⟨_, rfl, rfl, _, rfl, ite2 (fun _ => ?_) (fun _ => ?_)⟩
      · refine ⟨_, rfl, a, rfl, st1.s, fun r H2 st2 hf => ⟨by show 2 ≤ sizeLine; decide, fun t ht => ?_⟩⟩
        exact q _ (.num r) _ ((st1.trans st2).new ht) ⟨rfl, hf⟩ ⟨t, rfl, SqT.of upd_same⟩
      · refine ⟨_, rfl, _, rfl, 3, rfl, p, _, rfl, hN1.at_, fun g hg => ?_⟩
        rw [cut_3]
        have st2 := (Stp.refl st1.s).new (o := .lst [.str (nmW st 0), .str (nmW st 1), .str (nmW st 2)]) hg
        refine ⟨a, _, rfl, st2.s, .inl ⟨g, _, rfl, (st1.s.ne hg).symm, SqL.of upd_same, by show 0 < 3; decide, by show 3 < 1000; decide, fun v H2 hv st3 => ?_⟩⟩
        refine ⟨by show 2 ≤ sizeLine; decide, fun t ht => ?_⟩
        have st4 := (st1.trans (st2.trans st3)).new (o := .tup [.str "name", v]) ht
        simp at hv
        rcases hv with rfl | rfl | rfl
        · exact q _ (.var 0) _ st4 ⟨rfl, by decide⟩ ⟨t, rfl, SqT.of upd_same⟩
        · exact q _ (.var 1) _ st4 ⟨rfl, by decide⟩ ⟨t, rfl, SqT.of upd_same⟩
        · exact q _ (.var 2) _ st4 ⟨rfl, by decide⟩ ⟨t, rfl, SqT.of upd_same⟩
theorem ok_l_fact (T : Txt K mg) : ∀ m : Nat, FnOk P w K mg base CX0 (m + 5) T.a_l_fact T.d_l_fact p_l_fact (spFact K m)
  | 0 => fn_vac fun vs H Q E h => by obtain ⟨a, p, n, st, _, _, _, _, h1, h2, _⟩ := h; omega
  | m + 1 => by
    have g_l_pick := ok_l_pick (P := P) (w := w) (base := base) T
    have g_l_one := ok_l_one (P := P) (w := w) (K := K) (base := base) T
    have g_l_link := ok_l_link (P := P) (w := w) (K := K) (base := base) T
    have g_l_term := ok_l_term (P := P) (w := w) (K := K) (base := base) T m
    have g_l_fact := ok_l_fact T m
    refine T.F_l_fact.ok sc_l_fact (fun vs H Q E h => ?_) (fun cdv A outer s H vs Q E hr h => ?_)
    · obtain ⟨a, p, n, st, rfl, _⟩ := h
      rfl
    obtain ⟨a, p, n, st, rfl, hS, hN, ne, n0, n1, q⟩ := h
    refine ⟨_, (pss_cons (ps_set (i := 3) sc_l_fact.nd rfl (Or.inl rfl) (pe_call g_l_pick (hr.mono (by first | decide | omega)) rfl T.m_l_pick T.F_l_pick.kp T.b_l_pick .nil pass0 (pa_cons (pv 0) (pa_cons pe_int pa_nil))))
      (pss_cons (ps_if (PW.pt (pw_and (pt_cmpR op_gt (pv 2) pe_int (nomark _)) (pw_and1 (pt_cmpR op_lt (pv 3) pe_int (nomark _))))) (pss_cons (ps_set (i := 4) sc_l_fact.nd rfl (Or.inl rfl) (pe_call g_l_term (hr.mono (by first | decide | omega)) rfl T.m_l_term T.F_l_term.kp T.b_l_term .nil pass0 (pa_cons (pv 0) (pa_cons (pv 1) (pa_cons (pe_op op_sub (pv 2) pe_int) pa_nil)))))
      (pss_cons (ps_set (i := 5) sc_l_fact.nd rfl (Or.inl rfl) (pv 4))
      (C8.pss_cut (ps_if (pt_cmpR op_gt (pe_call g_l_pick (hr.mono (by first | decide | omega)) rfl T.m_l_pick T.F_l_pick.kp T.b_l_pick .nil pass0 (pa_cons (pv 0) (pa_cons pe_int pa_nil))) pe_int (nomark _)) (pss_one (ps_set (i := 5) sc_l_fact.nd rfl (Or.inl rfl) (pe_call g_l_term (hr.mono (by first | decide | omega)) rfl T.m_l_term T.F_l_term.kp T.b_l_term .nil pass0 (pa_cons (pv 0) (pa_cons (pv 1) (pa_cons (pe_op op_sub (pv 2) pe_int) pa_nil)))))) pss_nil)
      (pss_one (ps_ret (pe_tup (pa_cons (pe_ix ix_list (pe_lst (pa_cons pe_str (pa_cons pe_str (pa_cons pe_str (pa_cons pe_str pa_nil))))) (pv 3) (fun _ _ => rfl)) (pa_cons (pv 4) (pa_cons (pv 5) pa_nil))))))))) pss_nil)
      (pss_cons (ps_if (PW.pt (pw_and (pt_cmpR op_gt (pv 2) pe_int (nomark _)) (pw_and1 (pt_cmpR op_lt (pv 3) pe_int (nomark _))))) (pss_cons (ps_set (i := 6) sc_l_fact.nd rfl (Or.inl rfl) (pe_slice sl_list (pv 1) (po_some (pe_op op_sub (pe_op op_mul pe_int (pv 3)) pe_int)) (po_some (pe_op op_sub (pe_op op_mul pe_int (pv 3)) pe_int))))
      (pss_cons (ps_set (i := 4) sc_l_fact.nd rfl (Or.inl rfl) (pe_call g_l_link (hr.mono (by first | decide | omega)) rfl T.m_l_link T.F_l_link.kp T.b_l_link .nil pass0 (pa_cons (pv 0) (pa_cons (pv 6) pa_nil))))
      (pss_one (ps_ret (pe_tup (pa_cons pe_str (pa_cons (pv 4) (pa_cons (pe_call g_l_link (hr.mono (by first | decide | omega)) rfl T.m_l_link T.F_l_link.kp T.b_l_link .nil pass0 (pa_cons (pv 0) (pa_cons (pv 6) pa_nil))) pa_nil)))))))) pss_nil)
      (pss_cons (ps_if (PW.pt (pw_and (pt_cmpR op_gt (pv 2) pe_int (nomark _)) (pw_and1 (pt_cmpR op_lt (pv 3) pe_int (nomark _))))) (pss_one (ps_ret (pe_tup (pa_cons pe_str (pa_cons (pe_call g_l_fact (hr.mono (by first | decide | omega)) rfl T.m_l_fact T.F_l_fact.kp T.b_l_fact .nil pass0 (pa_cons (pv 0) (pa_cons (pv 1) (pa_cons (pe_op op_sub (pv 2) pe_int) pa_nil)))) pa_nil))))) pss_nil)
      (pss_cons (ps_if (PW.pt (pw_and (pt_cmpR op_gt (pv 2) pe_int (nomark _)) (pw_and1 (pt_cmpR op_lt (pv 3) pe_int (nomark _))))) (pss_cons (ps_set (i := 4) sc_l_fact.nd rfl (Or.inl rfl) (pe_call g_l_fact (hr.mono (by first | decide | omega)) rfl T.m_l_fact T.F_l_fact.kp T.b_l_fact .nil pass0 (pa_cons (pv 0) (pa_cons (pv 1) (pa_cons (pe_op op_sub (pv 2) pe_int) pa_nil)))))
      (pss_one (ps_ret (pe_tup (pa_cons (pe_ix ix_list (pe_lst (pa_cons pe_str (pa_cons pe_str pa_nil))) (pe_op op_modN (pv 3) pe_int) (fun _ _ => rfl)) (pa_cons (pv 4) (pa_cons (pe_call g_l_fact (hr.mono (by first | decide | omega)) rfl T.m_l_fact T.F_l_fact.kp T.b_l_fact .nil pass0 (pa_cons (pv 0) (pa_cons (pv 1) (pa_cons (pe_op op_sub (pv 2) pe_int) pa_nil)))) pa_nil))))))) pss_nil)
      (pss_cons (ps_if (pt_cmpR op_eq (pv 3) pe_int (nomark _)) (pss_one (ps_ret (pe_tup (pa_cons pe_str (pa_cons (pe_cmpR op_eq (pe_call g_l_pick (hr.mono (by first | decide | omega)) rfl T.m_l_pick T.F_l_pick.kp T.b_l_pick .nil pass0 (pa_cons (pv 0) (pa_cons pe_int pa_nil))) pe_int (nomark _)) pa_nil))))) pss_nil)
      (pss_one (ps_ret (pe_tup (pa_cons pe_str (pa_cons (pe_call g_l_one (hr.mono (by first | decide | omega)) rfl T.m_l_one T.F_l_one.kp T.b_l_one .nil pass0 (pa_cons (pv 0) (pa_cons (pe_slice sl_list (pv 1) (po_some pe_int) (po_some pe_int)) pa_nil))) pa_nil))))))))))), ?_⟩
    refine ⟨_, rfl, a, 14, rfl, hS, by decide, fun c H1 st1 c0 c1 => ?_⟩
    have hN1 := hN.stp st1 ne
    by_cases hn : 0 < n
    · refine ⟨_, rfl, n, 0, rfl, rfl, _, rfl, ifT (decide_eq_true hn) ⟨_, rfl, _, _, rfl, rfl, _, rfl, ite2 (fun h2 => ?_) (fun h4 => ?_)⟩⟩
      · have c4 : c < 4 := of_decide_eq_true h2
        refine ⟨_, rfl, _, rfl, _, rfl, _, _, rfl, rfl, a, p, _, st, rfl, st1.s, hN1, ne, by omega, by omega, fun x e1 H2 st2 o1 x1 => ?_⟩
        refine ⟨_, rfl, ?_⟩
        obtain ⟨sg, hsg, e⟩ : ∃ sg ∈ opsC, atI [V.str "<", .str "<=", .str "==", .str "!="] c = some (.str sg) := by
          have : c = 0 ∨ c = 1 ∨ c = 2 ∨ c = 3 := by omega
          rcases this with rfl | rfl | rfl | rfl
          · exact ⟨"<", by simp [opsC], rfl⟩
          · exact ⟨"<=", by simp [opsC], rfl⟩
          · exact ⟨"==", by simp [opsC], rfl⟩
          · exact ⟨"!=", by simp [opsC], rfl⟩
        refine ⟨fun σ H3 => Stp a H1 H3 ∧ ∃ (y : V) (e2 : Ex), e2.ok m .N ∧ ExAt K H3 st e1 x ∧ ExAt K H3 st e2 y ∧ σ = [some (.ref a), some (.ref p), some (.int n), some (.int c), some x, some y, none], ⟨_, rfl, a, 3, rfl, st2.s, by decide, fun r H3 st3 r0 r1 => ⟨_, _, rfl, rfl, _, rfl, ?_⟩⟩, ?_⟩
        · have x3 : ExAt K H3 st e1 x := ExAt.keep (Keeps.of_stp st3 st2.s) x1
          have st23 := st2.trans st3
          refine ite2 (fun _ => ?_) (fun _ => ⟨st23, x, e1, o1, x3, x3, rfl⟩)
          refine ⟨_, rfl, _, rfl, _, rfl, _, _, rfl, rfl, a, p, _, st, rfl, st23.s, hN1.stp st23 ne, ne, by omega, by omega, fun y e2 H4 st4 o2 y1 => ?_⟩
          exact ⟨st23.trans st4, y, e2, o2, ExAt.keep (Keeps.of_stp st4 st23.s) x3, y1, rfl⟩
        · rintro σ H3 ⟨st3, y, e2, o2, x3, y3, rfl⟩
          refine ⟨by show 4 ≤ sizeLine; decide, fun l hl => ?_⟩
          have s3 := Same.new hl (.lst [.str "<", .str "<=", .str "==", .str "!="])
          refine ⟨_, rfl, l, _, _, _, rfl, rfl, SqL.of upd_same, e, _, rfl, _, rfl, by show 3 ≤ sizeLine; decide, fun r hr => ?_⟩
          have kp : Keeps K H3 (upd (upd H3 l (.lst [.str "<", .str "<=", .str "==", .str "!="])) r (.tup [.str sg, x, y])) := Keeps.of_same (s3.trans (Same.new hr _))
          exact q _ (.bin sg e1 e2) _ ((st1.trans (st3.same s3)).new hr) (.inr (.inl ⟨rfl, hsg, o1, o2⟩)) ⟨r, x, y, rfl, SqT.of upd_same, ExAt.keep kp x3, ExAt.keep kp y3⟩
      have c4 : ¬ c < 4 := of_decide_eq_false (Bool.eq_false_iff.mpr h4)
      refine ⟨_, rfl, n, 0, rfl, rfl, _, rfl, ifT (decide_eq_true hn) ⟨_, rfl, _, _, rfl, rfl, _, rfl, ite2 (fun h2 => ?_) (fun h6 => ?_)⟩⟩
      · have c6 : c < 6 := of_decide_eq_true h2
        obtain ⟨j, hj, ej⟩ : ∃ j : Nat, (j = 5 ∨ j = 7) ∧ cutV (nm9 st) (some (2 * c - 3)) (some (2 * c - 1)) = [.str (nmW st j), .str (nmW st (j + 1))] := by
          have : c = 4 ∨ c = 5 := by omega
          rcases this with rfl | rfl
          · exact ⟨5, .inl rfl, rfl⟩
          · exact ⟨7, .inr rfl, rfl⟩
        refine ⟨_, rfl, _, rfl, 2, _, rfl, rfl, .inl ⟨by decide, by decide⟩, _, _, rfl, rfl, _, rfl, ?_⟩
        refine ⟨_, rfl, 2, _, rfl, rfl, .inl ⟨by decide, by decide⟩, _, _, rfl, rfl, _, rfl, ?_⟩
        refine ⟨p, _, rfl, hN1.at_, fun g hg => ?_⟩
        rw [ej]
        have st2 := (Stp.refl st1.s).new (o := .lst [.str (nmW st j), .str (nmW st (j + 1))]) hg
        have ng : g ≠ a := (st1.s.ne hg).symm
        refine ⟨_, rfl, _, rfl, a, g, st, j, rfl, st2.s, SqL.of upd_same, ng, hj, fun x e1 H3 st3 o1 x1 => ?_⟩
        refine ⟨_, rfl, _, rfl, _, rfl, a, g, st, j, rfl, st3.s, st3.rdL (SqL.of upd_same) ng, ng, hj, fun y e2 H4 st4 o2 y1 => ?_⟩
        refine ⟨by show 3 ≤ sizeLine; decide, fun r hnew => ?_⟩
        have x4 : ExAt K H4 st e1 x := ExAt.keep (Keeps.of_stp st4 st3.s) x1
        have kp : Keeps K H4 (upd H4 r (.tup [.str "same", x, y])) := Keeps.of_same (Same.new hnew _)
        obtain ⟨k, rfl⟩ : ∃ k, m = k + 1 := ⟨m - 1, by omega⟩
        exact q _ (.bin "same" e1 e2) _ ((st1.trans (st2.trans (st3.trans st4))).new hnew) (.inr (.inr (.inl ⟨rfl, List.mem_singleton.mpr rfl, o1 k, o2 k⟩))) ⟨r, x, y, rfl, SqT.of upd_same, ExAt.keep kp x4, ExAt.keep kp y1⟩
      have c6 : ¬ c < 6 := of_decide_eq_false (Bool.eq_false_iff.mpr h6)
      refine ⟨_, rfl, n, 0, rfl, rfl, _, rfl, ifT (decide_eq_true hn) ⟨_, rfl, _, _, rfl, rfl, _, rfl, ite2 (fun h2 => ?_) (fun h8 => ?_)⟩⟩
      · refine ⟨_, rfl, _, rfl, _, rfl, _, _, rfl, rfl, a, p, _, st, rfl, st1.s, hN1, ne, by omega, by omega, fun x e1 H2 st2 o1 x1 => ?_⟩
        refine ⟨by show 2 ≤ sizeLine; decide, fun r hr => ?_⟩
        have kp : Keeps K H2 (upd H2 r (.tup [.str "not", x])) := Keeps.of_same (Same.new hr _)
        exact q _ (.not e1) _ ((st1.trans st2).new hr) ⟨rfl, o1⟩ ⟨r, x, rfl, SqT.of upd_same, ExAt.keep kp x1⟩
      refine ⟨_, rfl, n, 0, rfl, rfl, _, rfl, ifT (decide_eq_true hn) ⟨_, rfl, _, _, rfl, rfl, _, rfl, ite2 (fun h2 => ?_) (fun h12 => ?_)⟩⟩
      · refine ⟨_, rfl, _, rfl, _, rfl, _, _, rfl, rfl, a, p, _, st, rfl, st1.s, hN1, ne, by omega, by omega, fun x e1 H2 st2 o1 x1 => ?_⟩
        refine ⟨by show 2 ≤ sizeLine; decide, fun l hl => ?_⟩
        have s3 := Same.new hl (.lst [.str "and", .str "or"])
        have st3 := st2.same s3
        obtain ⟨sg, hsg, e⟩ : ∃ sg ∈ opsB, atI [V.str "and", .str "or"] (c.fmod 2) = some (.str sg) := by
          have b := fmod_bd (x := c) (m := 2) (by decide)
          have : c.fmod 2 = 0 ∨ c.fmod 2 = 1 := by omega
          rcases this with h | h
          · exact ⟨"and", by simp [opsB], by rw [h]; rfl⟩
          · exact ⟨"or", by simp [opsB], by rw [h]; rfl⟩
        refine ⟨_, rfl, _, _, rfl, rfl, (by intro z; cases z), l, _, _, _, rfl, rfl, SqL.of upd_same, e, _, rfl, _, rfl, _, rfl, _, rfl, _, _, rfl, rfl, a, p, _, st, rfl, st3.s, hN1.stp st3 ne, ne, by omega, by omega, fun y e2 H4 st4 o2 y1 => ?_⟩
        refine ⟨by show 3 ≤ sizeLine; decide, fun r hr => ?_⟩
        have x4 : ExAt K H4 st e1 x := ExAt.keep (Keeps.of_stp ((Stp.of_same st2.s s3).trans st4) st2.s) x1
        have kp : Keeps K H4 (upd H4 r (.tup [.str sg, x, y])) := Keeps.of_same (Same.new hr _)
        exact q _ (.bin sg e1 e2) _ ((st1.trans (st3.trans st4)).new hr) (.inr (.inr (.inr ⟨rfl, hsg, o1, o2⟩))) ⟨r, x, y, rfl, SqT.of upd_same, ExAt.keep kp x4, ExAt.keep kp y1⟩
      refine ⟨_, rfl, rfl, _, rfl, ite2 (fun _ => ?_) (fun _ => ?_)⟩
      · refine ⟨_, rfl, a, 2, rfl, st1.s, by decide, fun r H2 st2 _ _ => ⟨rfl, by show 2 ≤ sizeLine; decide, fun t ht => ?_⟩⟩
        exact q _ (.flag _) _ ((st1.trans st2).new ht) rfl ⟨t, rfl, SqT.of upd_same⟩
      · refine ⟨_, rfl, _, rfl, 3, rfl, 5, rfl, p, _, rfl, hN1.at_, fun g hg => ?_⟩
        rw [cut_35]
        have st2 := (Stp.refl st1.s).new (o := .lst [.str (nmW st 3), .str (nmW st 4)]) hg
        refine ⟨a, _, rfl, st2.s, .inl ⟨g, _, rfl, (st1.s.ne hg).symm, SqL.of upd_same, by show 0 < 2; decide, by show 2 < 1000; decide, fun v H2 hv st3 => ?_⟩⟩
        refine ⟨by show 2 ≤ sizeLine; decide, fun t ht => ?_⟩
        have st4 := (st1.trans (st2.trans st3)).new (o := .tup [.str "name", v]) ht
        simp at hv
        rcases hv with rfl | rfl
        · exact q _ (.var 3) _ st4 ⟨rfl, by decide⟩ ⟨t, rfl, SqT.of upd_same⟩
        · exact q _ (.var 4) _ st4 ⟨rfl, by decide⟩ ⟨t, rfl, SqT.of upd_same⟩
    · have f0 : decide (n > 0) = false := decide_eq_false hn
      refine ⟨_, rfl, n, 0, rfl, rfl, _, rfl, ifF f0 (iteF ⟨_, rfl, n, 0, rfl, rfl, _, rfl, ifF f0 (iteF ⟨_, rfl, n, 0, rfl, rfl, _, rfl, ifF f0 (iteF ⟨_, rfl, n, 0, rfl, rfl, _, rfl, ifF f0 (iteF ?_)⟩)⟩)⟩)⟩
      refine ⟨_, rfl, rfl, _, rfl, ite2 (fun _ => ?_) (fun _ => ?_)⟩
      · refine ⟨_, rfl, a, 2, rfl, st1.s, by decide, fun r H2 st2 _ _ => ⟨rfl, by show 2 ≤ sizeLine; decide, fun t ht => ?_⟩⟩
        exact q _ (.flag _) _ ((st1.trans st2).new ht) rfl ⟨t, rfl, SqT.of upd_same⟩
      · refine ⟨_, rfl, _, rfl, 3, rfl, 5, rfl, p, _, rfl, hN1.at_, fun g hg => ?_⟩
        rw [cut_35]
        have st2 := (Stp.refl st1.s).new (o := .lst [.str (nmW st 3), .str (nmW st 4)]) hg
        refine ⟨a, _, rfl, st2.s, .inl ⟨g, _, rfl, (st1.s.ne hg).symm, SqL.of upd_same, by show 0 < 2; decide, by show 2 < 1000; decide, fun v H2 hv st3 => ?_⟩⟩
        refine ⟨by show 2 ≤ sizeLine; decide, fun t ht => ?_⟩
        have st4 := (st1.trans (st2.trans st3)).new (o := .tup [.str "name", v]) ht
        simp at hv
        rcases hv with rfl | rfl
        · exact q _ (.var 3) _ st4 ⟨rfl, by decide⟩ ⟨t, rfl, SqT.of upd_same⟩
        · exact q _ (.var 4) _ st4 ⟨rfl, by decide⟩ ⟨t, rfl, SqT.of upd_same⟩
end
/-! ### the variables of an expression, and drawn values for them -/
def nmL (st : Int) (l : List Nat) : List V := l.map fun j => V.str (nmW st j)
def spVars (K : PySem.W.Frag) (m : Nat) : Sp := fun vs H Q _ => ∃ (v : V) (e : Ex) (t : Ty) (st : Int), vs = [v] ∧ ExAt K H st e v ∧ e.ok m t ∧ ∀ (p : Addr) (H' : Hp), Same H H' → H p = none → H' p = some (.lst (nmL st (vars e))) → Q (.ref p) H'
theorem kb_rt {K : PySem.W.Frag} {H : Hp} {st : Int} {e : Ex} {v : V} (h : ExAt K H st e v) : ∃ p xs, v = .ref p ∧ SqT K H p xs := by
  cases e with
  | num i => obtain ⟨p, rfl, hp⟩ := h; exact ⟨p, _, rfl, hp⟩
  | flag i => obtain ⟨p, rfl, hp⟩ := h; exact ⟨p, _, rfl, hp⟩
  | null => obtain ⟨p, rfl, hp⟩ := h; exact ⟨p, _, rfl, hp⟩
  | var i => obtain ⟨p, rfl, hp⟩ := h; exact ⟨p, _, rfl, hp⟩
  | not a => obtain ⟨p, x, rfl, hp, _⟩ := h; exact ⟨p, _, rfl, hp⟩
  | bin op a b => obtain ⟨p, x, y, rfl, hp, _⟩ := h; exact ⟨p, _, rfl, hp⟩
theorem ex_ty {K : PySem.W.Frag} {H : Hp} {st : Int} {e : Ex} {v : V} (h : ExAt K H st e v) : TyX K H v (.type "tuple") := by
  obtain ⟨p, xs, rfl, hp⟩ := kb_rt h
  exact tyT hp
theorem cut1_1 (x : V) : cutV [x] (some 1) none = [] := rfl
theorem cut1_2 (x y : V) : cutV [x, y] (some 1) none = [y] := rfl
theorem cut1_3 (x y z : V) : cutV [x, y, z] (some 1) none = [y, z] := rfl
section
variable {P : Program} {w : World} {K : PySem.W.Frag} {mg : Str → Option Value} {base : Heap}
theorem ok_l_variables (T : Txt K mg) : ∀ m : Nat, m ≤ 10 → FnOk P w K mg base CX0 m T.a_l_variables T.d_l_variables p_l_variables (spVars K m)
  | 0, _ => fn_vac fun vs H Q E h => by obtain ⟨v, e, t, st, _, _, h, _⟩ := h; exact h
  | m + 1, hm => by
    have g_l_variables := ok_l_variables T m (by omega)
    refine T.F_l_variables.ok sc_l_variables (fun vs H Q E h => ?_) (fun cdv A outer s H vs Q E hr h => ?_)
    · obtain ⟨v, e, t, st, rfl, _⟩ := h
      rfl
    obtain ⟨v, e, t, st, rfl, hx, ho, q⟩ := h
    refine ⟨_, (pss_cons (ps_if (pt_cmpR op_eq (pe_ix ix_tup (pv 0) pe_int (fun _ _ => rfl)) pe_str (nomark _)) (pss_one (ps_ret (pe_lst (pa_cons (pe_ix ix_tup (pv 0) pe_int (fun _ _ => rfl)) pa_nil)))) pss_nil)
      (pss_cons (ps_set (i := 1) sc_l_variables.nd rfl (Or.inl rfl) (pe_lst pa_nil))
      (pss_cons (ps_for PassesOwn.never rfl (pi_tup (pe_slice sl_tup (pv 0) (po_some pe_int) po_none)) (pg_name (i := 2) sc_l_variables.nd rfl (Or.inl rfl))
        (pss_one (ps_if (pt_val (pe_callB call_isi rfl T.z_isinstance bb_isinstance (pa_cons (pv 2) (pa_cons (pe_bltn (v := .ty "tuple") rfl T.z_tuple bt_tuple rfl) pa_nil)))) (pss_one (ps_set (i := 1) sc_l_variables.nd rfl (Or.inl rfl) (pe_op op_cat (pv 1) (pe_call g_l_variables (hr.mono (by first | decide | omega)) rfl T.m_l_variables T.F_l_variables.kp T.b_l_variables .nil pass0 (pa_cons (pv 2) pa_nil))))) pss_nil)))
      (pss_one (ps_ret (pv 1)))))), ?_⟩
    have small : ∀ {l : List Nat}, l.length ≤ 2 ^ (m + 1) → (nmL st l).length ≤ 2048 := by
      intro l hl
      unfold nmL
      rw [List.length_map]
      have p2 : 2 ^ (m + 1) ≤ 2 ^ 11 := Nat.pow_le_pow_right (by decide) (by omega)
      have p3 : (2 : Nat) ^ 11 = 2048 := by decide
      omega
    cases e with
    | var j =>
      obtain ⟨p, rfl, hp⟩ := hx
      exact ⟨_, rfl, p, _, 0, _, rfl, rfl, hp, rfl, rfl, _, rfl, ifT (by decide +kernel) ⟨_, rfl, p, _, 1, _, rfl, rfl, hp, rfl, by show 1 ≤ sizeLine; decide, fun l hl => q l _ (Same.new hl _) hl upd_same⟩⟩
    | num i =>
      obtain ⟨p, rfl, hp⟩ := hx
      refine ⟨_, rfl, p, _, 0, _, rfl, rfl, hp, rfl, rfl, _, rfl, ifF (by decide +kernel) ⟨by show 0 ≤ sizeLine; decide, fun l hl => ?_⟩⟩
      have hp1 := Same.tup (Same.new hl (.lst [])) hp
      refine ⟨_, rfl, 1, rfl, p, _, rfl, hp1, (fun z => absurd (show (1 : Nat) = 0 from z.1) (by decide)), fun t2 ht2 => ?_⟩
      rw [cut1_2]
      have s2 := Same.new ht2 (.tup [V.int i])
      refine ⟨t2, rfl, ⟨_, SqT.of upd_same⟩, for_tup (K := K) (a := t2) (xs := [.int i]) (fun _ σ H' => Same (upd (upd H l (.lst [])) t2 (.tup [.int i])) H' ∧ ∃ v : Option V, σ = [some (.ref p), some (.ref l), v]) ⟨Same.refl _, none, rfl⟩ (fun i σ H' _ ⟨s3, _⟩ => Same.tup s3 (SqT.of upd_same)) ?_ ?_⟩
      · rintro k y σ H' hk ⟨s3, v, rfl⟩
        have hy : y = .int i := by simpa using List.mem_of_getElem? hk
        subst hy
        exact ⟨_, rfl, _, _, _, _, false, rfl, .ty _, .base (.int _), kit_ty kb_it, ⟨_, rfl, iteF ⟨s3, _, rfl⟩⟩⟩
      · rintro σ H' ⟨s3, v, rfl⟩
        exact ⟨_, rfl, q l _ ((Same.new hl _).trans (s2.trans s3)) hl (s3 _ _ (s2 _ _ upd_same))⟩
    | flag i =>
      obtain ⟨p, rfl, hp⟩ := hx
      refine ⟨_, rfl, p, _, 0, _, rfl, rfl, hp, rfl, rfl, _, rfl, ifF (by decide +kernel) ⟨by show 0 ≤ sizeLine; decide, fun l hl => ?_⟩⟩
      have hp1 := Same.tup (Same.new hl (.lst [])) hp
      refine ⟨_, rfl, 1, rfl, p, _, rfl, hp1, (fun z => absurd (show (1 : Nat) = 0 from z.1) (by decide)), fun t2 ht2 => ?_⟩
      rw [cut1_2]
      have s2 := Same.new ht2 (.tup [V.bl i])
      refine ⟨t2, rfl, ⟨_, SqT.of upd_same⟩, for_tup (K := K) (a := t2) (xs := [.bl i]) (fun _ σ H' => Same (upd (upd H l (.lst [])) t2 (.tup [.bl i])) H' ∧ ∃ v : Option V, σ = [some (.ref p), some (.ref l), v]) ⟨Same.refl _, none, rfl⟩ (fun i σ H' _ ⟨s3, _⟩ => Same.tup s3 (SqT.of upd_same)) ?_ ?_⟩
      · rintro k y σ H' hk ⟨s3, v, rfl⟩
        have hy : y = .bl i := by simpa using List.mem_of_getElem? hk
        subst hy
        exact ⟨_, rfl, _, _, _, _, false, rfl, .ty _, .base (.bl _), kit_ty kb_bt, ⟨_, rfl, iteF ⟨s3, _, rfl⟩⟩⟩
      · rintro σ H' ⟨s3, v, rfl⟩
        exact ⟨_, rfl, q l _ ((Same.new hl _).trans (s2.trans s3)) hl (s3 _ _ (s2 _ _ upd_same))⟩
    | null =>
      obtain ⟨p, rfl, hp⟩ := hx
      refine ⟨_, rfl, p, _, 0, _, rfl, rfl, hp, rfl, rfl, _, rfl, ifF (by decide +kernel) ⟨by show 0 ≤ sizeLine; decide, fun l hl => ?_⟩⟩
      have hp1 := Same.tup (Same.new hl (.lst [])) hp
      refine ⟨_, rfl, 1, rfl, p, _, rfl, hp1, (fun z => absurd (show (1 : Nat) = 0 from z.1) (by decide)), fun t2 ht2 => ?_⟩
      rw [cut1_1]
      have s2 := Same.new ht2 (.tup [])
      refine ⟨t2, rfl, ⟨_, SqT.of upd_same⟩, for_tup (K := K) (a := t2) (xs := []) (fun _ σ H' => Same (upd (upd H l (.lst [])) t2 (.tup [])) H' ∧ ∃ v : Option V, σ = [some (.ref p), some (.ref l), v]) ⟨Same.refl _, none, rfl⟩ (fun i σ H' _ ⟨s3, _⟩ => Same.tup s3 (SqT.of upd_same)) ?_ ?_⟩
      · rintro k y σ H' hk _
        simp at hk
      · rintro σ H' ⟨s3, v, rfl⟩
        exact ⟨_, rfl, q l _ ((Same.new hl _).trans (s2.trans s3)) hl (s3 _ _ (s2 _ _ upd_same))⟩
    | not a =>
      obtain ⟨p, x, rfl, hp, hx⟩ := hx
      obtain ⟨rfl, oa⟩ := ho
      refine ⟨_, rfl, p, _, 0, _, rfl, rfl, hp, rfl, rfl, _, rfl, ifF (by decide +kernel) ⟨by show 0 ≤ sizeLine; decide, fun l hl => ?_⟩⟩
      have hp1 := Same.tup (Same.new hl (.lst [])) hp
      refine ⟨_, rfl, 1, rfl, p, _, rfl, hp1, (fun z => absurd (show (1 : Nat) = 0 from z.1) (by decide)), fun t2 ht2 => ?_⟩
      rw [cut1_2]
      have s2 := Same.new ht2 (.tup [x])
      have s12 := (Same.new hl (.lst [])).trans s2
      have hl2 : (upd (upd H l (.lst [])) t2 (.tup [x])) l = some (.lst []) := s2 _ _ upd_same
      refine ⟨t2, rfl, ⟨_, SqT.of upd_same⟩, for_tup (K := K) (a := t2) (xs := [x]) (fun i σ H' => Same (upd (upd H l (.lst [])) t2 (.tup [x])) H' ∧ ∃ (f : Addr) (v : Option V), σ = [some (.ref p), some (.ref f), v] ∧ H f = none ∧ H' f = some (.lst (nmL st (if i = 0 then [] else vars a)))) ⟨Same.refl _, l, none, rfl, hl, hl2⟩ (fun i σ H' _ ⟨s3, _⟩ => Same.tup s3 (SqT.of upd_same)) ?_ ?_⟩
      · rintro k y σ H' hk ⟨s3, f, v, rfl, hf0, hf⟩
        obtain rfl : k = 0 := by
          have := (List.getElem?_eq_some_iff.mp hk).1
          simp at this
          exact this
        obtain rfl : x = y := by simpa using hk
        have hx3 := ExAt.keep (Keeps.of_same (s12.trans s3)) hx
        refine ⟨_, rfl, _, _, _, _, true, rfl, .ty _, ex_ty hx3, kit_ty kb_tt, ⟨_, rfl, iteT ?_⟩⟩
        refine ⟨_, rfl, _, rfl, x, a, .B, st, rfl, hx3, oa, fun r H4 s4 hr0 hr4 => ?_⟩
        refine ⟨f, r, _, _, rfl, rfl, s4 _ _ hf, hr4, ?_, fun e he => ?_⟩
        · have := small (Nat.le_trans (vars_len oa) (Nat.pow_le_pow_right (by decide) (Nat.le_succ m)))
          show 0 + (nmL st (vars a)).length ≤ sizeLine
          rw [sizeLine_eq]
          omega
        · have s5 := Same.new he (.lst (nmL st [] ++ nmL st (vars a)))
          exact ⟨s3.trans (s4.trans s5), e, _, rfl, (s12.trans (s3.trans s4)).free he, upd_same⟩
      · rintro σ H' ⟨s3, f, v, rfl, hf0, hf⟩
        exact ⟨_, rfl, q f _ (s12.trans s3) hf0 hf⟩
    | bin op a b =>
      obtain ⟨p, x, y, rfl, hp, hx, hy⟩ := hx
      obtain ⟨n1, n2, n3, n4, n5⟩ := ops_ne ho
      obtain ⟨s, oa, ob, hs⟩ := two_ok ho
      refine ⟨_, rfl, p, _, 0, _, rfl, rfl, hp, rfl, rfl, _, rfl, ifF (decide_eq_false n4) ⟨by show 0 ≤ sizeLine; decide, fun l hl => ?_⟩⟩
      have hp1 := Same.tup (Same.new hl (.lst [])) hp
      refine ⟨_, rfl, 1, rfl, p, _, rfl, hp1, (fun z => absurd (show (1 : Nat) = 0 from z.1) (by decide)), fun t2 ht2 => ?_⟩
      rw [cut1_3]
      have s2 := Same.new ht2 (.tup [x, y])
      have s12 := (Same.new hl (.lst [])).trans s2
      have hl2 : (upd (upd H l (.lst [])) t2 (.tup [x, y])) l = some (.lst []) := s2 _ _ upd_same
      refine ⟨t2, rfl, ⟨_, SqT.of upd_same⟩, for_tup (K := K) (a := t2) (xs := [x, y]) (fun i σ H' => Same (upd (upd H l (.lst [])) t2 (.tup [x, y])) H' ∧ ∃ (f : Addr) (v : Option V), σ = [some (.ref p), some (.ref f), v] ∧ H f = none ∧ H' f = some (.lst (nmL st (if i = 0 then [] else if i = 1 then vars a else vars a ++ vars b)))) ⟨Same.refl _, l, none, rfl, hl, hl2⟩ (fun i σ H' _ ⟨s3, _⟩ => Same.tup s3 (SqT.of upd_same)) ?_ ?_⟩
      · rintro k z σ H' hk ⟨s3, f, v, rfl, hf0, hf⟩
        have hk2 : k = 0 ∨ k = 1 := by
          have := (List.getElem?_eq_some_iff.mp hk).1
          simp at this
          omega
        have la := vars_len oa
        have lb := vars_len ob
        rcases hk2 with rfl | rfl
        · obtain rfl : x = z := by simpa using hk
          have hx3 := ExAt.keep (Keeps.of_same (s12.trans s3)) hx
          refine ⟨_, rfl, _, _, _, _, true, rfl, .ty _, ex_ty hx3, kit_ty kb_tt, ⟨_, rfl, iteT ?_⟩⟩
          refine ⟨_, rfl, _, rfl, x, a, _, st, rfl, hx3, oa, fun r H4 s4 hr0 hr4 => ?_⟩
          refine ⟨f, r, _, _, rfl, rfl, s4 _ _ hf, hr4, ?_, fun e he => ?_⟩
          · have := small (Nat.le_trans la (Nat.pow_le_pow_right (by decide) (Nat.le_succ m)))
            show 0 + (nmL st (vars a)).length ≤ sizeLine
            rw [sizeLine_eq]
            omega
          · have s5 := Same.new he (.lst (nmL st [] ++ nmL st (vars a)))
            exact ⟨s3.trans (s4.trans s5), e, _, rfl, (s12.trans (s3.trans s4)).free he, upd_same⟩
        · obtain rfl : y = z := by simpa using hk
          have hy3 := ExAt.keep (Keeps.of_same (s12.trans s3)) hy
          refine ⟨_, rfl, _, _, _, _, true, rfl, .ty _, ex_ty hy3, kit_ty kb_tt, ⟨_, rfl, iteT ?_⟩⟩
          refine ⟨_, rfl, _, rfl, y, b, _, st, rfl, hy3, ob, fun r H4 s4 hr0 hr4 => ?_⟩
          refine ⟨f, r, _, _, rfl, rfl, s4 _ _ hf, hr4, ?_, fun e he => ?_⟩
          · have s1 := small (Nat.le_trans la (Nat.pow_le_pow_right (by decide) (Nat.le_succ m)))
            have s2 := small (Nat.le_trans lb (Nat.pow_le_pow_right (by decide) (Nat.le_succ m)))
            show (nmL st (vars a)).length + (nmL st (vars b)).length ≤ sizeLine
            rw [sizeLine_eq]
            omega
          · have s5 := Same.new he (.lst (nmL st (vars a) ++ nmL st (vars b)))
            refine ⟨s3.trans (s4.trans s5), e, _, rfl, (s12.trans (s3.trans s4)).free he, ?_⟩
            rw [upd_same]
            show some (HO.lst (nmL st (vars a) ++ nmL st (vars b))) = some (HO.lst (nmL st (vars a ++ vars b)))
            unfold nmL
            rw [List.map_append]
      · rintro σ H' ⟨s3, f, v, rfl, hf0, hf⟩
        exact ⟨_, rfl, q f _ (s12.trans s3) hf0 hf⟩
end
/-! ### dicts by their keys -/
def isIn (l : List Key) (k : Key) : Bool := l.any fun q => decide (q = k)
theorem isIn_iff {l : List Key} {k : Key} : isIn l k = true ↔ k ∈ l := by
  unfold isIn
  rw [List.any_eq_true]
  constructor
  · rintro ⟨q, hq, e⟩
    rw [← of_decide_eq_true e]
    exact hq
  · exact fun h => ⟨k, h, decide_eq_true rfl⟩
def addK (l : List Key) (k : Key) : List Key := if isIn l k = true then l else l ++ [k]
theorem any_keys (kvs : List (Key × V)) (k : Key) : (kvs.any fun kv => decide (kv.1 = k)) = isIn (kvs.map (·.1)) k := by
  unfold isIn
  rw [List.any_map]
  rfl
theorem putK_keys (kvs : List (Key × V)) (k : Key) (v : V) : (putK kvs k v).map (·.1) = addK (kvs.map (·.1)) k := by
  unfold putK addK
  rw [any_keys]
  by_cases h : isIn (kvs.map (·.1)) k = true
  · rw [if_pos h, if_pos h, List.map_map]
    refine List.map_congr_left fun p _ => ?_
    show (if p.1 = k then (p.1, v) else p).1 = p.1
    split <;> rfl
  · rw [if_neg h, if_neg h, List.map_append]
    rfl
theorem addK_nodup {l : List Key} {k : Key} (h : l.Nodup) : (addK l k).Nodup := by
  unfold addK
  split
  · exact h
  · rename_i hk
    refine List.nodup_append.mpr ⟨h, List.nodup_cons.mpr ⟨List.not_mem_nil, List.nodup_nil⟩, fun a ha b hb => ?_⟩
    have e : b = k := by simpa using hb
    rw [e]
    exact fun z => hk (isIn_iff.mpr (z ▸ ha))
theorem putK_at {pre r : List (Key × V)} {k : Key} {v w : V} (h1 : k ∉ pre.map (·.1)) (h2 : k ∉ r.map (·.1)) : putK (pre ++ (k, v) :: r) k w = pre ++ (k, w) :: r := by
  unfold putK
  rw [any_keys, if_pos (isIn_iff.mpr (by rw [List.map_append]; exact List.mem_append_right _ List.mem_cons_self)), List.map_append, List.map_cons]
  have e : ∀ l : List (Key × V), k ∉ l.map (·.1) → l.map (fun kv => if kv.1 = k then (kv.1, w) else kv) = l := by
    intro l hl
    refine (List.map_congr_left (g := id) fun p hp => ?_).trans (List.map_id l)
    show (if p.1 = k then (p.1, w) else p) = p
    rw [if_neg fun z => hl (List.mem_map.mpr ⟨p, hp, z⟩)]
  rw [e pre h1, e r h2, if_pos rfl]
theorem merge_go : ∀ (r1 r2 pre : List (Key × V)), r1.map (·.1) = r2.map (·.1) → (pre.map (·.1) ++ r1.map (·.1)).Nodup → mergeK (pre ++ r1) r2 = pre ++ r2
  | [], [], pre, _, _ => rfl
  | [], _ :: _, _, h, _ => by cases h
  | _ :: _, [], _, h, _ => by cases h
  | (k, v) :: r1, (k2, w) :: r2, pre, h, nd => by
    obtain ⟨rfl, hk⟩ : k = k2 ∧ r1.map (·.1) = r2.map (·.1) := by
      have h' := List.cons.inj h
      exact ⟨h'.1, h'.2⟩
    have nd' := List.nodup_append.mp nd
    have n1 : k ∉ pre.map (·.1) := fun z => nd'.2.2 k z k List.mem_cons_self rfl
    have n2 : k ∉ r1.map (·.1) := (List.nodup_cons.mp nd'.2.1).1
    show mergeK (putK (pre ++ (k, v) :: r1) k w) r2 = _
    rw [putK_at n1 n2]
    have ih := merge_go r1 r2 (pre ++ [(k, w)]) hk (by
      rw [List.map_append]
      show (pre.map (·.1) ++ [k] ++ r1.map (·.1)).Nodup
      rw [List.append_assoc]
      exact nd)
    rw [List.append_assoc, List.append_assoc] at ih
    exact ih
theorem merge_same {a b : List (Key × V)} (h : a.map (·.1) = b.map (·.1)) (nd : (a.map (·.1)).Nodup) : mergeK a b = b := merge_go a b [] h (by simpa using nd)
theorem val_self : ∀ {kvs : List (Key × V)}, (kvs.map (·.1)).Nodup → ∀ p ∈ kvs, valV kvs p.1 = some p.2
  | [], _, _, h => nomatch h
  | q :: r, nd, p, h => by
    have nd' := List.nodup_cons.mp nd
    rcases List.mem_cons.mp h with rfl | h
    · exact valV_pos rfl
    · rw [valV_neg (fun z => nd'.1 (List.mem_map.mpr ⟨p, h, z.symm⟩))]
      exact val_self nd'.2 p h
/-- what _law_values makes -/
structure Made (kvs : List (Key × V)) (st : Int) (l : List Nat) : Prop where
  keys : kvs.map (·.1) = l.foldl (fun acc j => addK acc (kW st j)) []
  nd : (kvs.map (·.1)).Nodup
  flat : ∀ p ∈ kvs, flatB p.2 = true
  has : ∀ j ∈ l, ∃ v, valV kvs (kW st j) = some v ∧ VOk (vt j) v
  len : kvs.length ≤ l.length
theorem Made.nil (st : Int) : Made [] st [] := ⟨rfl, List.nodup_nil, fun _ h => (List.not_mem_nil h).elim, fun _ h => (List.not_mem_nil h).elim, Nat.le_refl _⟩
theorem flat_put {kvs : List (Key × V)} {k : Key} {v : V} (h : ∀ p ∈ kvs, flatB p.2 = true) (hv : flatB v = true) : ∀ p ∈ putK kvs k v, flatB p.2 = true := by
  intro p hp
  unfold putK at hp
  split at hp
  · obtain ⟨q, hq, rfl⟩ := List.mem_map.mp hp
    split
    · exact hv
    · exact h q hq
  · rcases List.mem_append.mp hp with hp | hp
    · exact h p hp
    · have : p = (k, v) := by simpa using hp
      rw [this]
      exact hv
theorem Made.put {kvs : List (Key × V)} {st : Int} {l : List Nat} (h : Made kvs st l) {j : Nat} {v : V} (h0 : 0 ≤ st) (h1 : st < 4) (hl : ∀ i ∈ l, i < 9) (hj : j < 9) (hv : VOk (vt j) v) (fl : flatB v = true) : Made (putK kvs (kW st j) v) st (l ++ [j]) := by
  refine ⟨?_, ?_, flat_put h.flat fl, ?_, ?_⟩
  · rw [putK_keys, h.keys, List.foldl_append]
    rfl
  · rw [putK_keys]
    exact addK_nodup h.nd
  · intro i hi
    rw [valV_put]
    by_cases e : kW st i = kW st j
    · have hi9 : i < 9 := by
        rcases List.mem_append.mp hi with hi | hi
        · exact hl i hi
        · have : i = j := by simpa using hi
          rw [this]
          exact hj
      have : i = j := nm_inj' h0 h1 hi9 hj (Sum.inr.inj e)
      rw [if_pos e, this]
      exact ⟨v, rfl, hv⟩
    · rw [if_neg e]
      rcases List.mem_append.mp hi with hi | hi
      · exact h.has i hi
      · have : i = j := by simpa using hi
        rw [this] at e
        exact absurd rfl e
  · have := length_putK kvs (kW st j) v
    have := h.len
    rw [List.length_append]
    show _ ≤ _ + 1
    omega
def rhoOf (kvs : List (Key × V)) (st : Int) (j : Nat) : V := (valV kvs (kW st j)).getD .non
theorem Made.holds {kvs : List (Key × V)} {st : Int} {l : List Nat} (h : Made kvs st l) : Holds kvs st (rhoOf kvs st) l := by
  intro j hj
  obtain ⟨v, e, hv⟩ := h.has j hj
  unfold rhoOf
  rw [e]
  exact ⟨rfl, hv⟩
def spValues (K : PySem.W.Frag) : Sp := fun vs H Q _ => ∃ (a p : Addr) (v : V) (e : Ex) (m : Nat) (t : Ty) (st : Int), vs = [.ref a, .ref p, v] ∧ Src H a ∧ Nms K H p st ∧ p ≠ a ∧ ExAt K H st e v ∧ e.ok m t ∧ m ≤ 10 ∧
  ∀ (d : Addr) (kvs : List (Key × V)) (H' : Hp), Stp a H H' → H d = none → H' d = some (.dK kvs) → Made kvs st (vars e) → Q (.ref d) H'
theorem nm9_at {st : Int} {j : Nat} (h : j < 9) : (nm9 st)[j]? = some (.str (nmW st j)) := by
  unfold nm9
  rw [List.getElem?_map, List.getElem?_range h]
  rfl
theorem eqV_str (a b : Str) : eqV (.str a) (.str b) = decide (a = b) := by
  by_cases h : a = b
  · subst h
    simp [eqV]
  · simp [eqV, h]
section
variable {P : Program} {w : World} {K : PySem.W.Frag} {mg : Str → Option Value} {base : Heap}
theorem ok_l_values (T : Txt K mg) : FnOk P w K mg base CX0 11 T.a_l_values T.d_l_values p_l_values (spValues K) := by
  have g_l_pick := ok_l_pick (P := P) (w := w) (base := base) T
  have g_l_one := ok_l_one (P := P) (w := w) (K := K) (base := base) T
  have g_l_figure := ok_l_figure (P := P) (w := w) (K := K) (base := base) T
  have g_l_variables := fun (m : Nat) (hm : m ≤ 10) => ok_l_variables (P := P) (w := w) (K := K) (base := base) T m hm
  refine T.F_l_values.ok sc_l_values (fun vs H Q E h => ?_) (fun cdv A outer s H vs Q E hr h => ?_)
  · obtain ⟨a, p, v, e, m, t, st, rfl, _⟩ := h
    rfl
  obtain ⟨a, p, v, e, m, t, st, rfl, hS, hN, ne, hx, ho, hm, q⟩ := h
  have g_l_variables := g_l_variables m hm
  refine ⟨_, (pss_cons (ps_set (i := 3) sc_l_values.nd rfl (Or.inl rfl) pe_dnewK)
      (pss_cons (ps_for PassesOwn.never rfl (pi_list (pe_call g_l_variables (hr.mono (by first | decide | omega)) rfl T.m_l_variables T.F_l_variables.kp T.b_l_variables .nil pass0 (pa_cons (pv 2) pa_nil))) (pg_name (i := 4) sc_l_values.nd rfl (Or.inl rfl))
        (pss_cons (ps_set (i := 5) sc_l_values.nd rfl (Or.inl rfl) (pe_bm PySem.F.plainAttrs_list PySem.F.slot_list_index PySem.F.type_list_index mt_index (pv 1) (pa_cons (pv 4) pa_nil)))
      (pss_one (ps_if (pt_cmpR op_lt (pv 5) pe_int (nomark _)) (pss_one (ps_dput (hu_of hr) (pv 3) (pv 4) (pe_call g_l_figure (hr.mono (by first | decide | omega)) rfl T.m_l_figure T.F_l_figure.kp T.b_l_figure .nil pass0 (pa_cons (pv 0) pa_nil)) rfl)) (pss_one (ps_if (pt_cmpR op_lt (pv 5) pe_int (nomark _)) (pss_one (ps_dput (hu_of hr) (pv 3) (pv 4) (pe_cmpR op_eq (pe_call g_l_pick (hr.mono (by first | decide | omega)) rfl T.m_l_pick T.F_l_pick.kp T.b_l_pick .nil pass0 (pa_cons (pv 0) (pa_cons pe_int pa_nil))) pe_int (nomark _)) rfl)) (pss_one (ps_dput (hu_of hr) (pv 3) (pv 4) (pe_call g_l_one (hr.mono (by first | decide | omega)) rfl T.m_l_one T.F_l_one.kp T.b_l_one .nil pass0 (pa_cons (pv 0) (pa_cons (pe_lst (pa_cons pe_non (pa_cons pe_non (pa_cons pe_int (pa_cons pe_int (pa_cons pe_int (pa_cons (pe_op op_mul pe_int (pe_call g_l_pick (hr.mono (by first | decide | omega)) rfl T.m_l_pick T.F_l_pick.kp T.b_l_pick .nil pass0 (pa_cons (pv 0) (pa_cons pe_int pa_nil)))) pa_nil))))))) pa_nil))) rfl))))))))
      (pss_one (ps_ret (pv 3))))), ?_⟩
  intro d hd
  have st0 : Stp a H (upd H d (.dK [])) := (Stp.refl hS).new hd
  have s0 := Same.new hd (.dK [])
  refine ⟨_, rfl, v, e, t, st, rfl, ExAt.keep (Keeps.of_same s0) hx, ho, fun r H1 s1 hr0 hr1 => ?_⟩
  have st1 := st0.same s1
  have nr : r ≠ a := (st0.s.ne hr0).symm
  have nrd : d ≠ r := ne_of_none upd_same hr0
  have hd1 : H1 d = some (.dK []) := s1 _ _ upd_same
  have all9 := vars_lt ho
  refine ⟨r, rfl, ⟨_, SqL.of hr1⟩, for_list (K := K) (a := r) (xs := nmL st (vars e)) (fun i σ H' => Stp a H H' ∧ H' r = some (.lst (nmL st (vars e))) ∧ ∃ (kvs : List (Key × V)) (v1 v2 : Option V), H' d = some (.dK kvs) ∧ Made kvs st ((vars e).take i) ∧ σ = [some (.ref a), some (.ref p), some v, some (.ref d), v1, v2]) ⟨st1, hr1, [], none, none, hd1, Made.nil st, rfl⟩ (fun i σ H' _ ⟨_, h, _⟩ => SqL.of h) ?_ ?_⟩
  · rintro i y σ H' hi ⟨sti, hri, kvs, v1, v2, hdi, mk, rfl⟩
    have hil : i < (vars e).length := by
      have := (List.getElem?_eq_some_iff.mp hi).1
      unfold nmL at this
      rwa [List.length_map] at this
    obtain ⟨j, hj, rfl⟩ : ∃ j, (vars e)[i]? = some j ∧ y = .str (nmW st j) := by
      unfold nmL at hi
      rw [List.getElem?_map, List.getElem?_eq_getElem hil] at hi
      exact ⟨_, List.getElem?_eq_getElem hil, (Option.some.inj hi).symm⟩
    have j9 : j < 9 := all9 j (List.mem_of_getElem? hj)
    have take1 : (vars e).take (i + 1) = (vars e).take i ++ [j] := by
      rw [List.take_add_one, hj]
      rfl
    have l9 : ∀ k ∈ (vars e).take i, k < 9 := fun k hk => all9 k (List.mem_of_mem_take hk)
    have hNi := hN.stp sti ne
    -- names.index(name)
    have first : ∀ (m' : Nat) (z' : V), m' < j → (nm9 st)[m']? = some z' → eqV z' (.str (nmW st j)) = false := by
      intro m' z' hm' hz
      rw [nm9_at (by omega)] at hz
      obtain rfl := Option.some.inj hz
      rw [eqV_str]
      exact decide_eq_false fun z => absurd (nm_inj' hN.lo hN.hi (by omega) j9 z) (by omega)
    refine ⟨_, rfl, .inl ⟨rfl, _, hNi.at_⟩, _, rfl, p, _, _, j, _, rfl, rfl, hNi.at_, rfl, rfl, nm9_at j9, (by rw [eqV_str]; exact decide_eq_true rfl), first, ?_⟩
    have lk : kvs.length < sizeLine := by
      have a1 := mk.len
      have a2 := vars_len ho
      have a3 : ((vars e).take i).length ≤ (vars e).length := List.length_take_le' _ _
      have p2 : 2 ^ m ≤ 2 ^ 10 := Nat.pow_le_pow_right (by decide) hm
      have p3 : (2 : Nat) ^ 10 = 1024 := by decide
      rw [sizeLine_eq]
      omega
    -- what follows a store
    have fin : ∀ (H3 : Hp) (x : V), Stp a H' H3 → VOk (vt j) x → flatB x = true → H3 d = some (.dK kvs) ∧ (Stp a H (upd H3 d (.dK (putK kvs (kW st j) x))) ∧ (upd H3 d (.dK (putK kvs (kW st j) x))) r = some (.lst (nmL st (vars e))) ∧ ∃ (kvs' : List (Key × V)) (v1 v2 : Option V), (upd H3 d (.dK (putK kvs (kW st j) x))) d = some (.dK kvs') ∧ Made kvs' st ((vars e).take (i + 1)) ∧ ([some (.ref a), some (.ref p), some v, some (.ref d), some (.str (nmW st j)), some (.int ((j : Nat) : Int))] : List (Option V)) = [some (.ref a), some (.ref p), some v, some (.ref d), v1, v2]) := by
      intro H3 x st3 hv fl
      have nda : d ≠ a := (hS.ne hd).symm
      have hd3 := st3.k _ _ nda hdi
      refine ⟨hd3, ?_, ?_, putK kvs (kW st j) x, _, _, upd_same, ?_, rfl⟩
      · obtain ⟨c1, m1, k1, hc⟩ := st3.s
        refine ⟨⟨c1, m1, k1, by rw [upd_ne nda.symm]; exact hc⟩, fun b o hb e => ?_⟩
        rw [upd_ne (ne_of_none e hd)]
        exact st3.k b o hb (sti.k b o hb e)
      · rw [upd_ne nrd.symm]
        exact st3.k _ _ nr hri
      · rw [take1]
        exact mk.put hN.lo hN.hi l9 j9 hv fl
    refine ⟨_, rfl, _, _, rfl, rfl, _, rfl, ite2 (fun h => ?_) (fun h => ?_)⟩
    · have c : j < 3 := by
        have : ((j : Nat) : Int) < 3 := of_decide_eq_true h
        omega
      refine ⟨_, rfl, a, rfl, sti.s, fun x H3 st3 hf => ?_⟩
      have f := fin H3 (.int x) st3 (by show VOk (vt j) _; unfold vt; rw [if_pos c]; exact ⟨x, rfl, hf⟩) rfl
      exact ⟨_, rfl, _, rfl, d, _, rfl, DPut.k (k := kW st j) f.1 lk, f.2⟩
    have c3 : ¬ j < 3 := by
      have : ¬ ((j : Nat) : Int) < 3 := of_decide_eq_false (Bool.eq_false_iff.mpr h)
      omega
    refine ⟨_, rfl, _, _, rfl, rfl, _, rfl, ite2 (fun h => ?_) (fun h => ?_)⟩
    · have c : j < 5 := by
        have : ((j : Nat) : Int) < 5 := of_decide_eq_true h
        omega
      refine ⟨_, rfl, a, 2, rfl, sti.s, by decide, fun x H3 st3 _ _ => ⟨rfl, ?_⟩⟩
      have f := fin H3 (.bl (decide (V.int x = V.int 1))) st3 (by show VOk (vt j) _; unfold vt; rw [if_neg c3, if_pos c]; exact ⟨_, rfl⟩) rfl
      exact ⟨_, rfl, _, rfl, d, _, rfl, DPut.k (k := kW st j) f.1 lk, f.2⟩
    · have c5 : ¬ j < 5 := by
        have : ¬ ((j : Nat) : Int) < 5 := of_decide_eq_false (Bool.eq_false_iff.mpr h)
        omega
      refine ⟨_, rfl, _, rfl, a, 300, rfl, sti.s, by decide, fun z H3 st3 z0 z1 => ⟨9, z, rfl, rfl, .inl ⟨by decide, by decide⟩, by show 6 ≤ sizeLine; decide, fun l hl => ?_⟩⟩
      have st4 := st3.new (o := .lst [.non, .non, .int 0, .int 1, .int 2, .int (9 * z)]) hl
      refine ⟨a, _, rfl, st4.s, .inl ⟨l, _, rfl, (st3.s.ne hl).symm, SqL.of upd_same, by show 0 < 6; decide, by show 6 < 1000; decide, fun x H5 hx5 st5 => ?_⟩⟩
      have hxx : (x = .non ∨ ∃ i, x = .int i) ∧ flatB x = true := by
        simp at hx5
        rcases hx5 with rfl | rfl | rfl | rfl | rfl
        · exact ⟨.inl rfl, rfl⟩
        all_goals exact ⟨.inr ⟨_, rfl⟩, rfl⟩
      have f := fin H5 x (st4.trans st5) (by show VOk (vt j) _; unfold vt; rw [if_neg c3, if_neg c5]; exact hxx.1) hxx.2
      exact ⟨_, rfl, _, rfl, d, _, rfl, DPut.k (k := kW st j) f.1 lk, f.2⟩
  · rintro σ H' ⟨sti, hri, kvs, v1, v2, hdi, mk, rfl⟩
    refine ⟨_, rfl, q d kvs H' sti hd hdi ?_⟩
    have e1 : (nmL st (vars e)).length = (vars e).length := List.length_map _
    rw [e1, List.take_length] at mk
    exact mk
end
/-! ### d.update(e), two dicts -/
def rUpd : V → List V → Hp → VK → Prop := fun x vs H Q => ∃ (a b : Addr) (ks ls : List (Key × V)), x = .ref a ∧ vs = [.ref b] ∧ a ≠ b ∧ H a = some (.dK ks) ∧ H b = some (.dK ls) ∧ ks.length + ls.length ≤ 100000 ∧ Q .non (upd H a (.dK (mergeK ks ls)))
theorem mtd_upd {X : Cx} : MtR X "dict.update" rUpd := by
  intro pins s σ H x vs v us Q I rx rv h
  obtain ⟨a, b, ks, ls, rfl, rfl, nab, ha, hb, hl, q⟩ := h
  obtain rfl : v = Value.ref a := rx
  obtain ⟨u, rfl, ru⟩ := vals1 rv
  obtain rfl : u = Value.ref b := ru
  obtain ⟨z1, y1, v1, r1, d1⟩ := dk_of I.hok ha
  obtain ⟨z2, y2, v2, r2, d2⟩ := dk_of I.hok hb
  have hsz : v1.length + v2.length ≤ sizeLine := by
    rw [← r1.length, ← r2.length, sizeLine_eq]
    omega
  refine call_meetsIn PySem.F.slot_dict_update d1.typeIs PySem.F.entry_dict_update (PySem.F.args_dict_update_2 _ _) (meets_dict_update (mixKind X.prog X.w) a b nab y2) ⟨v1, v2, d1, d2, hsz, fun h' m1 _ sb => ?_⟩
  have he : ∃ o, h'.get? a = some o := let ⟨o, _, _, ho, _⟩ := m1; ⟨o, ho⟩
  have hz : (mergeK ks ls).length ≤ sizeLine := by
    have := length_mergeK ls ks
    rw [sizeLine_eq]
    omega
  exact ⟨.non, _, d_write (t' := s.toks) I (by rw [ha]; exact True.intro) sb he (dk_new hz y1 (KV.merge r2 r1) m1), rfl, q⟩
/-! ### the law -/
theorem EOk.dp {K : PySem.W.Frag} {H : Hp} {m : Nat} {t : Ty} {v : V} (h : EOk m t v) : ∃ d, Dp K H v d ∧ Dok 1 d := by
  cases t with
  | N => obtain ⟨i, rfl, _⟩ := h; exact ⟨_, .int i, trivial⟩
  | B => obtain ⟨i, rfl⟩ := h; exact ⟨_, .bl i, trivial⟩
  | R =>
    rcases h with rfl | ⟨i, rfl⟩
    · exact ⟨_, .non, trivial⟩
    · exact ⟨_, .int i, trivial⟩
def spAgrees (K : PySem.W.Frag) : Sp := fun vs H Q _ => ∃ (v : V) (e : Ex) (m : Nat) (t : Ty) (st : Int) (d1 d2 : Addr) (k1 k2 : List (Key × V)), vs = [v, .ref d1, .ref d2] ∧ ExAt K H st e v ∧ e.ok m t ∧ m ≤ 9 ∧ d1 ≠ d2 ∧ H d1 = some (.dK k1) ∧ H d2 = some (.dK k2) ∧ Made k1 st (vars e) ∧ Made k2 st (vars e) ∧ ∀ H', Same H H' → Q (.bl true) H'
def spLaw (K : PySem.W.Frag) : Sp := fun vs H Q _ => ∃ (a : Addr) (ns : List Int), vs = [.ref a] ∧ SqL K H a (ns.map V.int) ∧ ns.length ≤ 63 ∧ ∀ H', Q (.bl true) H'
theorem Made.eqd {kvs : List (Key × V)} {st : Int} {l : List Nat} (h : Made kvs st l) : ∀ p ∈ kvs, valV kvs p.1 = some p.2 ∧ flatB p.2 = true := fun p hp => ⟨val_self h.nd p hp, h.flat p hp⟩
section
variable {P : Program} {w : World} {K : PySem.W.Frag} {mg : Str → Option Value} {base : Heap}
theorem ok_l_agrees (T : Txt K mg) : FnOk P w K mg base CX0 12 T.a_l_agrees T.d_l_agrees p_l_agrees (spAgrees K) := by
  have g_l_value' := fun (m : Nat) (hm : m ≤ 9) => ok_l_value (P := P) (w := w) (K := K) (base := base) T m (by omega)
  have g_evaluate' := fun (m : Nat) (hm : m ≤ 9) => ok_evaluate (P := P) (w := w) (K := K) (base := base) T m (by omega)
  have g_l_same := ok_l_same (P := P) (w := w) (K := K) (base := base) T 1
  refine T.F_l_agrees.ok sc_l_agrees (fun vs H Q E h => ?_) (fun cdv A outer s H vs Q E hr h => ?_)
  · obtain ⟨v, e, m, t, st, d1, d2, k1, k2, rfl, _⟩ := h
    rfl
  obtain ⟨v, e, m, t, st, d1, d2, k1, k2, rfl, hx, ho, hm, hd12, h1, h2, M1, M2, q⟩ := h
  have g_l_value := g_l_value' m hm
  have g_evaluate := g_evaluate' m hm
  refine ⟨_, (pss_cons (ps_set (i := 3) sc_l_agrees.nd rfl (Or.inl rfl) (pe_call g_l_value (hr.mono (by first | decide | omega)) rfl T.m_l_value T.F_l_value.kp T.b_l_value .nil pass0 (pa_cons (pv 0) (pa_cons (pv 1) pa_nil))))
      (pss_cons (ps_set (i := 4) sc_l_agrees.nd rfl (Or.inl rfl) (pe_call g_l_value (hr.mono (by first | decide | omega)) rfl T.m_l_value T.F_l_value.kp T.b_l_value .nil pass0 (pa_cons (pv 0) (pa_cons (pv 2) pa_nil))))
      (pss_cons (ps_set (i := 5) sc_l_agrees.nd rfl (Or.inl rfl) (pe_callTy call_dictD rfl T.z_dict bt_dict (pa_cons (pv 1) pa_nil)))
      (pss_cons (ps_if (PW.pt (pw_or (pt_not (pt_val (pe_call g_l_same (hr.mono (by first | decide | omega)) rfl T.m_l_same T.F_l_same.kp T.b_l_same .nil pass0 (pa_cons (pe_call g_evaluate (hr.mono (by first | decide | omega)) rfl T.m_evaluate T.F_evaluate.kp T.b_evaluate .nil pass0 (pa_cons (pv 0) (pa_cons (pv 5) pa_nil))) (pa_cons (pv 3) pa_nil))))) (pw_or1 (pt_cmpR (op_ne_dictA hr.units0) (pv 5) (pv 1) (nomark _))))) (pss_one (ps_ret pe_bl)) pss_nil)
      (pss_cons (ps_if (pt_not (pt_val (pe_call g_l_same (hr.mono (by first | decide | omega)) rfl T.m_l_same T.F_l_same.kp T.b_l_same .nil pass0 (pa_cons (pe_call g_evaluate (hr.mono (by first | decide | omega)) rfl T.m_evaluate T.F_evaluate.kp T.b_evaluate .nil pass0 (pa_cons (pv 0) (pa_cons (pe_callTy call_dictD rfl T.z_dict bt_dict (pa_cons (pv 2) pa_nil)) pa_nil))) (pa_cons (pv 4) pa_nil))))) (pss_one (ps_ret pe_bl)) pss_nil)
      (pss_cons (ps_if (PW.pt (pw_or (pt_not (pt_val (pe_call g_l_same (hr.mono (by first | decide | omega)) rfl T.m_l_same T.F_l_same.kp T.b_l_same .nil pass0 (pa_cons (pe_call g_evaluate (hr.mono (by first | decide | omega)) rfl T.m_evaluate T.F_evaluate.kp T.b_evaluate .nil pass0 (pa_cons (pv 0) (pa_cons (pv 5) pa_nil))) (pa_cons (pv 3) pa_nil))))) (pw_or1 (pt_cmpR (op_ne_dictA hr.units0) (pv 5) (pv 1) (nomark _))))) (pss_one (ps_ret pe_bl)) pss_nil)
      (pss_cons (ps_expr (pe_bm PySem.F.plainAttrs_dict PySem.F.slot_dict_update PySem.F.type_dict_update mtd_upd (pv 5) (pa_cons (pv 2) pa_nil)))
      (pss_one (ps_ret (pe_and (pe_call g_l_same (hr.mono (by first | decide | omega)) rfl T.m_l_same T.F_l_same.kp T.b_l_same .nil pass0 (pa_cons (pe_call g_evaluate (hr.mono (by first | decide | omega)) rfl T.m_evaluate T.F_evaluate.kp T.b_evaluate .nil pass0 (pa_cons (pv 0) (pa_cons (pv 5) pa_nil))) (pa_cons (pv 4) pa_nil))) (pe_one (pe_cmpR (op_eq_dictA hr.units0) (pv 5) (pv 2) (nomark _))))))))))))), ?_⟩
  have ho1 := M1.holds
  have ho2 := M2.holds
  have E1 := ev_ok ho (fun j hj => (ho1 j hj).2)
  have E2 := ev_ok ho (fun j hj => (ho2 j hj).2)
  -- due, other, passed
  refine ⟨_, rfl, _, rfl, v, d1, e, t, st, rhoOf k1 st, k1, rfl, hx, ho, h1, ho1, fun H1 s1 => ?_⟩
  refine ⟨_, rfl, _, rfl, v, d2, e, t, st, rhoOf k2 st, k2, rfl, ExAt.keep (Keeps.of_same s1) hx, ho, s1 _ _ h2, ho2, fun H2 s2 => ?_⟩
  have s12 := s1.trans s2
  refine ⟨_, rfl, d1, k1, rfl, .inl (s12 _ _ h1), fun p hp => ?_⟩
  have s3 := Same.new hp (.dK k1)
  have s13 := s12.trans s3
  have np1 : p ≠ d1 := (ne_of_none (s12 _ _ h1) hp).symm
  have np2 : p ≠ d2 := (ne_of_none (s12 _ _ h2) hp).symm
  have x3 := ExAt.keep (Keeps.of_same s13) hx
  have g1 := s13 _ _ h1
  have g2 := s13 _ _ h2
  have gp : (upd H2 p (.dK k1)) p = some (.dK k1) := upd_same
  generalize (upd H2 p (.dK k1)) = H3 at s3 s13 x3 g1 g2 gp ⊢
  obtain ⟨w1, W1, D1⟩ := EOk.dp (K := K) (H := H3) E1
  -- if not same(evaluate(expression, passed), due) or passed != first
  refine ⟨_, rfl, _, rfl, v, p, e, t, st, rhoOf k1 st, k1, rfl, x3, ho, gp, ho1, ?_⟩
  refine ⟨_, rfl, _, _, w1, rfl, W1, W1, D1, _, rfl, iteF ?_⟩
  refine ⟨_, rfl, _, rfl, p, d1, k1, k1, rfl, rfl, gp, g1, rfl, M1.eqd, _, rfl, iteF ?_⟩
  -- if not same(evaluate(expression, dict(second)), other)
  refine ⟨_, rfl, _, rfl, d2, k2, rfl, .inl g2, fun r hnr => ?_⟩
  have s4 := Same.new hnr (.dK k2)
  have x4 := ExAt.keep (Keeps.of_same s4) x3
  obtain ⟨w2, W2, D2⟩ := EOk.dp (K := K) (H := upd H3 r (.dK k2)) E2
  refine ⟨v, r, e, t, st, rhoOf k2 st, k2, rfl, x4, ho, upd_same, ho2, ?_⟩
  refine ⟨_, rfl, _, _, w2, rfl, W2, W2, D2, _, rfl, iteF ?_⟩
  have gp4 := s4 _ _ gp
  have g14 := s4 _ _ g1
  have g24 := s4 _ _ g2
  have s14 := s13.trans s4
  generalize (upd H3 r (.dK k2)) = H4 at x4 gp4 g14 g24 s14 ⊢
  obtain ⟨w3, W3, D3⟩ := EOk.dp (K := K) (H := H4) E1
  -- once more the first one
  refine ⟨_, rfl, _, rfl, v, p, e, t, st, rhoOf k1 st, k1, rfl, x4, ho, gp4, ho1, ?_⟩
  refine ⟨_, rfl, _, _, w3, rfl, W3, W3, D3, _, rfl, iteF ?_⟩
  refine ⟨_, rfl, _, rfl, p, d1, k1, k1, rfl, rfl, gp4, g14, rfl, M1.eqd, _, rfl, iteF ?_⟩
  -- passed.update(second)
  have lens : k1.length + k2.length ≤ 100000 := by
    have a1 := M1.len
    have a2 := M2.len
    have a3 := vars_len ho
    have p2 : 2 ^ m ≤ 2 ^ 10 := Nat.pow_le_pow_right (by decide) (by omega)
    have p3 : (2 : Nat) ^ 10 = 1024 := by decide
    omega
  refine ⟨_, rfl, .inr (.inr (.inl ⟨rfl, .inl ⟨_, gp4⟩⟩)), _, rfl, p, d2, k1, k2, rfl, rfl, np2, gp4, g24, lens, ?_⟩
  rw [merge_same (M1.keys.trans M2.keys.symm) M1.nd]
  have kp : Keeps K H4 (upd H4 p (.dK k2)) := by
    intro b xs hb
    rcases hb with (hb | ⟨o, hb⟩) | hb
    · exact .inl (.inl (by rw [upd_ne (ne_of hb gp4 (by intro z; cases z))]; exact hb))
    · exact .inl (.inr ⟨o, by rw [upd_ne (ne_of hb gp4 (by intro z; cases z))]; exact hb⟩)
    · exact .inr hb
  obtain ⟨w4, W4, D4⟩ := EOk.dp (K := K) (H := upd H4 p (.dK k2)) E2
  have hfin : Same H (upd H4 p (.dK k2)) := fun b o hb => by
    have nb : b ≠ p := ne_of_none (s12 _ _ hb) hp
    rw [upd_ne nb]
    exact s14 _ _ hb
  refine ⟨_, rfl, _, rfl, v, p, e, t, st, rhoOf k2 st, k2, rfl, ExAt.keep kp x4, ho, upd_same, ho2, ?_⟩
  refine ⟨_, rfl, _, _, w4, rfl, W4, W4, D4, _, rfl, iteT ?_⟩
  exact ⟨_, rfl, _, rfl, p, d2, k2, k2, rfl, rfl, upd_same, (by rw [upd_ne np2.symm]; exact g24), rfl, M2.eqd, q _ hfin⟩
/-- what the law's loop leans on -/
structure J (K : PySem.W.Frag) (H : Hp) (b1 b2 p : Addr) (st : Int) : Prop where
  s1 : Src H b1
  s2 : Src H b2
  nm : Nms K H p st
theorem Src.stp {a b : Addr} {H H' : Hp} (h : Src H b) (s : Stp a H H') (ne : b ≠ a) : Src H' b := by
  obtain ⟨c, m, k, h⟩ := h
  exact ⟨c, m, k, s.k _ _ ne h⟩
theorem J.st1 {H H' : Hp} {b1 b2 p : Addr} {st : Int} (j : J K H b1 b2 p st) (s : Stp b1 H H') (n : b2 ≠ b1) (np : p ≠ b1) : J K H' b1 b2 p st := ⟨s.s, Src.stp j.s2 s n, j.nm.stp s np⟩
theorem J.st2 {H H' : Hp} {b1 b2 p : Addr} {st : Int} (j : J K H b1 b2 p st) (s : Stp b2 H H') (n : b1 ≠ b2) (np : p ≠ b2) : J K H' b1 b2 p st := ⟨Src.stp j.s1 s n, s.s, j.nm.stp s np⟩
theorem J.same {H H' : Hp} {b1 b2 p : Addr} {st : Int} (j : J K H b1 b2 p st) (s : Same H H') : J K H' b1 b2 p st := ⟨(Stp.of_same j.s1 s).s, (Stp.of_same j.s2 s).s, j.nm.same s⟩
theorem ok_law (T : Txt K mg) : FnOk P w K mg base CX0 20 T.a_law T.d_law p_law (spLaw K) := by
  have g_l_cell := ok_l_cell (P := P) (w := w) (K := K) (base := base) T
  have g_l_source := ok_l_source (P := P) (w := w) (base := base) T
  have g_l_pick := ok_l_pick (P := P) (w := w) (base := base) T
  have g_l_names := ok_l_names (P := P) (w := w) (base := base) T
  have g_l_link := ok_l_link (P := P) (w := w) (K := K) (base := base) T
  have g_l_term := ok_l_term (P := P) (w := w) (K := K) (base := base) T 8
  have g_l_fact := ok_l_fact (P := P) (w := w) (K := K) (base := base) T 8
  have g_l_values := ok_l_values (P := P) (w := w) (K := K) (base := base) T
  have g_l_agrees := ok_l_agrees (P := P) (w := w) (K := K) (base := base) T
  refine T.F_law.ok sc_law (fun vs H Q E h => ?_) (fun cdv A outer s H vs Q E hr h => ?_)
  · obtain ⟨a, ns, rfl, _⟩ := h
    rfl
  obtain ⟨a, ns, rfl, hS, h63, q⟩ := h
  refine ⟨_, (pss_cons (ps_set (i := 1) sc_law.nd rfl (Or.inl rfl) (pe_call g_l_source (hr.mono (by first | decide | omega)) rfl T.m_l_source T.F_l_source.kp T.b_l_source .nil pass0 (pa_cons (pe_op op_add (pe_call g_l_cell (hr.mono (by first | decide | omega)) rfl T.m_l_cell T.F_l_cell.kp T.b_l_cell .nil pass0 (pa_cons (pv 0) (pa_cons pe_int pa_nil))) (pe_op op_mul pe_int (pe_call g_l_cell (hr.mono (by first | decide | omega)) rfl T.m_l_cell T.F_l_cell.kp T.b_l_cell .nil pass0 (pa_cons (pv 0) (pa_cons pe_int pa_nil))))) pa_nil)))
      (pss_cons (ps_set (i := 2) sc_law.nd rfl (Or.inl rfl) (pe_call g_l_source (hr.mono (by first | decide | omega)) rfl T.m_l_source T.F_l_source.kp T.b_l_source .nil pass0 (pa_cons (pe_op op_add (pe_call g_l_cell (hr.mono (by first | decide | omega)) rfl T.m_l_cell T.F_l_cell.kp T.b_l_cell .nil pass0 (pa_cons (pv 0) (pa_cons pe_int pa_nil))) (pe_op op_mul pe_int (pe_call g_l_cell (hr.mono (by first | decide | omega)) rfl T.m_l_cell T.F_l_cell.kp T.b_l_cell .nil pass0 (pa_cons (pv 0) (pa_cons pe_int pa_nil))))) pa_nil)))
      (pss_cons (ps_set (i := 3) sc_law.nd rfl (Or.inl rfl) (pe_slice sl_list (pe_call g_l_names (hr.mono (by first | decide | omega)) rfl T.m_l_names T.F_l_names.kp T.b_l_names .nil pass0 (pa_cons (pv 1) pa_nil)) po_none (po_some pe_int)))
      (pss_cons (ps_for PassesOwn.never rfl (pi_list (pe_lst (pa_cons (pe_op op_add pe_int (pe_callTy call_int1 rfl T.z_int bt_int (pa_cons (pe_cmpR op_eq (pe_call g_l_pick (hr.mono (by first | decide | omega)) rfl T.m_l_pick T.F_l_pick.kp T.b_l_pick .nil pass0 (pa_cons (pv 1) (pa_cons pe_int pa_nil))) pe_int (nomark _)) pa_nil))) (pa_cons pe_int (pa_cons pe_int pa_nil))))) (pg_name (i := 4) sc_law.nd rfl (Or.inl rfl))
        (pss_cons (ps_set (i := 5) sc_law.nd rfl (Or.inl rfl) (pe_call g_l_pick (hr.mono (by first | decide | omega)) rfl T.m_l_pick T.F_l_pick.kp T.b_l_pick .nil pass0 (pa_cons (pv 1) (pa_cons pe_int pa_nil))))
      (C8.pss_cut (ps_if (pt_cmpR op_eq (pv 5) pe_int (nomark _)) (pss_one (ps_set (i := 6) sc_law.nd rfl (Or.inl rfl) (pe_call g_l_link (hr.mono (by first | decide | omega)) rfl T.m_l_link T.F_l_link.kp T.b_l_link .nil pass0 (pa_cons (pv 1) (pa_cons (pe_slice sl_list (pv 3) (po_some pe_int) (po_some pe_int)) pa_nil))))) (pss_one (ps_if (pt_cmpR op_lt (pv 5) pe_int (nomark _)) (pss_one (ps_set (i := 6) sc_law.nd rfl (Or.inl rfl) (pe_call g_l_term (hr.mono (by first | decide | omega)) rfl T.m_l_term T.F_l_term.kp T.b_l_term .nil pass0 (pa_cons (pv 1) (pa_cons (pv 3) (pa_cons (pv 4) pa_nil)))))) (pss_one (ps_set (i := 6) sc_law.nd rfl (Or.inl rfl) (pe_call g_l_fact (hr.mono (by first | decide | omega)) rfl T.m_l_fact T.F_l_fact.kp T.b_l_fact .nil pass0 (pa_cons (pv 1) (pa_cons (pv 3) (pa_cons (pv 4) pa_nil)))))))))
      (pss_cons (ps_set (i := 7) sc_law.nd rfl (Or.inl rfl) (pe_call g_l_values (hr.mono (by first | decide | omega)) rfl T.m_l_values T.F_l_values.kp T.b_l_values .nil pass0 (pa_cons (pv 2) (pa_cons (pv 3) (pa_cons (pv 6) pa_nil)))))
      (pss_cons (ps_set (i := 8) sc_law.nd rfl (Or.inl rfl) (pe_call g_l_values (hr.mono (by first | decide | omega)) rfl T.m_l_values T.F_l_values.kp T.b_l_values .nil pass0 (pa_cons (pv 2) (pa_cons (pv 3) (pa_cons (pv 6) pa_nil)))))
      (pss_one (ps_if (pt_not (pt_val (pe_call g_l_agrees (hr.mono (by first | decide | omega)) rfl T.m_l_agrees T.F_l_agrees.kp T.b_l_agrees .nil pass0 (pa_cons (pv 6) (pa_cons (pv 7) (pa_cons (pv 8) pa_nil)))))) (pss_one (ps_ret pe_bl)) pss_nil)))))))
      (pss_one (ps_ret pe_bl)))))), ?_⟩
  refine ⟨_, rfl, a, ns, 0, rfl, hS, by decide, fun c0 => ⟨_, rfl, a, ns, 2, rfl, hS, by decide, fun c2 => ⟨65537, c2, rfl, rfl, .inl ⟨by decide, by decide⟩, _, _, rfl, rfl, ?_⟩⟩⟩
  refine ⟨_, rfl, fun b1 H1 hb1 s1 S1 => ?_⟩
  refine ⟨_, rfl, a, ns, 1, rfl, s1.seq hS, by decide, fun c1 => ⟨_, rfl, a, ns, 0, rfl, s1.seq hS, by decide, fun c0' => ⟨31, c0', rfl, rfl, .inl ⟨by decide, by decide⟩, _, _, rfl, rfl, ?_⟩⟩⟩
  refine ⟨_, rfl, fun b2 H2 hb2 s2 S2 => ?_⟩
  have S12 : Src H2 b1 := (Stp.of_same S1 s2).s
  have n12 : b1 ≠ b2 := S1.ne hb2
  refine ⟨_, rfl, b1, rfl, S12, fun st l H3 st3 hl0 t0 t1 hl => ⟨9, rfl, l, _, rfl, SqL.of hl, fun p hp => ?_⟩⟩
  rw [cut_9]
  have np1 : p ≠ b1 := (st3.s.ne hp).symm
  have S23 : Src H3 b2 := by
    obtain ⟨c, m, k, h⟩ := S2
    exact ⟨c, m, k, st3.k _ _ n12.symm h⟩
  have np2 : p ≠ b2 := (S23.ne hp).symm
  have S14 := (st3.new (o := .lst (nm9 st)) hp).s
  have S24 := ((Stp.refl S23).new (o := .lst (nm9 st)) hp).s
  have N4 : Nms K (upd H3 p (.lst (nm9 st))) p st := ⟨SqL.of upd_same, t0, t1⟩
  generalize (upd H3 p (.lst (nm9 st))) = H4 at S14 S24 N4 ⊢
  refine ⟨_, rfl, b1, 4, rfl, S14, by decide, fun z H5 st5 _ _ => ⟨rfl, .inr ⟨_, rfl, 5, _, rfl, rfl, by show 3 ≤ sizeLine; decide, fun r hr5 => ?_⟩⟩⟩
  have J5 : J K H5 b1 b2 p st := J.st1 ⟨S14, S24, N4⟩ st5 n12.symm np1
  have d8 : ∀ k : Bool, 0 ≤ (5 : Int) + (if k then 1 else 0) ∧ (5 : Int) + (if k then 1 else 0) < ((8 : Nat) : Int) := by decide
  have hD8 := d8 (decide (V.int z = V.int 0))
  have J6 := J.same J5 (Same.new hr5 (.lst [.int (5 + (if decide (V.int z = V.int 0) = true then 1 else 0)), .int 3, .int 1]))
  have nr1 : r ≠ b1 := (J5.s1.ne hr5).symm
  have nr2 : r ≠ b2 := (J5.s2.ne hr5).symm
  refine ⟨r, rfl, ⟨_, SqL.of upd_same⟩, for_list (K := K) (a := r) (xs := [.int (5 + (if decide (V.int z = V.int 0) = true then 1 else 0)), .int 3, .int 1]) (fun i σ H' => J K H' b1 b2 p st ∧ SqL K H' r [.int (5 + (if decide (V.int z = V.int 0) = true then 1 else 0)), .int 3, .int 1] ∧ ∃ v1 v2 v3 v4 v5 : Option V, σ = [some (.ref a), some (.ref b1), some (.ref b2), some (.ref p), v1, v2, v3, v4, v5])
    ⟨J6, SqL.of upd_same, none, none, none, none, none, rfl⟩ (fun i σ H' _ ⟨_, h, _⟩ => h) ?_ ?_⟩
  · rintro i y σ H' hi ⟨j, hr', v1, v2, v3, v4, v5, rfl⟩
    obtain ⟨n, rfl, n0, n8⟩ : ∃ n : Int, y = .int n ∧ 0 ≤ n ∧ n < ((8 : Nat) : Int) := by
      have hm := List.mem_of_getElem? hi
      rcases List.mem_cons.mp hm with rfl | hm
      · exact ⟨_, rfl, hD8⟩
      rcases List.mem_cons.mp hm with rfl | hm
      · exact ⟨3, rfl, by decide, by decide⟩
      rcases List.mem_cons.mp hm with rfl | hm
      · exact ⟨1, rfl, by decide, by decide⟩
      · exact (List.not_mem_nil hm).elim
    refine ⟨_, rfl, b1, 6, rfl, j.s1, by decide, fun c H2 st2 c0 c1 => ?_⟩
    have j2 := J.st1 j st2 n12.symm np1
    have hr2 := st2.rdL hr' nr1
    refine ⟨fun σ H3 => Stp b1 H2 H3 ∧ ∃ (x : V) (e : Ex) (t : Ty), ExAt K H3 st e x ∧ e.ok 8 t ∧ σ = [some (.ref a), some (.ref b1), some (.ref b2), some (.ref p), some (.int n), some (.int c), some x, v4, v5], ⟨_, rfl, rfl, _, rfl, ite2 (fun _ => ?_) (fun _ => ?_)⟩, ?_⟩
    · refine ⟨_, rfl, _, rfl, 5, rfl, 7, rfl, p, _, rfl, j2.nm.at_, fun g hg => ?_⟩
      rw [cut_57]
      have st3 := (Stp.refl j2.s1).new (o := .lst [.str (nmW st 5), .str (nmW st 6)]) hg
      exact ⟨b1, g, st, 5, rfl, st3.s, SqL.of upd_same, (j2.s1.ne hg).symm, .inl rfl, fun x e H4 st4 o x4 => ⟨st3.trans st4, x, e, .R, x4, o 7, rfl⟩⟩
    · refine ⟨_, rfl, _, _, rfl, rfl, _, rfl, ite2 (fun _ => ?_) (fun _ => ?_)⟩
      · exact ⟨_, rfl, _, rfl, _, rfl, b1, p, n, st, rfl, j2.s1, j2.nm, np1, n0, n8, fun x e H4 st4 o x4 => ⟨st4, x, e, .N, x4, o, rfl⟩⟩
      · exact ⟨_, rfl, _, rfl, _, rfl, b1, p, n, st, rfl, j2.s1, j2.nm, np1, n0, n8, fun x e H4 st4 o x4 => ⟨st4, x, e, .B, x4, o, rfl⟩⟩
    · rintro σ H3 ⟨st3, x, e, t, x3, oe, rfl⟩
      have j3 := J.st1 j2 st3 n12.symm np1
      have hr3 := st3.rdL hr2 nr1
      refine ⟨_, rfl, _, rfl, _, rfl, b2, p, x, e, 8, t, st, rfl, j3.s2, j3.nm, np2, x3, oe, by decide, fun d1 k1 H4 st4 hd1 g1 M1 => ?_⟩
      have j4 := J.st2 j3 st4 n12 np2
      have x4 := ExAt.keep (Keeps.of_stp st4 j3.s2) x3
      refine ⟨_, rfl, _, rfl, _, rfl, b2, p, x, e, 8, t, st, rfl, j4.s2, j4.nm, np2, x4, oe, by decide, fun d2 k2 H5 st5 hd2 g2 M2 => ?_⟩
      have j5 := J.st2 j4 st5 n12 np2
      have nd : d1 ≠ d2 := ne_of_none g1 hd2
      have nd1 : d1 ≠ b2 := (j3.s2.ne hd1).symm
      have x5 := ExAt.keep (Keeps.of_stp st5 j4.s2) x4
      have hr5 := st5.rdL (st4.rdL hr3 nr2) nr2
      refine ⟨_, rfl, _, rfl, _, rfl, x, e, 8, t, st, d1, d2, k1, k2, rfl, x5, oe, by decide, nd, st5.k _ _ nd1 g1, g2, M1, M2, fun H6 s6 => ⟨_, rfl, iteF ?_⟩⟩
      exact ⟨J.same j5 s6, s6.seq hr5, _, _, _, _, _, rfl⟩
  · rintro σ H' ⟨_, _, v1, v2, v3, v4, v5, rfl⟩
    exact q H'
end
theorem all_mk {l : PySem.W.OpenLaw} {w : World} {K : PySem.W.Frag} {h : Heap} {mg : Str → Option Value} {fa : Addr} (X : K.In h) (G : h.Ns mainGlobals mg) (hfa : mg "law" = some (.ref fa))
    {f_evaluate : Addr} {od_evaluate an_evaluate : Option Addr} {sl_evaluate : Array (Option Value)} {oc_evaluate kV_evaluate dc_evaluate pm_evaluate cd_evaluate ct_evaluate : Value}
    (A_evaluate : PySem.W.nsIn K mainGlobals "evaluate" = some (some (.ref f_evaluate))) (L_evaluate : K.lookup f_evaluate = some ⟨oc_evaluate, od_evaluate, .func (PySem.W.fnOf "evaluate" "evaluate" (defArgs s_evaluate) (defBody s_evaluate) (defScope s_evaluate) .none kV_evaluate dc_evaluate pm_evaluate an_evaluate cd_evaluate ct_evaluate), sl_evaluate⟩) (C_evaluate : PySem.W.codeIn K cd_evaluate "evaluate" = true) (K_evaluate : PySem.W.keepIn K (.ref f_evaluate) = true)
    {f_apply : Addr} {od_apply an_apply : Option Addr} {sl_apply : Array (Option Value)} {oc_apply kV_apply dc_apply pm_apply cd_apply ct_apply : Value}
    (A_apply : PySem.W.nsIn K mainGlobals "apply" = some (some (.ref f_apply))) (L_apply : K.lookup f_apply = some ⟨oc_apply, od_apply, .func (PySem.W.fnOf "apply" "apply" (defArgs s_apply) (defBody s_apply) (defScope s_apply) .none kV_apply dc_apply pm_apply an_apply cd_apply ct_apply), sl_apply⟩) (C_apply : PySem.W.codeIn K cd_apply "apply" = true) (K_apply : PySem.W.keepIn K (.ref f_apply) = true)
    {f_l_cell : Addr} {od_l_cell an_l_cell : Option Addr} {sl_l_cell : Array (Option Value)} {oc_l_cell kV_l_cell dc_l_cell pm_l_cell cd_l_cell ct_l_cell : Value}
    (A_l_cell : PySem.W.nsIn K mainGlobals "_law_cell" = some (some (.ref f_l_cell))) (L_l_cell : K.lookup f_l_cell = some ⟨oc_l_cell, od_l_cell, .func (PySem.W.fnOf "_law_cell" "_law_cell" (defArgs s_l_cell) (defBody s_l_cell) (defScope s_l_cell) .none kV_l_cell dc_l_cell pm_l_cell an_l_cell cd_l_cell ct_l_cell), sl_l_cell⟩) (C_l_cell : PySem.W.codeIn K cd_l_cell "_law_cell" = true) (K_l_cell : PySem.W.keepIn K (.ref f_l_cell) = true)
    {f_l_source : Addr} {od_l_source an_l_source : Option Addr} {sl_l_source : Array (Option Value)} {oc_l_source kV_l_source dc_l_source pm_l_source cd_l_source ct_l_source : Value}
    (A_l_source : PySem.W.nsIn K mainGlobals "_law_source" = some (some (.ref f_l_source))) (L_l_source : K.lookup f_l_source = some ⟨oc_l_source, od_l_source, .func (PySem.W.fnOf "_law_source" "_law_source" (defArgs s_l_source) (defBody s_l_source) (defScope s_l_source) .none kV_l_source dc_l_source pm_l_source an_l_source cd_l_source ct_l_source), sl_l_source⟩) (C_l_source : PySem.W.codeIn K cd_l_source "_law_source" = true) (K_l_source : PySem.W.keepIn K (.ref f_l_source) = true)
    {f_l_pick : Addr} {od_l_pick an_l_pick : Option Addr} {sl_l_pick : Array (Option Value)} {oc_l_pick kV_l_pick dc_l_pick pm_l_pick cd_l_pick ct_l_pick : Value}
    (A_l_pick : PySem.W.nsIn K mainGlobals "_law_pick" = some (some (.ref f_l_pick))) (L_l_pick : K.lookup f_l_pick = some ⟨oc_l_pick, od_l_pick, .func (PySem.W.fnOf "_law_pick" "_law_pick" (defArgs s_l_pick) (defBody s_l_pick) (defScope s_l_pick) .none kV_l_pick dc_l_pick pm_l_pick an_l_pick cd_l_pick ct_l_pick), sl_l_pick⟩) (C_l_pick : PySem.W.codeIn K cd_l_pick "_law_pick" = true) (K_l_pick : PySem.W.keepIn K (.ref f_l_pick) = true)
    {f_l_one : Addr} {od_l_one an_l_one : Option Addr} {sl_l_one : Array (Option Value)} {oc_l_one kV_l_one dc_l_one pm_l_one cd_l_one ct_l_one : Value}
    (A_l_one : PySem.W.nsIn K mainGlobals "_law_one" = some (some (.ref f_l_one))) (L_l_one : K.lookup f_l_one = some ⟨oc_l_one, od_l_one, .func (PySem.W.fnOf "_law_one" "_law_one" (defArgs s_l_one) (defBody s_l_one) (defScope s_l_one) .none kV_l_one dc_l_one pm_l_one an_l_one cd_l_one ct_l_one), sl_l_one⟩) (C_l_one : PySem.W.codeIn K cd_l_one "_law_one" = true) (K_l_one : PySem.W.keepIn K (.ref f_l_one) = true)
    {f_l_names : Addr} {od_l_names an_l_names : Option Addr} {sl_l_names : Array (Option Value)} {oc_l_names kV_l_names dc_l_names pm_l_names cd_l_names ct_l_names : Value}
    (A_l_names : PySem.W.nsIn K mainGlobals "_law_names" = some (some (.ref f_l_names))) (L_l_names : K.lookup f_l_names = some ⟨oc_l_names, od_l_names, .func (PySem.W.fnOf "_law_names" "_law_names" (defArgs s_l_names) (defBody s_l_names) (defScope s_l_names) .none kV_l_names dc_l_names pm_l_names an_l_names cd_l_names ct_l_names), sl_l_names⟩) (C_l_names : PySem.W.codeIn K cd_l_names "_law_names" = true) (K_l_names : PySem.W.keepIn K (.ref f_l_names) = true)
    {f_l_value : Addr} {od_l_value an_l_value : Option Addr} {sl_l_value : Array (Option Value)} {oc_l_value kV_l_value dc_l_value pm_l_value cd_l_value ct_l_value : Value}
    (A_l_value : PySem.W.nsIn K mainGlobals "_law_value" = some (some (.ref f_l_value))) (L_l_value : K.lookup f_l_value = some ⟨oc_l_value, od_l_value, .func (PySem.W.fnOf "_law_value" "_law_value" (defArgs s_l_value) (defBody s_l_value) (defScope s_l_value) .none kV_l_value dc_l_value pm_l_value an_l_value cd_l_value ct_l_value), sl_l_value⟩) (C_l_value : PySem.W.codeIn K cd_l_value "_law_value" = true) (K_l_value : PySem.W.keepIn K (.ref f_l_value) = true)
    {f_l_same : Addr} {od_l_same an_l_same : Option Addr} {sl_l_same : Array (Option Value)} {oc_l_same kV_l_same dc_l_same pm_l_same cd_l_same ct_l_same : Value}
    (A_l_same : PySem.W.nsIn K mainGlobals "_law_same" = some (some (.ref f_l_same))) (L_l_same : K.lookup f_l_same = some ⟨oc_l_same, od_l_same, .func (PySem.W.fnOf "_law_same" "_law_same" (defArgs s_l_same) (defBody s_l_same) (defScope s_l_same) .none kV_l_same dc_l_same pm_l_same an_l_same cd_l_same ct_l_same), sl_l_same⟩) (C_l_same : PySem.W.codeIn K cd_l_same "_law_same" = true) (K_l_same : PySem.W.keepIn K (.ref f_l_same) = true)
    {f_l_figure : Addr} {od_l_figure an_l_figure : Option Addr} {sl_l_figure : Array (Option Value)} {oc_l_figure kV_l_figure dc_l_figure pm_l_figure cd_l_figure ct_l_figure : Value}
    (A_l_figure : PySem.W.nsIn K mainGlobals "_law_figure" = some (some (.ref f_l_figure))) (L_l_figure : K.lookup f_l_figure = some ⟨oc_l_figure, od_l_figure, .func (PySem.W.fnOf "_law_figure" "_law_figure" (defArgs s_l_figure) (defBody s_l_figure) (defScope s_l_figure) .none kV_l_figure dc_l_figure pm_l_figure an_l_figure cd_l_figure ct_l_figure), sl_l_figure⟩) (C_l_figure : PySem.W.codeIn K cd_l_figure "_law_figure" = true) (K_l_figure : PySem.W.keepIn K (.ref f_l_figure) = true)
    {f_l_term : Addr} {od_l_term an_l_term : Option Addr} {sl_l_term : Array (Option Value)} {oc_l_term kV_l_term dc_l_term pm_l_term cd_l_term ct_l_term : Value}
    (A_l_term : PySem.W.nsIn K mainGlobals "_law_term" = some (some (.ref f_l_term))) (L_l_term : K.lookup f_l_term = some ⟨oc_l_term, od_l_term, .func (PySem.W.fnOf "_law_term" "_law_term" (defArgs s_l_term) (defBody s_l_term) (defScope s_l_term) .none kV_l_term dc_l_term pm_l_term an_l_term cd_l_term ct_l_term), sl_l_term⟩) (C_l_term : PySem.W.codeIn K cd_l_term "_law_term" = true) (K_l_term : PySem.W.keepIn K (.ref f_l_term) = true)
    {f_l_link : Addr} {od_l_link an_l_link : Option Addr} {sl_l_link : Array (Option Value)} {oc_l_link kV_l_link dc_l_link pm_l_link cd_l_link ct_l_link : Value}
    (A_l_link : PySem.W.nsIn K mainGlobals "_law_link" = some (some (.ref f_l_link))) (L_l_link : K.lookup f_l_link = some ⟨oc_l_link, od_l_link, .func (PySem.W.fnOf "_law_link" "_law_link" (defArgs s_l_link) (defBody s_l_link) (defScope s_l_link) .none kV_l_link dc_l_link pm_l_link an_l_link cd_l_link ct_l_link), sl_l_link⟩) (C_l_link : PySem.W.codeIn K cd_l_link "_law_link" = true) (K_l_link : PySem.W.keepIn K (.ref f_l_link) = true)
    {f_l_fact : Addr} {od_l_fact an_l_fact : Option Addr} {sl_l_fact : Array (Option Value)} {oc_l_fact kV_l_fact dc_l_fact pm_l_fact cd_l_fact ct_l_fact : Value}
    (A_l_fact : PySem.W.nsIn K mainGlobals "_law_fact" = some (some (.ref f_l_fact))) (L_l_fact : K.lookup f_l_fact = some ⟨oc_l_fact, od_l_fact, .func (PySem.W.fnOf "_law_fact" "_law_fact" (defArgs s_l_fact) (defBody s_l_fact) (defScope s_l_fact) .none kV_l_fact dc_l_fact pm_l_fact an_l_fact cd_l_fact ct_l_fact), sl_l_fact⟩) (C_l_fact : PySem.W.codeIn K cd_l_fact "_law_fact" = true) (K_l_fact : PySem.W.keepIn K (.ref f_l_fact) = true)
    {f_l_variables : Addr} {od_l_variables an_l_variables : Option Addr} {sl_l_variables : Array (Option Value)} {oc_l_variables kV_l_variables dc_l_variables pm_l_variables cd_l_variables ct_l_variables : Value}
    (A_l_variables : PySem.W.nsIn K mainGlobals "_law_variables" = some (some (.ref f_l_variables))) (L_l_variables : K.lookup f_l_variables = some ⟨oc_l_variables, od_l_variables, .func (PySem.W.fnOf "_law_variables" "_law_variables" (defArgs s_l_variables) (defBody s_l_variables) (defScope s_l_variables) .none kV_l_variables dc_l_variables pm_l_variables an_l_variables cd_l_variables ct_l_variables), sl_l_variables⟩) (C_l_variables : PySem.W.codeIn K cd_l_variables "_law_variables" = true) (K_l_variables : PySem.W.keepIn K (.ref f_l_variables) = true)
    {f_l_values : Addr} {od_l_values an_l_values : Option Addr} {sl_l_values : Array (Option Value)} {oc_l_values kV_l_values dc_l_values pm_l_values cd_l_values ct_l_values : Value}
    (A_l_values : PySem.W.nsIn K mainGlobals "_law_values" = some (some (.ref f_l_values))) (L_l_values : K.lookup f_l_values = some ⟨oc_l_values, od_l_values, .func (PySem.W.fnOf "_law_values" "_law_values" (defArgs s_l_values) (defBody s_l_values) (defScope s_l_values) .none kV_l_values dc_l_values pm_l_values an_l_values cd_l_values ct_l_values), sl_l_values⟩) (C_l_values : PySem.W.codeIn K cd_l_values "_law_values" = true) (K_l_values : PySem.W.keepIn K (.ref f_l_values) = true)
    {f_l_agrees : Addr} {od_l_agrees an_l_agrees : Option Addr} {sl_l_agrees : Array (Option Value)} {oc_l_agrees kV_l_agrees dc_l_agrees pm_l_agrees cd_l_agrees ct_l_agrees : Value}
    (A_l_agrees : PySem.W.nsIn K mainGlobals "_law_agrees" = some (some (.ref f_l_agrees))) (L_l_agrees : K.lookup f_l_agrees = some ⟨oc_l_agrees, od_l_agrees, .func (PySem.W.fnOf "_law_agrees" "_law_agrees" (defArgs s_l_agrees) (defBody s_l_agrees) (defScope s_l_agrees) .none kV_l_agrees dc_l_agrees pm_l_agrees an_l_agrees cd_l_agrees ct_l_agrees), sl_l_agrees⟩) (C_l_agrees : PySem.W.codeIn K cd_l_agrees "_law_agrees" = true) (K_l_agrees : PySem.W.keepIn K (.ref f_l_agrees) = true)
    {f_law : Addr} {od_law an_law : Option Addr} {sl_law : Array (Option Value)} {oc_law kV_law dc_law pm_law cd_law ct_law : Value}
    (A_law : PySem.W.nsIn K mainGlobals "law" = some (some (.ref f_law))) (L_law : K.lookup f_law = some ⟨oc_law, od_law, .func (PySem.W.fnOf "law" "law" (defArgs s_law) (defBody s_law) (defScope s_law) .none kV_law dc_law pm_law an_law cd_law ct_law), sl_law⟩) (C_law : PySem.W.codeIn K cd_law "law" = true) (K_law : PySem.W.keepIn K (.ref f_law) = true)
    (Z_bool : PySem.W.nsIn K mainGlobals "bool" = some none)
    (Z_dict : PySem.W.nsIn K mainGlobals "dict" = some none)
    (Z_int : PySem.W.nsIn K mainGlobals "int" = some none)
    (Z_isinstance : PySem.W.nsIn K mainGlobals "isinstance" = some none)
    (Z_len : PySem.W.nsIn K mainGlobals "len" = some none)
    (Z_list : PySem.W.nsIn K mainGlobals "list" = some none)
    (Z_range : PySem.W.nsIn K mainGlobals "range" = some none)
    (Z_str : PySem.W.nsIn K mainGlobals "str" = some none)
    (Z_tuple : PySem.W.nsIn K mainGlobals "tuple" = some none) :
    ∃ fd : FuncData, (∀ (s : Shared) (v : Value), BindsTo s fd ⟨[v], []⟩ [("_law_script", v)]) ∧ ∀ base : Heap, K.In base → base.Ns mainGlobals mg → FnOk l.prog w K mg base CX0 20 fa fd ["_law_script"] (spLaw K) := by
  have e := hfa.symm.trans (PySem.W.mg_of X G A_law)
  cases e
  let T : Txt K mg := {
    a_evaluate := f_evaluate, d_evaluate := _, F_evaluate := fun_mk (st := s_evaluate) L_evaluate C_evaluate K_evaluate, b_evaluate := (fun_mk (st := s_evaluate) L_evaluate C_evaluate K_evaluate).binds (ps := p_evaluate) (fun _ _ _ _ _ _ us hl => match us, hl with | [_, _], _ => rfl), m_evaluate := PySem.W.mg_of X G A_evaluate,
    a_apply := f_apply, d_apply := _, F_apply := fun_mk (st := s_apply) L_apply C_apply K_apply, b_apply := (fun_mk (st := s_apply) L_apply C_apply K_apply).binds (ps := p_apply) (fun _ _ _ _ _ _ us hl => match us, hl with | [_, _, _], _ => rfl), m_apply := PySem.W.mg_of X G A_apply,
    a_l_cell := f_l_cell, d_l_cell := _, F_l_cell := fun_mk (st := s_l_cell) L_l_cell C_l_cell K_l_cell, b_l_cell := (fun_mk (st := s_l_cell) L_l_cell C_l_cell K_l_cell).binds (ps := p_l_cell) (fun _ _ _ _ _ _ us hl => match us, hl with | [_, _], _ => rfl), m_l_cell := PySem.W.mg_of X G A_l_cell,
    a_l_source := f_l_source, d_l_source := _, F_l_source := fun_mk (st := s_l_source) L_l_source C_l_source K_l_source, b_l_source := (fun_mk (st := s_l_source) L_l_source C_l_source K_l_source).binds (ps := p_l_source) (fun _ _ _ _ _ _ us hl => match us, hl with | [_], _ => rfl), m_l_source := PySem.W.mg_of X G A_l_source,
    a_l_pick := f_l_pick, d_l_pick := _, F_l_pick := fun_mk (st := s_l_pick) L_l_pick C_l_pick K_l_pick, b_l_pick := (fun_mk (st := s_l_pick) L_l_pick C_l_pick K_l_pick).binds (ps := p_l_pick) (fun _ _ _ _ _ _ us hl => match us, hl with | [_, _], _ => rfl), m_l_pick := PySem.W.mg_of X G A_l_pick,
    a_l_one := f_l_one, d_l_one := _, F_l_one := fun_mk (st := s_l_one) L_l_one C_l_one K_l_one, b_l_one := (fun_mk (st := s_l_one) L_l_one C_l_one K_l_one).binds (ps := p_l_one) (fun _ _ _ _ _ _ us hl => match us, hl with | [_, _], _ => rfl), m_l_one := PySem.W.mg_of X G A_l_one,
    a_l_names := f_l_names, d_l_names := _, F_l_names := fun_mk (st := s_l_names) L_l_names C_l_names K_l_names, b_l_names := (fun_mk (st := s_l_names) L_l_names C_l_names K_l_names).binds (ps := p_l_names) (fun _ _ _ _ _ _ us hl => match us, hl with | [_], _ => rfl), m_l_names := PySem.W.mg_of X G A_l_names,
    a_l_value := f_l_value, d_l_value := _, F_l_value := fun_mk (st := s_l_value) L_l_value C_l_value K_l_value, b_l_value := (fun_mk (st := s_l_value) L_l_value C_l_value K_l_value).binds (ps := p_l_value) (fun _ _ _ _ _ _ us hl => match us, hl with | [_, _], _ => rfl), m_l_value := PySem.W.mg_of X G A_l_value,
    a_l_same := f_l_same, d_l_same := _, F_l_same := fun_mk (st := s_l_same) L_l_same C_l_same K_l_same, b_l_same := (fun_mk (st := s_l_same) L_l_same C_l_same K_l_same).binds (ps := p_l_same) (fun _ _ _ _ _ _ us hl => match us, hl with | [_, _], _ => rfl), m_l_same := PySem.W.mg_of X G A_l_same,
    a_l_figure := f_l_figure, d_l_figure := _, F_l_figure := fun_mk (st := s_l_figure) L_l_figure C_l_figure K_l_figure, b_l_figure := (fun_mk (st := s_l_figure) L_l_figure C_l_figure K_l_figure).binds (ps := p_l_figure) (fun _ _ _ _ _ _ us hl => match us, hl with | [_], _ => rfl), m_l_figure := PySem.W.mg_of X G A_l_figure,
    a_l_term := f_l_term, d_l_term := _, F_l_term := fun_mk (st := s_l_term) L_l_term C_l_term K_l_term, b_l_term := (fun_mk (st := s_l_term) L_l_term C_l_term K_l_term).binds (ps := p_l_term) (fun _ _ _ _ _ _ us hl => match us, hl with | [_, _, _], _ => rfl), m_l_term := PySem.W.mg_of X G A_l_term,
    a_l_link := f_l_link, d_l_link := _, F_l_link := fun_mk (st := s_l_link) L_l_link C_l_link K_l_link, b_l_link := (fun_mk (st := s_l_link) L_l_link C_l_link K_l_link).binds (ps := p_l_link) (fun _ _ _ _ _ _ us hl => match us, hl with | [_, _], _ => rfl), m_l_link := PySem.W.mg_of X G A_l_link,
    a_l_fact := f_l_fact, d_l_fact := _, F_l_fact := fun_mk (st := s_l_fact) L_l_fact C_l_fact K_l_fact, b_l_fact := (fun_mk (st := s_l_fact) L_l_fact C_l_fact K_l_fact).binds (ps := p_l_fact) (fun _ _ _ _ _ _ us hl => match us, hl with | [_, _, _], _ => rfl), m_l_fact := PySem.W.mg_of X G A_l_fact,
    a_l_variables := f_l_variables, d_l_variables := _, F_l_variables := fun_mk (st := s_l_variables) L_l_variables C_l_variables K_l_variables, b_l_variables := (fun_mk (st := s_l_variables) L_l_variables C_l_variables K_l_variables).binds (ps := p_l_variables) (fun _ _ _ _ _ _ us hl => match us, hl with | [_], _ => rfl), m_l_variables := PySem.W.mg_of X G A_l_variables,
    a_l_values := f_l_values, d_l_values := _, F_l_values := fun_mk (st := s_l_values) L_l_values C_l_values K_l_values, b_l_values := (fun_mk (st := s_l_values) L_l_values C_l_values K_l_values).binds (ps := p_l_values) (fun _ _ _ _ _ _ us hl => match us, hl with | [_, _, _], _ => rfl), m_l_values := PySem.W.mg_of X G A_l_values,
    a_l_agrees := f_l_agrees, d_l_agrees := _, F_l_agrees := fun_mk (st := s_l_agrees) L_l_agrees C_l_agrees K_l_agrees, b_l_agrees := (fun_mk (st := s_l_agrees) L_l_agrees C_l_agrees K_l_agrees).binds (ps := p_l_agrees) (fun _ _ _ _ _ _ us hl => match us, hl with | [_, _, _], _ => rfl), m_l_agrees := PySem.W.mg_of X G A_l_agrees,
    a_law := fa, d_law := _, F_law := fun_mk (st := s_law) L_law C_law K_law, b_law := (fun_mk (st := s_law) L_law C_law K_law).binds (ps := p_law) (fun _ _ _ _ _ _ us hl => match us, hl with | [_], _ => rfl), m_law := PySem.W.mg_of X G A_law,
    z_bool := PySem.W.mg_none_of X G Z_bool,
    z_dict := PySem.W.mg_none_of X G Z_dict,
    z_int := PySem.W.mg_none_of X G Z_int,
    z_isinstance := PySem.W.mg_none_of X G Z_isinstance,
    z_len := PySem.W.mg_none_of X G Z_len,
    z_list := PySem.W.mg_none_of X G Z_list,
    z_range := PySem.W.mg_none_of X G Z_range,
    z_str := PySem.W.mg_none_of X G Z_str,
    z_tuple := PySem.W.mg_none_of X G Z_tuple }
  refine ⟨PySem.W.fnOf "law" "law" (defArgs s_law) (defBody s_law) (defScope s_law) .none kV_law dc_law pm_law an_law cd_law ct_law, fun s v => .of_eq rfl, fun base _ _ => ok_law T⟩
theorem walk {l : PySem.W.OpenLaw} {q : Program} {loose : List Str} {XP : (Str → Option Value) → Heap → Prop} {YP : World → Heap → Prop} {d : DefRec} {K : Params → PySem.W.Frag} (hn : l.most = some 63) (hdf : d.params.defaults = [])
    (hY : ∀ (w : World) (h : Heap), YP w h → (K w.params).In h)
    (F : ∀ (w : World) (mg : Str → Option Value) (fa : Addr) (h : Heap), (K w.params).In h → h.Ns mainGlobals mg → mg d.name = some (.ref fa) →
      ∃ fd : FuncData, (∀ (s : Shared) (u : Value), BindsTo s fd ⟨[u], []⟩ [("_law_script", u)]) ∧ ∀ base : Heap, (K w.params).In base → base.Ns mainGlobals mg → FnOk l.prog w (K w.params) mg base CX0 20 fa fd ["_law_script"] (spLaw (K w.params))) :
    PySem.W.WalkO q loose XP YP l.row.toRowW d [] (fun f vs => PySem.call f vs) :=
  L2.walk_of (n := 63) (k := 20) (x := "_law_script") (CX := fun _ => CX0) (sp := fun w => spLaw (K w.params)) hn (by decide) hdf ⟨rfl, by decide, by decide⟩ hY F (fun _ _ a ns hl _ hS => ⟨a, ns, rfl, hS, hl, fun _ => rfl⟩) fun _ _ _ _ _ z => z
end Mine
open PySem PySem.W PyProof.Rows
set_option maxRecDepth 100000 in
set_option maxHeartbeats 0 in
theorem PySem.Challenge.cw_neverhappens_k12_evaluate_holds : PySem.Challenge.rw_neverhappens_k12_evaluate.Holds := by
  w_on; o_law; k_head; (case hw => w_witness2)
  k_fill
  refine Mine.walk (l := PySem.Challenge.rw_neverhappens_k12_evaluate) rfl rfl (fun w h Y => PySem.W.kIn_of Y) ?F
  case F =>
    intro w mg fa h KX G hmg
    refine' Mine.all_mk KX G hmg ?A_evaluate ?L_evaluate ?C_evaluate ?K_evaluate ?A_apply ?L_apply ?C_apply ?K_apply ?A_l_cell ?L_l_cell ?C_l_cell ?K_l_cell ?A_l_source ?L_l_source ?C_l_source ?K_l_source ?A_l_pick ?L_l_pick ?C_l_pick ?K_l_pick ?A_l_one ?L_l_one ?C_l_one ?K_l_one ?A_l_names ?L_l_names ?C_l_names ?K_l_names ?A_l_value ?L_l_value ?C_l_value ?K_l_value ?A_l_same ?L_l_same ?C_l_same ?K_l_same ?A_l_figure ?L_l_figure ?C_l_figure ?K_l_figure ?A_l_term ?L_l_term ?C_l_term ?K_l_term ?A_l_link ?L_l_link ?C_l_link ?K_l_link ?A_l_fact ?L_l_fact ?C_l_fact ?K_l_fact ?A_l_variables ?L_l_variables ?C_l_variables ?K_l_variables ?A_l_values ?L_l_values ?C_l_values ?K_l_values ?A_l_agrees ?L_l_agrees ?C_l_agrees ?K_l_agrees ?A_law ?L_law ?C_law ?K_law ?Z_bool ?Z_dict ?Z_int ?Z_isinstance ?Z_len ?Z_list ?Z_range ?Z_str ?Z_tuple
    (case A_evaluate => k_is)
    (case L_evaluate => k_is)
    (case C_evaluate => k_is)
    (case K_evaluate => k_is)
    (case A_apply => k_is)
    (case L_apply => k_is)
    (case C_apply => k_is)
    (case K_apply => k_is)
    (case A_l_cell => k_is)
    (case L_l_cell => k_is)
    (case C_l_cell => k_is)
    (case K_l_cell => k_is)
    (case A_l_source => k_is)
    (case L_l_source => k_is)
    (case C_l_source => k_is)
    (case K_l_source => k_is)
    (case A_l_pick => k_is)
    (case L_l_pick => k_is)
    (case C_l_pick => k_is)
    (case K_l_pick => k_is)
    (case A_l_one => k_is)
    (case L_l_one => k_is)
    (case C_l_one => k_is)
    (case K_l_one => k_is)
    (case A_l_names => k_is)
    (case L_l_names => k_is)
    (case C_l_names => k_is)
    (case K_l_names => k_is)
    (case A_l_value => k_is)
    (case L_l_value => k_is)
    (case C_l_value => k_is)
    (case K_l_value => k_is)
    (case A_l_same => k_is)
    (case L_l_same => k_is)
    (case C_l_same => k_is)
    (case K_l_same => k_is)
    (case A_l_figure => k_is)
    (case L_l_figure => k_is)
    (case C_l_figure => k_is)
    (case K_l_figure => k_is)
    (case A_l_term => k_is)
    (case L_l_term => k_is)
    (case C_l_term => k_is)
    (case K_l_term => k_is)
    (case A_l_link => k_is)
    (case L_l_link => k_is)
    (case C_l_link => k_is)
    (case K_l_link => k_is)
    (case A_l_fact => k_is)
    (case L_l_fact => k_is)
    (case C_l_fact => k_is)
    (case K_l_fact => k_is)
    (case A_l_variables => k_is)
    (case L_l_variables => k_is)
    (case C_l_variables => k_is)
    (case K_l_variables => k_is)
    (case A_l_values => k_is)
    (case L_l_values => k_is)
    (case C_l_values => k_is)
    (case K_l_values => k_is)
    (case A_l_agrees => k_is)
    (case L_l_agrees => k_is)
    (case C_l_agrees => k_is)
    (case K_l_agrees => k_is)
    (case A_law => k_is)
    (case L_law => k_is)
    (case C_law => k_is)
    (case K_law => k_is)
    (case Z_bool => k_is)
    (case Z_dict => k_is)
    (case Z_int => k_is)
    (case Z_isinstance => k_is)
    (case Z_len => k_is)
    (case Z_list => k_is)
    (case Z_range => k_is)
    (case Z_str => k_is)
    (case Z_tuple => k_is)
#print axioms PySem.Challenge.cw_neverhappens_k12_evaluate_holds
