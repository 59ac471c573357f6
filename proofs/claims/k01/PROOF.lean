import PyProof.Rows.All
import Wide.All
import OpenK.AllK
import Wide.FinOn
import HandS.ForMost
import HandS.IsInst
import HandS.FStr
import HandS.Codes
import PySem.Challenge.RW_neverhappens_k01_expression_text
set_option Elab.async false
set_option linter.all false
set_option maxRecDepth 100000
set_option maxHeartbeats 4000000
namespace Mine
open PySem L2
def top (i : Nat) : Stmt := PySem.Challenge.pw_neverhappens_k01_expression_text.main.body.getD i (.Pass ⟨0, 0, 0, 0⟩)
abbrev s_expression_text : Stmt := top 1
abbrev s_kind_text : Stmt := top 2
abbrev s_l_cell : Stmt := top 4
abbrev s_l_source : Stmt := top 5
abbrev s_l_pick : Stmt := top 6
abbrev s_l_one : Stmt := top 7
abbrev s_l_reserved : Stmt := top 8
abbrev s_l_name : Stmt := top 9
abbrev s_l_word : Stmt := top 10
abbrev s_l_number : Stmt := top 11
abbrev s_l_node : Stmt := top 12
abbrev s_l_expression : Stmt := top 13
abbrev s_l_kind_text : Stmt := top 14
abbrev s_l_text : Stmt := top 15
abbrev s_l_same : Stmt := top 16
abbrev s_law : Stmt := top 17
abbrev p_expression_text : List Str := ["expression"]
abbrev p_kind_text : List Str := ["kind"]
abbrev p_l_cell : List Str := ["_law_script", "_law_at"]
abbrev p_l_source : List Str := ["_law_cell_here"]
abbrev p_l_pick : List Str := ["_law_source_here", "_law_size"]
abbrev p_l_one : List Str := ["_law_source_here", "_law_row"]
abbrev p_l_reserved : List Str := []
abbrev p_l_name : List Str := ["_law_source_here", "_law_world"]
abbrev p_l_word : List Str := ["_law_source_here", "_law_world"]
abbrev p_l_number : List Str := ["_law_source_here", "_law_world"]
abbrev p_l_node : List Str := ["_law_source_here", "_law_world", "_law_choice", "_law_depth"]
abbrev p_l_expression : List Str := ["_law_source_here", "_law_world", "_law_depth"]
abbrev p_l_kind_text : List Str := ["_law_kind"]
abbrev p_l_text : List Str := ["_law_expression_here"]
abbrev p_l_same : List Str := ["_law_actual", "_law_due"]
abbrev p_law : List Str := ["_law_script"]
/-- what the program's top leaves: where each def stands -/
structure Txt (K : PySem.W.Frag) (mg : Str → Option Value) where
  a_expression_text : Addr
  d_expression_text : FuncData
  F_expression_text : Fun K "expression_text" "expression_text" s_expression_text a_expression_text d_expression_text
  b_expression_text : Binds K d_expression_text p_expression_text []
  m_expression_text : mg "expression_text" = some (.ref a_expression_text)
  a_kind_text : Addr
  d_kind_text : FuncData
  F_kind_text : Fun K "kind_text" "kind_text" s_kind_text a_kind_text d_kind_text
  b_kind_text : Binds K d_kind_text p_kind_text []
  m_kind_text : mg "kind_text" = some (.ref a_kind_text)
  a_l_cell : Addr
  d_l_cell : FuncData
  F_l_cell : Fun K "_law_cell" "_law_cell" s_l_cell a_l_cell d_l_cell
  b_l_cell : Binds K d_l_cell p_l_cell []
  m_l_cell : mg "_law_cell" = some (.ref a_l_cell)
  a_l_source : Addr
  d_l_source : FuncData
  F_l_source : Fun K "_law_source" "_law_source" s_l_source a_l_source d_l_source
  b_l_source : Binds K d_l_source p_l_source []
  m_l_source : mg "_law_source" = some (.ref a_l_source)
  a_l_pick : Addr
  d_l_pick : FuncData
  F_l_pick : Fun K "_law_pick" "_law_pick" s_l_pick a_l_pick d_l_pick
  b_l_pick : Binds K d_l_pick p_l_pick []
  m_l_pick : mg "_law_pick" = some (.ref a_l_pick)
  a_l_one : Addr
  d_l_one : FuncData
  F_l_one : Fun K "_law_one" "_law_one" s_l_one a_l_one d_l_one
  b_l_one : Binds K d_l_one p_l_one []
  m_l_one : mg "_law_one" = some (.ref a_l_one)
  a_l_reserved : Addr
  d_l_reserved : FuncData
  F_l_reserved : Fun K "_law_reserved" "_law_reserved" s_l_reserved a_l_reserved d_l_reserved
  b_l_reserved : Binds K d_l_reserved p_l_reserved []
  m_l_reserved : mg "_law_reserved" = some (.ref a_l_reserved)
  a_l_name : Addr
  d_l_name : FuncData
  F_l_name : Fun K "_law_name" "_law_name" s_l_name a_l_name d_l_name
  b_l_name : Binds K d_l_name p_l_name []
  m_l_name : mg "_law_name" = some (.ref a_l_name)
  a_l_word : Addr
  d_l_word : FuncData
  F_l_word : Fun K "_law_word" "_law_word" s_l_word a_l_word d_l_word
  b_l_word : Binds K d_l_word p_l_word []
  m_l_word : mg "_law_word" = some (.ref a_l_word)
  a_l_number : Addr
  d_l_number : FuncData
  F_l_number : Fun K "_law_number" "_law_number" s_l_number a_l_number d_l_number
  b_l_number : Binds K d_l_number p_l_number []
  m_l_number : mg "_law_number" = some (.ref a_l_number)
  a_l_node : Addr
  d_l_node : FuncData
  F_l_node : Fun K "_law_node" "_law_node" s_l_node a_l_node d_l_node
  b_l_node : Binds K d_l_node p_l_node []
  m_l_node : mg "_law_node" = some (.ref a_l_node)
  a_l_expression : Addr
  d_l_expression : FuncData
  F_l_expression : Fun K "_law_expression" "_law_expression" s_l_expression a_l_expression d_l_expression
  b_l_expression : Binds K d_l_expression p_l_expression []
  m_l_expression : mg "_law_expression" = some (.ref a_l_expression)
  a_l_kind_text : Addr
  d_l_kind_text : FuncData
  F_l_kind_text : Fun K "_law_kind_text" "_law_kind_text" s_l_kind_text a_l_kind_text d_l_kind_text
  b_l_kind_text : Binds K d_l_kind_text p_l_kind_text []
  m_l_kind_text : mg "_law_kind_text" = some (.ref a_l_kind_text)
  a_l_text : Addr
  d_l_text : FuncData
  F_l_text : Fun K "_law_text" "_law_text" s_l_text a_l_text d_l_text
  b_l_text : Binds K d_l_text p_l_text []
  m_l_text : mg "_law_text" = some (.ref a_l_text)
  a_l_same : Addr
  d_l_same : FuncData
  F_l_same : Fun K "_law_same" "_law_same" s_l_same a_l_same d_l_same
  b_l_same : Binds K d_l_same p_l_same []
  m_l_same : mg "_law_same" = some (.ref a_l_same)
  a_law : Addr
  d_law : FuncData
  F_law : Fun K "law" "law" s_law a_law d_law
  b_law : Binds K d_law p_law []
  m_law : mg "law" = some (.ref a_law)
  z_bool : mg "bool" = none
  z_int : mg "int" = none
  z_isinstance : mg "isinstance" = none
  z_len : mg "len" = none
  z_list : mg "list" = none
  z_min : mg "min" = none
  z_range : mg "range" = none
  z_str : mg "str" = none
  z_tuple : mg "tuple" = none
abbrev n_expression_text : List Str := ["expression", "word"]
theorem sc_expression_text : FnScope n_expression_text p_expression_text (defScope s_expression_text) := ⟨rfl, rfl, rfl, by decide +kernel, rfl, by decide +kernel, by decide +kernel⟩
abbrev n_kind_text : List Str := ["kind"]
theorem sc_kind_text : FnScope n_kind_text p_kind_text (defScope s_kind_text) := ⟨rfl, rfl, rfl, by decide +kernel, rfl, by decide +kernel, by decide +kernel⟩
abbrev n_l_cell : List Str := ["_law_script", "_law_at"]
theorem sc_l_cell : FnScope n_l_cell p_l_cell (defScope s_l_cell) := ⟨rfl, rfl, rfl, by decide +kernel, rfl, by decide +kernel, by decide +kernel⟩
abbrev n_l_source : List Str := ["_law_cell_here"]
theorem sc_l_source : FnScope n_l_source p_l_source (defScope s_l_source) := ⟨rfl, rfl, rfl, by decide +kernel, rfl, by decide +kernel, by decide +kernel⟩
abbrev n_l_pick : List Str := ["_law_source_here", "_law_size", "_law_k", "_law_digit", "_law_mixed"]
theorem sc_l_pick : FnScope n_l_pick p_l_pick (defScope s_l_pick) := ⟨rfl, rfl, rfl, by decide +kernel, rfl, by decide +kernel, by decide +kernel⟩
abbrev n_l_one : List Str := ["_law_source_here", "_law_row"]
theorem sc_l_one : FnScope n_l_one p_l_one (defScope s_l_one) := ⟨rfl, rfl, rfl, by decide +kernel, rfl, by decide +kernel, by decide +kernel⟩
abbrev n_l_reserved : List Str := ["_law_words"]
theorem sc_l_reserved : FnScope n_l_reserved p_l_reserved (defScope s_l_reserved) := ⟨rfl, rfl, rfl, by decide +kernel, rfl, by decide +kernel, by decide +kernel⟩
abbrev n_l_name : List Str := ["_law_source_here", "_law_world", "_law_size", "_law_word_here", "_law_k"]
theorem sc_l_name : FnScope n_l_name p_l_name (defScope s_l_name) := ⟨rfl, rfl, rfl, by decide +kernel, rfl, by decide +kernel, by decide +kernel⟩
abbrev n_l_word : List Str := ["_law_source_here", "_law_world", "_law_at"]
theorem sc_l_word : FnScope n_l_word p_l_word (defScope s_l_word) := ⟨rfl, rfl, rfl, by decide +kernel, rfl, by decide +kernel, by decide +kernel⟩
abbrev n_l_number : List Str := ["_law_source_here", "_law_world", "_law_choice", "_law_size"]
theorem sc_l_number : FnScope n_l_number p_l_number (defScope s_l_number) := ⟨rfl, rfl, rfl, by decide +kernel, rfl, by decide +kernel, by decide +kernel⟩
abbrev n_l_node : List Str := ["_law_source_here", "_law_world", "_law_choice", "_law_depth", "_law_left", "_law_sign"]
theorem sc_l_node : FnScope n_l_node p_l_node (defScope s_l_node) := ⟨rfl, rfl, rfl, by decide +kernel, rfl, by decide +kernel, by decide +kernel⟩
abbrev n_l_expression : List Str := ["_law_source_here", "_law_world", "_law_depth", "_law_choice"]
theorem sc_l_expression : FnScope n_l_expression p_l_expression (defScope s_l_expression) := ⟨rfl, rfl, rfl, by decide +kernel, rfl, by decide +kernel, by decide +kernel⟩
abbrev n_l_kind_text : List Str := ["_law_kind"]
theorem sc_l_kind_text : FnScope n_l_kind_text p_l_kind_text (defScope s_l_kind_text) := ⟨rfl, rfl, rfl, by decide +kernel, rfl, by decide +kernel, by decide +kernel⟩
abbrev n_l_text : List Str := ["_law_expression_here", "_law_sign"]
theorem sc_l_text : FnScope n_l_text p_l_text (defScope s_l_text) := ⟨rfl, rfl, rfl, by decide +kernel, rfl, by decide +kernel, by decide +kernel⟩
abbrev n_l_same : List Str := ["_law_actual", "_law_due", "_law_k"]
theorem sc_l_same : FnScope n_l_same p_l_same (defScope s_l_same) := ⟨rfl, rfl, rfl, by decide +kernel, rfl, by decide +kernel, by decide +kernel⟩
abbrev n_law : List Str := ["_law_script", "_law_world", "_law_source_here", "_law_first", "_law_second", "_law_number_here", "_law_expression_here", "_law_kind"]
theorem sc_law : FnScope n_law p_law (defScope s_law) := ⟨rfl, rfl, rfl, by decide +kernel, rfl, by decide +kernel, by decide +kernel⟩
/-! ### built-in names -/
theorem bt_int : bootBuiltins "int" = some (.type "int") := by decide +kernel
theorem bt_str : bootBuiltins "str" = some (.type "str") := by decide +kernel
theorem bt_bool : bootBuiltins "bool" = some (.type "bool") := by decide +kernel
theorem bt_tuple : bootBuiltins "tuple" = some (.type "tuple") := by decide +kernel
theorem bt_list : bootBuiltins "list" = some (.type "list") := by decide +kernel
theorem bt_dict : bootBuiltins "dict" = some (.type "dict") := by decide +kernel
theorem bb_max : bootBuiltins "max" = some (.builtin "max") := by decide +kernel
theorem bb_min : bootBuiltins "min" = some (.builtin "min") := by decide +kernel
theorem bb_isinstance : bootBuiltins "isinstance" = some (.builtin "isinstance") := by decide +kernel
/-! ### a source of draws: a list of three ints, which draws alone change -/
def Src (H : Hp) (a : Addr) : Prop := ∃ c m k : Int, H a = some (.lst [.int c, .int m, .int k])
/-- a source stands at a, and nothing else that was tracked has changed -/
structure Stp (a : Addr) (H H' : Hp) : Prop where
  s : Src H' a
  k : ∀ b o, b ≠ a → H b = some o → H' b = some o
theorem Stp.refl {a : Addr} {H : Hp} (h : Src H a) : Stp a H H := ⟨h, fun _ _ _ e => e⟩
theorem Stp.trans {a : Addr} {H H1 H2 : Hp} (x : Stp a H H1) (y : Stp a H1 H2) : Stp a H H2 := ⟨y.s, fun b o hb e => y.k b o hb (x.k b o hb e)⟩
theorem Src.ne {a p : Addr} {H : Hp} (h : Src H a) (n : H p = none) : a ≠ p := by
  obtain ⟨c, m, k, h⟩ := h
  exact ne_of_none h n
theorem Stp.free {a p : Addr} {H H' : Hp} (x : Stp a H H') (n : H' p = none) : H p = none := by
  cases q : H p with
  | none => rfl
  | some o =>
    have ne : p ≠ a := fun z => x.s.ne n z.symm
    rw [x.k p o ne q] at n
    cases n
/-- a new object beside the source -/
theorem Stp.new {a p : Addr} {H H' : Hp} {o : HO} (x : Stp a H H') (n : H' p = none) : Stp a H (upd H' p o) := by
  have ne := x.s.ne n
  obtain ⟨c, m, k, h⟩ := x.s
  refine ⟨⟨c, m, k, by rw [upd_ne ne]; exact h⟩, fun b u hb e => ?_⟩
  have e' := x.k b u hb e
  rw [upd_ne (ne_of_none e' n)]
  exact e'
theorem Stp.same {a : Addr} {H H' H2 : Hp} (x : Stp a H H') (s : Same H' H2) : Stp a H H2 := by
  obtain ⟨c, m, k, h⟩ := x.s
  exact ⟨⟨c, m, k, s _ _ h⟩, fun b o hb e => s b o (x.k b o hb e)⟩
theorem Stp.of_same {a : Addr} {H H' : Hp} (h : Src H a) (s : Same H H') : Stp a H H' := (Stp.refl h).same s
theorem Same.new {H : Hp} {p : Addr} (h : H p = none) (o : HO) : Same H (upd H p o) := fun b u q => by rw [upd_ne (ne_of_none q h)]; exact q
/-- a source that is new ahead of its draws: all that was tracked stands -/
theorem Stp.fresh {a : Addr} {H H1 H2 : Hp} (s : Same H H1) (n : H a = none) (x : Stp a H1 H2) : Same H H2 := fun b o e => x.k b o (ne_of_none e n) (s b o e)
theorem Stp.rd {K : PySem.W.Frag} {a p : Addr} {H H' : Hp} {xs : List V} (x : Stp a H H') (h : SqT K H p xs) (hs : Src H a) : SqT K H' p xs := by
  obtain ⟨c, m, k, hs⟩ := hs
  rcases h with (h | ⟨o, h⟩) | h
  · exact .inl (.inl (x.k _ _ (ne_of h hs (by intro z; cases z)) h))
  · exact .inl (.inr ⟨o, x.k _ _ (ne_of h hs (by intro z; cases z)) h⟩)
  · exact .inr h
theorem Stp.rdL {K : PySem.W.Frag} {a p : Addr} {H H' : Hp} {xs : List V} (x : Stp a H H') (h : SqL K H p xs) (ne : p ≠ a) : SqL K H' p xs := by
  rcases h with (h | ⟨o, h⟩) | h
  · exact .inl (.inl (x.k _ _ ne h))
  · exact .inl (.inr ⟨o, x.k _ _ ne h⟩)
  · exact .inr h
theorem Same.tup {K : PySem.W.Frag} {p : Addr} {H H' : Hp} {xs : List V} (x : Same H H') (h : SqT K H p xs) : SqT K H' p xs := by
  rcases h with (h | ⟨o, h⟩) | h
  · exact .inl (.inl (x _ _ h))
  · exact .inl (.inr ⟨o, x _ _ h⟩)
  · exact .inr h
/-! ### numbers -/
theorem ifT {c : Bool} {A B : Prop} (h : c = true) (a : A) : if c = true then A else B := by rw [if_pos h]; exact a
theorem ifF {c : Bool} {A B : Prop} (h : c = false) (b : B) : if c = true then A else B := by rw [h]; exact iteF b
theorem fmod_bd {x m : Int} (h : 0 < m) : 0 ≤ x.fmod m ∧ x.fmod m < m := ⟨Int.fmod_nonneg_of_pos x h, Int.fmod_lt_of_pos x h⟩
theorem fm64 {x m : Int} (h : 0 < m) (h2 : m ≤ 2 ^ 64) : -(2 ^ 64) < x.fmod m ∧ x.fmod m < 2 ^ 64 :=
  ⟨Int.lt_of_lt_of_le (by decide) (fmod_bd h).1, Int.lt_of_lt_of_le (fmod_bd h).2 h2⟩
theorem atI_int {α : Type} {xs : List α} {r : Int} (h0 : 0 ≤ r) (h : r.toNat < xs.length) : atI xs r = some xs[r.toNat] := by
  have e := atI_nat (xs := xs) (j := r.toNat) (List.getElem?_eq_getElem h)
  rwa [Int.toNat_of_nonneg h0] at e
/-! ### the promises of the draws -/
def spCell (K : PySem.W.Frag) : Sp := fun vs H Q _ => ∃ (l : Addr) (ns : List Int) (j : Int), vs = [.ref l, .int j] ∧ SqL K H l (ns.map V.int) ∧ 0 ≤ j ∧ ∀ i : Int, Q (.int i) H
def spSource : Sp := fun vs H Q _ => ∃ c : Int, vs = [.int c] ∧ ∀ p H', H p = none → Same H H' → Src H' p → Q (.ref p) H'
def spPick : Sp := fun vs H Q _ => ∃ (a : Addr) (n : Int), vs = [.ref a, .int n] ∧ Src H a ∧ n < 1073741824 ∧ ∀ (r : Int) (H' : Hp), Stp a H H' → 0 ≤ r → (r < n ∨ r = 0) → Q (.int r) H'
def spOne (K : PySem.W.Frag) : Sp := fun vs H Q _ => ∃ (a : Addr) (row : V), vs = [.ref a, row] ∧ Src H a ∧
  ((∃ (p : Addr) (xs : List V), row = .ref p ∧ p ≠ a ∧ SqL K H p xs ∧ 0 < xs.length ∧ xs.length < 1000 ∧ ∀ v H', v ∈ xs → Stp a H H' → Q v H') ∨
   (∃ z : Str, row = .str z ∧ 0 < z.length ∧ z.length < 1000 ∧ ∀ (c : Nat) H', c ∈ z.cps.toList → Stp a H H' → Q (.str ⟨#[c]⟩) H'))
section
variable {P : Program} {w : World} {K : PySem.W.Frag} {mg : Str → Option Value} {base : Heap}
theorem ok_l_cell (T : Txt K mg) : FnOk P w K mg base CX0 1 T.a_l_cell T.d_l_cell p_l_cell (spCell K) := by
  refine T.F_l_cell.ok sc_l_cell (fun vs H Q E h => ?_) (fun cdv A outer s H vs Q E hr h => ?_)
  · obtain ⟨l, ns, j, rfl, _⟩ := h
    rfl
  obtain ⟨l, ns, j, rfl, hS, h0, q⟩ := h
  refine ⟨_, (pss_cons (ps_if (pt_cmpR op_lt (pv 1) (pe_callB call_len_seq rfl T.z_len PySem.boot_len (pa_cons (pv 0) pa_nil)) (nomark _)) (pss_one (ps_ret (pe_ix ix_list (pv 0) (pv 1) (fun _ _ => rfl)))) pss_nil)
      (pss_one (ps_ret pe_int))), ?_⟩
  have hl : (ns.map V.int).length = ns.length := List.length_map _
  refine ⟨_, rfl, _, rfl, l, _, rfl, .inl hS, _, _, rfl, rfl, _, rfl, ?_⟩
  refine ite2 (fun c => ?_) (fun c => ?_)
  · have c' : j < (((ns.map V.int).length : Nat) : Int) := of_decide_eq_true c
    rw [hl] at c'
    have hk : j.toNat < ns.length := by omega
    have e := atI_int (xs := ns.map V.int) h0 (by omega)
    rw [List.getElem_map] at e
    exact ⟨_, rfl, _, rfl, l, _, _, _, rfl, rfl, hS, e, q _⟩
  · exact q 0
theorem ok_l_source (T : Txt K mg) : FnOk P w K mg base CX0 1 T.a_l_source T.d_l_source p_l_source spSource := by
  refine T.F_l_source.ok sc_l_source (fun vs H Q E h => ?_) (fun cdv A outer s H vs Q E hr h => ?_)
  · obtain ⟨c, rfl, _⟩ := h
    rfl
  obtain ⟨c, rfl, q⟩ := h
  refine ⟨_, (pss_one (ps_ret (pe_lst (pa_cons (pv 0) (pa_cons (pv 0) (pa_cons pe_int pa_nil)))))), ?_⟩
  refine ⟨_, rfl, _, rfl, (by show 3 ≤ sizeLine; decide), fun p hp => ?_⟩
  exact q p _ hp (Same.new hp _) ⟨c, c, 0, upd_same⟩
theorem ok_l_pick (T : Txt K mg) : FnOk P w K mg base CX0 1 T.a_l_pick T.d_l_pick p_l_pick spPick := by
  refine T.F_l_pick.ok sc_l_pick (fun vs H Q E h => ?_) (fun cdv A outer s H vs Q E hr h => ?_)
  · obtain ⟨a, n, rfl, _⟩ := h
    rfl
  obtain ⟨a, n, rfl, ⟨c, m, k, hS⟩, hn, q⟩ := h
  refine ⟨_, (pss_cons (ps_set (i := 2) sc_l_pick.nd rfl (Or.inl rfl) (pe_ix ix_list (pv 0) pe_int (fun _ _ => rfl)))
      (pss_cons (ps_asg (pe_op op_add (pv 2) pe_int) (pg_sub (pv 0) pe_int set_list))
      (pss_cons (ps_if (pt_cmpR op_lt (pv 1) pe_int (nomark _)) (pss_one (ps_ret pe_int)) pss_nil)
      (pss_cons (ps_if (PW.pt (pw_and (pt_cmpR op_ge (pe_ix ix_list (pv 0) pe_int (fun _ _ => rfl)) (pe_op op_pow pe_int pe_int) (nomark _)) (pw_and1 (pt_cmpR op_gt (pe_ix ix_list (pv 0) pe_int (fun _ _ => rfl)) pe_int (nomark _))))) (pss_cons (ps_set (i := 3) sc_l_pick.nd rfl (Or.inl rfl) (pe_op op_modN (pe_callTy call_int1 rfl T.z_int bt_int (pa_cons (pe_ix ix_list (pv 0) pe_int (fun _ _ => rfl)) pa_nil)) (pv 1)))
      (pss_cons (ps_asg (pe_op op_fdivN (pe_ix ix_list (pv 0) pe_int (fun _ _ => rfl)) (pv 1)) (pg_sub (pv 0) pe_int set_list))
      (pss_one (ps_ret (pv 3))))) pss_nil)
      (pss_cons (ps_set (i := 4) sc_l_pick.nd rfl (Or.inl rfl) (pe_op op_modN (pe_callTy call_int1 rfl T.z_int bt_int (pa_cons (pe_op op_add (pe_op op_add (pe_ix ix_list (pv 0) pe_int (fun _ _ => rfl)) (pe_op op_mul pe_int (pv 2))) pe_int) pa_nil)) pe_int))
      (pss_cons (ps_set (i := 4) sc_l_pick.nd rfl (Or.inl rfl) (pe_op op_modN (pe_callTy call_int1 rfl T.z_int bt_int (pa_cons (pe_op op_mul (pv 4) (pe_op op_add (pv 4) pe_int)) pa_nil)) pe_int))
      (pss_cons (ps_set (i := 4) sc_l_pick.nd rfl (Or.inl rfl) (pe_op op_modN (pe_callTy call_int1 rfl T.z_int bt_int (pa_cons (pe_op op_add (pe_op op_mul (pv 4) (pe_op op_add (pv 4) pe_int)) (pe_op op_mul pe_int (pv 2))) pa_nil)) pe_int))
      (pss_one (ps_ret (pe_op op_modN (pe_callTy call_int1 rfl T.z_int bt_int (pa_cons (pe_op op_fdivN (pv 4) pe_int) pa_nil)) (pv 1))))))))))), ?_⟩
  refine ⟨_, rfl, a, _, 2, _, rfl, rfl, SqL.of hS, rfl, ?_⟩
  refine ⟨_, rfl, k, 1, rfl, rfl, _, rfl, a, _, 2, 2, rfl, rfl, hS, rfl, ?_⟩
  have h1 : (upd H a (.lst [.int c, .int m, .int (k + 1)])) a = some (.lst [.int c, .int m, .int (k + 1)]) := upd_same
  have st : Stp a H (upd H a (.lst [.int c, .int m, .int (k + 1)])) := ⟨⟨c, m, k + 1, upd_same⟩, fun b o hb e => by rw [upd_ne hb]; exact e⟩
  refine ⟨_, rfl, n, 2, rfl, rfl, _, rfl, ?_⟩
  refine ite2 (fun _ => ?_) (fun c2 => ?_)
  · exact q 0 _ st (Int.le_refl 0) (.inr rfl)
  have hn2 : ¬ n < 2 := of_decide_eq_false (Bool.eq_false_iff.mpr c2)
  refine ⟨_, rfl, a, _, 0, _, rfl, rfl, SqL.of h1, rfl, 10, 18, rfl, rfl, ⟨by decide, by decide, by decide⟩, _, _, rfl, rfl, _, rfl, ?_⟩
  refine ite2 (fun _ => ⟨_, rfl, a, _, 1, _, rfl, rfl, SqL.of h1, rfl, _, _, rfl, rfl, _, rfl, ite2 (fun _ => ?first) (fun _ => ?second)⟩) (fun _ => iteF ?third)
  case first =>
    refine ⟨_, rfl, a, _, 1, _, rfl, rfl, SqL.of h1, rfl, .inl ⟨_, rfl, ?_⟩⟩
    refine ⟨_, rfl, _, _, rfl, rfl, by omega, ?_⟩
    refine ⟨_, rfl, a, _, 1, _, rfl, rfl, SqL.of h1, rfl, _, rfl, m, n, rfl, rfl, ⟨by omega, by omega⟩, _, rfl, a, _, 1, 1, rfl, rfl, h1, rfl, ?_⟩
    refine ⟨_, rfl, ?_⟩
    have b := fmod_bd (x := m) (m := n) (by omega)
    refine q _ _ ⟨⟨c, m.fdiv n, k + 1, upd_same⟩, fun b o hb e => ?_⟩ b.1 (.inl b.2)
    rw [upd_ne hb]
    exact st.k b o hb e
  all_goals
    refine ⟨_, rfl, a, _, 0, _, rfl, rfl, SqL.of h1, rfl, _, rfl, 7919, k, rfl, rfl, .inl ⟨by decide, by decide⟩, _, _, rfl, rfl, _, _, rfl, rfl, .inl ⟨_, rfl, ?_⟩⟩
    refine ⟨_, _, rfl, rfl, (by intro z; cases z), ?_⟩
    refine ⟨_, rfl, _, rfl, _, _, rfl, rfl, _, _, rfl, rfl, .inl (fm64 (by decide) (by decide)), .inl ⟨_, rfl, ?_⟩⟩
    refine ⟨_, _, rfl, rfl, (by intro z; cases z), ?_⟩
    refine ⟨_, rfl, _, rfl, _, _, rfl, rfl, _, _, rfl, rfl, .inl (fm64 (by decide) (by decide)), _, rfl, 31, k, rfl, rfl, .inl ⟨by decide, by decide⟩, _, _, rfl, rfl, .inl ⟨_, rfl, ?_⟩⟩
    refine ⟨_, _, rfl, rfl, (by intro z; cases z), ?_⟩
    refine ⟨_, rfl, _, _, rfl, rfl, ⟨by decide, by decide⟩, .inl ⟨_, rfl, ?_⟩⟩
    refine ⟨_, rfl, _, _, rfl, rfl, (by omega), ?_⟩
    exact q _ _ st (fmod_bd (by omega)).1 (.inl (fmod_bd (by omega)).2)
theorem ok_l_one (T : Txt K mg) : FnOk P w K mg base CX0 2 T.a_l_one T.d_l_one p_l_one (spOne K) := by
  have g_l_pick := ok_l_pick (P := P) (w := w) (base := base) T
  refine T.F_l_one.ok sc_l_one (fun vs H Q E h => ?_) (fun cdv A outer s H vs Q E hr h => ?_)
  · obtain ⟨a, row, rfl, _⟩ := h
    rfl
  obtain ⟨a, row, rfl, hS, h⟩ := h
  refine ⟨_, (pss_one (ps_ret (pe_ix ix_seq (pv 1) (pe_call g_l_pick (hr.mono (by first | decide | omega)) rfl T.m_l_pick T.F_l_pick.kp T.b_l_pick .nil pass0 (pa_cons (pv 0) (pa_cons (pe_callB call_len rfl T.z_len PySem.boot_len (pa_cons (pv 1) pa_nil)) pa_nil))) (fun _ _ => rfl)))), ?_⟩
  rcases h with ⟨p, xs, rfl, ne, hx, h0, h9, q⟩ | ⟨z, rfl, h0, h9, q⟩
  · refine ⟨_, rfl, _, rfl, _, rfl, .ref p, xs.length, rfl, .inl ⟨_, hx, rfl⟩, ?_⟩
    refine ⟨a, _, rfl, hS, by omega, fun r H' st r0 r1 => ?_⟩
    have hr' : r.toNat < xs.length := by omega
    have e := atI_int (xs := xs) r0 hr'
    exact .inl ⟨p, xs, r, _, rfl, rfl, st.rdL hx ne, e, q _ _ (List.getElem_mem hr') st⟩
  · refine ⟨_, rfl, _, rfl, _, rfl, .str z, z.length, rfl, ⟨Nat.le_of_lt (small1000 (by omega)), rfl⟩, ?_⟩
    refine ⟨a, _, rfl, hS, by omega, fun r H' st r0 r1 => ?_⟩
    have ez : z.length = z.cps.toList.length := by simp [Str.length]
    have hr' : r.toNat < z.cps.toList.length := by omega
    have e := atI_int (xs := z.cps.toList) r0 hr'
    exact .inr (.inr ⟨z, r, _, rfl, rfl, Nat.le_of_lt (small1000 (by omega)), e, q _ _ (List.getElem_mem hr') st⟩)
end
/-! ### data: equal data are the same to _law_same -/
def Dok : Nat → PyData → Prop
  | 0, _ => False
  | _ + 1, .none => True
  | _ + 1, .bool _ => True
  | _ + 1, .int _ => True
  | _ + 1, .str _ => True
  | n + 1, .tuple ds => ds.length ≤ 100000 ∧ ∀ d ∈ ds, Dok n d
  | n + 1, .list ds => ds.length ≤ 100000 ∧ ∀ d ∈ ds, Dok n d
  | _ + 1, .dict _ => False
theorem dpAll_len {K : PySem.W.Frag} {H : Hp} : ∀ {vs : List V} {ds : List PyData}, DpAll K H vs ds → vs.length = ds.length
  | _, _, .nil => rfl
  | _, _, .cons _ r => congrArg (· + 1) (dpAll_len r)
theorem dpAll_get {K : PySem.W.Frag} {H : Hp} : ∀ {vs : List V} {ds : List PyData} {i : Nat} {d : PyData}, DpAll K H vs ds → ds[i]? = some d → ∃ v, vs[i]? = some v ∧ Dp K H v d
  | _, _, _, _, .nil, e => by simp at e
  | _, _, 0, d, .cons h _, e => by
    simp at e
    subst e
    exact ⟨_, rfl, h⟩
  | _, _, i + 1, d, .cons _ r, e => by
    obtain ⟨v, h1, h2⟩ := dpAll_get (i := i) r (by simpa using e)
    exact ⟨v, by simpa using h1, h2⟩
theorem tyL {K : PySem.W.Frag} {H : Hp} {a : Addr} {xs : List V} (h : SqL K H a xs) : TyX K H (.ref a) (.type "list") := by
  rcases h with (h | ⟨o, h⟩) | ⟨o, its, n, h, c, _⟩
  · exact .base (.lst h)
  · exact .base (.frz h)
  · exact .kList h c
theorem tyT {K : PySem.W.Frag} {H : Hp} {a : Addr} {xs : List V} (h : SqT K H a xs) : TyX K H (.ref a) (.type "tuple") := by
  rcases h with (h | ⟨o, h⟩) | ⟨o, its, n, h, c, _⟩
  · exact .base (.tup h)
  · exact .fTuple h
  · exact .kTuple h c
theorem isi {K : PySem.W.Frag} {H : Hp} {Q : VK} {x : V} {t c : String} (b : Bool) (ty : TyX K H x (.type t)) (kb : kitB t c = some b) (q : Q (.bl b) H) : rIsi K [x, .ty c] H Q := ⟨x, .ty c, _, _, b, rfl, .ty c, ty, kit_ty kb, q⟩
theorem kb_nt : kitB "NoneType" "tuple" = some false := by decide +kernel
theorem kb_nl : kitB "NoneType" "list" = some false := by decide +kernel
theorem kb_bt : kitB "bool" "tuple" = some false := by decide +kernel
theorem kb_bl : kitB "bool" "list" = some false := by decide +kernel
theorem kb_bb : kitB "bool" "bool" = some true := by decide +kernel
theorem kb_it : kitB "int" "tuple" = some false := by decide +kernel
theorem kb_il : kitB "int" "list" = some false := by decide +kernel
theorem kb_ib : kitB "int" "bool" = some false := by decide +kernel
theorem kb_ii : kitB "int" "int" = some true := by decide +kernel
theorem kb_st : kitB "str" "tuple" = some false := by decide +kernel
theorem kb_sl : kitB "str" "list" = some false := by decide +kernel
theorem kb_sb : kitB "str" "bool" = some false := by decide +kernel
theorem kb_si : kitB "str" "int" = some false := by decide +kernel
theorem kb_ss : kitB "str" "str" = some true := by decide +kernel
theorem kb_tt : kitB "tuple" "tuple" = some true := by decide +kernel
theorem kb_tl : kitB "tuple" "list" = some false := by decide +kernel
theorem kb_lt : kitB "list" "tuple" = some false := by decide +kernel
theorem kb_ll : kitB "list" "list" = some true := by decide +kernel
def spSame (K : PySem.W.Frag) (n : Nat) : Sp := fun vs H Q _ => ∃ (x y : V) (d : PyData), vs = [x, y] ∧ Dp K H x d ∧ Dp K H y d ∧ Dok n d ∧ Q (.bl true) H
section
variable {P : Program} {w : World} {K : PySem.W.Frag} {mg : Str → Option Value} {base : Heap}
theorem ok_l_same0 (T : Txt K mg) : FnOk P w K mg base CX0 0 T.a_l_same T.d_l_same p_l_same (spSame K 0) := by
  have no : ∀ vs H Q E, ¬ spSame K 0 vs H Q E := fun vs H Q E h => by
    obtain ⟨x, y, d, _, _, _, h, _⟩ := h
    exact h
  exact ⟨fun vs H Q E h => absurd h (no vs H Q E), fun A outer s H args us vs Q E _ _ _ _ h => absurd h (no vs H Q E)⟩
/-- the part for two lists or two tuples -/
theorem same_seq {n : Nat} {H : Hp} {p r : Addr} {xs ys : List V} {ds : List PyData} (h1 : SqL K H p xs ∨ SqT K H p xs) (h2 : SqL K H r ys ∨ SqT K H r ys) (d1 : DpAll K H xs ds) (d2 : DpAll K H ys ds)
    (hd : ∀ d ∈ ds, Dok n d) {i : Nat} (hi : i < ds.length) {R : V → Hp → Prop} (q : R (.bl true) H) :
    tCall (spSame K n) [] E0 (tCons (tOp (rIx K) (tVar 0) (tVar 2)) (tCons (tOp (rIx K) (tVar 1) (tVar 2)) tNil)) [some (.ref p), some (.ref r), some (.int (0 + (i : Int)))] H R := by
  obtain ⟨x, e1, q1⟩ := dpAll_get (i := i) d1 (List.getElem?_eq_getElem hi)
  obtain ⟨y, e2, q2⟩ := dpAll_get (i := i) d2 (List.getElem?_eq_getElem hi)
  have a1 : atI xs (0 + (i : Int)) = some x := by rw [Int.zero_add]; exact atI_nat e1
  have a2 : atI ys (0 + (i : Int)) = some y := by rw [Int.zero_add]; exact atI_nat e2
  have k2 : tOp (rIx K) (tVar 1) (tVar 2) [some (.ref p), some (.ref r), some (.int (0 + (i : Int)))] H (fun v H' => tNil [some (.ref p), some (.ref r), some (.int (0 + (i : Int)))] H' fun vs H'' => spSame K n ((x :: v :: vs) ++ []) H'' R E0) := by
    refine ⟨_, rfl, _, rfl, ?_⟩
    have z : spSame K n [x, y] H R E0 := ⟨x, y, _, rfl, q1, q2, hd _ (List.getElem_mem hi), q⟩
    rcases h2 with h2 | h2
    · exact .inl ⟨r, _, _, _, rfl, rfl, h2, a2, z⟩
    · exact .inr (.inl ⟨r, _, _, _, rfl, rfl, h2, a2, z⟩)
  refine ⟨_, rfl, _, rfl, ?_⟩
  rcases h1 with h1 | h1
  · exact .inl ⟨p, _, _, _, rfl, rfl, h1, a1, k2⟩
  · exact .inr (.inl ⟨p, _, _, _, rfl, rfl, h1, a1, k2⟩)
theorem ok_l_same (T : Txt K mg) : ∀ n : Nat, FnOk P w K mg base CX0 n T.a_l_same T.d_l_same p_l_same (spSame K n)
  | 0 => ok_l_same0 T
  | n + 1 => by
    have g_l_same := ok_l_same T n
    refine T.F_l_same.ok sc_l_same (fun vs H Q E h => ?_) (fun cdv A outer s H vs Q E hr h => ?_)
    · obtain ⟨x, y, d, rfl, _⟩ := h
      rfl
    obtain ⟨x, y, d, rfl, hx, hy, hd, q⟩ := h
    refine ⟨_, (pss_cons (ps_if (PW.pt (pw_or (pt_val (pe_callB call_isi rfl T.z_isinstance bb_isinstance (pa_cons (pv 1) (pa_cons (pe_bltn (v := .ty "tuple") rfl T.z_tuple bt_tuple rfl) pa_nil)))) (pw_or1 (pt_val (pe_callB call_isi rfl T.z_isinstance bb_isinstance (pa_cons (pv 1) (pa_cons (pe_bltn (v := .ty "list") rfl T.z_list bt_list rfl) pa_nil))))))) (pss_cons (ps_if (PW.pt (pw_or (pt_cmpR op_ne (pe_callB call_isi rfl T.z_isinstance bb_isinstance (pa_cons (pv 1) (pa_cons (pe_bltn (v := .ty "tuple") rfl T.z_tuple bt_tuple rfl) pa_nil))) (pe_callB call_isi rfl T.z_isinstance bb_isinstance (pa_cons (pv 0) (pa_cons (pe_bltn (v := .ty "tuple") rfl T.z_tuple bt_tuple rfl) pa_nil))) (nomark _)) (pw_or1 (pt_cmpR op_ne (pe_callB call_isi rfl T.z_isinstance bb_isinstance (pa_cons (pv 1) (pa_cons (pe_bltn (v := .ty "list") rfl T.z_list bt_list rfl) pa_nil))) (pe_callB call_isi rfl T.z_isinstance bb_isinstance (pa_cons (pv 0) (pa_cons (pe_bltn (v := .ty "list") rfl T.z_list bt_list rfl) pa_nil))) (nomark _))))) (pss_one (ps_ret pe_bl)) pss_nil)
      (pss_cons (ps_if (pt_cmpR op_ne (pe_callB call_len_seq rfl T.z_len PySem.boot_len (pa_cons (pv 0) pa_nil)) (pe_callB call_len_seq rfl T.z_len PySem.boot_len (pa_cons (pv 1) pa_nil)) (nomark _)) (pss_one (ps_ret pe_bl)) pss_nil)
      (pss_cons (ps_for PassesOwn.never rfl (pi_range1 rfl T.z_range (pa_cons (pe_callB call_len_seq rfl T.z_len PySem.boot_len (pa_cons (pv 1) pa_nil)) pa_nil)) (pg_name (i := 2) sc_l_same.nd rfl (Or.inl rfl))
        (pss_one (ps_if (pt_not (pt_val (pe_call g_l_same (hr.mono (by first | decide | omega)) rfl T.m_l_same T.F_l_same.kp T.b_l_same .nil pass0 (pa_cons (pe_ix ix_seq (pv 0) (pv 2) (fun _ _ => rfl)) (pa_cons (pe_ix ix_seq (pv 1) (pv 2) (fun _ _ => rfl)) pa_nil))))) (pss_one (ps_ret pe_bl)) pss_nil)))
      (pss_one (ps_ret pe_bl))))) pss_nil)
      (pss_cons (ps_if (pt_cmpR op_isN (pv 1) pe_non (nomark _)) (pss_one (ps_ret (pe_cmpR op_isN (pv 0) pe_non (nomark _)))) pss_nil)
      (pss_cons (ps_if (pt_val (pe_callB call_isi rfl T.z_isinstance bb_isinstance (pa_cons (pv 1) (pa_cons (pe_bltn (v := .ty "bool") rfl T.z_bool bt_bool rfl) pa_nil)))) (pss_one (ps_ret (pe_and (pe_callB call_isi rfl T.z_isinstance bb_isinstance (pa_cons (pv 0) (pa_cons (pe_bltn (v := .ty "bool") rfl T.z_bool bt_bool rfl) pa_nil))) (pe_one (pe_cmpR op_eq (pv 0) (pv 1) (nomark _)))))) pss_nil)
      (pss_cons (ps_if (pt_val (pe_callB call_isi rfl T.z_isinstance bb_isinstance (pa_cons (pv 1) (pa_cons (pe_bltn (v := .ty "int") rfl T.z_int bt_int rfl) pa_nil)))) (pss_one (ps_ret (pe_and (pe_callB call_isi rfl T.z_isinstance bb_isinstance (pa_cons (pv 0) (pa_cons (pe_bltn (v := .ty "int") rfl T.z_int bt_int rfl) pa_nil))) (pe_and (pe_not (pe_callB call_isi rfl T.z_isinstance bb_isinstance (pa_cons (pv 0) (pa_cons (pe_bltn (v := .ty "bool") rfl T.z_bool bt_bool rfl) pa_nil)))) (pe_one (pe_cmpR op_eq (pv 0) (pv 1) (nomark _))))))) pss_nil)
      (pss_one (ps_ret (pe_and (pe_callB call_isi rfl T.z_isinstance bb_isinstance (pa_cons (pv 0) (pa_cons (pe_bltn (v := .ty "str") rfl T.z_str bt_str rfl) pa_nil))) (pe_one (pe_cmpR op_eq (pv 0) (pv 1) (nomark _)))))))))), ?_⟩
    cases hx with
    | non =>
      cases hy
      refine ⟨_, rfl, _, _, _, _, false, rfl, .ty _, (.base .non), kit_ty kb_nt, ⟨_, rfl, iteF ⟨_, rfl, _, _, _, _, false, rfl, .ty _, (.base .non), kit_ty kb_nl, ⟨_, rfl, iteF ?_⟩⟩⟩⟩
      refine ⟨_, rfl, rfl, _, rfl, iteT ?_⟩
      exact ⟨_, rfl, rfl, q⟩
    | bl b =>
      cases hy
      refine ⟨_, rfl, _, _, _, _, false, rfl, .ty _, (.base (.bl _)), kit_ty kb_bt, ⟨_, rfl, iteF ⟨_, rfl, _, _, _, _, false, rfl, .ty _, (.base (.bl _)), kit_ty kb_bl, ⟨_, rfl, iteF ?_⟩⟩⟩⟩
      refine ⟨_, rfl, rfl, _, rfl, iteF ?_⟩
      refine ⟨_, rfl, _, _, _, _, true, rfl, .ty _, (.base (.bl _)), kit_ty kb_bb, ⟨_, rfl, iteT ?_⟩⟩
      refine ⟨_, rfl, _, _, _, _, true, rfl, .ty _, (.base (.bl _)), kit_ty kb_bb, ⟨_, rfl, iteT ?_⟩⟩
      refine ⟨_, rfl, _, rfl, rfl, ?_⟩
      rw [decide_eq_true rfl]
      exact q
    | int b =>
      cases hy
      refine ⟨_, rfl, _, _, _, _, false, rfl, .ty _, (.base (.int _)), kit_ty kb_it, ⟨_, rfl, iteF ⟨_, rfl, _, _, _, _, false, rfl, .ty _, (.base (.int _)), kit_ty kb_il, ⟨_, rfl, iteF ?_⟩⟩⟩⟩
      refine ⟨_, rfl, rfl, _, rfl, iteF ?_⟩
      refine ⟨_, rfl, _, _, _, _, false, rfl, .ty _, (.base (.int _)), kit_ty kb_ib, ⟨_, rfl, iteF ?_⟩⟩
      refine ⟨_, rfl, _, _, _, _, true, rfl, .ty _, (.base (.int _)), kit_ty kb_ii, ⟨_, rfl, iteT ?_⟩⟩
      refine ⟨_, rfl, _, _, _, _, true, rfl, .ty _, (.base (.int _)), kit_ty kb_ii, ⟨_, rfl, iteT ?_⟩⟩
      refine ⟨_, rfl, _, _, _, _, false, rfl, .ty _, (.base (.int _)), kit_ty kb_ib, ⟨_, rfl, _, rfl, iteT ?_⟩⟩
      refine ⟨_, rfl, _, rfl, rfl, ?_⟩
      rw [decide_eq_true rfl]
      exact q
    | str b =>
      cases hy
      refine ⟨_, rfl, _, _, _, _, false, rfl, .ty _, (.base (.str _)), kit_ty kb_st, ⟨_, rfl, iteF ⟨_, rfl, _, _, _, _, false, rfl, .ty _, (.base (.str _)), kit_ty kb_sl, ⟨_, rfl, iteF ?_⟩⟩⟩⟩
      refine ⟨_, rfl, rfl, _, rfl, iteF ?_⟩
      refine ⟨_, rfl, _, _, _, _, false, rfl, .ty _, (.base (.str _)), kit_ty kb_sb, ⟨_, rfl, iteF ?_⟩⟩
      refine ⟨_, rfl, _, _, _, _, false, rfl, .ty _, (.base (.str _)), kit_ty kb_si, ⟨_, rfl, iteF ?_⟩⟩
      refine ⟨_, rfl, _, _, _, _, true, rfl, .ty _, (.base (.str _)), kit_ty kb_ss, ⟨_, rfl, iteT ?_⟩⟩
      refine ⟨_, rfl, _, rfl, rfl, ?_⟩
      rw [decide_eq_true rfl]
      exact q
    | @lst p xs ds h1 d1 =>
      cases hy with
      | @lst r ys _ h2 d2 =>
      have l1 := dpAll_len d1
      have l2 := dpAll_len d2
      obtain ⟨hlen, hd⟩ := hd
      refine ⟨_, rfl, _, _, _, _, false, rfl, .ty _, (tyL h2), kit_ty kb_lt, ⟨_, rfl, iteF ⟨_, rfl, _, _, _, _, true, rfl, .ty _, (tyL h2), kit_ty kb_ll, ⟨_, rfl, iteT ?_⟩⟩⟩⟩
      refine ⟨_, rfl, _, _, _, _, false, rfl, .ty _, (tyL h2), kit_ty kb_lt, ⟨_, rfl, _, _, _, _, false, rfl, .ty _, (tyL h1), kit_ty kb_lt, ⟨rfl, _, rfl, iteF ?_⟩⟩⟩
      refine ⟨_, rfl, _, _, _, _, true, rfl, .ty _, (tyL h2), kit_ty kb_ll, ⟨_, rfl, _, _, _, _, true, rfl, .ty _, (tyL h1), kit_ty kb_ll, ⟨rfl, _, rfl, iteF ?_⟩⟩⟩
      refine ⟨_, rfl, p, _, rfl, .inl h1, _, rfl, r, _, rfl, .inl h2, rfl, _, rfl, ?_⟩
      refine iteNS (congrArg V.int (by omega)) ?_
      refine ⟨_, rfl, r, _, rfl, .inl h2, _, rfl, by omega, by omega, for_range (lo := 0) (fun i σ H' => H' = H ∧ ∃ v : Option V, σ = [some (.ref p), some (.ref r), v]) ⟨rfl, none, rfl⟩ ?_ ?_⟩
      · rintro i σ H' hi ⟨rfl, v, rfl⟩
        refine same_seq (.inl h1) (.inl h2) d1 d2 hd (by omega) ⟨_, rfl, iteF ?_⟩
        exact ⟨rfl, _, rfl⟩
      · rintro σ H' ⟨rfl, v, rfl⟩
        exact q
    | @tup p xs ds h1 d1 =>
      cases hy with
      | @tup r ys _ h2 d2 =>
      have l1 := dpAll_len d1
      have l2 := dpAll_len d2
      obtain ⟨hlen, hd⟩ := hd
      refine ⟨_, rfl, _, _, _, _, true, rfl, .ty _, (tyT h2), kit_ty kb_tt, ⟨_, rfl, iteT ?_⟩⟩
      refine ⟨_, rfl, _, _, _, _, true, rfl, .ty _, (tyT h2), kit_ty kb_tt, ⟨_, rfl, _, _, _, _, true, rfl, .ty _, (tyT h1), kit_ty kb_tt, ⟨rfl, _, rfl, iteF ?_⟩⟩⟩
      refine ⟨_, rfl, _, _, _, _, false, rfl, .ty _, (tyT h2), kit_ty kb_tl, ⟨_, rfl, _, _, _, _, false, rfl, .ty _, (tyT h1), kit_ty kb_tl, ⟨rfl, _, rfl, iteF ?_⟩⟩⟩
      refine ⟨_, rfl, p, _, rfl, .inr h1, _, rfl, r, _, rfl, .inr h2, rfl, _, rfl, ?_⟩
      refine iteNS (congrArg V.int (by omega)) ?_
      refine ⟨_, rfl, r, _, rfl, .inr h2, _, rfl, by omega, by omega, for_range (lo := 0) (fun i σ H' => H' = H ∧ ∃ v : Option V, σ = [some (.ref p), some (.ref r), v]) ⟨rfl, none, rfl⟩ ?_ ?_⟩
      · rintro i σ H' hi ⟨rfl, v, rfl⟩
        refine same_seq (.inr h1) (.inr h2) d1 d2 hd (by omega) ⟨_, rfl, iteF ?_⟩
        exact ⟨rfl, _, rfl⟩
      · rintro σ H' ⟨rfl, v, rfl⟩
        exact q
end
/-! ### expressions -/
inductive Ex where
  | num (i : Int) | name (s : Str) | flag (b : Bool) | null | not (a : Ex) | bin (op : Str) (a b : Ex)
def opsL : List Str := ["+", "-", "*", "<", "<=", "==", "!=", "same", "and", "or"]
theorem ops_ne : ∀ s ∈ opsL, ¬ (V.str s = V.str "num") ∧ ¬ (V.str s = V.str "flag") ∧ ¬ (V.str s = V.str "null") ∧ ¬ (V.str s = V.str "name") ∧ ¬ (V.str s = V.str "not") ∧ s.length ≤ 4 := by decide +kernel
def Ex.ok : Nat → Ex → Prop
  | 0, _ => False
  | _ + 1, .num i => -1000000000 ≤ i ∧ i ≤ 1000000000
  | _ + 1, .name s => s.length ≤ 20
  | _ + 1, .flag _ => True
  | _ + 1, .null => True
  | m + 1, .not a => a.ok m
  | m + 1, .bin op a b => op ∈ opsL ∧ a.ok m ∧ b.ok m
def ExAt (K : PySem.W.Frag) (H : Hp) : Ex → V → Prop
  | .num i, v => ∃ p, v = .ref p ∧ SqT K H p [.str "num", .int i]
  | .name s, v => ∃ p, v = .ref p ∧ SqT K H p [.str "name", .str s]
  | .flag b, v => ∃ p, v = .ref p ∧ SqT K H p [.str "flag", .bl b]
  | .null, v => ∃ p, v = .ref p ∧ SqT K H p [.str "null"]
  | .not a, v => ∃ p x, v = .ref p ∧ SqT K H p [.str "not", x] ∧ ExAt K H a x
  | .bin op a b, v => ∃ p x y, v = .ref p ∧ SqT K H p [.str op, x, y] ∧ ExAt K H a x ∧ ExAt K H b y
/-- tuples stand as they were -/
def Keeps (K : PySem.W.Frag) (H H' : Hp) : Prop := ∀ p xs, SqT K H p xs → SqT K H' p xs
theorem Keeps.of_same {K : PySem.W.Frag} {H H' : Hp} (s : Same H H') : Keeps K H H' := fun _ _ h => Same.tup s h
theorem Keeps.of_stp {K : PySem.W.Frag} {a : Addr} {H H' : Hp} (s : Stp a H H') (h : Src H a) : Keeps K H H' := fun _ _ q => s.rd q h
theorem ExAt.keep {K : PySem.W.Frag} {H H' : Hp} (k : Keeps K H H') : ∀ {e : Ex} {v : V}, ExAt K H e v → ExAt K H' e v
  | .num _, _, ⟨p, e, h⟩ => ⟨p, e, k _ _ h⟩
  | .name _, _, ⟨p, e, h⟩ => ⟨p, e, k _ _ h⟩
  | .flag _, _, ⟨p, e, h⟩ => ⟨p, e, k _ _ h⟩
  | .null, _, ⟨p, e, h⟩ => ⟨p, e, k _ _ h⟩
  | .not _, _, ⟨p, x, e, h, q⟩ => ⟨p, x, e, k _ _ h, ExAt.keep k q⟩
  | .bin _ _ _, _, ⟨p, x, y, e, h, q, r⟩ => ⟨p, x, y, e, k _ _ h, ExAt.keep k q, ExAt.keep k r⟩
/-! ### texts of expressions -/
def numS (i : Int) : Str := Str.ofString (toString i)
def txt : Ex → Str
  | .num i => numS i
  | .name s => s
  | .flag b => if b then "true" else "false"
  | .null => "null"
  | .not a => ("(not " : Str) ++ txt a ++ (")" : Str)
  | .bin op a b => ("(" : Str) ++ txt a ++ (" " : Str) ++ op ++ (" " : Str) ++ txt b ++ (")" : Str)
theorem len_app (x y : Str) : (x ++ y).length = x.length + y.length := Array.size_append
theorem numS_len {i : Int} (h : -1000000000 ≤ i ∧ i ≤ 1000000000) : (numS i).length ≤ 11 := by
  have e := int_text_length_le10 (a := i) (k := 10) (by decide) (by omega)
  unfold numS
  rw [ofString_length]
  exact e
theorem log_ok {i : Int} (h : -1000000000 ≤ i ∧ i ≤ 1000000000) : i.natAbs.log2 < 1920 := by
  by_cases z : i.natAbs = 0
  · rw [z]
    decide
  · refine (Nat.log2_lt z).mpr (Nat.lt_of_lt_of_le (m := 2 ^ 32) ?_ (Nat.pow_le_pow_right (by decide) (by decide)))
    omega
theorem txt_len : ∀ {m : Nat} {e : Ex}, e.ok m → (txt e).length + 12 ≤ 32 * 2 ^ m
  | 0, _, h => h.elim
  | m + 1, .num i, h => by
    have := numS_len h
    have p : 0 < 2 ^ m := Nat.pow_pos (by decide)
    show (numS i).length + 12 ≤ 32 * 2 ^ (m + 1)
    rw [Nat.pow_succ]
    omega
  | m + 1, .name s, h => by
    have h' : s.length ≤ 20 := h
    have p : 0 < 2 ^ m := Nat.pow_pos (by decide)
    show s.length + 12 ≤ 32 * 2 ^ (m + 1)
    rw [Nat.pow_succ]
    omega
  | m + 1, .flag b, h => by
    have p : 0 < 2 ^ m := Nat.pow_pos (by decide)
    have e : (txt (.flag b)).length ≤ 5 := by cases b <;> decide +kernel
    rw [Nat.pow_succ]
    omega
  | m + 1, .null, h => by
    have p : 0 < 2 ^ m := Nat.pow_pos (by decide)
    have e : (txt .null).length ≤ 5 := by decide +kernel
    rw [Nat.pow_succ]
    omega
  | m + 1, .not a, h => by
    have ih := txt_len (m := m) (e := a) h
    have e : (txt (.not a)).length = 5 + (txt a).length + 1 := by
      show (("(not " : Str) ++ txt a ++ (")" : Str)).length = _
      rw [len_app, len_app] <;> rfl
    rw [Nat.pow_succ]
    omega
  | m + 1, .bin op a b, h => by
    have ih1 := txt_len (m := m) (e := a) h.2.1
    have ih2 := txt_len (m := m) (e := b) h.2.2
    have ho := (ops_ne op h.1).2.2.2.2.2
    have e : (txt (.bin op a b)).length = 1 + (txt a).length + 1 + op.length + 1 + (txt b).length + 1 := by
      show (("(" : Str) ++ txt a ++ (" " : Str) ++ op ++ (" " : Str) ++ txt b ++ (")" : Str)).length = _
      rw [len_app, len_app, len_app, len_app, len_app, len_app] <;> rfl
    rw [Nat.pow_succ]
    omega
/-! ### the world of the draws: a dict of names and bounds -/
def kN : Key := Sum.inr "names"
def kL : Key := Sum.inr "long"
def kS : Key := Sum.inr "side"
structure Wd (H : Hp) (d : Addr) : Prop where
  ex : ∃ (kvs : List (Key × V)) (ln : Addr) (nz : List Str) (lng side : Int), H d = some (.dK kvs) ∧ valV kvs kN = some (.ref ln) ∧ valV kvs kL = some (.int lng) ∧ valV kvs kS = some (.int side) ∧
    H ln = some (.lst (nz.map V.str)) ∧ nz.length ≤ 900 ∧ (∀ z ∈ nz, z.length ≤ 20) ∧ 1 ≤ lng ∧ lng ≤ 12 ∧ 1 ≤ side ∧ side ≤ 40000
theorem Wd.same {H H' : Hp} {d : Addr} (s : Same H H') (h : Wd H d) : Wd H' d := by
  obtain ⟨kvs, ln, nz, lng, side, h1, h2, h3, h4, h5, h6⟩ := h.ex
  exact ⟨kvs, ln, nz, lng, side, s _ _ h1, h2, h3, h4, s _ _ h5, h6⟩
theorem Wd.stp {H H' : Hp} {a d : Addr} (h : Wd H d) (hs : Src H a) (s : Stp a H H') : Wd H' d := by
  obtain ⟨kvs, ln, nz, lng, side, h1, h2, h3, h4, h5, h6⟩ := h.ex
  obtain ⟨c, m, k, hs⟩ := hs
  have n1 : d ≠ a := ne_of h1 hs (by intro z; cases z)
  have n2 : ln ≠ a := ne_of h5 hs (by
    intro z
    have z' := HO.lst.inj z
    cases nz with
    | nil => cases z'
    | cons x r =>
      have z2 := (List.cons.inj z').1
      cases z2)
  exact ⟨kvs, ln, nz, lng, side, s.k _ _ n1 h1, h2, h3, h4, s.k _ _ n2 h5, h6⟩
def resA : List Str := ["record", "end", "array", "global", "def", "var", "flag", "input", "new", "free", "return", "if", "else"]
def resL : List Str := resA ++ (["while", "break", "assert", "null", "true", "false", "not", "and", "or", "same", "result"] : List Str)
/-! ### the promises of the draws -/
def spReserved : Sp := fun vs H Q _ => vs = [] ∧ ∀ p H', Same H H' → H p = none → H' p = some (.lst (resL.map V.str)) → Q (.ref p) H'
def spName : Sp := fun vs H Q _ => ∃ (a d : Addr), vs = [.ref a, .ref d] ∧ Src H a ∧ Wd H d ∧ ∀ (z : Str) (H' : Hp), Stp a H H' → z.length ≤ 20 → Q (.str z) H'
def spNum : Sp := fun vs H Q _ => ∃ (a d : Addr), vs = [.ref a, .ref d] ∧ Src H a ∧ Wd H d ∧ ∀ (r : Int) (H' : Hp), Stp a H H' → -1000000000 ≤ r ∧ r ≤ 1000000000 → Q (.int r) H'
def spNode (K : PySem.W.Frag) (m : Nat) : Sp := fun vs H Q _ => ∃ (a d : Addr) (c : Int) (n : Int), vs = [.ref a, .ref d, .int c, .int n] ∧ Src H a ∧ Wd H d ∧ 0 ≤ c ∧ c < 15 ∧ (c < 4 ∨ 1 ≤ n) ∧ n < (m : Int) ∧ 0 < m ∧
  ∀ (v : V) (e : Ex) (H' : Hp), Stp a H H' → e.ok m → ExAt K H' e v → Q v H'
def spExpr (K : PySem.W.Frag) (m : Nat) : Sp := fun vs H Q _ => ∃ (a d : Addr) (n : Int), vs = [.ref a, .ref d, .int n] ∧ Src H a ∧ Wd H d ∧ n < (m : Int) ∧ 0 < m ∧
  ∀ (v : V) (e : Ex) (H' : Hp), Stp a H H' → e.ok m → ExAt K H' e v → Q v H'
theorem DGet.at {H : Hp} {d : Addr} {kvs : List (Key × V)} {k : Key} {v : V} (h : H d = some (.dK kvs)) (e : valV kvs k = some v) : DGet H d (kV k) (some v) := by
  rw [← e]
  exact DGet.k (k := k) h
section
variable {P : Program} {w : World} {K : PySem.W.Frag} {mg : Str → Option Value} {base : Heap}
theorem ok_l_reserved (T : Txt K mg) : FnOk P w K mg base CX0 1 T.a_l_reserved T.d_l_reserved p_l_reserved spReserved := by
  refine T.F_l_reserved.ok sc_l_reserved (fun vs H Q E h => ?_) (fun cdv A outer s H vs Q E hr h => ?_)
  · obtain ⟨rfl, _⟩ := h
    rfl
  obtain ⟨rfl, q⟩ := h
  refine ⟨_, (pss_cons (ps_set (i := 0) sc_l_reserved.nd rfl (Or.inl rfl) (pe_lst (pa_cons pe_str (pa_cons pe_str (pa_cons pe_str (pa_cons pe_str (pa_cons pe_str (pa_cons pe_str (pa_cons pe_str (pa_cons pe_str (pa_cons pe_str (pa_cons pe_str (pa_cons pe_str (pa_cons pe_str (pa_cons pe_str pa_nil)))))))))))))))
      (pss_one (ps_ret (pe_op op_cat (pv 0) (pe_lst (pa_cons pe_str (pa_cons pe_str (pa_cons pe_str (pa_cons pe_str (pa_cons pe_str (pa_cons pe_str (pa_cons pe_str (pa_cons pe_str (pa_cons pe_str (pa_cons pe_str (pa_cons pe_str pa_nil)))))))))))))))), ?_⟩
  refine ⟨by show 13 ≤ sizeLine; decide, fun l hl => ?_⟩
  refine ⟨_, rfl, by show 11 ≤ sizeLine; decide, fun r hr => ?_⟩
  have s1 := Same.new hl (.lst (resA.map V.str))
  refine ⟨l, r, _, _, rfl, rfl, Same.new hr _ _ _ upd_same, upd_same, by show 24 ≤ sizeLine; decide, fun p hp => ?_⟩
  exact q p _ (s1.trans ((Same.new hr _).trans (Same.new hp _))) (s1.free ((Same.new hr _).free hp)) upd_same
theorem flat_strs : ∀ l : List Str, (l.map V.str).all flatV = true
  | [] => rfl
  | _ :: r => flat_strs r
theorem ok_l_name (T : Txt K mg) : FnOk P w K mg base CX0 2 T.a_l_name T.d_l_name p_l_name spName := by
  have g_l_pick := ok_l_pick (P := P) (w := w) (base := base) T
  have g_l_reserved := ok_l_reserved (P := P) (w := w) (base := base) T
  refine T.F_l_name.ok sc_l_name (fun vs H Q E h => ?_) (fun cdv A outer s H vs Q E hr h => ?_)
  · obtain ⟨a, d, rfl, _⟩ := h
    rfl
  obtain ⟨a, d, rfl, hS, hW, q⟩ := h
  refine ⟨_, (pss_cons (ps_set (i := 2) sc_l_name.nd rfl (Or.inl rfl) (pe_call g_l_pick (hr.mono (by first | decide | omega)) rfl T.m_l_pick T.F_l_pick.kp T.b_l_pick .nil pass0 (pa_cons (pv 0) (pa_cons pe_int pa_nil))))
      (C8.pss_cut (ps_if (pt_cmpR op_eq (pv 2) pe_int (nomark _)) (pss_one (ps_set (i := 2) sc_l_name.nd rfl (Or.inl rfl) (pe_call g_l_pick (hr.mono (by first | decide | omega)) rfl T.m_l_pick T.F_l_pick.kp T.b_l_pick .nil pass0 (pa_cons (pv 0) (pa_cons (pe_dget (hu_of hr) (pv 1) pe_str (fun _ _ => rfl)) pa_nil))))) pss_nil)
      (pss_cons (ps_set (i := 3) sc_l_name.nd rfl (Or.inl rfl) (pe_ix ix_str pe_str (pe_call g_l_pick (hr.mono (by first | decide | omega)) rfl T.m_l_pick T.F_l_pick.kp T.b_l_pick .nil pass0 (pa_cons (pv 0) (pa_cons pe_int pa_nil))) (fun _ _ => rfl)))
      (pss_cons (ps_for PassesOwn.never rfl (pi_range1 rfl T.z_range (pa_cons (pv 2) pa_nil)) (pg_name (i := 4) sc_l_name.nd rfl (Or.inl rfl))
        (pss_one (ps_set (i := 3) sc_l_name.nd rfl (Or.inl rfl) (pe_op op_add_str (pv 3) (pe_ix ix_str pe_str (pe_call g_l_pick (hr.mono (by first | decide | omega)) rfl T.m_l_pick T.F_l_pick.kp T.b_l_pick .nil pass0 (pa_cons (pv 0) (pa_cons pe_int pa_nil))) (fun _ _ => rfl))))))
      (pss_cons (ps_if (pt_cmpR op_in_seq (pv 3) (pe_call0 g_l_reserved (hr.mono (by first | decide | omega)) rfl T.m_l_reserved T.F_l_reserved.kp T.b_l_reserved .nil pass0) (by rfl)) (pss_one (ps_ret (pe_op op_add_str (pv 3) pe_str))) pss_nil)
      (pss_one (ps_ret (pv 3)))))))), ?_⟩
  refine ⟨_, rfl, a, 4, rfl, hS, by decide, fun sz H1 st1 z0 z1 => ?_⟩
  refine ⟨fun σ H2 => Stp a H H2 ∧ ∃ n : Int, 0 ≤ n ∧ n ≤ 12 ∧ σ = [some (.ref a), some (.ref d), some (.int n), none, none], ⟨_, rfl, rfl, _, rfl, ?_⟩, ?_⟩
  · refine ite2 (fun _ => ?_) (fun _ => ⟨st1, sz, z0, by omega, rfl⟩)
    have hW1 := hW.stp hS st1
    obtain ⟨kvs, ln, nz, lng, side, h1, h2, h3, h4, h5, h6, h7, h8, h9, _⟩ := hW1.ex
    refine ⟨_, rfl, _, rfl, d, _, rfl, DGet.at h1 h3, ?_⟩
    exact ⟨a, lng, rfl, st1.s, by omega, fun r H2 st2 r0 r1 => ⟨st1.trans st2, r, r0, by omega, rfl⟩⟩
  rintro σ H2 ⟨st2, n, n0, n1, rfl⟩
  refine ⟨_, rfl, a, 26, rfl, st2.s, by decide, fun i H3 st3 i0 i1 => ?_⟩
  have hi : i.toNat < ("abcdefghijklmnopqrstuvwxyz" : Str).cps.toList.length := by
    show i.toNat < 26
    omega
  refine ⟨_, i, _, rfl, rfl, by decide +kernel, atI_int i0 hi, ?_⟩
  refine ⟨_, rfl, n, rfl, by omega, by omega, for_range (lo := 0) (fun i σ H' => Stp a H H' ∧ ∃ (z : Str) (v : Option V), z.length ≤ i + 1 ∧ σ = [some (.ref a), some (.ref d), some (.int n), some (.str z), v]) ⟨st2.trans st3, _, none, Nat.le_refl _, rfl⟩ ?_ ?_⟩
  · rintro i σ H' hi ⟨st, z, v, hz, rfl⟩
    refine ⟨_, rfl, _, rfl, a, 36, rfl, st.s, by decide, fun j H4 st4 j0 j1 => ?_⟩
    have hj : j.toNat < ("abcdefghijklmnopqrstuvwxyz0123456789" : Str).cps.toList.length := by
      show j.toNat < 36
      omega
    refine ⟨_, j, _, rfl, rfl, by decide +kernel, atI_int j0 hj, ?_⟩
    refine ⟨_, _, rfl, rfl, Nat.le_of_lt (small1000 (by show z.length + 1 ≤ 1000; omega)), ?_⟩
    refine ⟨st.trans st4, _, _, ?_, rfl⟩
    rw [len_app]
    exact Nat.succ_le_succ hz
  · rintro σ H' ⟨st, z, v, hz, rfl⟩
    refine ⟨_, rfl, rfl, fun p H5 sm hp hl => ?_⟩
    refine ⟨p, _, rfl, .inl (SqL.of hl), rfl, flat_strs _, _, rfl, ?_⟩
    have st5 : Stp a H H5 := st.same sm
    refine ite2 (fun _ => ?_) (fun _ => ?_)
    · refine ⟨_, rfl, _, _, rfl, rfl, Nat.le_of_lt (small1000 (by show z.length + 1 ≤ 1000; omega)), q _ _ st5 ?_⟩
      rw [len_app]
      show z.length + 1 ≤ 20
      omega
    · exact ⟨_, rfl, q _ _ st5 (by omega)⟩
theorem ok_l_word (T : Txt K mg) : FnOk P w K mg base CX0 3 T.a_l_word T.d_l_word p_l_word spName := by
  have g_l_pick := ok_l_pick (P := P) (w := w) (base := base) T
  have g_l_name := ok_l_name (P := P) (w := w) (K := K) (base := base) T
  refine T.F_l_word.ok sc_l_word (fun vs H Q E h => ?_) (fun cdv A outer s H vs Q E hr h => ?_)
  · obtain ⟨a, d, rfl, _⟩ := h
    rfl
  obtain ⟨a, d, rfl, hS, hW, q⟩ := h
  refine ⟨_, (pss_cons (ps_set (i := 2) sc_l_word.nd rfl (Or.inl rfl) (pe_call g_l_pick (hr.mono (by first | decide | omega)) rfl T.m_l_pick T.F_l_pick.kp T.b_l_pick .nil pass0 (pa_cons (pv 0) (pa_cons (pe_op op_add (pe_callB call_len_seq rfl T.z_len PySem.boot_len (pa_cons (pe_dget (hu_of hr) (pv 1) pe_str (fun _ _ => rfl)) pa_nil)) pe_int) pa_nil))))
      (pss_cons (ps_if (pt_cmpR op_lt (pv 2) (pe_callB call_len_seq rfl T.z_len PySem.boot_len (pa_cons (pe_dget (hu_of hr) (pv 1) pe_str (fun _ _ => rfl)) pa_nil)) (nomark _)) (pss_one (ps_ret (pe_ix ix_list (pe_dget (hu_of hr) (pv 1) pe_str (fun _ _ => rfl)) (pv 2) (fun _ _ => rfl)))) pss_nil)
      (pss_one (ps_ret (pe_call g_l_name (hr.mono (by first | decide | omega)) rfl T.m_l_name T.F_l_name.kp T.b_l_name .nil pass0 (pa_cons (pv 0) (pa_cons (pv 1) pa_nil))))))), ?_⟩
  obtain ⟨kvs, ln, nz, lng, side, h1, h2, h3, h4, h5, h6, h6', _⟩ := hW.ex
  refine ⟨_, rfl, _, rfl, d, _, rfl, DGet.at h1 h2, ln, _, rfl, .inl (SqL.of h5), _, _, rfl, rfl, ?_⟩
  refine ⟨a, _, rfl, hS, by rw [List.length_map]; omega, fun r H1 st1 r0 r1 => ?_⟩
  have hW1 := hW.stp hS st1
  obtain ⟨kvs, ln, nz, lng, side, h1, h2, h3, h4, h5, h6, h6', _⟩ := hW1.ex
  refine ⟨_, rfl, _, rfl, d, _, rfl, DGet.at h1 h2, ln, _, rfl, .inl (SqL.of h5), _, _, rfl, rfl, _, rfl, ?_⟩
  refine ite2 (fun c => ?_) (fun _ => ?_)
  · have c' : r < (((nz.map V.str).length : Nat) : Int) := of_decide_eq_true c
    have e := atI_int (xs := nz.map V.str) r0 (by omega)
    rw [List.getElem_map] at e
    exact ⟨_, rfl, d, _, rfl, DGet.at h1 h2, _, rfl, ln, _, _, _, rfl, rfl, SqL.of h5, e, q _ _ st1 (h6' _ (List.getElem_mem _))⟩
  · exact ⟨_, rfl, _, rfl, a, d, rfl, st1.s, hW1, fun z H2 st2 hz => q _ _ (st1.trans st2) hz⟩
theorem ok_l_number (T : Txt K mg) : FnOk P w K mg base CX0 2 T.a_l_number T.d_l_number p_l_number spNum := by
  have g_l_pick := ok_l_pick (P := P) (w := w) (base := base) T
  refine T.F_l_number.ok sc_l_number (fun vs H Q E h => ?_) (fun cdv A outer s H vs Q E hr h => ?_)
  · obtain ⟨a, d, rfl, _⟩ := h
    rfl
  obtain ⟨a, d, rfl, hS, hW, q⟩ := h
  refine ⟨_, (pss_cons (ps_set (i := 2) sc_l_number.nd rfl (Or.inl rfl) (pe_call g_l_pick (hr.mono (by first | decide | omega)) rfl T.m_l_pick T.F_l_pick.kp T.b_l_pick .nil pass0 (pa_cons (pv 0) (pa_cons pe_int pa_nil))))
      (pss_cons (ps_if (pt_cmpR op_lt (pv 2) pe_int (nomark _)) (pss_one (ps_ret (pe_op op_sub (pe_call g_l_pick (hr.mono (by first | decide | omega)) rfl T.m_l_pick T.F_l_pick.kp T.b_l_pick .nil pass0 (pa_cons (pv 0) (pa_cons pe_int pa_nil))) pe_int))) pss_nil)
      (pss_cons (ps_set (i := 3) sc_l_number.nd rfl (Or.inl rfl) (pe_callB (call_min2 rfl) rfl T.z_min bb_min (pa_cons (pe_op op_add (pe_op op_mul (pe_call g_l_pick (hr.mono (by first | decide | omega)) rfl T.m_l_pick T.F_l_pick.kp T.b_l_pick .nil pass0 (pa_cons (pv 0) (pa_cons (pe_dget (hu_of hr) (pv 1) pe_str (fun _ _ => rfl)) pa_nil))) (pe_dget (hu_of hr) (pv 1) pe_str (fun _ _ => rfl))) (pe_call g_l_pick (hr.mono (by first | decide | omega)) rfl T.m_l_pick T.F_l_pick.kp T.b_l_pick .nil pass0 (pa_cons (pv 0) (pa_cons (pe_dget (hu_of hr) (pv 1) pe_str (fun _ _ => rfl)) pa_nil)))) (pa_cons (pe_op op_pow pe_int pe_int) pa_nil))))
      (pss_one (ps_ret (pe_ix ix_list (pe_lst (pa_cons (pv 3) (pa_cons (pe_un un_neg (pv 3)) pa_nil))) (pe_op op_sub (pv 2) pe_int) (fun _ _ => rfl))))))), ?_⟩
  refine ⟨_, rfl, a, 4, rfl, hS, by decide, fun c H1 st1 c0 c1 => ?_⟩
  refine ⟨_, rfl, _, _, rfl, rfl, _, rfl, ?_⟩
  refine ite2 (fun _ => ?_) (fun cc => ?_)
  · exact ⟨_, rfl, a, 21, rfl, st1.s, by decide, fun r H2 st2 r0 r1 => ⟨_, _, rfl, rfl, q _ _ (st1.trans st2) (by omega)⟩⟩
  have c2 : ¬ c < 2 := of_decide_eq_false (Bool.eq_false_iff.mpr cc)
  have hW1 := hW.stp hS st1
  obtain ⟨kvs, ln, nz, lng, side, h1, h2, h3, h4, h5, h6, h6', h7, h8, h9, h10⟩ := hW1.ex
  refine ⟨_, rfl, _, rfl, d, _, rfl, DGet.at h1 h4, a, _, rfl, st1.s, by omega, fun r H2 st2 r0 r1 => ?_⟩
  have hW2 := hW1.stp st1.s st2
  obtain ⟨kvs', ln', nz', lng', side', g1, g2, g3, g4, g5, g6, g6', g7, g8, g9, g10⟩ := hW2.ex
  refine ⟨_, rfl, d, _, rfl, DGet.at g1 g4, _, _, rfl, rfl, .inl ⟨by omega, by omega⟩, ?_⟩
  refine ⟨_, rfl, _, rfl, d, _, rfl, DGet.at g1 g4, a, _, rfl, st2.s, by omega, fun r3 H3 st3 r30 r31 => ?_⟩
  have pz : 0 ≤ r * side' := Int.mul_nonneg r0 (by omega)
  refine ⟨_, _, rfl, rfl, 10, 9, rfl, rfl, ⟨by decide, by decide, by decide⟩, _, _, rfl, ?_⟩
  have e9 : (10 ^ (9 : Int).toNat : Int) = 1000000000 := by decide
  rw [e9]
  have b1 : 0 ≤ (if (1000000000 : Int) < r * side' + r3 then (1000000000 : Int) else r * side' + r3) ∧ (if (1000000000 : Int) < r * side' + r3 then (1000000000 : Int) else r * side' + r3) ≤ 1000000000 := by
    split <;> omega
  have st4 := (st1.trans st2).trans st3
  refine ⟨_, rfl, _, rfl, _, rfl, by show 2 ≤ sizeLine; decide, fun p hp => ?_⟩
  refine ⟨_, rfl, c, 2, rfl, rfl, ?_⟩
  have c23 : c = 2 ∨ c = 3 := by omega
  rcases c23 with rfl | rfl
  · exact ⟨p, _, _, _, rfl, rfl, SqL.of upd_same, rfl, q _ _ (st4.new hp) (by omega)⟩
  · exact ⟨p, _, _, _, rfl, rfl, SqL.of upd_same, rfl, q _ _ (st4.new hp) (by omega)⟩
theorem fn_vac {k : Nat} {f : Addr} {fd : FuncData} {ps : List Str} {sp : Sp} (no : ∀ vs H Q E, ¬ sp vs H Q E) : FnOk P w K mg base CX0 k f fd ps sp :=
  ⟨fun vs H Q E h => absurd h (no vs H Q E), fun A outer s H args us vs Q E _ _ _ _ h => absurd h (no vs H Q E)⟩
theorem ops_mem {v : V} (h : v ∈ opsL.map V.str) : ∃ s ∈ opsL, v = .str s := by
  obtain ⟨s, h1, h2⟩ := List.mem_map.mp h
  exact ⟨s, h1, h2.symm⟩
theorem ok_node {m : Nat} (T : Txt K mg) (g_l_expression : FnOk P w K mg base CX0 (2 * m + 4) T.a_l_expression T.d_l_expression p_l_expression (spExpr K m)) :
    FnOk P w K mg base CX0 (2 * m + 5) T.a_l_node T.d_l_node p_l_node (spNode K (m + 1)) := by
  have g_l_pick := ok_l_pick (P := P) (w := w) (base := base) T
  have g_l_number := ok_l_number (P := P) (w := w) (K := K) (base := base) T
  have g_l_word := ok_l_word (P := P) (w := w) (K := K) (base := base) T
  refine T.F_l_node.ok sc_l_node (fun vs H Q E h => ?_) (fun cdv A outer s H vs Q E hr h => ?_)
  · obtain ⟨a, d, c, n, rfl, _⟩ := h
    rfl
  obtain ⟨a, d, c, n, rfl, hS, hW, c0, c1, c2, hn, _, q⟩ := h
  refine ⟨_, (pss_cons (ps_if (pt_cmpR op_eq (pv 2) pe_int (nomark _)) (pss_one (ps_ret (pe_tup (pa_cons pe_str (pa_cons (pe_call g_l_number (hr.mono (by first | decide | omega)) rfl T.m_l_number T.F_l_number.kp T.b_l_number .nil pass0 (pa_cons (pv 0) (pa_cons (pv 1) pa_nil))) pa_nil))))) pss_nil)
      (pss_cons (ps_if (pt_cmpR op_eq (pv 2) pe_int (nomark _)) (pss_one (ps_ret (pe_tup (pa_cons pe_str (pa_cons (pe_call g_l_word (hr.mono (by first | decide | omega)) rfl T.m_l_word T.F_l_word.kp T.b_l_word .nil pass0 (pa_cons (pv 0) (pa_cons (pv 1) pa_nil))) pa_nil))))) pss_nil)
      (pss_cons (ps_if (pt_cmpR op_eq (pv 2) pe_int (nomark _)) (pss_one (ps_ret (pe_tup (pa_cons pe_str (pa_cons (pe_cmpR op_eq (pe_call g_l_pick (hr.mono (by first | decide | omega)) rfl T.m_l_pick T.F_l_pick.kp T.b_l_pick .nil pass0 (pa_cons (pv 0) (pa_cons pe_int pa_nil))) pe_int (nomark _)) pa_nil))))) pss_nil)
      (pss_cons (ps_if (pt_cmpR op_eq (pv 2) pe_int (nomark _)) (pss_one (ps_ret (pe_tup (pa_cons pe_str pa_nil)))) pss_nil)
      (pss_cons (ps_set (i := 4) sc_l_node.nd rfl (Or.inl rfl) (pe_call g_l_expression (hr.mono (by first | decide | omega)) rfl T.m_l_expression T.F_l_expression.kp T.b_l_expression .nil pass0 (pa_cons (pv 0) (pa_cons (pv 1) (pa_cons (pe_op op_sub (pv 3) pe_int) pa_nil)))))
      (pss_cons (ps_if (pt_cmpR op_eq (pv 2) pe_int (nomark _)) (pss_one (ps_ret (pe_tup (pa_cons pe_str (pa_cons (pv 4) pa_nil))))) pss_nil)
      (pss_cons (ps_set (i := 5) sc_l_node.nd rfl (Or.inl rfl) (pe_ix ix_list (pe_lst (pa_cons pe_str (pa_cons pe_str (pa_cons pe_str (pa_cons pe_str (pa_cons pe_str (pa_cons pe_str (pa_cons pe_str (pa_cons pe_str (pa_cons pe_str (pa_cons pe_str pa_nil))))))))))) (pe_op op_sub (pv 2) pe_int) (fun _ _ => rfl)))
      (pss_one (ps_ret (pe_tup (pa_cons (pv 5) (pa_cons (pv 4) (pa_cons (pe_call g_l_expression (hr.mono (by first | decide | omega)) rfl T.m_l_expression T.F_l_expression.kp T.b_l_expression .nil pass0 (pa_cons (pv 0) (pa_cons (pv 1) (pa_cons (pe_op op_sub (pv 3) pe_int) pa_nil)))) pa_nil))))))))))))), ?_⟩
  refine ⟨_, rfl, rfl, _, rfl, ite2 (fun _ => ?_) (fun h0 => ?_)⟩
  · refine ⟨_, rfl, _, rfl, a, d, rfl, hS, hW, fun r H1 st1 b => ⟨by show 2 ≤ sizeLine; decide, fun p hp => ?_⟩⟩
    exact q _ (.num r) _ (st1.new hp) b ⟨p, rfl, SqT.of upd_same⟩
  refine ⟨_, rfl, rfl, _, rfl, ite2 (fun _ => ?_) (fun h1 => ?_)⟩
  · refine ⟨_, rfl, _, rfl, a, d, rfl, hS, hW, fun r H1 st1 b => ⟨by show 2 ≤ sizeLine; decide, fun p hp => ?_⟩⟩
    exact q _ (.name r) _ (st1.new hp) b ⟨p, rfl, SqT.of upd_same⟩
  refine ⟨_, rfl, rfl, _, rfl, ite2 (fun _ => ?_) (fun h2 => ?_)⟩
  · refine ⟨_, rfl, a, 2, rfl, hS, by decide, fun r H1 st1 _ _ => ⟨rfl, by show 2 ≤ sizeLine; decide, fun p hp => ?_⟩⟩
    exact q _ (.flag _) _ (st1.new hp) trivial ⟨p, rfl, SqT.of upd_same⟩
  refine ⟨_, rfl, rfl, _, rfl, ite2 (fun _ => ?_) (fun h3 => ?_)⟩
  · refine ⟨by show 1 ≤ sizeLine; decide, fun p hp => ?_⟩
    exact q _ .null _ ((Stp.refl hS).new hp) trivial ⟨p, rfl, SqT.of upd_same⟩
  have n0 : c ≠ 0 := fun z => h0 (decide_eq_true (congrArg V.int z))
  have n1 : c ≠ 1 := fun z => h1 (decide_eq_true (congrArg V.int z))
  have n2 : c ≠ 2 := fun z => h2 (decide_eq_true (congrArg V.int z))
  have n3 : c ≠ 3 := fun z => h3 (decide_eq_true (congrArg V.int z))
  refine ⟨_, rfl, _, rfl, _, rfl, _, _, rfl, rfl, a, d, n - 1, rfl, hS, hW, by omega, by omega, fun x e1 H1 st1 o1 x1 => ?_⟩
  refine ⟨_, rfl, rfl, _, rfl, ite2 (fun _ => ?_) (fun h4 => ?_)⟩
  · refine ⟨_, rfl, by show 2 ≤ sizeLine; decide, fun p hp => ?_⟩
    exact q _ (.not e1) _ (st1.new hp) o1 ⟨p, x, rfl, SqT.of upd_same, ExAt.keep (Keeps.of_same (Same.new hp _)) x1⟩
  have n4 : c ≠ 4 := fun z => h4 (decide_eq_true (congrArg V.int z))
  refine ⟨by show 10 ≤ sizeLine; decide, fun l hl => ?_⟩
  have c5 : (c - 5).toNat < (opsL.map V.str).length := by
    show (c - 5).toNat < 10
    omega
  have e := atI_int (xs := opsL.map V.str) (r := c - 5) (by omega) c5
  obtain ⟨sg, hsg, esg⟩ := ops_mem (List.getElem_mem c5)
  rw [esg] at e
  refine ⟨_, rfl, _, _, rfl, rfl, l, opsL.map V.str, _, _, rfl, rfl, SqL.of upd_same, e, ?_⟩
  have s2 := Same.new hl (.lst (opsL.map V.str))
  have st2 : Stp a H1 (upd H1 l (.lst (opsL.map V.str))) := Stp.of_same st1.s s2
  refine ⟨_, rfl, _, rfl, _, rfl, _, rfl, _, rfl, _, _, rfl, rfl, a, d, n - 1, rfl, st2.s, (hW.stp hS st1).same s2, by omega, by omega, fun y e2 H3 st3 o2 y1 => ?_⟩
  refine ⟨by show 3 ≤ sizeLine; decide, fun p hp => ?_⟩
  have x3 : ExAt K H3 e1 x := ExAt.keep (Keeps.of_stp (st2.trans st3) st1.s) x1
  have kp : Keeps K H3 (upd H3 p (.tup [.str sg, x, y])) := Keeps.of_same (Same.new hp _)
  exact q _ (.bin sg e1 e2) _ ((st1.trans (st2.trans st3)).new hp) ⟨hsg, o1, o2⟩ ⟨p, x, y, rfl, SqT.of upd_same, ExAt.keep kp x3, ExAt.keep kp y1⟩
theorem ok_expr {m : Nat} (T : Txt K mg) (g_l_node : FnOk P w K mg base CX0 (2 * m + 5) T.a_l_node T.d_l_node p_l_node (spNode K (m + 1))) :
    FnOk P w K mg base CX0 (2 * (m + 1) + 4) T.a_l_expression T.d_l_expression p_l_expression (spExpr K (m + 1)) := by
  have g_l_pick := ok_l_pick (P := P) (w := w) (base := base) T
  refine T.F_l_expression.ok sc_l_expression (fun vs H Q E h => ?_) (fun cdv A outer s H vs Q E hr h => ?_)
  · obtain ⟨a, d, n, rfl, _⟩ := h
    rfl
  obtain ⟨a, d, n, rfl, hS, hW, hn, _, q⟩ := h
  refine ⟨_, (pss_cons (ps_set (i := 3) sc_l_expression.nd rfl (Or.inl rfl) (pe_call g_l_pick (hr.mono (by first | decide | omega)) rfl T.m_l_pick T.F_l_pick.kp T.b_l_pick .nil pass0 (pa_cons (pv 0) (pa_cons pe_int pa_nil))))
      (C8.pss_cut (ps_if (PW.pt (pw_or (pt_cmpR op_lt (pv 2) pe_int (nomark _)) (pw_or1 (pt_cmpR op_eq (pe_call g_l_pick (hr.mono (by first | decide | omega)) rfl T.m_l_pick T.F_l_pick.kp T.b_l_pick .nil pass0 (pa_cons (pv 0) (pa_cons pe_int pa_nil))) pe_int (nomark _))))) (pss_one (ps_set (i := 3) sc_l_expression.nd rfl (Or.inl rfl) (pe_op op_modN (pv 3) pe_int))) pss_nil)
      (pss_one (ps_ret (pe_call g_l_node (hr.mono (by first | decide | omega)) rfl T.m_l_node T.F_l_node.kp T.b_l_node .nil pass0 (pa_cons (pv 0) (pa_cons (pv 1) (pa_cons (pv 3) (pa_cons (pv 2) pa_nil))))))))), ?_⟩
  refine ⟨_, rfl, a, 15, rfl, hS, by decide, fun c H1 st1 c0 c1 => ?_⟩
  refine ⟨fun σ H2 => Stp a H H2 ∧ ∃ c : Int, 0 ≤ c ∧ c < 15 ∧ (c < 4 ∨ 1 ≤ n) ∧ σ = [some (.ref a), some (.ref d), some (.int n), some (.int c)], ⟨_, rfl, n, 1, rfl, rfl, _, rfl, ?_⟩, ?_⟩
  · have b := fmod_bd (x := c) (m := 4) (by decide)
    refine ite2 (fun _ => iteT ⟨_, rfl, _, _, rfl, rfl, (by intro z; cases z), ⟨st1, _, b.1, by omega, .inl b.2, rfl⟩⟩) (fun hc => ?_)
    have hc' : ¬ n < 1 := of_decide_eq_false (Bool.eq_false_iff.mpr hc)
    refine ⟨_, rfl, a, 3, rfl, st1.s, by decide, fun r H2 st2 _ _ => ⟨rfl, _, rfl, ?_⟩⟩
    exact ite2 (fun _ => ⟨_, rfl, _, _, rfl, rfl, (by intro z; cases z), ⟨st1.trans st2, _, b.1, by omega, .inl b.2, rfl⟩⟩) (fun _ => ⟨st1.trans st2, c, c0, by omega, .inr (by omega), rfl⟩)
  rintro σ H2 ⟨st2, c, c0, c1, c2, rfl⟩
  exact ⟨_, rfl, _, rfl, _, rfl, _, rfl, a, d, c, n, rfl, st2.s, hW.stp hS st2, c0, c1, c2, hn, by omega, fun v e H3 st3 o x => q v e H3 (st2.trans st3) o x⟩
theorem ok_draws (T : Txt K mg) : ∀ m : Nat, FnOk P w K mg base CX0 (2 * m + 4) T.a_l_expression T.d_l_expression p_l_expression (spExpr K m) ∧ FnOk P w K mg base CX0 (2 * m + 3) T.a_l_node T.d_l_node p_l_node (spNode K m)
  | 0 => ⟨fn_vac fun vs H Q E h => by obtain ⟨a, d, n, _, _, _, _, h, _⟩ := h; omega, fn_vac fun vs H Q E h => by obtain ⟨a, d, c, n, _, _, _, _, _, _, _, h, _⟩ := h; omega⟩
  | m + 1 => by
    have ih := (ok_draws T m).1
    have h1 := ok_node T ih
    exact ⟨ok_expr T h1, h1⟩
end
/-! ### the two texts -/
theorem l_not : ("(not " : Str).length = 5 := by decide +kernel
theorem l_cl : (")" : Str).length = 1 := by decide +kernel
theorem l_op : ("(" : Str).length = 1 := by decide +kernel
theorem l_sp : (" " : Str).length = 1 := by decide +kernel
theorem l_dd : (".." : Str).length = 2 := by decide +kernel
theorem l_emp : (Str.empty).length = 0 := by decide +kernel
theorem emp_app (x : Str) : Str.empty ++ x = x := congrArg Str.mk (Array.empty_append)
theorem txt_fit {m : Nat} {e : Ex} (h : e.ok m) (hm : m ≤ 12) : (txt e).length ≤ 131072 := by
  have h1 := txt_len h
  have h2 : 2 ^ m ≤ 2 ^ 12 := Nat.pow_le_pow_right (by decide) hm
  have h3 : (2 : Nat) ^ 12 = 4096 := by decide
  omega
inductive Kd where
  | flag | ref (s : Str) | num (lo hi : Int)
def Kd.vals : Kd → List V
  | .flag => [.str "flag"]
  | .ref s => [.str "ref", .str s]
  | .num lo hi => [.str "num", .int lo, .int hi]
def Kd.ok : Kd → Prop
  | .flag => True
  | .ref s => s.length ≤ 20
  | .num lo hi => (-1000000000 ≤ lo ∧ lo ≤ 1000000000) ∧ (-1000000000 ≤ hi ∧ hi ≤ 1000000000)
def kdT : Kd → Str
  | .flag => "flag"
  | .ref s => s
  | .num lo hi => numS lo ++ (".." : Str) ++ numS hi
def KdAt (K : PySem.W.Frag) (H : Hp) (v : V) (k : Kd) : Prop := ∃ p, v = .ref p ∧ SqT K H p k.vals
def spTx (K : PySem.W.Frag) (m : Nat) : Sp := fun vs H Q _ => ∃ (v : V) (e : Ex), vs = [v] ∧ ExAt K H e v ∧ e.ok m ∧ Q (.str (txt e)) H
def spTl (K : PySem.W.Frag) (m : Nat) : Sp := fun vs H Q _ => ∃ (v : V) (e : Ex), vs = [v] ∧ ExAt K H e v ∧ e.ok m ∧ ∀ H', Same H H' → Q (.str (txt e)) H'
def spKt (K : PySem.W.Frag) : Sp := fun vs H Q _ => ∃ (v : V) (k : Kd), vs = [v] ∧ KdAt K H v k ∧ k.ok ∧ Q (.str (kdT k)) H
section
variable {P : Program} {w : World} {K : PySem.W.Frag} {mg : Str → Option Value} {base : Heap}
theorem ok_expression_text (T : Txt K mg) : ∀ m : Nat, m ≤ 12 → FnOk P w K mg base CX0 m T.a_expression_text T.d_expression_text p_expression_text (spTx K m)
  | 0, _ => fn_vac fun vs H Q E h => by obtain ⟨v, e, _, _, h, _⟩ := h; exact h
  | m + 1, hm => by
    have g_expression_text := ok_expression_text T m (by omega)
    refine T.F_expression_text.ok sc_expression_text (fun vs H Q E h => ?_) (fun cdv A outer s H vs Q E hr h => ?_)
    · obtain ⟨v, e, rfl, _⟩ := h
      rfl
    obtain ⟨v, e, rfl, hx, ho, q⟩ := h
    refine ⟨_, (pss_cons (ps_set (i := 1) sc_expression_text.nd rfl (Or.inl rfl) (pe_ix ix_tup (pv 0) pe_int (fun _ _ => rfl)))
      (pss_cons (ps_if (pt_cmpR op_eq (pv 1) pe_str (nomark _)) (pss_one (ps_ret (pe_callTy call_str_int rfl T.z_str bt_str (pa_cons (pe_ix ix_tup (pv 0) pe_int (fun _ _ => rfl)) pa_nil)))) pss_nil)
      (pss_cons (ps_if (pt_cmpR op_eq (pv 1) pe_str (nomark _)) (pss_one (ps_ret (pe_ifExp (pt_val (pe_ix ix_tup (pv 0) pe_int (fun _ _ => rfl))) pe_str pe_str))) pss_nil)
      (pss_cons (ps_if (pt_cmpR op_eq (pv 1) pe_str (nomark _)) (pss_one (ps_ret pe_str)) pss_nil)
      (pss_cons (ps_if (pt_cmpR op_eq (pv 1) pe_str (nomark _)) (pss_one (ps_ret (pe_ix ix_tup (pv 0) pe_int (fun _ _ => rfl)))) pss_nil)
      (pss_cons (ps_if (pt_cmpR op_eq (pv 1) pe_str (nomark _)) (pss_one (ps_ret (pe_joined (PJ.cons pe_str (PJ.cons (pe_fmt (pe_call g_expression_text (hr.mono (by first | decide | omega)) rfl T.m_expression_text T.F_expression_text.kp T.b_expression_text .nil pass0 (pa_cons (pe_ix ix_tup (pv 0) pe_int (fun _ _ => rfl)) pa_nil))) (PJ.cons pe_str PJ.nil)))))) pss_nil)
      (pss_one (ps_ret (pe_joined (PJ.cons pe_str (PJ.cons (pe_fmt (pe_call g_expression_text (hr.mono (by first | decide | omega)) rfl T.m_expression_text T.F_expression_text.kp T.b_expression_text .nil pass0 (pa_cons (pe_ix ix_tup (pv 0) pe_int (fun _ _ => rfl)) pa_nil))) (PJ.cons pe_str (PJ.cons (pe_fmt (pv 1)) (PJ.cons pe_str (PJ.cons (pe_fmt (pe_call g_expression_text (hr.mono (by first | decide | omega)) rfl T.m_expression_text T.F_expression_text.kp T.b_expression_text .nil pass0 (pa_cons (pe_ix ix_tup (pv 0) pe_int (fun _ _ => rfl)) pa_nil))) (PJ.cons pe_str PJ.nil)))))))))))))))), ?_⟩
    cases e with
    | num i =>
      obtain ⟨p, rfl, hp⟩ := hx
      exact ⟨_, rfl, p, _, 0, _, rfl, rfl, hp, rfl, _, rfl, rfl, _, rfl, ifT (by decide +kernel) ⟨_, rfl, p, _, 1, _, rfl, rfl, hp, rfl, _, rfl, log_ok ho, q⟩⟩
    | flag b =>
      obtain ⟨p, rfl, hp⟩ := hx
      refine ⟨_, rfl, p, _, 0, _, rfl, rfl, hp, rfl, _, rfl, rfl, _, rfl, ifF (by decide +kernel) ⟨_, rfl, rfl, _, rfl, ifT (by decide +kernel) ⟨_, rfl, p, _, 1, _, rfl, rfl, hp, rfl, _, rfl, ?_⟩⟩⟩
      cases b with
      | true => exact iteT q
      | false => exact iteF q
    | null =>
      obtain ⟨p, rfl, hp⟩ := hx
      exact ⟨_, rfl, p, _, 0, _, rfl, rfl, hp, rfl, _, rfl, rfl, _, rfl, ifF (by decide +kernel) ⟨_, rfl, rfl, _, rfl, ifF (by decide +kernel) ⟨_, rfl, rfl, _, rfl, ifT (by decide +kernel) q⟩⟩⟩
    | name z =>
      obtain ⟨p, rfl, hp⟩ := hx
      exact ⟨_, rfl, p, _, 0, _, rfl, rfl, hp, rfl, _, rfl, rfl, _, rfl, ifF (by decide +kernel) ⟨_, rfl, rfl, _, rfl, ifF (by decide +kernel) ⟨_, rfl, rfl, _, rfl, ifF (by decide +kernel) ⟨_, rfl, rfl, _, rfl, ifT (by decide +kernel) ⟨_, rfl, p, _, 1, _, rfl, rfl, hp, rfl, q⟩⟩⟩⟩⟩
    | not a =>
      obtain ⟨p, x, rfl, hp, hx⟩ := hx
      have f1 := txt_fit (m := m) (e := a) ho (by omega)
      refine ⟨_, rfl, p, _, 0, _, rfl, rfl, hp, rfl, _, rfl, rfl, _, rfl, ifF (by decide +kernel) ⟨_, rfl, rfl, _, rfl, ifF (by decide +kernel) ⟨_, rfl, rfl, _, rfl, ifF (by decide +kernel) ⟨_, rfl, rfl, _, rfl, ifF (by decide +kernel) ⟨_, rfl, rfl, _, rfl, ifT (by decide +kernel) ?_⟩⟩⟩⟩⟩
      refine ⟨_, rfl, (by rw [sizeLine_eq]; (try simp only [len_app, l_not, l_cl, l_op, l_sp, l_dd, l_emp]); omega), _, rfl, p, _, 1, _, rfl, rfl, hp, rfl, x, a, rfl, hx, ho, .inl ⟨_, rfl, (by rw [sizeLine_eq]; (try simp only [len_app, l_not, l_cl, l_op, l_sp, l_dd, l_emp]); omega), _, rfl, (by rw [sizeLine_eq]; (try simp only [len_app, l_not, l_cl, l_op, l_sp, l_dd, l_emp]); omega), _, rfl, (by rw [sizeLine_eq]; (try simp only [len_app, l_not, l_cl, l_op, l_sp, l_dd, l_emp]); omega), ?_⟩⟩
      rw [emp_app]
      exact q
    | bin op a b =>
      obtain ⟨p, x, y, rfl, hp, hx, hy⟩ := hx
      obtain ⟨ho, oa, ob⟩ := ho
      obtain ⟨n1, n2, n3, n4, n5, n6⟩ := ops_ne op ho
      have f1 := txt_fit oa (by omega)
      have f2 := txt_fit ob (by omega)
      refine ⟨_, rfl, p, _, 0, _, rfl, rfl, hp, rfl, _, rfl, rfl, _, rfl, ifF (decide_eq_false n1) ⟨_, rfl, rfl, _, rfl, ifF (decide_eq_false n2) ⟨_, rfl, rfl, _, rfl, ifF (decide_eq_false n3) ⟨_, rfl, rfl, _, rfl, ifF (decide_eq_false n4) ⟨_, rfl, rfl, _, rfl, ifF (decide_eq_false n5) ?_⟩⟩⟩⟩⟩
      refine ⟨_, rfl, (by rw [sizeLine_eq]; (try simp only [len_app, l_not, l_cl, l_op, l_sp, l_dd, l_emp]); omega), _, rfl, p, _, 1, _, rfl, rfl, hp, rfl, x, a, rfl, hx, oa, .inl ⟨_, rfl, (by rw [sizeLine_eq]; (try simp only [len_app, l_not, l_cl, l_op, l_sp, l_dd, l_emp]); omega), _, rfl, (by rw [sizeLine_eq]; (try simp only [len_app, l_not, l_cl, l_op, l_sp, l_dd, l_emp]); omega), _, rfl, (by rw [sizeLine_eq]; (try simp only [len_app, l_not, l_cl, l_op, l_sp, l_dd, l_emp]); omega), _, rfl, .inl ⟨_, rfl, (by rw [sizeLine_eq]; (try simp only [len_app, l_not, l_cl, l_op, l_sp, l_dd, l_emp]); omega), _, rfl, (by rw [sizeLine_eq]; (try simp only [len_app, l_not, l_cl, l_op, l_sp, l_dd, l_emp]); omega), _, rfl, (by rw [sizeLine_eq]; (try simp only [len_app, l_not, l_cl, l_op, l_sp, l_dd, l_emp]); omega), _, rfl, p, _, 2, _, rfl, rfl, hp, rfl, y, b, rfl, hy, ob, .inl ⟨_, rfl, (by rw [sizeLine_eq]; (try simp only [len_app, l_not, l_cl, l_op, l_sp, l_dd, l_emp]); omega), _, rfl, (by rw [sizeLine_eq]; (try simp only [len_app, l_not, l_cl, l_op, l_sp, l_dd, l_emp]); omega), _, rfl, (by rw [sizeLine_eq]; (try simp only [len_app, l_not, l_cl, l_op, l_sp, l_dd, l_emp]); omega), ?_⟩⟩⟩⟩
      rw [emp_app]
      exact q
theorem ok_l_text (T : Txt K mg) : ∀ m : Nat, m ≤ 12 → FnOk P w K mg base CX0 m T.a_l_text T.d_l_text p_l_text (spTl K m)
  | 0, _ => fn_vac fun vs H Q E h => by obtain ⟨v, e, _, _, h, _⟩ := h; exact h
  | m + 1, hm => by
    have g_l_text := ok_l_text T m (by omega)
    refine T.F_l_text.ok sc_l_text (fun vs H Q E h => ?_) (fun cdv A outer s H vs Q E hr h => ?_)
    · obtain ⟨v, e, rfl, _⟩ := h
      rfl
    obtain ⟨v, e, rfl, hx, ho, q⟩ := h
    refine ⟨_, (pss_cons (ps_set (i := 1) sc_l_text.nd rfl (Or.inl rfl) (pe_ix ix_tup (pv 0) pe_int (fun _ _ => rfl)))
      (pss_cons (ps_if (pt_cmpR op_eq (pv 1) pe_str (nomark _)) (pss_one (ps_ret (pe_callTy call_str_int rfl T.z_str bt_str (pa_cons (pe_ix ix_tup (pv 0) pe_int (fun _ _ => rfl)) pa_nil)))) pss_nil)
      (pss_cons (ps_if (pt_cmpR op_eq (pv 1) pe_str (nomark _)) (pss_one (ps_ret (pe_ix ix_list (pe_lst (pa_cons pe_str (pa_cons pe_str pa_nil))) (pe_callTy call_int1 rfl T.z_int bt_int (pa_cons (pe_ix ix_tup (pv 0) pe_int (fun _ _ => rfl)) pa_nil)) (fun _ _ => rfl)))) pss_nil)
      (pss_cons (ps_if (pt_cmpR op_eq (pv 1) pe_str (nomark _)) (pss_one (ps_ret pe_str)) pss_nil)
      (pss_cons (ps_if (pt_cmpR op_eq (pv 1) pe_str (nomark _)) (pss_one (ps_ret (pe_ix ix_tup (pv 0) pe_int (fun _ _ => rfl)))) pss_nil)
      (pss_cons (ps_if (pt_cmpR op_eq (pv 1) pe_str (nomark _)) (pss_one (ps_ret (pe_op op_add_str (pe_op op_add_str pe_str (pe_call g_l_text (hr.mono (by first | decide | omega)) rfl T.m_l_text T.F_l_text.kp T.b_l_text .nil pass0 (pa_cons (pe_ix ix_tup (pv 0) pe_int (fun _ _ => rfl)) pa_nil))) pe_str))) pss_nil)
      (pss_one (ps_ret (pe_op op_add_str (pe_op op_add_str (pe_op op_add_str (pe_op op_add_str (pe_op op_add_str (pe_op op_add_str pe_str (pe_call g_l_text (hr.mono (by first | decide | omega)) rfl T.m_l_text T.F_l_text.kp T.b_l_text .nil pass0 (pa_cons (pe_ix ix_tup (pv 0) pe_int (fun _ _ => rfl)) pa_nil))) pe_str) (pv 1)) pe_str) (pe_call g_l_text (hr.mono (by first | decide | omega)) rfl T.m_l_text T.F_l_text.kp T.b_l_text .nil pass0 (pa_cons (pe_ix ix_tup (pv 0) pe_int (fun _ _ => rfl)) pa_nil))) pe_str))))))))), ?_⟩
    cases e with
    | num i =>
      obtain ⟨p, rfl, hp⟩ := hx
      exact ⟨_, rfl, p, _, 0, _, rfl, rfl, hp, rfl, _, rfl, rfl, _, rfl, ifT (by decide +kernel) ⟨_, rfl, p, _, 1, _, rfl, rfl, hp, rfl, _, rfl, log_ok ho, q _ (Same.refl H)⟩⟩
    | flag b =>
      obtain ⟨p, rfl, hp⟩ := hx
      refine ⟨_, rfl, p, _, 0, _, rfl, rfl, hp, rfl, _, rfl, rfl, _, rfl, ifF (by decide +kernel) ⟨_, rfl, rfl, _, rfl, ifT (by decide +kernel) ⟨by show 2 ≤ sizeLine; decide, fun l hl => ?_⟩⟩⟩
      have hp' := Same.tup (Same.new hl (.lst [.str "false", .str "true"])) hp
      refine ⟨_, rfl, p, _, 1, _, rfl, rfl, hp', rfl, .inr ⟨b, rfl, ?_⟩⟩
      cases b with
      | true => exact ⟨l, _, 1, _, rfl, rfl, SqL.of upd_same, rfl, q _ (Same.new hl _)⟩
      | false => exact ⟨l, _, 0, _, rfl, rfl, SqL.of upd_same, rfl, q _ (Same.new hl _)⟩
    | null =>
      obtain ⟨p, rfl, hp⟩ := hx
      exact ⟨_, rfl, p, _, 0, _, rfl, rfl, hp, rfl, _, rfl, rfl, _, rfl, ifF (by decide +kernel) ⟨_, rfl, rfl, _, rfl, ifF (by decide +kernel) ⟨_, rfl, rfl, _, rfl, ifT (by decide +kernel) (q _ (Same.refl H))⟩⟩⟩
    | name z =>
      obtain ⟨p, rfl, hp⟩ := hx
      exact ⟨_, rfl, p, _, 0, _, rfl, rfl, hp, rfl, _, rfl, rfl, _, rfl, ifF (by decide +kernel) ⟨_, rfl, rfl, _, rfl, ifF (by decide +kernel) ⟨_, rfl, rfl, _, rfl, ifF (by decide +kernel) ⟨_, rfl, rfl, _, rfl, ifT (by decide +kernel) ⟨_, rfl, p, _, 1, _, rfl, rfl, hp, rfl, q _ (Same.refl H)⟩⟩⟩⟩⟩
    | not a =>
      obtain ⟨p, x, rfl, hp, hx⟩ := hx
      have f1 := txt_fit (m := m) (e := a) ho (by omega)
      refine ⟨_, rfl, p, _, 0, _, rfl, rfl, hp, rfl, _, rfl, rfl, _, rfl, ifF (by decide +kernel) ⟨_, rfl, rfl, _, rfl, ifF (by decide +kernel) ⟨_, rfl, rfl, _, rfl, ifF (by decide +kernel) ⟨_, rfl, rfl, _, rfl, ifF (by decide +kernel) ⟨_, rfl, rfl, _, rfl, ifT (by decide +kernel) ?_⟩⟩⟩⟩⟩
      exact ⟨_, rfl, p, _, 1, _, rfl, rfl, hp, rfl, x, a, rfl, hx, ho, fun H1 s1 => ⟨_, _, rfl, rfl, (by rw [sizeLine_eq]; (try simp only [len_app, l_not, l_cl, l_op, l_sp, l_dd, l_emp]); omega), _, _, rfl, rfl, (by rw [sizeLine_eq]; (try simp only [len_app, l_not, l_cl, l_op, l_sp, l_dd, l_emp]); omega), q _ s1⟩⟩
    | bin op a b =>
      obtain ⟨p, x, y, rfl, hp, hx, hy⟩ := hx
      obtain ⟨ho, oa, ob⟩ := ho
      obtain ⟨n1, n2, n3, n4, n5, n6⟩ := ops_ne op ho
      have f1 := txt_fit oa (by omega)
      have f2 := txt_fit ob (by omega)
      refine ⟨_, rfl, p, _, 0, _, rfl, rfl, hp, rfl, _, rfl, rfl, _, rfl, ifF (decide_eq_false n1) ⟨_, rfl, rfl, _, rfl, ifF (decide_eq_false n2) ⟨_, rfl, rfl, _, rfl, ifF (decide_eq_false n3) ⟨_, rfl, rfl, _, rfl, ifF (decide_eq_false n4) ⟨_, rfl, rfl, _, rfl, ifF (decide_eq_false n5) ?_⟩⟩⟩⟩⟩
      refine ⟨_, rfl, p, _, 1, _, rfl, rfl, hp, rfl, x, a, rfl, hx, oa, fun H1 s1 => ?_⟩
      have hp1 := Same.tup s1 hp
      have hy1 := ExAt.keep (Keeps.of_same s1) hy
      exact ⟨_, _, rfl, rfl, (by rw [sizeLine_eq]; (try simp only [len_app, l_not, l_cl, l_op, l_sp, l_dd, l_emp]); omega), _, _, rfl, rfl, (by rw [sizeLine_eq]; (try simp only [len_app, l_not, l_cl, l_op, l_sp, l_dd, l_emp]); omega), _, rfl, _, _, rfl, rfl, (by rw [sizeLine_eq]; (try simp only [len_app, l_not, l_cl, l_op, l_sp, l_dd, l_emp]); omega), _, _, rfl, rfl, (by rw [sizeLine_eq]; (try simp only [len_app, l_not, l_cl, l_op, l_sp, l_dd, l_emp]); omega), _, rfl, p, _, 2, _, rfl, rfl, hp1, rfl, y, b, rfl, hy1, ob, fun H2 s2 => ⟨_, _, rfl, rfl, (by rw [sizeLine_eq]; (try simp only [len_app, l_not, l_cl, l_op, l_sp, l_dd, l_emp]); omega), _, _, rfl, rfl, (by rw [sizeLine_eq]; (try simp only [len_app, l_not, l_cl, l_op, l_sp, l_dd, l_emp]); omega), q _ (s1.trans s2)⟩⟩
theorem ok_kind_text (T : Txt K mg) : FnOk P w K mg base CX0 1 T.a_kind_text T.d_kind_text p_kind_text (spKt K) := by
  refine T.F_kind_text.ok sc_kind_text (fun vs H Q E h => ?_) (fun cdv A outer s H vs Q E hr h => ?_)
  · obtain ⟨v, e, rfl, _⟩ := h
    rfl
  obtain ⟨v, k, rfl, ⟨p, rfl, hp⟩, ok, q⟩ := h
  refine ⟨_, (pss_cons (ps_if (pt_cmpR op_eq (pe_ix ix_tup (pv 0) pe_int (fun _ _ => rfl)) pe_str (nomark _)) (pss_one (ps_ret pe_str)) pss_nil)
      (pss_cons (ps_if (pt_cmpR op_eq (pe_ix ix_tup (pv 0) pe_int (fun _ _ => rfl)) pe_str (nomark _)) (pss_one (ps_ret (pe_ix ix_tup (pv 0) pe_int (fun _ _ => rfl)))) pss_nil)
      (pss_one (ps_ret (pe_joined (PJ.cons (pe_fmt (pe_ix ix_tup (pv 0) pe_int (fun _ _ => rfl))) (PJ.cons pe_str (PJ.cons (pe_fmt (pe_ix ix_tup (pv 0) pe_int (fun _ _ => rfl))) PJ.nil)))))))), ?_⟩
  cases k with
  | flag => exact ⟨_, rfl, p, _, 0, _, rfl, rfl, hp, rfl, rfl, _, rfl, ifT (by decide +kernel) q⟩
  | ref z => exact ⟨_, rfl, p, _, 0, _, rfl, rfl, hp, rfl, rfl, _, rfl, ifF (by decide +kernel) ⟨_, rfl, p, _, 0, _, rfl, rfl, hp, rfl, rfl, _, rfl, ifT (by decide +kernel) ⟨_, rfl, p, _, 1, _, rfl, rfl, hp, rfl, q⟩⟩⟩
  | num lo hi =>
    have f1 := numS_len ok.1
    have f2 := numS_len ok.2
    have g1 : (Str.ofString (toString lo)).length ≤ 11 := f1
    have g2 : (Str.ofString (toString hi)).length ≤ 11 := f2
    refine ⟨_, rfl, p, _, 0, _, rfl, rfl, hp, rfl, rfl, _, rfl, ifF (by decide +kernel) ⟨_, rfl, p, _, 0, _, rfl, rfl, hp, rfl, rfl, _, rfl, ifF (by decide +kernel) ?_⟩⟩
    refine ⟨_, rfl, p, _, 1, _, rfl, rfl, hp, rfl, .inr ⟨_, rfl, log_ok ok.1, _, rfl, (by rw [sizeLine_eq]; (try simp only [len_app, l_not, l_cl, l_op, l_sp, l_dd, l_emp]); omega), _, rfl, (by rw [sizeLine_eq]; (try simp only [len_app, l_not, l_cl, l_op, l_sp, l_dd, l_emp]); omega), _, rfl, p, _, 2, _, rfl, rfl, hp, rfl, .inr ⟨_, rfl, log_ok ok.2, _, rfl, (by rw [sizeLine_eq]; (try simp only [len_app, l_not, l_cl, l_op, l_sp, l_dd, l_emp]); omega), ?_⟩⟩⟩
    rw [emp_app]
    exact q
theorem ok_l_kind_text (T : Txt K mg) : FnOk P w K mg base CX0 1 T.a_l_kind_text T.d_l_kind_text p_l_kind_text (spKt K) := by
  refine T.F_l_kind_text.ok sc_l_kind_text (fun vs H Q E h => ?_) (fun cdv A outer s H vs Q E hr h => ?_)
  · obtain ⟨v, e, rfl, _⟩ := h
    rfl
  obtain ⟨v, k, rfl, ⟨p, rfl, hp⟩, ok, q⟩ := h
  refine ⟨_, (pss_cons (ps_if (pt_cmpR op_eq (pe_ix ix_tup (pv 0) pe_int (fun _ _ => rfl)) pe_str (nomark _)) (pss_one (ps_ret pe_str)) pss_nil)
      (pss_cons (ps_if (pt_cmpR op_eq (pe_ix ix_tup (pv 0) pe_int (fun _ _ => rfl)) pe_str (nomark _)) (pss_one (ps_ret (pe_ix ix_tup (pv 0) pe_int (fun _ _ => rfl)))) pss_nil)
      (pss_one (ps_ret (pe_op op_add_str (pe_op op_add_str (pe_callTy call_str_int rfl T.z_str bt_str (pa_cons (pe_ix ix_tup (pv 0) pe_int (fun _ _ => rfl)) pa_nil)) pe_str) (pe_callTy call_str_int rfl T.z_str bt_str (pa_cons (pe_ix ix_tup (pv 0) pe_int (fun _ _ => rfl)) pa_nil))))))), ?_⟩
  cases k with
  | flag => exact ⟨_, rfl, p, _, 0, _, rfl, rfl, hp, rfl, rfl, _, rfl, ifT (by decide +kernel) q⟩
  | ref z => exact ⟨_, rfl, p, _, 0, _, rfl, rfl, hp, rfl, rfl, _, rfl, ifF (by decide +kernel) ⟨_, rfl, p, _, 0, _, rfl, rfl, hp, rfl, rfl, _, rfl, ifT (by decide +kernel) ⟨_, rfl, p, _, 1, _, rfl, rfl, hp, rfl, q⟩⟩⟩
  | num lo hi =>
    have f1 := numS_len ok.1
    have f2 := numS_len ok.2
    have g1 : (Str.ofString (toString lo)).length ≤ 11 := f1
    have g2 : (Str.ofString (toString hi)).length ≤ 11 := f2
    refine ⟨_, rfl, p, _, 0, _, rfl, rfl, hp, rfl, rfl, _, rfl, ifF (by decide +kernel) ⟨_, rfl, p, _, 0, _, rfl, rfl, hp, rfl, rfl, _, rfl, ifF (by decide +kernel) ?_⟩⟩
    exact ⟨_, rfl, p, _, 1, _, rfl, rfl, hp, rfl, _, rfl, log_ok ok.1, _, _, rfl, rfl, (by rw [sizeLine_eq]; (try simp only [len_app, l_not, l_cl, l_op, l_sp, l_dd, l_emp]); omega), _, rfl, p, _, 2, _, rfl, rfl, hp, rfl, _, rfl, log_ok ok.2, _, _, rfl, rfl, (by rw [sizeLine_eq]; (try simp only [len_app, l_not, l_cl, l_op, l_sp, l_dd, l_emp]); omega), q⟩
/-- the dict of the law's world -/
def wKvs (l : Addr) (lng side : Int) : List (Key × V) := [(kN, .ref l), (kL, .int lng), (kS, .int side)]
theorem w1 (l : Addr) (lng side : Int) : valV (mergeK [] (wKvs l lng side)) kN = some (.ref l) := by kernel_rfl
theorem w2 (l : Addr) (lng side : Int) : valV (mergeK [] (wKvs l lng side)) kL = some (.int lng) := by kernel_rfl
theorem w3 (l : Addr) (lng side : Int) : valV (mergeK [] (wKvs l lng side)) kS = some (.int side) := by kernel_rfl
theorem world_at {H : Hp} {p l : Addr} {lng side : Int} (hp : H p = none) (hl : (upd H p (.dK [])) l = none) (b : (1 ≤ lng ∧ lng ≤ 12) ∧ 1 ≤ side ∧ side ≤ 40000) :
    Wd (upd (upd (upd H p (.dK [])) l (.lst [])) p (.dK (mergeK [] (wKvs l lng side)))) p ∧ Same H (upd (upd (upd H p (.dK [])) l (.lst [])) p (.dK (mergeK [] (wKvs l lng side)))) := by
  have ne : l ≠ p := by
    intro z
    rw [z, upd_same] at hl
    cases hl
  refine ⟨⟨_, l, [], lng, side, upd_same, w1 l lng side, w2 l lng side, w3 l lng side, by rw [upd_ne ne]; exact upd_same, by decide, fun z hz => (List.not_mem_nil hz).elim, b.1.1, b.1.2, b.2.1, b.2.2⟩, fun b o e => ?_⟩
  have e2 := Same.new hp (.dK []) b o e
  rw [upd_ne (ne_of_none e hp)]
  exact Same.new hl _ b o e2
def spLaw (K : PySem.W.Frag) : Sp := fun vs H Q _ => ∃ (a : Addr) (ns : List Int), vs = [.ref a] ∧ SqL K H a (ns.map V.int) ∧ ns.length ≤ 63 ∧ ∀ H', Q (.bl true) H'
theorem ok_law (T : Txt K mg) : FnOk P w K mg base CX0 24 T.a_law T.d_law p_law (spLaw K) := by
  have g_l_cell := ok_l_cell (P := P) (w := w) (K := K) (base := base) T
  have g_l_source := ok_l_source (P := P) (w := w) (base := base) T
  have g_l_pick := ok_l_pick (P := P) (w := w) (base := base) T
  have g_l_name := ok_l_name (P := P) (w := w) (K := K) (base := base) T
  have g_l_number := ok_l_number (P := P) (w := w) (K := K) (base := base) T
  have g_l_node := (ok_draws (P := P) (w := w) (K := K) (base := base) T 8).2
  have g_l_same := ok_l_same (P := P) (w := w) (K := K) (base := base) T 1
  have g_expression_text := ok_expression_text (P := P) (w := w) (K := K) (base := base) T 8 (by decide)
  have g_l_text := ok_l_text (P := P) (w := w) (K := K) (base := base) T 8 (by decide)
  have g_kind_text := ok_kind_text (P := P) (w := w) (K := K) (base := base) T
  have g_l_kind_text := ok_l_kind_text (P := P) (w := w) (K := K) (base := base) T
  refine T.F_law.ok sc_law (fun vs H Q E h => ?_) (fun cdv A outer s H vs Q E hr h => ?_)
  · obtain ⟨a, ns, rfl, _⟩ := h
    rfl
  obtain ⟨a, ns, rfl, hS, h63, q⟩ := h
  refine ⟨_, (pss_cons (ps_set (i := 1) sc_law.nd rfl (Or.inl rfl) (pe_disp (pps_cons pe_str (pe_lst pa_nil) (pps_cons pe_str pe_int (pps_cons pe_str pe_int pps_nil))) (by rfl) (by rfl) (fun z => by cases z) (by decide)))
      (pss_cons (ps_set (i := 2) sc_law.nd rfl (Or.inl rfl) (pe_call g_l_source (hr.mono (by first | decide | omega)) rfl T.m_l_source T.F_l_source.kp T.b_l_source .nil pass0 (pa_cons (pe_call g_l_cell (hr.mono (by first | decide | omega)) rfl T.m_l_cell T.F_l_cell.kp T.b_l_cell .nil pass0 (pa_cons (pv 0) (pa_cons pe_int pa_nil))) pa_nil)))
      (pss_cons (ps_set (i := 3) sc_law.nd rfl (Or.inl rfl) (pe_call g_l_node (hr.mono (by first | decide | omega)) rfl T.m_l_node T.F_l_node.kp T.b_l_node .nil pass0 (pa_cons (pv 2) (pa_cons (pv 1) (pa_cons (pe_call g_l_pick (hr.mono (by first | decide | omega)) rfl T.m_l_pick T.F_l_pick.kp T.b_l_pick .nil pass0 (pa_cons (pv 2) (pa_cons pe_int pa_nil))) (pa_cons (pe_op op_add pe_int (pe_callTy call_int1 rfl T.z_int bt_int (pa_cons (pe_cmpR op_eq (pe_call g_l_pick (hr.mono (by first | decide | omega)) rfl T.m_l_pick T.F_l_pick.kp T.b_l_pick .nil pass0 (pa_cons (pv 2) (pa_cons pe_int pa_nil))) pe_int (nomark _)) pa_nil))) pa_nil))))))
      (pss_cons (ps_set (i := 2) sc_law.nd rfl (Or.inl rfl) (pe_call g_l_source (hr.mono (by first | decide | omega)) rfl T.m_l_source T.F_l_source.kp T.b_l_source .nil pass0 (pa_cons (pe_op op_add (pe_call g_l_cell (hr.mono (by first | decide | omega)) rfl T.m_l_cell T.F_l_cell.kp T.b_l_cell .nil pass0 (pa_cons (pv 0) (pa_cons pe_int pa_nil))) pe_int) pa_nil)))
      (pss_cons (ps_set (i := 4) sc_law.nd rfl (Or.inl rfl) (pe_call g_l_node (hr.mono (by first | decide | omega)) rfl T.m_l_node T.F_l_node.kp T.b_l_node .nil pass0 (pa_cons (pv 2) (pa_cons (pv 1) (pa_cons (pe_call g_l_pick (hr.mono (by first | decide | omega)) rfl T.m_l_pick T.F_l_pick.kp T.b_l_pick .nil pass0 (pa_cons (pv 2) (pa_cons pe_int pa_nil))) (pa_cons (pe_op op_add pe_int (pe_callTy call_int1 rfl T.z_int bt_int (pa_cons (pe_cmpR op_eq (pe_call g_l_pick (hr.mono (by first | decide | omega)) rfl T.m_l_pick T.F_l_pick.kp T.b_l_pick .nil pass0 (pa_cons (pv 2) (pa_cons pe_int pa_nil))) pe_int (nomark _)) pa_nil))) pa_nil))))))
      (pss_cons (ps_set (i := 2) sc_law.nd rfl (Or.inl rfl) (pe_call g_l_source (hr.mono (by first | decide | omega)) rfl T.m_l_source T.F_l_source.kp T.b_l_source .nil pass0 (pa_cons (pe_op op_add (pe_call g_l_cell (hr.mono (by first | decide | omega)) rfl T.m_l_cell T.F_l_cell.kp T.b_l_cell .nil pass0 (pa_cons (pv 0) (pa_cons pe_int pa_nil))) pe_int) pa_nil)))
      (pss_cons (ps_set (i := 5) sc_law.nd rfl (Or.inl rfl) (pe_tup (pa_cons pe_str (pa_cons (pe_call g_l_number (hr.mono (by first | decide | omega)) rfl T.m_l_number T.F_l_number.kp T.b_l_number .nil pass0 (pa_cons (pv 2) (pa_cons (pv 1) pa_nil))) (pa_cons (pe_call g_l_number (hr.mono (by first | decide | omega)) rfl T.m_l_number T.F_l_number.kp T.b_l_number .nil pass0 (pa_cons (pv 2) (pa_cons (pv 1) pa_nil))) pa_nil)))))
      (pss_cons (ps_for PassesOwn.never rfl (pi_list (pe_lst (pa_cons (pv 3) (pa_cons (pv 4) (pa_cons (pv 3) pa_nil))))) (pg_name (i := 6) sc_law.nd rfl (Or.inl rfl))
        (pss_one (ps_if (pt_not (pt_val (pe_call g_l_same (hr.mono (by first | decide | omega)) rfl T.m_l_same T.F_l_same.kp T.b_l_same .nil pass0 (pa_cons (pe_call g_expression_text (hr.mono (by first | decide | omega)) rfl T.m_expression_text T.F_expression_text.kp T.b_expression_text .nil pass0 (pa_cons (pv 6) pa_nil)) (pa_cons (pe_call g_l_text (hr.mono (by first | decide | omega)) rfl T.m_l_text T.F_l_text.kp T.b_l_text .nil pass0 (pa_cons (pv 6) pa_nil)) pa_nil))))) (pss_one (ps_ret pe_bl)) pss_nil)))
      (pss_cons (ps_for PassesOwn.never rfl (pi_list (pe_lst (pa_cons (pe_tup (pa_cons pe_str pa_nil)) (pa_cons (pv 5) (pa_cons (pe_tup (pa_cons pe_str (pa_cons (pe_call g_l_name (hr.mono (by first | decide | omega)) rfl T.m_l_name T.F_l_name.kp T.b_l_name .nil pass0 (pa_cons (pv 2) (pa_cons (pv 1) pa_nil))) pa_nil))) (pa_cons (pv 5) pa_nil)))))) (pg_name (i := 7) sc_law.nd rfl (Or.inl rfl))
        (pss_one (ps_if (pt_not (pt_val (pe_call g_l_same (hr.mono (by first | decide | omega)) rfl T.m_l_same T.F_l_same.kp T.b_l_same .nil pass0 (pa_cons (pe_call g_kind_text (hr.mono (by first | decide | omega)) rfl T.m_kind_text T.F_kind_text.kp T.b_kind_text .nil pass0 (pa_cons (pv 7) pa_nil)) (pa_cons (pe_call g_l_kind_text (hr.mono (by first | decide | omega)) rfl T.m_l_kind_text T.F_l_kind_text.kp T.b_l_kind_text .nil pass0 (pa_cons (pv 7) pa_nil)) pa_nil))))) (pss_one (ps_ret pe_bl)) pss_nil)))
      (pss_one (ps_ret pe_bl))))))))))), ?_⟩
  -- the world
  refine fun d hd => ⟨by show 0 ≤ sizeLine; decide, fun l hl => ⟨?_, wKvs l 12 31623, rfl, by show 3 ≤ 15; decide, ?_⟩⟩
  · rw [upd_ne]
    · exact upd_same
    · intro z
      rw [← z, upd_same] at hl
      cases hl
  obtain ⟨hW, s0⟩ := world_at (lng := 12) (side := 31623) hd hl ⟨⟨by decide, by decide⟩, by decide, by decide⟩
  generalize (upd (upd (upd H d (.dK [])) l (.lst [])) d (.dK (mergeK [] (wKvs l 12 31623)))) = H0 at hW s0 ⊢
  -- the first expression
  refine ⟨_, rfl, a, ns, 0, rfl, s0.seq hS, by decide, fun c => ⟨c, rfl, fun b H1 hb s1 S1 => ?_⟩⟩
  refine ⟨_, rfl, _, rfl, _, rfl, b, 15, rfl, S1, by decide, fun ch H2 st2 c0 c1 => ?_⟩
  refine ⟨_, rfl, b, 4, rfl, st2.s, by decide, fun z H3 st3 _ _ => ⟨rfl, .inr ⟨_, rfl, ?_⟩⟩⟩
  have hW3 := ((hW.same s1).stp S1 st2).stp st2.s st3
  have d8 : ∀ k : Bool, (5 : Int) + (if k then 1 else 0) < ((8 : Nat) : Int) ∧ 1 ≤ (5 : Int) + (if k then 1 else 0) := by decide
  refine ⟨_, _, rfl, rfl, b, d, ch, _, rfl, st3.s, hW3, c0, by omega, .inr (d8 _).2, (d8 _).1, by decide, fun x1 e1 H4 st4 o1 y1 => ?_⟩
  have sA : Same H0 H4 := Stp.fresh s1 hb ((st2.trans st3).trans st4)
  have hWA := hW.same sA
  -- the second one
  refine ⟨_, rfl, a, ns, 1, rfl, sA.seq (s0.seq hS), by decide, fun c => ⟨_, _, rfl, rfl, _, rfl, fun b2 H5 hb2 s5 S5 => ?_⟩⟩
  refine ⟨_, rfl, _, rfl, _, rfl, b2, 15, rfl, S5, by decide, fun ch2 H6 st6 c20 c21 => ?_⟩
  refine ⟨_, rfl, b2, 4, rfl, st6.s, by decide, fun z H7 st7 _ _ => ⟨rfl, .inr ⟨_, rfl, ?_⟩⟩⟩
  have hW7 := ((hWA.same s5).stp S5 st6).stp st6.s st7
  refine ⟨_, _, rfl, rfl, b2, d, ch2, _, rfl, st7.s, hW7, c20, by omega, .inr (d8 _).2, (d8 _).1, by decide, fun x2 e2 H8 st8 o2 y2 => ?_⟩
  have sB : Same H4 H8 := Stp.fresh s5 hb2 ((st6.trans st7).trans st8)
  have hWB := hWA.same sB
  -- the numbers
  refine ⟨_, rfl, a, ns, 2, rfl, sB.seq (sA.seq (s0.seq hS)), by decide, fun c => ⟨_, _, rfl, rfl, _, rfl, fun b3 H9 hb3 s9 S9 => ?_⟩⟩
  have hW9 := hWB.same s9
  refine ⟨_, rfl, _, rfl, b3, d, rfl, S9, hW9, fun lo H10 st10 blo => ?_⟩
  refine ⟨_, rfl, _, rfl, b3, d, rfl, st10.s, hW9.stp S9 st10, fun hi_ H11 st11 bhi => ⟨by show 3 ≤ sizeLine; decide, fun p hp => ?_⟩⟩
  have st12 := (st10.trans st11).new (o := .tup [.str "num", .int lo, .int hi_]) hp
  have sC : Same H8 (upd H11 p (.tup [.str "num", .int lo, .int hi_])) := Stp.fresh s9 hb3 st12
  have y1C := ExAt.keep (Keeps.of_same (sB.trans sC)) y1
  have y2C := ExAt.keep (Keeps.of_same sC) y2
  have hp12 : SqT K (upd H11 p (.tup [.str "num", .int lo, .int hi_])) p [.str "num", .int lo, .int hi_] := SqT.of upd_same
  have hW12 := hW9.stp S9 st12
  generalize (upd H11 p (.tup [.str "num", .int lo, .int hi_])) = H12 at st12 sC y1C y2C hp12 hW12 ⊢
  -- the expressions' texts
  refine ⟨_, rfl, _, rfl, _, rfl, by show 3 ≤ sizeLine; decide, fun t ht => ?_⟩
  refine ⟨t, rfl, ⟨_, SqL.of upd_same⟩, for_list (K := K) (a := t) (xs := [x1, x2, x1]) (fun i σ H' => Same (upd H12 t (.lst [x1, x2, x1])) H' ∧ ∃ v : Option V, σ = [some (.ref a), some (.ref d), some (.ref b3), some x1, some x2, some (.ref p), v, none]) ⟨Same.refl _, none, rfl⟩ (fun i σ H' _ ⟨s2, _⟩ => s2.seq (SqL.of upd_same)) ?_ ?_⟩
  · rintro i y σ H' hi ⟨sm, v, rfl⟩
    have smA := (Same.new ht (.lst [x1, x2, x1])).trans sm
    obtain ⟨e, oe, ye⟩ : ∃ e : Ex, e.ok 8 ∧ ExAt K H' e y := by
      have hm := List.mem_of_getElem? hi
      simp at hm
      rcases hm with rfl | rfl | rfl
      · exact ⟨e1, o1, ExAt.keep (Keeps.of_same smA) y1C⟩
      · exact ⟨e2, o2, ExAt.keep (Keeps.of_same smA) y2C⟩
      · exact ⟨e1, o1, ExAt.keep (Keeps.of_same smA) y1C⟩
    refine ⟨_, rfl, y, e, rfl, ye, oe, ?_⟩
    refine ⟨_, rfl, y, e, rfl, ye, oe, fun H2 s2 => ?_⟩
    exact ⟨_, _, .str (txt e), rfl, .str _, .str _, trivial, _, rfl, iteF ⟨sm.trans s2, _, rfl⟩⟩
  · rintro σ H' ⟨sm, v, rfl⟩
    have smA := (Same.new ht (.lst [x1, x2, x1])).trans sm
    have stA := st12.same smA
    have hWD := hW12.same smA
    -- the kinds' texts
    refine ⟨by show 1 ≤ sizeLine; decide, fun u hu => ⟨_, rfl, ?_⟩⟩
    have su := Same.new hu (.tup [.str "flag"])
    refine ⟨_, rfl, _, rfl, b3, d, rfl, (stA.same su).s, hWD.same su, fun z H2 st13 hz => ⟨by show 2 ≤ sizeLine; decide, fun r hr => ⟨_, rfl, by show 4 ≤ sizeLine; decide, fun m hm => ?_⟩⟩⟩
    have sr := Same.new hr (.tup [.str "ref", .str z])
    have ku : SqT K (upd H2 r (.tup [.str "ref", .str z])) u [.str "flag"] := Same.tup sr (st13.rd (SqT.of upd_same) (stA.same su).s)
    have kp : SqT K (upd H2 r (.tup [.str "ref", .str z])) p [.str "num", .int lo, .int hi_] := Same.tup sr (st13.rd (Same.tup (smA.trans su) hp12) (stA.same su).s)
    have kr : SqT K (upd H2 r (.tup [.str "ref", .str z])) r [.str "ref", .str z] := SqT.of upd_same
    generalize (upd H2 r (.tup [.str "ref", .str z])) = H3 at hm ku kp kr ⊢
    refine ⟨m, rfl, ⟨_, SqL.of upd_same⟩, for_list (K := K) (a := m) (xs := [.ref u, .ref p, .ref r, .ref p]) (fun i σ H' => Same (upd H3 m (.lst [.ref u, .ref p, .ref r, .ref p])) H' ∧ ∃ v2 : Option V, σ = [some (.ref a), some (.ref d), some (.ref b3), some x1, some x2, some (.ref p), v, v2]) ⟨Same.refl _, none, rfl⟩ (fun i σ H' _ ⟨s2, _⟩ => s2.seq (SqL.of upd_same)) ?_ ?_⟩
    · rintro i y σ H' hi ⟨sm2, v2, rfl⟩
      have smB := (Same.new hm (.lst [.ref u, .ref p, .ref r, .ref p])).trans sm2
      obtain ⟨k, ok, ky⟩ : ∃ k : Kd, k.ok ∧ KdAt K H' y k := by
        have hm := List.mem_of_getElem? hi
        simp at hm
        rcases hm with rfl | rfl | rfl | rfl
        · exact ⟨.flag, trivial, u, rfl, Same.tup smB ku⟩
        · exact ⟨.num lo hi_, ⟨blo, bhi⟩, p, rfl, Same.tup smB kp⟩
        · exact ⟨.ref z, hz, r, rfl, Same.tup smB kr⟩
        · exact ⟨.num lo hi_, ⟨blo, bhi⟩, p, rfl, Same.tup smB kp⟩
      refine ⟨_, rfl, y, k, rfl, ky, ok, ?_⟩
      refine ⟨_, rfl, y, k, rfl, ky, ok, ?_⟩
      exact ⟨_, _, .str (kdT k), rfl, .str _, .str _, trivial, _, rfl, iteF ⟨sm2, _, rfl⟩⟩
    · rintro σ H' ⟨sm2, v2, rfl⟩
      exact q H'
end
theorem all_mk {l : PySem.W.OpenLaw} {w : World} {K : PySem.W.Frag} {h : Heap} {mg : Str → Option Value} {fa : Addr} (X : K.In h) (G : h.Ns mainGlobals mg) (hfa : mg "law" = some (.ref fa))
    {f_expression_text : Addr} {od_expression_text an_expression_text : Option Addr} {sl_expression_text : Array (Option Value)} {oc_expression_text kV_expression_text dc_expression_text pm_expression_text cd_expression_text ct_expression_text : Value}
    (A_expression_text : PySem.W.nsIn K mainGlobals "expression_text" = some (some (.ref f_expression_text))) (L_expression_text : K.lookup f_expression_text = some ⟨oc_expression_text, od_expression_text, .func (PySem.W.fnOf "expression_text" "expression_text" (defArgs s_expression_text) (defBody s_expression_text) (defScope s_expression_text) .none kV_expression_text dc_expression_text pm_expression_text an_expression_text cd_expression_text ct_expression_text), sl_expression_text⟩) (C_expression_text : PySem.W.codeIn K cd_expression_text "expression_text" = true) (K_expression_text : PySem.W.keepIn K (.ref f_expression_text) = true)
    {f_kind_text : Addr} {od_kind_text an_kind_text : Option Addr} {sl_kind_text : Array (Option Value)} {oc_kind_text kV_kind_text dc_kind_text pm_kind_text cd_kind_text ct_kind_text : Value}
    (A_kind_text : PySem.W.nsIn K mainGlobals "kind_text" = some (some (.ref f_kind_text))) (L_kind_text : K.lookup f_kind_text = some ⟨oc_kind_text, od_kind_text, .func (PySem.W.fnOf "kind_text" "kind_text" (defArgs s_kind_text) (defBody s_kind_text) (defScope s_kind_text) .none kV_kind_text dc_kind_text pm_kind_text an_kind_text cd_kind_text ct_kind_text), sl_kind_text⟩) (C_kind_text : PySem.W.codeIn K cd_kind_text "kind_text" = true) (K_kind_text : PySem.W.keepIn K (.ref f_kind_text) = true)
    {f_l_cell : Addr} {od_l_cell an_l_cell : Option Addr} {sl_l_cell : Array (Option Value)} {oc_l_cell kV_l_cell dc_l_cell pm_l_cell cd_l_cell ct_l_cell : Value}
    (A_l_cell : PySem.W.nsIn K mainGlobals "_law_cell" = some (some (.ref f_l_cell))) (L_l_cell : K.lookup f_l_cell = some ⟨oc_l_cell, od_l_cell, .func (PySem.W.fnOf "_law_cell" "_law_cell" (defArgs s_l_cell) (defBody s_l_cell) (defScope s_l_cell) .none kV_l_cell dc_l_cell pm_l_cell an_l_cell cd_l_cell ct_l_cell), sl_l_cell⟩) (C_l_cell : PySem.W.codeIn K cd_l_cell "_law_cell" = true) (K_l_cell : PySem.W.keepIn K (.ref f_l_cell) = true)
    {f_l_source : Addr} {od_l_source an_l_source : Option Addr} {sl_l_source : Array (Option Value)} {oc_l_source kV_l_source dc_l_source pm_l_source cd_l_source ct_l_source : Value}
    (A_l_source : PySem.W.nsIn K mainGlobals "_law_source" = some (some (.ref f_l_source))) (L_l_source : K.lookup f_l_source = some ⟨oc_l_source, od_l_source, .func (PySem.W.fnOf "_law_source" "_law_source" (defArgs s_l_source) (defBody s_l_source) (defScope s_l_source) .none kV_l_source dc_l_source pm_l_source an_l_source cd_l_source ct_l_source), sl_l_source⟩) (C_l_source : PySem.W.codeIn K cd_l_source "_law_source" = true) (K_l_source : PySem.W.keepIn K (.ref f_l_source) = true)
    {f_l_pick : Addr} {od_l_pick an_l_pick : Option Addr} {sl_l_pick : Array (Option Value)} {oc_l_pick kV_l_pick dc_l_pick pm_l_pick cd_l_pick ct_l_pick : Value}
    (A_l_pick : PySem.W.nsIn K mainGlobals "_law_pick" = some (some (.ref f_l_pick))) (L_l_pick : K.lookup f_l_pick = some ⟨oc_l_pick, od_l_pick, .func (PySem.W.fnOf "_law_pick" "_law_pick" (defArgs s_l_pick) (defBody s_l_pick) (defScope s_l_pick) .none kV_l_pick dc_l_pick pm_l_pick an_l_pick cd_l_pick ct_l_pick), sl_l_pick⟩) (C_l_pick : PySem.W.codeIn K cd_l_pick "_law_pick" = true) (K_l_pick : PySem.W.keepIn K (.ref f_l_pick) = true)
    {f_l_one : Addr} {od_l_one an_l_one : Option Addr} {sl_l_one : Array (Option Value)} {oc_l_one kV_l_one dc_l_one pm_l_one cd_l_one ct_l_one : Value}
    (A_l_one : PySem.W.nsIn K mainGlobals "_law_one" = some (some (.ref f_l_one))) (L_l_one : K.lookup f_l_one = some ⟨oc_l_one, od_l_one, .func (PySem.W.fnOf "_law_one" "_law_one" (defArgs s_l_one) (defBody s_l_one) (defScope s_l_one) .none kV_l_one dc_l_one pm_l_one an_l_one cd_l_one ct_l_one), sl_l_one⟩) (C_l_one : PySem.W.codeIn K cd_l_one "_law_one" = true) (K_l_one : PySem.W.keepIn K (.ref f_l_one) = true)
    {f_l_reserved : Addr} {od_l_reserved an_l_reserved : Option Addr} {sl_l_reserved : Array (Option Value)} {oc_l_reserved kV_l_reserved dc_l_reserved pm_l_reserved cd_l_reserved ct_l_reserved : Value}
    (A_l_reserved : PySem.W.nsIn K mainGlobals "_law_reserved" = some (some (.ref f_l_reserved))) (L_l_reserved : K.lookup f_l_reserved = some ⟨oc_l_reserved, od_l_reserved, .func (PySem.W.fnOf "_law_reserved" "_law_reserved" (defArgs s_l_reserved) (defBody s_l_reserved) (defScope s_l_reserved) .none kV_l_reserved dc_l_reserved pm_l_reserved an_l_reserved cd_l_reserved ct_l_reserved), sl_l_reserved⟩) (C_l_reserved : PySem.W.codeIn K cd_l_reserved "_law_reserved" = true) (K_l_reserved : PySem.W.keepIn K (.ref f_l_reserved) = true)
    {f_l_name : Addr} {od_l_name an_l_name : Option Addr} {sl_l_name : Array (Option Value)} {oc_l_name kV_l_name dc_l_name pm_l_name cd_l_name ct_l_name : Value}
    (A_l_name : PySem.W.nsIn K mainGlobals "_law_name" = some (some (.ref f_l_name))) (L_l_name : K.lookup f_l_name = some ⟨oc_l_name, od_l_name, .func (PySem.W.fnOf "_law_name" "_law_name" (defArgs s_l_name) (defBody s_l_name) (defScope s_l_name) .none kV_l_name dc_l_name pm_l_name an_l_name cd_l_name ct_l_name), sl_l_name⟩) (C_l_name : PySem.W.codeIn K cd_l_name "_law_name" = true) (K_l_name : PySem.W.keepIn K (.ref f_l_name) = true)
    {f_l_word : Addr} {od_l_word an_l_word : Option Addr} {sl_l_word : Array (Option Value)} {oc_l_word kV_l_word dc_l_word pm_l_word cd_l_word ct_l_word : Value}
    (A_l_word : PySem.W.nsIn K mainGlobals "_law_word" = some (some (.ref f_l_word))) (L_l_word : K.lookup f_l_word = some ⟨oc_l_word, od_l_word, .func (PySem.W.fnOf "_law_word" "_law_word" (defArgs s_l_word) (defBody s_l_word) (defScope s_l_word) .none kV_l_word dc_l_word pm_l_word an_l_word cd_l_word ct_l_word), sl_l_word⟩) (C_l_word : PySem.W.codeIn K cd_l_word "_law_word" = true) (K_l_word : PySem.W.keepIn K (.ref f_l_word) = true)
    {f_l_number : Addr} {od_l_number an_l_number : Option Addr} {sl_l_number : Array (Option Value)} {oc_l_number kV_l_number dc_l_number pm_l_number cd_l_number ct_l_number : Value}
    (A_l_number : PySem.W.nsIn K mainGlobals "_law_number" = some (some (.ref f_l_number))) (L_l_number : K.lookup f_l_number = some ⟨oc_l_number, od_l_number, .func (PySem.W.fnOf "_law_number" "_law_number" (defArgs s_l_number) (defBody s_l_number) (defScope s_l_number) .none kV_l_number dc_l_number pm_l_number an_l_number cd_l_number ct_l_number), sl_l_number⟩) (C_l_number : PySem.W.codeIn K cd_l_number "_law_number" = true) (K_l_number : PySem.W.keepIn K (.ref f_l_number) = true)
    {f_l_node : Addr} {od_l_node an_l_node : Option Addr} {sl_l_node : Array (Option Value)} {oc_l_node kV_l_node dc_l_node pm_l_node cd_l_node ct_l_node : Value}
    (A_l_node : PySem.W.nsIn K mainGlobals "_law_node" = some (some (.ref f_l_node))) (L_l_node : K.lookup f_l_node = some ⟨oc_l_node, od_l_node, .func (PySem.W.fnOf "_law_node" "_law_node" (defArgs s_l_node) (defBody s_l_node) (defScope s_l_node) .none kV_l_node dc_l_node pm_l_node an_l_node cd_l_node ct_l_node), sl_l_node⟩) (C_l_node : PySem.W.codeIn K cd_l_node "_law_node" = true) (K_l_node : PySem.W.keepIn K (.ref f_l_node) = true)
    {f_l_expression : Addr} {od_l_expression an_l_expression : Option Addr} {sl_l_expression : Array (Option Value)} {oc_l_expression kV_l_expression dc_l_expression pm_l_expression cd_l_expression ct_l_expression : Value}
    (A_l_expression : PySem.W.nsIn K mainGlobals "_law_expression" = some (some (.ref f_l_expression))) (L_l_expression : K.lookup f_l_expression = some ⟨oc_l_expression, od_l_expression, .func (PySem.W.fnOf "_law_expression" "_law_expression" (defArgs s_l_expression) (defBody s_l_expression) (defScope s_l_expression) .none kV_l_expression dc_l_expression pm_l_expression an_l_expression cd_l_expression ct_l_expression), sl_l_expression⟩) (C_l_expression : PySem.W.codeIn K cd_l_expression "_law_expression" = true) (K_l_expression : PySem.W.keepIn K (.ref f_l_expression) = true)
    {f_l_kind_text : Addr} {od_l_kind_text an_l_kind_text : Option Addr} {sl_l_kind_text : Array (Option Value)} {oc_l_kind_text kV_l_kind_text dc_l_kind_text pm_l_kind_text cd_l_kind_text ct_l_kind_text : Value}
    (A_l_kind_text : PySem.W.nsIn K mainGlobals "_law_kind_text" = some (some (.ref f_l_kind_text))) (L_l_kind_text : K.lookup f_l_kind_text = some ⟨oc_l_kind_text, od_l_kind_text, .func (PySem.W.fnOf "_law_kind_text" "_law_kind_text" (defArgs s_l_kind_text) (defBody s_l_kind_text) (defScope s_l_kind_text) .none kV_l_kind_text dc_l_kind_text pm_l_kind_text an_l_kind_text cd_l_kind_text ct_l_kind_text), sl_l_kind_text⟩) (C_l_kind_text : PySem.W.codeIn K cd_l_kind_text "_law_kind_text" = true) (K_l_kind_text : PySem.W.keepIn K (.ref f_l_kind_text) = true)
    {f_l_text : Addr} {od_l_text an_l_text : Option Addr} {sl_l_text : Array (Option Value)} {oc_l_text kV_l_text dc_l_text pm_l_text cd_l_text ct_l_text : Value}
    (A_l_text : PySem.W.nsIn K mainGlobals "_law_text" = some (some (.ref f_l_text))) (L_l_text : K.lookup f_l_text = some ⟨oc_l_text, od_l_text, .func (PySem.W.fnOf "_law_text" "_law_text" (defArgs s_l_text) (defBody s_l_text) (defScope s_l_text) .none kV_l_text dc_l_text pm_l_text an_l_text cd_l_text ct_l_text), sl_l_text⟩) (C_l_text : PySem.W.codeIn K cd_l_text "_law_text" = true) (K_l_text : PySem.W.keepIn K (.ref f_l_text) = true)
    {f_l_same : Addr} {od_l_same an_l_same : Option Addr} {sl_l_same : Array (Option Value)} {oc_l_same kV_l_same dc_l_same pm_l_same cd_l_same ct_l_same : Value}
    (A_l_same : PySem.W.nsIn K mainGlobals "_law_same" = some (some (.ref f_l_same))) (L_l_same : K.lookup f_l_same = some ⟨oc_l_same, od_l_same, .func (PySem.W.fnOf "_law_same" "_law_same" (defArgs s_l_same) (defBody s_l_same) (defScope s_l_same) .none kV_l_same dc_l_same pm_l_same an_l_same cd_l_same ct_l_same), sl_l_same⟩) (C_l_same : PySem.W.codeIn K cd_l_same "_law_same" = true) (K_l_same : PySem.W.keepIn K (.ref f_l_same) = true)
    {f_law : Addr} {od_law an_law : Option Addr} {sl_law : Array (Option Value)} {oc_law kV_law dc_law pm_law cd_law ct_law : Value}
    (A_law : PySem.W.nsIn K mainGlobals "law" = some (some (.ref f_law))) (L_law : K.lookup f_law = some ⟨oc_law, od_law, .func (PySem.W.fnOf "law" "law" (defArgs s_law) (defBody s_law) (defScope s_law) .none kV_law dc_law pm_law an_law cd_law ct_law), sl_law⟩) (C_law : PySem.W.codeIn K cd_law "law" = true) (K_law : PySem.W.keepIn K (.ref f_law) = true)
    (Z_bool : PySem.W.nsIn K mainGlobals "bool" = some none)
    (Z_int : PySem.W.nsIn K mainGlobals "int" = some none)
    (Z_isinstance : PySem.W.nsIn K mainGlobals "isinstance" = some none)
    (Z_len : PySem.W.nsIn K mainGlobals "len" = some none)
    (Z_list : PySem.W.nsIn K mainGlobals "list" = some none)
    (Z_min : PySem.W.nsIn K mainGlobals "min" = some none)
    (Z_range : PySem.W.nsIn K mainGlobals "range" = some none)
    (Z_str : PySem.W.nsIn K mainGlobals "str" = some none)
    (Z_tuple : PySem.W.nsIn K mainGlobals "tuple" = some none) :
    ∃ fd : FuncData, (∀ (s : Shared) (v : Value), BindsTo s fd ⟨[v], []⟩ [("_law_script", v)]) ∧ ∀ base : Heap, K.In base → base.Ns mainGlobals mg → FnOk l.prog w K mg base CX0 24 fa fd ["_law_script"] (spLaw K) := by
  have e := hfa.symm.trans (PySem.W.mg_of X G A_law)
  cases e
  let T : Txt K mg := {
    a_expression_text := f_expression_text, d_expression_text := _, F_expression_text := fun_mk (st := s_expression_text) L_expression_text C_expression_text K_expression_text, b_expression_text := (fun_mk (st := s_expression_text) L_expression_text C_expression_text K_expression_text).binds (ps := p_expression_text) (fun _ _ _ _ _ _ us hl => match us, hl with | [_], _ => rfl), m_expression_text := PySem.W.mg_of X G A_expression_text,
    a_kind_text := f_kind_text, d_kind_text := _, F_kind_text := fun_mk (st := s_kind_text) L_kind_text C_kind_text K_kind_text, b_kind_text := (fun_mk (st := s_kind_text) L_kind_text C_kind_text K_kind_text).binds (ps := p_kind_text) (fun _ _ _ _ _ _ us hl => match us, hl with | [_], _ => rfl), m_kind_text := PySem.W.mg_of X G A_kind_text,
    a_l_cell := f_l_cell, d_l_cell := _, F_l_cell := fun_mk (st := s_l_cell) L_l_cell C_l_cell K_l_cell, b_l_cell := (fun_mk (st := s_l_cell) L_l_cell C_l_cell K_l_cell).binds (ps := p_l_cell) (fun _ _ _ _ _ _ us hl => match us, hl with | [_, _], _ => rfl), m_l_cell := PySem.W.mg_of X G A_l_cell,
    a_l_source := f_l_source, d_l_source := _, F_l_source := fun_mk (st := s_l_source) L_l_source C_l_source K_l_source, b_l_source := (fun_mk (st := s_l_source) L_l_source C_l_source K_l_source).binds (ps := p_l_source) (fun _ _ _ _ _ _ us hl => match us, hl with | [_], _ => rfl), m_l_source := PySem.W.mg_of X G A_l_source,
    a_l_pick := f_l_pick, d_l_pick := _, F_l_pick := fun_mk (st := s_l_pick) L_l_pick C_l_pick K_l_pick, b_l_pick := (fun_mk (st := s_l_pick) L_l_pick C_l_pick K_l_pick).binds (ps := p_l_pick) (fun _ _ _ _ _ _ us hl => match us, hl with | [_, _], _ => rfl), m_l_pick := PySem.W.mg_of X G A_l_pick,
    a_l_one := f_l_one, d_l_one := _, F_l_one := fun_mk (st := s_l_one) L_l_one C_l_one K_l_one, b_l_one := (fun_mk (st := s_l_one) L_l_one C_l_one K_l_one).binds (ps := p_l_one) (fun _ _ _ _ _ _ us hl => match us, hl with | [_, _], _ => rfl), m_l_one := PySem.W.mg_of X G A_l_one,
    a_l_reserved := f_l_reserved, d_l_reserved := _, F_l_reserved := fun_mk (st := s_l_reserved) L_l_reserved C_l_reserved K_l_reserved, b_l_reserved := (fun_mk (st := s_l_reserved) L_l_reserved C_l_reserved K_l_reserved).binds (ps := p_l_reserved) (fun _ _ _ _ _ _ us hl => match us, hl with | [], _ => rfl), m_l_reserved := PySem.W.mg_of X G A_l_reserved,
    a_l_name := f_l_name, d_l_name := _, F_l_name := fun_mk (st := s_l_name) L_l_name C_l_name K_l_name, b_l_name := (fun_mk (st := s_l_name) L_l_name C_l_name K_l_name).binds (ps := p_l_name) (fun _ _ _ _ _ _ us hl => match us, hl with | [_, _], _ => rfl), m_l_name := PySem.W.mg_of X G A_l_name,
    a_l_word := f_l_word, d_l_word := _, F_l_word := fun_mk (st := s_l_word) L_l_word C_l_word K_l_word, b_l_word := (fun_mk (st := s_l_word) L_l_word C_l_word K_l_word).binds (ps := p_l_word) (fun _ _ _ _ _ _ us hl => match us, hl with | [_, _], _ => rfl), m_l_word := PySem.W.mg_of X G A_l_word,
    a_l_number := f_l_number, d_l_number := _, F_l_number := fun_mk (st := s_l_number) L_l_number C_l_number K_l_number, b_l_number := (fun_mk (st := s_l_number) L_l_number C_l_number K_l_number).binds (ps := p_l_number) (fun _ _ _ _ _ _ us hl => match us, hl with | [_, _], _ => rfl), m_l_number := PySem.W.mg_of X G A_l_number,
    a_l_node := f_l_node, d_l_node := _, F_l_node := fun_mk (st := s_l_node) L_l_node C_l_node K_l_node, b_l_node := (fun_mk (st := s_l_node) L_l_node C_l_node K_l_node).binds (ps := p_l_node) (fun _ _ _ _ _ _ us hl => match us, hl with | [_, _, _, _], _ => rfl), m_l_node := PySem.W.mg_of X G A_l_node,
    a_l_expression := f_l_expression, d_l_expression := _, F_l_expression := fun_mk (st := s_l_expression) L_l_expression C_l_expression K_l_expression, b_l_expression := (fun_mk (st := s_l_expression) L_l_expression C_l_expression K_l_expression).binds (ps := p_l_expression) (fun _ _ _ _ _ _ us hl => match us, hl with | [_, _, _], _ => rfl), m_l_expression := PySem.W.mg_of X G A_l_expression,
    a_l_kind_text := f_l_kind_text, d_l_kind_text := _, F_l_kind_text := fun_mk (st := s_l_kind_text) L_l_kind_text C_l_kind_text K_l_kind_text, b_l_kind_text := (fun_mk (st := s_l_kind_text) L_l_kind_text C_l_kind_text K_l_kind_text).binds (ps := p_l_kind_text) (fun _ _ _ _ _ _ us hl => match us, hl with | [_], _ => rfl), m_l_kind_text := PySem.W.mg_of X G A_l_kind_text,
    a_l_text := f_l_text, d_l_text := _, F_l_text := fun_mk (st := s_l_text) L_l_text C_l_text K_l_text, b_l_text := (fun_mk (st := s_l_text) L_l_text C_l_text K_l_text).binds (ps := p_l_text) (fun _ _ _ _ _ _ us hl => match us, hl with | [_], _ => rfl), m_l_text := PySem.W.mg_of X G A_l_text,
    a_l_same := f_l_same, d_l_same := _, F_l_same := fun_mk (st := s_l_same) L_l_same C_l_same K_l_same, b_l_same := (fun_mk (st := s_l_same) L_l_same C_l_same K_l_same).binds (ps := p_l_same) (fun _ _ _ _ _ _ us hl => match us, hl with | [_, _], _ => rfl), m_l_same := PySem.W.mg_of X G A_l_same,
    a_law := fa, d_law := _, F_law := fun_mk (st := s_law) L_law C_law K_law, b_law := (fun_mk (st := s_law) L_law C_law K_law).binds (ps := p_law) (fun _ _ _ _ _ _ us hl => match us, hl with | [_], _ => rfl), m_law := PySem.W.mg_of X G A_law,
    z_bool := PySem.W.mg_none_of X G Z_bool,
    z_int := PySem.W.mg_none_of X G Z_int,
    z_isinstance := PySem.W.mg_none_of X G Z_isinstance,
    z_len := PySem.W.mg_none_of X G Z_len,
    z_list := PySem.W.mg_none_of X G Z_list,
    z_min := PySem.W.mg_none_of X G Z_min,
    z_range := PySem.W.mg_none_of X G Z_range,
    z_str := PySem.W.mg_none_of X G Z_str,
    z_tuple := PySem.W.mg_none_of X G Z_tuple }
  refine ⟨PySem.W.fnOf "law" "law" (defArgs s_law) (defBody s_law) (defScope s_law) .none kV_law dc_law pm_law an_law cd_law ct_law, fun s v => .of_eq rfl, fun base _ _ => ok_law T⟩
theorem walk {l : PySem.W.OpenLaw} {q : Program} {loose : List Str} {XP : (Str → Option Value) → Heap → Prop} {YP : World → Heap → Prop} {d : DefRec} {K : Params → PySem.W.Frag} (hn : l.most = some 63) (hdf : d.params.defaults = [])
    (hY : ∀ (w : World) (h : Heap), YP w h → (K w.params).In h)
    (F : ∀ (w : World) (mg : Str → Option Value) (fa : Addr) (h : Heap), (K w.params).In h → h.Ns mainGlobals mg → mg d.name = some (.ref fa) →
      ∃ fd : FuncData, (∀ (s : Shared) (u : Value), BindsTo s fd ⟨[u], []⟩ [("_law_script", u)]) ∧ ∀ base : Heap, (K w.params).In base → base.Ns mainGlobals mg → FnOk l.prog w (K w.params) mg base CX0 24 fa fd ["_law_script"] (spLaw (K w.params))) :
    PySem.W.WalkO q loose XP YP l.row.toRowW d [] (fun f vs => PySem.call f vs) :=
  L2.walk_of (n := 63) (k := 24) (x := "_law_script") (CX := fun _ => CX0) (sp := fun w => spLaw (K w.params)) hn (by decide) hdf ⟨rfl, by decide, by decide⟩ hY F (fun _ _ a ns hl _ hS => ⟨a, ns, rfl, hS, hl, fun _ => rfl⟩) fun _ _ _ _ _ z => z
end Mine
open PySem PySem.W PyProof.Rows
set_option maxRecDepth 100000 in
set_option maxHeartbeats 0 in
theorem PySem.Challenge.cw_neverhappens_k01_expression_text_holds : PySem.Challenge.rw_neverhappens_k01_expression_text.Holds := by
  w_on; o_law; k_head; (case hw => w_witness2)
  k_fill
  refine Mine.walk (l := PySem.Challenge.rw_neverhappens_k01_expression_text) rfl rfl (fun w h Y => PySem.W.kIn_of Y) ?F
  case F =>
    intro w mg fa h KX G hmg
    refine' Mine.all_mk KX G hmg ?A_expression_text ?L_expression_text ?C_expression_text ?K_expression_text ?A_kind_text ?L_kind_text ?C_kind_text ?K_kind_text ?A_l_cell ?L_l_cell ?C_l_cell ?K_l_cell ?A_l_source ?L_l_source ?C_l_source ?K_l_source ?A_l_pick ?L_l_pick ?C_l_pick ?K_l_pick ?A_l_one ?L_l_one ?C_l_one ?K_l_one ?A_l_reserved ?L_l_reserved ?C_l_reserved ?K_l_reserved ?A_l_name ?L_l_name ?C_l_name ?K_l_name ?A_l_word ?L_l_word ?C_l_word ?K_l_word ?A_l_number ?L_l_number ?C_l_number ?K_l_number ?A_l_node ?L_l_node ?C_l_node ?K_l_node ?A_l_expression ?L_l_expression ?C_l_expression ?K_l_expression ?A_l_kind_text ?L_l_kind_text ?C_l_kind_text ?K_l_kind_text ?A_l_text ?L_l_text ?C_l_text ?K_l_text ?A_l_same ?L_l_same ?C_l_same ?K_l_same ?A_law ?L_law ?C_law ?K_law ?Z_bool ?Z_int ?Z_isinstance ?Z_len ?Z_list ?Z_min ?Z_range ?Z_str ?Z_tuple
    (case A_expression_text => k_is)
    (case L_expression_text => k_is)
    (case C_expression_text => k_is)
    (case K_expression_text => k_is)
    (case A_kind_text => k_is)
    (case L_kind_text => k_is)
    (case C_kind_text => k_is)
    (case K_kind_text => k_is)
    (case A_l_cell => k_is)
    (case L_l_cell => k_is)
    (case C_l_cell => k_is)
    (case K_l_cell => k_is)
    (case A_l_source => k_is)
    (case L_l_source => k_is)
    (case C_l_source => k_is)
    (case K_l_source => k_is)
    (case A_l_pick => k_is)
    (case L_l_pick => k_is)
    (case C_l_pick => k_is)
    (case K_l_pick => k_is)
    (case A_l_one => k_is)
    (case L_l_one => k_is)
    (case C_l_one => k_is)
    (case K_l_one => k_is)
    (case A_l_reserved => k_is)
    (case L_l_reserved => k_is)
    (case C_l_reserved => k_is)
    (case K_l_reserved => k_is)
    (case A_l_name => k_is)
    (case L_l_name => k_is)
    (case C_l_name => k_is)
    (case K_l_name => k_is)
    (case A_l_word => k_is)
    (case L_l_word => k_is)
    (case C_l_word => k_is)
    (case K_l_word => k_is)
    (case A_l_number => k_is)
    (case L_l_number => k_is)
    (case C_l_number => k_is)
    (case K_l_number => k_is)
    (case A_l_node => k_is)
    (case L_l_node => k_is)
    (case C_l_node => k_is)
    (case K_l_node => k_is)
    (case A_l_expression => k_is)
    (case L_l_expression => k_is)
    (case C_l_expression => k_is)
    (case K_l_expression => k_is)
    (case A_l_kind_text => k_is)
    (case L_l_kind_text => k_is)
    (case C_l_kind_text => k_is)
    (case K_l_kind_text => k_is)
    (case A_l_text => k_is)
    (case L_l_text => k_is)
    (case C_l_text => k_is)
    (case K_l_text => k_is)
    (case A_l_same => k_is)
    (case L_l_same => k_is)
    (case C_l_same => k_is)
    (case K_l_same => k_is)
    (case A_law => k_is)
    (case L_law => k_is)
    (case C_law => k_is)
    (case K_law => k_is)
    (case Z_bool => k_is)
    (case Z_int => k_is)
    (case Z_isinstance => k_is)
    (case Z_len => k_is)
    (case Z_list => k_is)
    (case Z_min => k_is)
    (case Z_range => k_is)
    (case Z_str => k_is)
    (case Z_tuple => k_is)
#print axioms PySem.Challenge.cw_neverhappens_k01_expression_text_holds
