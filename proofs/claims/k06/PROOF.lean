import PyProof.Rows.All
import Wide.All
import OpenK.AllK
import Wide.FinOn
import HandS.ForMost
import HandS.IsInst
import HandS.Conv
import HandS.Style
import HandS.TupAny
import HandS.Codes
import PySem.Challenge.RW_neverhappens_k06_kinds
set_option Elab.async false
set_option linter.all false
set_option maxRecDepth 100000
set_option maxHeartbeats 4000000
namespace Mine
open PySem L2
def top (i : Nat) : Stmt := PySem.Challenge.pw_neverhappens_k06_kinds.main.body.getD i (.Pass ⟨0, 0, 0, 0⟩)
abbrev s_is_small : Stmt := top 2
abbrev s_is_large : Stmt := top 3
abbrev s_is_discrete : Stmt := top 4
abbrev s_kind_values : Stmt := top 5
abbrev s_start_value : Stmt := top 6
abbrev s_l_cell : Stmt := top 8
abbrev s_l_source : Stmt := top 9
abbrev s_l_pick : Stmt := top 10
abbrev s_l_one : Stmt := top 11
abbrev s_l_same : Stmt := top 12
abbrev s_l_number : Stmt := top 13
abbrev s_l_word : Stmt := top 14
abbrev s_l_kind : Stmt := top 15
abbrev s_l_due : Stmt := top 16
abbrev s_l_told : Stmt := top 17
abbrev s_law : Stmt := top 18
abbrev p_is_small : List Str := ["kind"]
abbrev p_is_large : List Str := ["kind"]
abbrev p_is_discrete : List Str := ["kind"]
abbrev p_kind_values : List Str := ["kind"]
abbrev p_start_value : List Str := ["kind"]
abbrev p_l_cell : List Str := ["_law_script", "_law_at"]
abbrev p_l_source : List Str := ["_law_cell_here"]
abbrev p_l_pick : List Str := ["_law_source_here", "_law_size"]
abbrev p_l_one : List Str := ["_law_source_here", "_law_row"]
abbrev p_l_same : List Str := ["_law_actual", "_law_due_here"]
abbrev p_l_number : List Str := ["_law_source_here", "_law_size"]
abbrev p_l_word : List Str := ["_law_source_here"]
abbrev p_l_kind : List Str := ["_law_source_here"]
abbrev p_l_due : List Str := ["_law_kind_here"]
abbrev p_l_told : List Str := ["_law_kind_here", "_law_small"]
abbrev p_law : List Str := ["_law_script"]
/-- what the program's top leaves: where each def stands -/
structure Txt (K : PySem.W.Frag) (mg : Str → Option Value) where
  a_is_small : Addr
  d_is_small : FuncData
  F_is_small : Fun K "is_small" "is_small" s_is_small a_is_small d_is_small
  b_is_small : Binds K d_is_small p_is_small []
  m_is_small : mg "is_small" = some (.ref a_is_small)
  a_is_large : Addr
  d_is_large : FuncData
  F_is_large : Fun K "is_large" "is_large" s_is_large a_is_large d_is_large
  b_is_large : Binds K d_is_large p_is_large []
  m_is_large : mg "is_large" = some (.ref a_is_large)
  a_is_discrete : Addr
  d_is_discrete : FuncData
  F_is_discrete : Fun K "is_discrete" "is_discrete" s_is_discrete a_is_discrete d_is_discrete
  b_is_discrete : Binds K d_is_discrete p_is_discrete []
  m_is_discrete : mg "is_discrete" = some (.ref a_is_discrete)
  a_kind_values : Addr
  d_kind_values : FuncData
  F_kind_values : Fun K "kind_values" "kind_values" s_kind_values a_kind_values d_kind_values
  b_kind_values : Binds K d_kind_values p_kind_values []
  m_kind_values : mg "kind_values" = some (.ref a_kind_values)
  a_start_value : Addr
  d_start_value : FuncData
  F_start_value : Fun K "start_value" "start_value" s_start_value a_start_value d_start_value
  b_start_value : Binds K d_start_value p_start_value []
  m_start_value : mg "start_value" = some (.ref a_start_value)
  a_l_cell : Addr
  d_l_cell : FuncData
  F_l_cell : Fun K "_law_cell" "_law_cell" s_l_cell a_l_cell d_l_cell
  b_l_cell : Binds K d_l_cell p_l_cell []
  m_l_cell : mg "_law_cell" = some (.ref a_l_cell)
  a_l_source : Addr
  d_l_source : FuncData
  F_l_source : Fun K "_law_source" "_law_source" s_l_source a_l_source d_l_source
  b_l_source : Binds K d_l_source p_l_source []
  m_l_source : mg "_law_source" = some (.ref a_l_source)
  a_l_pick : Addr
  d_l_pick : FuncData
  F_l_pick : Fun K "_law_pick" "_law_pick" s_l_pick a_l_pick d_l_pick
  b_l_pick : Binds K d_l_pick p_l_pick []
  m_l_pick : mg "_law_pick" = some (.ref a_l_pick)
  a_l_one : Addr
  d_l_one : FuncData
  F_l_one : Fun K "_law_one" "_law_one" s_l_one a_l_one d_l_one
  b_l_one : Binds K d_l_one p_l_one []
  m_l_one : mg "_law_one" = some (.ref a_l_one)
  a_l_same : Addr
  d_l_same : FuncData
  F_l_same : Fun K "_law_same" "_law_same" s_l_same a_l_same d_l_same
  b_l_same : Binds K d_l_same p_l_same []
  m_l_same : mg "_law_same" = some (.ref a_l_same)
  a_l_number : Addr
  d_l_number : FuncData
  F_l_number : Fun K "_law_number" "_law_number" s_l_number a_l_number d_l_number
  b_l_number : Binds K d_l_number p_l_number []
  m_l_number : mg "_law_number" = some (.ref a_l_number)
  a_l_word : Addr
  d_l_word : FuncData
  F_l_word : Fun K "_law_word" "_law_word" s_l_word a_l_word d_l_word
  b_l_word : Binds K d_l_word p_l_word []
  m_l_word : mg "_law_word" = some (.ref a_l_word)
  a_l_kind : Addr
  d_l_kind : FuncData
  F_l_kind : Fun K "_law_kind" "_law_kind" s_l_kind a_l_kind d_l_kind
  b_l_kind : Binds K d_l_kind p_l_kind []
  m_l_kind : mg "_law_kind" = some (.ref a_l_kind)
  a_l_due : Addr
  d_l_due : FuncData
  F_l_due : Fun K "_law_due" "_law_due" s_l_due a_l_due d_l_due
  b_l_due : Binds K d_l_due p_l_due []
  m_l_due : mg "_law_due" = some (.ref a_l_due)
  a_l_told : Addr
  d_l_told : FuncData
  F_l_told : Fun K "_law_told" "_law_told" s_l_told a_l_told d_l_told
  b_l_told : Binds K d_l_told p_l_told []
  m_l_told : mg "_law_told" = some (.ref a_l_told)
  a_law : Addr
  d_law : FuncData
  F_law : Fun K "law" "law" s_law a_law d_law
  b_law : Binds K d_law p_law []
  m_law : mg "law" = some (.ref a_law)
  c_WIDEST_SMALL : ∃ t, mg "WIDEST_SMALL" = some (.int 7 t)
  z_bool : mg "bool" = none
  z_int : mg "int" = none
  z_isinstance : mg "isinstance" = none
  z_len : mg "len" = none
  z_list : mg "list" = none
  z_max : mg "max" = none
  z_min : mg "min" = none
  z_range : mg "range" = none
  z_str : mg "str" = none
  z_tuple : mg "tuple" = none
abbrev n_is_small : List Str := ["kind"]
theorem sc_is_small : FnScope n_is_small p_is_small (defScope s_is_small) := ⟨rfl, rfl, rfl, by decide +kernel, rfl, by decide +kernel, by decide +kernel⟩
abbrev n_is_large : List Str := ["kind"]
theorem sc_is_large : FnScope n_is_large p_is_large (defScope s_is_large) := ⟨rfl, rfl, rfl, by decide +kernel, rfl, by decide +kernel, by decide +kernel⟩
abbrev n_is_discrete : List Str := ["kind"]
theorem sc_is_discrete : FnScope n_is_discrete p_is_discrete (defScope s_is_discrete) := ⟨rfl, rfl, rfl, by decide +kernel, rfl, by decide +kernel, by decide +kernel⟩
abbrev n_kind_values : List Str := ["kind"]
theorem sc_kind_values : FnScope n_kind_values p_kind_values (defScope s_kind_values) := ⟨rfl, rfl, rfl, by decide +kernel, rfl, by decide +kernel, by decide +kernel⟩
abbrev n_start_value : List Str := ["kind"]
theorem sc_start_value : FnScope n_start_value p_start_value (defScope s_start_value) := ⟨rfl, rfl, rfl, by decide +kernel, rfl, by decide +kernel, by decide +kernel⟩
abbrev n_l_cell : List Str := ["_law_script", "_law_at"]
theorem sc_l_cell : FnScope n_l_cell p_l_cell (defScope s_l_cell) := ⟨rfl, rfl, rfl, by decide +kernel, rfl, by decide +kernel, by decide +kernel⟩
abbrev n_l_source : List Str := ["_law_cell_here"]
theorem sc_l_source : FnScope n_l_source p_l_source (defScope s_l_source) := ⟨rfl, rfl, rfl, by decide +kernel, rfl, by decide +kernel, by decide +kernel⟩
abbrev n_l_pick : List Str := ["_law_source_here", "_law_size", "_law_k", "_law_digit", "_law_mixed"]
theorem sc_l_pick : FnScope n_l_pick p_l_pick (defScope s_l_pick) := ⟨rfl, rfl, rfl, by decide +kernel, rfl, by decide +kernel, by decide +kernel⟩
abbrev n_l_one : List Str := ["_law_source_here", "_law_row"]
theorem sc_l_one : FnScope n_l_one p_l_one (defScope s_l_one) := ⟨rfl, rfl, rfl, by decide +kernel, rfl, by decide +kernel, by decide +kernel⟩
abbrev n_l_same : List Str := ["_law_actual", "_law_due_here", "_law_k"]
theorem sc_l_same : FnScope n_l_same p_l_same (defScope s_l_same) := ⟨rfl, rfl, rfl, by decide +kernel, rfl, by decide +kernel, by decide +kernel⟩
abbrev n_l_number : List Str := ["_law_source_here", "_law_size"]
theorem sc_l_number : FnScope n_l_number p_l_number (defScope s_l_number) := ⟨rfl, rfl, rfl, by decide +kernel, rfl, by decide +kernel, by decide +kernel⟩
abbrev n_l_word : List Str := ["_law_source_here", "_law_word_here", "_law_k"]
theorem sc_l_word : FnScope n_l_word p_l_word (defScope s_l_word) := ⟨rfl, rfl, rfl, by decide +kernel, rfl, by decide +kernel, by decide +kernel⟩
abbrev n_l_kind : List Str := ["_law_source_here", "_law_choice", "_law_width", "_law_low"]
theorem sc_l_kind : FnScope n_l_kind p_l_kind (defScope s_l_kind) := ⟨rfl, rfl, rfl, by decide +kernel, rfl, by decide +kernel, by decide +kernel⟩
abbrev n_l_due : List Str := ["_law_kind_here", "_law_start", "_law_values", "_law_k"]
theorem sc_l_due : FnScope n_l_due p_l_due (defScope s_l_due) := ⟨rfl, rfl, rfl, by decide +kernel, rfl, by decide +kernel, by decide +kernel⟩
abbrev n_l_told : List Str := ["_law_kind_here", "_law_small", "_law_values"]
theorem sc_l_told : FnScope n_l_told p_l_told (defScope s_l_told) := ⟨rfl, rfl, rfl, by decide +kernel, rfl, by decide +kernel, by decide +kernel⟩
abbrev n_law : List Str := ["_law_script", "_law_kinds", "_law_at", "_law_source_here", "_law_kind_here", "_law_due_here"]
theorem sc_law : FnScope n_law p_law (defScope s_law) := ⟨rfl, rfl, rfl, by decide +kernel, rfl, by decide +kernel, by decide +kernel⟩
/-! ### built-in names -/
theorem bt_int : bootBuiltins "int" = some (.type "int") := by decide +kernel
theorem bt_str : bootBuiltins "str" = some (.type "str") := by decide +kernel
theorem bt_bool : bootBuiltins "bool" = some (.type "bool") := by decide +kernel
theorem bt_tuple : bootBuiltins "tuple" = some (.type "tuple") := by decide +kernel
theorem bt_list : bootBuiltins "list" = some (.type "list") := by decide +kernel
theorem bt_dict : bootBuiltins "dict" = some (.type "dict") := by decide +kernel
theorem bb_max : bootBuiltins "max" = some (.builtin "max") := by decide +kernel
theorem bb_min : bootBuiltins "min" = some (.builtin "min") := by decide +kernel
theorem bb_isinstance : bootBuiltins "isinstance" = some (.builtin "isinstance") := by decide +kernel
/-! ### a source of draws: a list of three ints, which draws alone change -/
def Src (H : Hp) (a : Addr) : Prop := ∃ c m k : Int, H a = some (.lst [.int c, .int m, .int k])
/-- a source stands at a, and nothing else that was tracked has changed -/
structure Stp (a : Addr) (H H' : Hp) : Prop where
  s : Src H' a
  k : ∀ b o, b ≠ a → H b = some o → H' b = some o
theorem Stp.refl {a : Addr} {H : Hp} (h : Src H a) : Stp a H H := ⟨h, fun _ _ _ e => e⟩
theorem Stp.trans {a : Addr} {H H1 H2 : Hp} (x : Stp a H H1) (y : Stp a H1 H2) : Stp a H H2 := ⟨y.s, fun b o hb e => y.k b o hb (x.k b o hb e)⟩
theorem Src.ne {a p : Addr} {H : Hp} (h : Src H a) (n : H p = none) : a ≠ p := by
  obtain ⟨c, m, k, h⟩ := h
  exact ne_of_none h n
theorem Stp.free {a p : Addr} {H H' : Hp} (x : Stp a H H') (n : H' p = none) : H p = none := by
  cases q : H p with
  | none => rfl
  | some o =>
    have ne : p ≠ a := fun z => x.s.ne n z.symm
    rw [x.k p o ne q] at n
    cases n
/-- a new object beside the source -/
theorem Stp.new {a p : Addr} {H H' : Hp} {o : HO} (x : Stp a H H') (n : H' p = none) : Stp a H (upd H' p o) := by
  have ne := x.s.ne n
  obtain ⟨c, m, k, h⟩ := x.s
  refine ⟨⟨c, m, k, by rw [upd_ne ne]; exact h⟩, fun b u hb e => ?_⟩
  have e' := x.k b u hb e
  rw [upd_ne (ne_of_none e' n)]
  exact e'
theorem Stp.same {a : Addr} {H H' H2 : Hp} (x : Stp a H H') (s : Same H' H2) : Stp a H H2 := by
  obtain ⟨c, m, k, h⟩ := x.s
  exact ⟨⟨c, m, k, s _ _ h⟩, fun b o hb e => s b o (x.k b o hb e)⟩
theorem Stp.of_same {a : Addr} {H H' : Hp} (h : Src H a) (s : Same H H') : Stp a H H' := (Stp.refl h).same s
theorem Same.new {H : Hp} {p : Addr} (h : H p = none) (o : HO) : Same H (upd H p o) := fun b u q => by rw [upd_ne (ne_of_none q h)]; exact q
/-- a source that is new ahead of its draws: all that was tracked stands -/
theorem Stp.fresh {a : Addr} {H H1 H2 : Hp} (s : Same H H1) (n : H a = none) (x : Stp a H1 H2) : Same H H2 := fun b o e => x.k b o (ne_of_none e n) (s b o e)
theorem Stp.rd {K : PySem.W.Frag} {a p : Addr} {H H' : Hp} {xs : List V} (x : Stp a H H') (h : SqT K H p xs) (hs : Src H a) : SqT K H' p xs := by
  obtain ⟨c, m, k, hs⟩ := hs
  rcases h with (h | ⟨o, h⟩) | h
  · exact .inl (.inl (x.k _ _ (ne_of h hs (by intro z; cases z)) h))
  · exact .inl (.inr ⟨o, x.k _ _ (ne_of h hs (by intro z; cases z)) h⟩)
  · exact .inr h
theorem Stp.rdL {K : PySem.W.Frag} {a p : Addr} {H H' : Hp} {xs : List V} (x : Stp a H H') (h : SqL K H p xs) (ne : p ≠ a) : SqL K H' p xs := by
  rcases h with (h | ⟨o, h⟩) | h
  · exact .inl (.inl (x.k _ _ ne h))
  · exact .inl (.inr ⟨o, x.k _ _ ne h⟩)
  · exact .inr h
theorem Same.tup {K : PySem.W.Frag} {p : Addr} {H H' : Hp} {xs : List V} (x : Same H H') (h : SqT K H p xs) : SqT K H' p xs := by
  rcases h with (h | ⟨o, h⟩) | h
  · exact .inl (.inl (x _ _ h))
  · exact .inl (.inr ⟨o, x _ _ h⟩)
  · exact .inr h
/-! ### numbers -/
theorem ifT {c : Bool} {A B : Prop} (h : c = true) (a : A) : if c = true then A else B := by rw [if_pos h]; exact a
theorem ifF {c : Bool} {A B : Prop} (h : c = false) (b : B) : if c = true then A else B := by rw [h]; exact iteF b
theorem fmod_bd {x m : Int} (h : 0 < m) : 0 ≤ x.fmod m ∧ x.fmod m < m := ⟨Int.fmod_nonneg_of_pos x h, Int.fmod_lt_of_pos x h⟩
theorem fm64 {x m : Int} (h : 0 < m) (h2 : m ≤ 2 ^ 64) : -(2 ^ 64) < x.fmod m ∧ x.fmod m < 2 ^ 64 :=
  ⟨Int.lt_of_lt_of_le (by decide) (fmod_bd h).1, Int.lt_of_lt_of_le (fmod_bd h).2 h2⟩
theorem atI_int {α : Type} {xs : List α} {r : Int} (h0 : 0 ≤ r) (h : r.toNat < xs.length) : atI xs r = some xs[r.toNat] := by
  have e := atI_nat (xs := xs) (j := r.toNat) (List.getElem?_eq_getElem h)
  rwa [Int.toNat_of_nonneg h0] at e
/-! ### the promises of the draws -/
def spCell (K : PySem.W.Frag) : Sp := fun vs H Q _ => ∃ (l : Addr) (ns : List Int) (j : Int), vs = [.ref l, .int j] ∧ SqL K H l (ns.map V.int) ∧ 0 ≤ j ∧ ∀ i : Int, Q (.int i) H
def spSource : Sp := fun vs H Q _ => ∃ c : Int, vs = [.int c] ∧ ∀ p H', H p = none → Same H H' → Src H' p → Q (.ref p) H'
def spPick : Sp := fun vs H Q _ => ∃ (a : Addr) (n : Int), vs = [.ref a, .int n] ∧ Src H a ∧ n < 1073741824 ∧ ∀ (r : Int) (H' : Hp), Stp a H H' → 0 ≤ r → (r < n ∨ r = 0) → Q (.int r) H'
def spOne (K : PySem.W.Frag) : Sp := fun vs H Q _ => ∃ (a : Addr) (row : V), vs = [.ref a, row] ∧ Src H a ∧
  ((∃ (p : Addr) (xs : List V), row = .ref p ∧ p ≠ a ∧ SqL K H p xs ∧ 0 < xs.length ∧ xs.length < 1000 ∧ ∀ v H', v ∈ xs → Stp a H H' → Q v H') ∨
   (∃ z : Str, row = .str z ∧ 0 < z.length ∧ z.length < 1000 ∧ ∀ (c : Nat) H', c ∈ z.cps.toList → Stp a H H' → Q (.str ⟨#[c]⟩) H'))
section
variable {P : Program} {w : World} {K : PySem.W.Frag} {mg : Str → Option Value} {base : Heap}
theorem ok_l_cell (T : Txt K mg) : FnOk P w K mg base CX0 1 T.a_l_cell T.d_l_cell p_l_cell (spCell K) := by
  refine T.F_l_cell.ok sc_l_cell (fun vs H Q E h => ?_) (fun cdv A outer s H vs Q E hr h => ?_)
  · obtain ⟨l, ns, j, rfl, _⟩ := h
    rfl
  obtain ⟨l, ns, j, rfl, hS, h0, q⟩ := h
  refine ⟨_, (pss_cons (ps_if (pt_cmpR op_lt (pv 1) (pe_callB call_len_seq rfl T.z_len PySem.boot_len (pa_cons (pv 0) pa_nil)) (nomark _)) (pss_one (ps_ret (pe_ix ix_list (pv 0) (pv 1) (fun _ _ => rfl)))) pss_nil)
      (pss_one (ps_ret pe_int))), ?_⟩
  have hl : (ns.map V.int).length = ns.length := List.length_map _
  refine ⟨_, rfl, _, rfl, l, _, rfl, .inl hS, _, _, rfl, rfl, _, rfl, ?_⟩
  refine ite2 (fun c => ?_) (fun c => ?_)
  · have c' : j < (((ns.map V.int).length : Nat) : Int) := of_decide_eq_true c
    rw [hl] at c'
    have hk : j.toNat < ns.length := by omega
    have e := atI_int (xs := ns.map V.int) h0 (by omega)
    rw [List.getElem_map] at e
    exact ⟨_, rfl, _, rfl, l, _, _, _, rfl, rfl, hS, e, q _⟩
  · exact q 0
theorem ok_l_source (T : Txt K mg) : FnOk P w K mg base CX0 1 T.a_l_source T.d_l_source p_l_source spSource := by
  refine T.F_l_source.ok sc_l_source (fun vs H Q E h => ?_) (fun cdv A outer s H vs Q E hr h => ?_)
  · obtain ⟨c, rfl, _⟩ := h
    rfl
  obtain ⟨c, rfl, q⟩ := h
  refine ⟨_, (pss_one (ps_ret (pe_lst (pa_cons (pv 0) (pa_cons (pv 0) (pa_cons pe_int pa_nil)))))), ?_⟩
  refine ⟨_, rfl, _, rfl, (by show 3 ≤ sizeLine; decide), fun p hp => ?_⟩
  exact q p _ hp (Same.new hp _) ⟨c, c, 0, upd_same⟩
theorem ok_l_pick (T : Txt K mg) : FnOk P w K mg base CX0 1 T.a_l_pick T.d_l_pick p_l_pick spPick := by
  refine T.F_l_pick.ok sc_l_pick (fun vs H Q E h => ?_) (fun cdv A outer s H vs Q E hr h => ?_)
  · obtain ⟨a, n, rfl, _⟩ := h
    rfl
  obtain ⟨a, n, rfl, ⟨c, m, k, hS⟩, hn, q⟩ := h
  refine ⟨_, (pss_cons (ps_set (i := 2) sc_l_pick.nd rfl (Or.inl rfl) (pe_ix ix_list (pv 0) pe_int (fun _ _ => rfl)))
      (pss_cons (ps_asg (pe_op op_add (pv 2) pe_int) (pg_sub (pv 0) pe_int set_list))
      (pss_cons (ps_if (pt_cmpR op_lt (pv 1) pe_int (nomark _)) (pss_one (ps_ret pe_int)) pss_nil)
      (pss_cons (ps_if (PW.pt (pw_and (pt_cmpR op_ge (pe_ix ix_list (pv 0) pe_int (fun _ _ => rfl)) (pe_op op_pow pe_int pe_int) (nomark _)) (pw_and1 (pt_cmpR op_gt (pe_ix ix_list (pv 0) pe_int (fun _ _ => rfl)) pe_int (nomark _))))) (pss_cons (ps_set (i := 3) sc_l_pick.nd rfl (Or.inl rfl) (pe_op op_modN (pe_callTy call_int1 rfl T.z_int bt_int (pa_cons (pe_ix ix_list (pv 0) pe_int (fun _ _ => rfl)) pa_nil)) (pv 1)))
      (pss_cons (ps_asg (pe_op op_fdivN (pe_ix ix_list (pv 0) pe_int (fun _ _ => rfl)) (pv 1)) (pg_sub (pv 0) pe_int set_list))
      (pss_one (ps_ret (pv 3))))) pss_nil)
      (pss_cons (ps_set (i := 4) sc_l_pick.nd rfl (Or.inl rfl) (pe_op op_modN (pe_callTy call_int1 rfl T.z_int bt_int (pa_cons (pe_op op_add (pe_op op_add (pe_ix ix_list (pv 0) pe_int (fun _ _ => rfl)) (pe_op op_mul pe_int (pv 2))) pe_int) pa_nil)) pe_int))
      (pss_cons (ps_set (i := 4) sc_l_pick.nd rfl (Or.inl rfl) (pe_op op_modN (pe_callTy call_int1 rfl T.z_int bt_int (pa_cons (pe_op op_mul (pv 4) (pe_op op_add (pv 4) pe_int)) pa_nil)) pe_int))
      (pss_cons (ps_set (i := 4) sc_l_pick.nd rfl (Or.inl rfl) (pe_op op_modN (pe_callTy call_int1 rfl T.z_int bt_int (pa_cons (pe_op op_add (pe_op op_mul (pv 4) (pe_op op_add (pv 4) pe_int)) (pe_op op_mul pe_int (pv 2))) pa_nil)) pe_int))
      (pss_one (ps_ret (pe_op op_modN (pe_callTy call_int1 rfl T.z_int bt_int (pa_cons (pe_op op_fdivN (pv 4) pe_int) pa_nil)) (pv 1))))))))))), ?_⟩
  refine ⟨_, rfl, a, _, 2, _, rfl, rfl, SqL.of hS, rfl, ?_⟩
  refine ⟨_, rfl, k, 1, rfl, rfl, _, rfl, a, _, 2, 2, rfl, rfl, hS, rfl, ?_⟩
  have h1 : (upd H a (.lst [.int c, .int m, .int (k + 1)])) a = some (.lst [.int c, .int m, .int (k + 1)]) := upd_same
  have st : Stp a H (upd H a (.lst [.int c, .int m, .int (k + 1)])) := ⟨⟨c, m, k + 1, upd_same⟩, fun b o hb e => by rw [upd_ne hb]; exact e⟩
  refine ⟨_, rfl, n, 2, rfl, rfl, _, rfl, ?_⟩
  refine ite2 (fun _ => ?_) (fun c2 => ?_)
  · exact q 0 _ st (Int.le_refl 0) (.inr rfl)
  have hn2 : ¬ n < 2 := of_decide_eq_false (Bool.eq_false_iff.mpr c2)
  refine ⟨_, rfl, a, _, 0, _, rfl, rfl, SqL.of h1, rfl, 10, 18, rfl, rfl, ⟨by decide, by decide, by decide⟩, _, _, rfl, rfl, _, rfl, ?_⟩
  refine ite2 (fun _ => ⟨_, rfl, a, _, 1, _, rfl, rfl, SqL.of h1, rfl, _, _, rfl, rfl, _, rfl, ite2 (fun _ => ?first) (fun _ => ?second)⟩) (fun _ => iteF ?third)
  case first =>
    refine ⟨_, rfl, a, _, 1, _, rfl, rfl, SqL.of h1, rfl, .inl ⟨_, rfl, ?_⟩⟩
    refine ⟨_, rfl, _, _, rfl, rfl, by omega, ?_⟩
    refine ⟨_, rfl, a, _, 1, _, rfl, rfl, SqL.of h1, rfl, _, rfl, m, n, rfl, rfl, ⟨by omega, by omega⟩, _, rfl, a, _, 1, 1, rfl, rfl, h1, rfl, ?_⟩
    refine ⟨_, rfl, ?_⟩
    have b := fmod_bd (x := m) (m := n) (by omega)
    refine q _ _ ⟨⟨c, m.fdiv n, k + 1, upd_same⟩, fun b o hb e => ?_⟩ b.1 (.inl b.2)
    rw [upd_ne hb]
    exact st.k b o hb e
  all_goals
    refine ⟨_, rfl, a, _, 0, _, rfl, rfl, SqL.of h1, rfl, _, rfl, 7919, k, rfl, rfl, .inl ⟨by decide, by decide⟩, _, _, rfl, rfl, _, _, rfl, rfl, .inl ⟨_, rfl, ?_⟩⟩
    refine ⟨_, _, rfl, rfl, (by intro z; cases z), ?_⟩
    refine ⟨_, rfl, _, rfl, _, _, rfl, rfl, _, _, rfl, rfl, .inl (fm64 (by decide) (by decide)), .inl ⟨_, rfl, ?_⟩⟩
    refine ⟨_, _, rfl, rfl, (by intro z; cases z), ?_⟩
    refine ⟨_, rfl, _, rfl, _, _, rfl, rfl, _, _, rfl, rfl, .inl (fm64 (by decide) (by decide)), _, rfl, 31, k, rfl, rfl, .inl ⟨by decide, by decide⟩, _, _, rfl, rfl, .inl ⟨_, rfl, ?_⟩⟩
    refine ⟨_, _, rfl, rfl, (by intro z; cases z), ?_⟩
    refine ⟨_, rfl, _, _, rfl, rfl, ⟨by decide, by decide⟩, .inl ⟨_, rfl, ?_⟩⟩
    refine ⟨_, rfl, _, _, rfl, rfl, (by omega), ?_⟩
    exact q _ _ st (fmod_bd (by omega)).1 (.inl (fmod_bd (by omega)).2)
theorem ok_l_one (T : Txt K mg) : FnOk P w K mg base CX0 2 T.a_l_one T.d_l_one p_l_one (spOne K) := by
  have g_l_pick := ok_l_pick (P := P) (w := w) (base := base) T
  refine T.F_l_one.ok sc_l_one (fun vs H Q E h => ?_) (fun cdv A outer s H vs Q E hr h => ?_)
  · obtain ⟨a, row, rfl, _⟩ := h
    rfl
  obtain ⟨a, row, rfl, hS, h⟩ := h
  refine ⟨_, (pss_one (ps_ret (pe_ix ix_seq (pv 1) (pe_call g_l_pick (hr.mono (by first | decide | omega)) rfl T.m_l_pick T.F_l_pick.kp T.b_l_pick .nil pass0 (pa_cons (pv 0) (pa_cons (pe_callB call_len rfl T.z_len PySem.boot_len (pa_cons (pv 1) pa_nil)) pa_nil))) (fun _ _ => rfl)))), ?_⟩
  rcases h with ⟨p, xs, rfl, ne, hx, h0, h9, q⟩ | ⟨z, rfl, h0, h9, q⟩
  · refine ⟨_, rfl, _, rfl, _, rfl, .ref p, xs.length, rfl, .inl ⟨_, hx, rfl⟩, ?_⟩
    refine ⟨a, _, rfl, hS, by omega, fun r H' st r0 r1 => ?_⟩
    have hr' : r.toNat < xs.length := by omega
    have e := atI_int (xs := xs) r0 hr'
    exact .inl ⟨p, xs, r, _, rfl, rfl, st.rdL hx ne, e, q _ _ (List.getElem_mem hr') st⟩
  · refine ⟨_, rfl, _, rfl, _, rfl, .str z, z.length, rfl, ⟨Nat.le_of_lt (small1000 (by omega)), rfl⟩, ?_⟩
    refine ⟨a, _, rfl, hS, by omega, fun r H' st r0 r1 => ?_⟩
    have ez : z.length = z.cps.toList.length := by simp [Str.length]
    have hr' : r.toNat < z.cps.toList.length := by omega
    have e := atI_int (xs := z.cps.toList) r0 hr'
    exact .inr (.inr ⟨z, r, _, rfl, rfl, Nat.le_of_lt (small1000 (by omega)), e, q _ _ (List.getElem_mem hr') st⟩)
end
/-! ### data: equal data are the same to _law_same -/
def Dok : Nat → PyData → Prop
  | 0, _ => False
  | _ + 1, .none => True
  | _ + 1, .bool _ => True
  | _ + 1, .int _ => True
  | _ + 1, .str _ => True
  | n + 1, .tuple ds => ds.length ≤ 100000 ∧ ∀ d ∈ ds, Dok n d
  | n + 1, .list ds => ds.length ≤ 100000 ∧ ∀ d ∈ ds, Dok n d
  | _ + 1, .dict _ => False
theorem dpAll_len {K : PySem.W.Frag} {H : Hp} : ∀ {vs : List V} {ds : List PyData}, DpAll K H vs ds → vs.length = ds.length
  | _, _, .nil => rfl
  | _, _, .cons _ r => congrArg (· + 1) (dpAll_len r)
theorem dpAll_get {K : PySem.W.Frag} {H : Hp} : ∀ {vs : List V} {ds : List PyData} {i : Nat} {d : PyData}, DpAll K H vs ds → ds[i]? = some d → ∃ v, vs[i]? = some v ∧ Dp K H v d
  | _, _, _, _, .nil, e => by simp at e
  | _, _, 0, d, .cons h _, e => by
    simp at e
    subst e
    exact ⟨_, rfl, h⟩
  | _, _, i + 1, d, .cons _ r, e => by
    obtain ⟨v, h1, h2⟩ := dpAll_get (i := i) r (by simpa using e)
    exact ⟨v, by simpa using h1, h2⟩
theorem tyL {K : PySem.W.Frag} {H : Hp} {a : Addr} {xs : List V} (h : SqL K H a xs) : TyX K H (.ref a) (.type "list") := by
  rcases h with (h | ⟨o, h⟩) | ⟨o, its, n, h, c, _⟩
  · exact .base (.lst h)
  · exact .base (.frz h)
  · exact .kList h c
theorem tyT {K : PySem.W.Frag} {H : Hp} {a : Addr} {xs : List V} (h : SqT K H a xs) : TyX K H (.ref a) (.type "tuple") := by
  rcases h with (h | ⟨o, h⟩) | ⟨o, its, n, h, c, _⟩
  · exact .base (.tup h)
  · exact .fTuple h
  · exact .kTuple h c
theorem isi {K : PySem.W.Frag} {H : Hp} {Q : VK} {x : V} {t c : String} (b : Bool) (ty : TyX K H x (.type t)) (kb : kitB t c = some b) (q : Q (.bl b) H) : rIsi K [x, .ty c] H Q := ⟨x, .ty c, _, _, b, rfl, .ty c, ty, kit_ty kb, q⟩
theorem kb_nt : kitB "NoneType" "tuple" = some false := by decide +kernel
theorem kb_nl : kitB "NoneType" "list" = some false := by decide +kernel
theorem kb_bt : kitB "bool" "tuple" = some false := by decide +kernel
theorem kb_bl : kitB "bool" "list" = some false := by decide +kernel
theorem kb_bb : kitB "bool" "bool" = some true := by decide +kernel
theorem kb_it : kitB "int" "tuple" = some false := by decide +kernel
theorem kb_il : kitB "int" "list" = some false := by decide +kernel
theorem kb_ib : kitB "int" "bool" = some false := by decide +kernel
theorem kb_ii : kitB "int" "int" = some true := by decide +kernel
theorem kb_st : kitB "str" "tuple" = some false := by decide +kernel
theorem kb_sl : kitB "str" "list" = some false := by decide +kernel
theorem kb_sb : kitB "str" "bool" = some false := by decide +kernel
theorem kb_si : kitB "str" "int" = some false := by decide +kernel
theorem kb_ss : kitB "str" "str" = some true := by decide +kernel
theorem kb_tt : kitB "tuple" "tuple" = some true := by decide +kernel
theorem kb_tl : kitB "tuple" "list" = some false := by decide +kernel
theorem kb_lt : kitB "list" "tuple" = some false := by decide +kernel
theorem kb_ll : kitB "list" "list" = some true := by decide +kernel
def spSame (K : PySem.W.Frag) (n : Nat) : Sp := fun vs H Q _ => ∃ (x y : V) (d : PyData), vs = [x, y] ∧ Dp K H x d ∧ Dp K H y d ∧ Dok n d ∧ Q (.bl true) H
section
variable {P : Program} {w : World} {K : PySem.W.Frag} {mg : Str → Option Value} {base : Heap}
theorem ok_l_same0 (T : Txt K mg) : FnOk P w K mg base CX0 0 T.a_l_same T.d_l_same p_l_same (spSame K 0) := by
  have no : ∀ vs H Q E, ¬ spSame K 0 vs H Q E := fun vs H Q E h => by
    obtain ⟨x, y, d, _, _, _, h, _⟩ := h
    exact h
  exact ⟨fun vs H Q E h => absurd h (no vs H Q E), fun A outer s H args us vs Q E _ _ _ _ h => absurd h (no vs H Q E)⟩
/-- the part for two lists or two tuples -/
theorem same_seq {n : Nat} {H : Hp} {p r : Addr} {xs ys : List V} {ds : List PyData} (h1 : SqL K H p xs ∨ SqT K H p xs) (h2 : SqL K H r ys ∨ SqT K H r ys) (d1 : DpAll K H xs ds) (d2 : DpAll K H ys ds)
    (hd : ∀ d ∈ ds, Dok n d) {i : Nat} (hi : i < ds.length) {R : V → Hp → Prop} (q : R (.bl true) H) :
    tCall (spSame K n) [] E0 (tCons (tOp (rIx K) (tVar 0) (tVar 2)) (tCons (tOp (rIx K) (tVar 1) (tVar 2)) tNil)) [some (.ref p), some (.ref r), some (.int (0 + (i : Int)))] H R := by
  obtain ⟨x, e1, q1⟩ := dpAll_get (i := i) d1 (List.getElem?_eq_getElem hi)
  obtain ⟨y, e2, q2⟩ := dpAll_get (i := i) d2 (List.getElem?_eq_getElem hi)
  have a1 : atI xs (0 + (i : Int)) = some x := by rw [Int.zero_add]; exact atI_nat e1
  have a2 : atI ys (0 + (i : Int)) = some y := by rw [Int.zero_add]; exact atI_nat e2
  have k2 : tOp (rIx K) (tVar 1) (tVar 2) [some (.ref p), some (.ref r), some (.int (0 + (i : Int)))] H (fun v H' => tNil [some (.ref p), some (.ref r), some (.int (0 + (i : Int)))] H' fun vs H'' => spSame K n ((x :: v :: vs) ++ []) H'' R E0) := by
    refine ⟨_, rfl, _, rfl, ?_⟩
    have z : spSame K n [x, y] H R E0 := ⟨x, y, _, rfl, q1, q2, hd _ (List.getElem_mem hi), q⟩
    rcases h2 with h2 | h2
    · exact .inl ⟨r, _, _, _, rfl, rfl, h2, a2, z⟩
    · exact .inr (.inl ⟨r, _, _, _, rfl, rfl, h2, a2, z⟩)
  refine ⟨_, rfl, _, rfl, ?_⟩
  rcases h1 with h1 | h1
  · exact .inl ⟨p, _, _, _, rfl, rfl, h1, a1, k2⟩
  · exact .inr (.inl ⟨p, _, _, _, rfl, rfl, h1, a1, k2⟩)
theorem ok_l_same (T : Txt K mg) : ∀ n : Nat, FnOk P w K mg base CX0 n T.a_l_same T.d_l_same p_l_same (spSame K n)
  | 0 => ok_l_same0 T
  | n + 1 => by
    have g_l_same := ok_l_same T n
    refine T.F_l_same.ok sc_l_same (fun vs H Q E h => ?_) (fun cdv A outer s H vs Q E hr h => ?_)
    · obtain ⟨x, y, d, rfl, _⟩ := h
      rfl
    obtain ⟨x, y, d, rfl, hx, hy, hd, q⟩ := h
    refine ⟨_, (pss_cons (ps_if (PW.pt (pw_or (pt_val (pe_callB call_isi rfl T.z_isinstance bb_isinstance (pa_cons (pv 1) (pa_cons (pe_bltn (v := .ty "tuple") rfl T.z_tuple bt_tuple rfl) pa_nil)))) (pw_or1 (pt_val (pe_callB call_isi rfl T.z_isinstance bb_isinstance (pa_cons (pv 1) (pa_cons (pe_bltn (v := .ty "list") rfl T.z_list bt_list rfl) pa_nil))))))) (pss_cons (ps_if (PW.pt (pw_or (pt_cmpR op_ne (pe_callB call_isi rfl T.z_isinstance bb_isinstance (pa_cons (pv 1) (pa_cons (pe_bltn (v := .ty "tuple") rfl T.z_tuple bt_tuple rfl) pa_nil))) (pe_callB call_isi rfl T.z_isinstance bb_isinstance (pa_cons (pv 0) (pa_cons (pe_bltn (v := .ty "tuple") rfl T.z_tuple bt_tuple rfl) pa_nil))) (nomark _)) (pw_or1 (pt_cmpR op_ne (pe_callB call_isi rfl T.z_isinstance bb_isinstance (pa_cons (pv 1) (pa_cons (pe_bltn (v := .ty "list") rfl T.z_list bt_list rfl) pa_nil))) (pe_callB call_isi rfl T.z_isinstance bb_isinstance (pa_cons (pv 0) (pa_cons (pe_bltn (v := .ty "list") rfl T.z_list bt_list rfl) pa_nil))) (nomark _))))) (pss_one (ps_ret pe_bl)) pss_nil)
      (pss_cons (ps_if (pt_cmpR op_ne (pe_callB call_len_seq rfl T.z_len PySem.boot_len (pa_cons (pv 0) pa_nil)) (pe_callB call_len_seq rfl T.z_len PySem.boot_len (pa_cons (pv 1) pa_nil)) (nomark _)) (pss_one (ps_ret pe_bl)) pss_nil)
      (pss_cons (ps_for PassesOwn.never rfl (pi_range1 rfl T.z_range (pa_cons (pe_callB call_len_seq rfl T.z_len PySem.boot_len (pa_cons (pv 1) pa_nil)) pa_nil)) (pg_name (i := 2) sc_l_same.nd rfl (Or.inl rfl))
        (pss_one (ps_if (pt_not (pt_val (pe_call g_l_same (hr.mono (by first | decide | omega)) rfl T.m_l_same T.F_l_same.kp T.b_l_same .nil pass0 (pa_cons (pe_ix ix_seq (pv 0) (pv 2) (fun _ _ => rfl)) (pa_cons (pe_ix ix_seq (pv 1) (pv 2) (fun _ _ => rfl)) pa_nil))))) (pss_one (ps_ret pe_bl)) pss_nil)))
      (pss_one (ps_ret pe_bl))))) pss_nil)
      (pss_cons (ps_if (pt_cmpR op_isN (pv 1) pe_non (nomark _)) (pss_one (ps_ret (pe_cmpR op_isN (pv 0) pe_non (nomark _)))) pss_nil)
      (pss_cons (ps_if (pt_val (pe_callB call_isi rfl T.z_isinstance bb_isinstance (pa_cons (pv 1) (pa_cons (pe_bltn (v := .ty "bool") rfl T.z_bool bt_bool rfl) pa_nil)))) (pss_one (ps_ret (pe_and (pe_callB call_isi rfl T.z_isinstance bb_isinstance (pa_cons (pv 0) (pa_cons (pe_bltn (v := .ty "bool") rfl T.z_bool bt_bool rfl) pa_nil))) (pe_one (pe_cmpR op_eq (pv 0) (pv 1) (nomark _)))))) pss_nil)
      (pss_cons (ps_if (pt_val (pe_callB call_isi rfl T.z_isinstance bb_isinstance (pa_cons (pv 1) (pa_cons (pe_bltn (v := .ty "int") rfl T.z_int bt_int rfl) pa_nil)))) (pss_one (ps_ret (pe_and (pe_callB call_isi rfl T.z_isinstance bb_isinstance (pa_cons (pv 0) (pa_cons (pe_bltn (v := .ty "int") rfl T.z_int bt_int rfl) pa_nil))) (pe_and (pe_not (pe_callB call_isi rfl T.z_isinstance bb_isinstance (pa_cons (pv 0) (pa_cons (pe_bltn (v := .ty "bool") rfl T.z_bool bt_bool rfl) pa_nil)))) (pe_one (pe_cmpR op_eq (pv 0) (pv 1) (nomark _))))))) pss_nil)
      (pss_one (ps_ret (pe_and (pe_callB call_isi rfl T.z_isinstance bb_isinstance (pa_cons (pv 0) (pa_cons (pe_bltn (v := .ty "str") rfl T.z_str bt_str rfl) pa_nil))) (pe_one (pe_cmpR op_eq (pv 0) (pv 1) (nomark _)))))))))), ?_⟩
    cases hx with
    | non =>
      cases hy
      refine ⟨_, rfl, _, _, _, _, false, rfl, .ty _, (.base .non), kit_ty kb_nt, ⟨_, rfl, iteF ⟨_, rfl, _, _, _, _, false, rfl, .ty _, (.base .non), kit_ty kb_nl, ⟨_, rfl, iteF ?_⟩⟩⟩⟩
      refine ⟨_, rfl, rfl, _, rfl, iteT ?_⟩
      exact ⟨_, rfl, rfl, q⟩
    | bl b =>
      cases hy
      refine ⟨_, rfl, _, _, _, _, false, rfl, .ty _, (.base (.bl _)), kit_ty kb_bt, ⟨_, rfl, iteF ⟨_, rfl, _, _, _, _, false, rfl, .ty _, (.base (.bl _)), kit_ty kb_bl, ⟨_, rfl, iteF ?_⟩⟩⟩⟩
      refine ⟨_, rfl, rfl, _, rfl, iteF ?_⟩
      refine ⟨_, rfl, _, _, _, _, true, rfl, .ty _, (.base (.bl _)), kit_ty kb_bb, ⟨_, rfl, iteT ?_⟩⟩
      refine ⟨_, rfl, _, _, _, _, true, rfl, .ty _, (.base (.bl _)), kit_ty kb_bb, ⟨_, rfl, iteT ?_⟩⟩
      refine ⟨_, rfl, _, rfl, rfl, ?_⟩
      rw [decide_eq_true rfl]
      exact q
    | int b =>
      cases hy
      refine ⟨_, rfl, _, _, _, _, false, rfl, .ty _, (.base (.int _)), kit_ty kb_it, ⟨_, rfl, iteF ⟨_, rfl, _, _, _, _, false, rfl, .ty _, (.base (.int _)), kit_ty kb_il, ⟨_, rfl, iteF ?_⟩⟩⟩⟩
      refine ⟨_, rfl, rfl, _, rfl, iteF ?_⟩
      refine ⟨_, rfl, _, _, _, _, false, rfl, .ty _, (.base (.int _)), kit_ty kb_ib, ⟨_, rfl, iteF ?_⟩⟩
      refine ⟨_, rfl, _, _, _, _, true, rfl, .ty _, (.base (.int _)), kit_ty kb_ii, ⟨_, rfl, iteT ?_⟩⟩
      refine ⟨_, rfl, _, _, _, _, true, rfl, .ty _, (.base (.int _)), kit_ty kb_ii, ⟨_, rfl, iteT ?_⟩⟩
      refine ⟨_, rfl, _, _, _, _, false, rfl, .ty _, (.base (.int _)), kit_ty kb_ib, ⟨_, rfl, _, rfl, iteT ?_⟩⟩
      refine ⟨_, rfl, _, rfl, rfl, ?_⟩
      rw [decide_eq_true rfl]
      exact q
    | str b =>
      cases hy
      refine ⟨_, rfl, _, _, _, _, false, rfl, .ty _, (.base (.str _)), kit_ty kb_st, ⟨_, rfl, iteF ⟨_, rfl, _, _, _, _, false, rfl, .ty _, (.base (.str _)), kit_ty kb_sl, ⟨_, rfl, iteF ?_⟩⟩⟩⟩
      refine ⟨_, rfl, rfl, _, rfl, iteF ?_⟩
      refine ⟨_, rfl, _, _, _, _, false, rfl, .ty _, (.base (.str _)), kit_ty kb_sb, ⟨_, rfl, iteF ?_⟩⟩
      refine ⟨_, rfl, _, _, _, _, false, rfl, .ty _, (.base (.str _)), kit_ty kb_si, ⟨_, rfl, iteF ?_⟩⟩
      refine ⟨_, rfl, _, _, _, _, true, rfl, .ty _, (.base (.str _)), kit_ty kb_ss, ⟨_, rfl, iteT ?_⟩⟩
      refine ⟨_, rfl, _, rfl, rfl, ?_⟩
      rw [decide_eq_true rfl]
      exact q
    | @lst p xs ds h1 d1 =>
      cases hy with
      | @lst r ys _ h2 d2 =>
      have l1 := dpAll_len d1
      have l2 := dpAll_len d2
      obtain ⟨hlen, hd⟩ := hd
      refine ⟨_, rfl, _, _, _, _, false, rfl, .ty _, (tyL h2), kit_ty kb_lt, ⟨_, rfl, iteF ⟨_, rfl, _, _, _, _, true, rfl, .ty _, (tyL h2), kit_ty kb_ll, ⟨_, rfl, iteT ?_⟩⟩⟩⟩
      refine ⟨_, rfl, _, _, _, _, false, rfl, .ty _, (tyL h2), kit_ty kb_lt, ⟨_, rfl, _, _, _, _, false, rfl, .ty _, (tyL h1), kit_ty kb_lt, ⟨rfl, _, rfl, iteF ?_⟩⟩⟩
      refine ⟨_, rfl, _, _, _, _, true, rfl, .ty _, (tyL h2), kit_ty kb_ll, ⟨_, rfl, _, _, _, _, true, rfl, .ty _, (tyL h1), kit_ty kb_ll, ⟨rfl, _, rfl, iteF ?_⟩⟩⟩
      refine ⟨_, rfl, p, _, rfl, .inl h1, _, rfl, r, _, rfl, .inl h2, rfl, _, rfl, ?_⟩
      refine iteNS (congrArg V.int (by omega)) ?_
      refine ⟨_, rfl, r, _, rfl, .inl h2, _, rfl, by omega, by omega, for_range (lo := 0) (fun i σ H' => H' = H ∧ ∃ v : Option V, σ = [some (.ref p), some (.ref r), v]) ⟨rfl, none, rfl⟩ ?_ ?_⟩
      · rintro i σ H' hi ⟨rfl, v, rfl⟩
        refine same_seq (.inl h1) (.inl h2) d1 d2 hd (by omega) ⟨_, rfl, iteF ?_⟩
        exact ⟨rfl, _, rfl⟩
      · rintro σ H' ⟨rfl, v, rfl⟩
        exact q
    | @tup p xs ds h1 d1 =>
      cases hy with
      | @tup r ys _ h2 d2 =>
      have l1 := dpAll_len d1
      have l2 := dpAll_len d2
      obtain ⟨hlen, hd⟩ := hd
      refine ⟨_, rfl, _, _, _, _, true, rfl, .ty _, (tyT h2), kit_ty kb_tt, ⟨_, rfl, iteT ?_⟩⟩
      refine ⟨_, rfl, _, _, _, _, true, rfl, .ty _, (tyT h2), kit_ty kb_tt, ⟨_, rfl, _, _, _, _, true, rfl, .ty _, (tyT h1), kit_ty kb_tt, ⟨rfl, _, rfl, iteF ?_⟩⟩⟩
      refine ⟨_, rfl, _, _, _, _, false, rfl, .ty _, (tyT h2), kit_ty kb_tl, ⟨_, rfl, _, _, _, _, false, rfl, .ty _, (tyT h1), kit_ty kb_tl, ⟨rfl, _, rfl, iteF ?_⟩⟩⟩
      refine ⟨_, rfl, p, _, rfl, .inr h1, _, rfl, r, _, rfl, .inr h2, rfl, _, rfl, ?_⟩
      refine iteNS (congrArg V.int (by omega)) ?_
      refine ⟨_, rfl, r, _, rfl, .inr h2, _, rfl, by omega, by omega, for_range (lo := 0) (fun i σ H' => H' = H ∧ ∃ v : Option V, σ = [some (.ref p), some (.ref r), v]) ⟨rfl, none, rfl⟩ ?_ ?_⟩
      · rintro i σ H' hi ⟨rfl, v, rfl⟩
        refine same_seq (.inr h1) (.inr h2) d1 d2 hd (by omega) ⟨_, rfl, iteF ?_⟩
        exact ⟨rfl, _, rfl⟩
      · rintro σ H' ⟨rfl, v, rfl⟩
        exact q
end
/-! ### kinds -/
inductive Kd where
  | flag | ref (s : Str) | num (lo hi : Int)
def Kd.vals : Kd → List V
  | .flag => [.str "flag"]
  | .ref s => [.str "ref", .str s]
  | .num lo hi => [.str "num", .int lo, .int hi]
def Kd.ok : Kd → Prop
  | .flag => True
  | .ref _ => True
  | .num lo hi => -1000000000 ≤ lo ∧ lo ≤ hi ∧ hi ≤ 1000000000
def Kd.small : Kd → Bool
  | .flag => true
  | .ref _ => false
  | .num lo hi => decide (hi - lo ≤ 7)
def Kd.large : Kd → Bool
  | .flag => false
  | .ref _ => false
  | .num lo hi => decide (hi - lo > 7)
def Kd.disc : Kd → Bool
  | .flag => true
  | .ref _ => true
  | .num lo hi => decide (hi - lo ≤ 7)
def st0 (lo hi : Int) : Int := if hi < 0 then hi else if lo > 0 then lo else 0
def Kd.start : Kd → PyData
  | .flag => .bool false
  | .ref _ => .none
  | .num lo hi => .int (st0 lo hi)
def numsD (lo hi : Int) : List PyData := (List.range (hi + 1 - lo).toNat).map fun (i : Nat) => PyData.int (lo + (i : Int))
def Kd.values : Kd → PyData
  | .flag => .tuple [.bool false, .bool true]
  | .ref _ => .none
  | .num lo hi => if hi - lo ≤ 7 then .tuple (numsD lo hi) else .none
def Kd.due (k : Kd) : PyData := .tuple [.bool k.small, .bool k.large, .bool k.disc, k.values, k.start]
def KdAt (K : PySem.W.Frag) (H : Hp) (v : V) (k : Kd) : Prop := ∃ p, v = .ref p ∧ SqT K H p k.vals
theorem Kd.dok (k : Kd) (h : k.ok) : Dok 3 k.due := by
  refine ⟨by show 5 ≤ 100000; decide, fun d hd => ?_⟩
  have hv : Dok 2 k.values := by
    cases k with
    | flag =>
      refine ⟨by show 2 ≤ 100000; decide, fun d hd => ?_⟩
      simp at hd
      rcases hd with rfl | rfl <;> trivial
    | ref s => trivial
    | num lo hi =>
      show Dok 2 (if hi - lo ≤ 7 then .tuple (numsD lo hi) else .none)
      split
      · refine ⟨?_, fun d hd => ?_⟩
        · unfold numsD
          rw [List.length_map, List.length_range]
          omega
        · unfold numsD at hd
          obtain ⟨i, _, rfl⟩ := List.mem_map.mp hd
          trivial
      · trivial
  have hs : Dok 2 k.start := by cases k <;> trivial
  simp at hd
  rcases hd with rfl | rfl | rfl | rfl | rfl <;> first | trivial | assumption
/-! ### the program's promises -/
def spSmall (K : PySem.W.Frag) : Sp := fun vs H Q _ => ∃ (v : V) (k : Kd), vs = [v] ∧ KdAt K H v k ∧ Q (.bl k.small) H
def spLarge (K : PySem.W.Frag) : Sp := fun vs H Q _ => ∃ (v : V) (k : Kd), vs = [v] ∧ KdAt K H v k ∧ Q (.bl k.large) H
def spDisc (K : PySem.W.Frag) : Sp := fun vs H Q _ => ∃ (v : V) (k : Kd), vs = [v] ∧ KdAt K H v k ∧ Q (.bl k.disc) H
def spStart (K : PySem.W.Frag) : Sp := fun vs H Q _ => ∃ (v : V) (k : Kd), vs = [v] ∧ KdAt K H v k ∧ k.ok ∧ ∀ x, (∀ H', Dp K H' x k.start) → Q x H
def spValues (K : PySem.W.Frag) : Sp := fun vs H Q _ => ∃ (v : V) (k : Kd), vs = [v] ∧ KdAt K H v k ∧ k.ok ∧ k.small = true ∧ ∀ x H', Same H H' → Dp K H' x k.values → Q x H'
section
variable {P : Program} {w : World} {K : PySem.W.Frag} {mg : Str → Option Value} {base : Heap}
theorem ok_is_small (T : Txt K mg) : FnOk P w K mg base CX0 1 T.a_is_small T.d_is_small p_is_small (spSmall K) := by
  obtain ⟨t, c_WIDEST_SMALL_h⟩ := T.c_WIDEST_SMALL
  refine T.F_is_small.ok sc_is_small (fun vs H Q E h => ?_) (fun cdv A outer s H vs Q E hr h => ?_)
  · obtain ⟨v, k, rfl, _⟩ := h
    rfl
  obtain ⟨v, k, rfl, ⟨p, rfl, hp⟩, q⟩ := h
  refine ⟨_, (pss_one (ps_ret (pe_or (pe_cmpR op_eq (pe_ix ix_tup (pv 0) pe_int (fun _ _ => rfl)) pe_str (nomark _)) (pe_one (pe_and (pe_cmpR op_eq (pe_ix ix_tup (pv 0) pe_int (fun _ _ => rfl)) pe_str (nomark _)) (pe_one (pe_cmpR op_le (pe_op op_sub (pe_ix ix_tup (pv 0) pe_int (fun _ _ => rfl)) (pe_ix ix_tup (pv 0) pe_int (fun _ _ => rfl))) (pe_glob (v := .int 7) rfl c_WIDEST_SMALL_h ⟨_, rfl⟩) (nomark _)))))))), ?_⟩
  cases k with
  | flag => exact ⟨_, rfl, p, _, 0, _, rfl, rfl, hp, rfl, rfl, _, rfl, ifT (by decide +kernel) q⟩
  | ref s => exact ⟨_, rfl, p, _, 0, _, rfl, rfl, hp, rfl, rfl, _, rfl, ifF (by decide +kernel) ⟨_, rfl, p, _, 0, _, rfl, rfl, hp, rfl, rfl, _, rfl, ifF (by decide +kernel) q⟩⟩
  | num lo hi => exact ⟨_, rfl, p, _, 0, _, rfl, rfl, hp, rfl, rfl, _, rfl, ifF (by decide +kernel) ⟨_, rfl, p, _, 0, _, rfl, rfl, hp, rfl, rfl, _, rfl, ifT (by decide +kernel) ⟨_, rfl, p, _, 2, _, rfl, rfl, hp, rfl, _, rfl, p, _, 1, _, rfl, rfl, hp, rfl, _, _, rfl, rfl, _, _, rfl, rfl, q⟩⟩⟩
theorem ok_is_large (T : Txt K mg) : FnOk P w K mg base CX0 1 T.a_is_large T.d_is_large p_is_large (spLarge K) := by
  obtain ⟨t, c_WIDEST_SMALL_h⟩ := T.c_WIDEST_SMALL
  refine T.F_is_large.ok sc_is_large (fun vs H Q E h => ?_) (fun cdv A outer s H vs Q E hr h => ?_)
  · obtain ⟨v, k, rfl, _⟩ := h
    rfl
  obtain ⟨v, k, rfl, ⟨p, rfl, hp⟩, q⟩ := h
  refine ⟨_, (pss_one (ps_ret (pe_and (pe_cmpR op_eq (pe_ix ix_tup (pv 0) pe_int (fun _ _ => rfl)) pe_str (nomark _)) (pe_one (pe_cmpR op_gt (pe_op op_sub (pe_ix ix_tup (pv 0) pe_int (fun _ _ => rfl)) (pe_ix ix_tup (pv 0) pe_int (fun _ _ => rfl))) (pe_glob (v := .int 7) rfl c_WIDEST_SMALL_h ⟨_, rfl⟩) (nomark _)))))), ?_⟩
  cases k with
  | flag => exact ⟨_, rfl, p, _, 0, _, rfl, rfl, hp, rfl, rfl, _, rfl, ifF (by decide +kernel) q⟩
  | ref s => exact ⟨_, rfl, p, _, 0, _, rfl, rfl, hp, rfl, rfl, _, rfl, ifF (by decide +kernel) q⟩
  | num lo hi => exact ⟨_, rfl, p, _, 0, _, rfl, rfl, hp, rfl, rfl, _, rfl, ifT (by decide +kernel) ⟨_, rfl, p, _, 2, _, rfl, rfl, hp, rfl, _, rfl, p, _, 1, _, rfl, rfl, hp, rfl, _, _, rfl, rfl, _, _, rfl, rfl, q⟩⟩
theorem ok_is_discrete (T : Txt K mg) : FnOk P w K mg base CX0 2 T.a_is_discrete T.d_is_discrete p_is_discrete (spDisc K) := by
  have g_is_small := ok_is_small (P := P) (w := w) (base := base) T
  refine T.F_is_discrete.ok sc_is_discrete (fun vs H Q E h => ?_) (fun cdv A outer s H vs Q E hr h => ?_)
  · obtain ⟨v, k, rfl, _⟩ := h
    rfl
  obtain ⟨v, k, rfl, ⟨p, rfl, hp⟩, q⟩ := h
  refine ⟨_, (pss_one (ps_ret (pe_or (pe_cmpR op_eq (pe_ix ix_tup (pv 0) pe_int (fun _ _ => rfl)) pe_str (nomark _)) (pe_one (pe_call g_is_small (hr.mono (by first | decide | omega)) rfl T.m_is_small T.F_is_small.kp T.b_is_small .nil pass0 (pa_cons (pv 0) pa_nil)))))), ?_⟩
  cases k with
  | flag => exact ⟨_, rfl, p, _, 0, _, rfl, rfl, hp, rfl, rfl, _, rfl, ifF (by decide +kernel) ⟨_, rfl, _, .flag, rfl, ⟨p, rfl, hp⟩, q⟩⟩
  | ref s => exact ⟨_, rfl, p, _, 0, _, rfl, rfl, hp, rfl, rfl, _, rfl, ifT (by decide +kernel) q⟩
  | num lo hi => exact ⟨_, rfl, p, _, 0, _, rfl, rfl, hp, rfl, rfl, _, rfl, ifF (by decide +kernel) ⟨_, rfl, _, .num lo hi, rfl, ⟨p, rfl, hp⟩, q⟩⟩
theorem dp_nums {H : Hp} : ∀ (l : List Nat) (lo : Int), DpAll K H (l.map fun (i : Nat) => V.int (lo + (i : Int))) (l.map fun (i : Nat) => PyData.int (lo + (i : Int)))
  | [], _ => .nil
  | _ :: r, lo => .cons (.int _) (dp_nums r lo)
theorem ok_kind_values (T : Txt K mg) : FnOk P w K mg base CX0 1 T.a_kind_values T.d_kind_values p_kind_values (spValues K) := by
  refine T.F_kind_values.ok sc_kind_values (fun vs H Q E h => ?_) (fun cdv A outer s H vs Q E hr h => ?_)
  · obtain ⟨v, k, rfl, _⟩ := h
    rfl
  obtain ⟨v, k, rfl, ⟨p, rfl, hp⟩, ok, sm, q⟩ := h
  refine ⟨_, (pss_cons (ps_if (pt_cmpR op_eq (pe_ix ix_tup (pv 0) pe_int (fun _ _ => rfl)) pe_str (nomark _)) (pss_one (ps_ret (pe_tup (pa_cons pe_bl (pa_cons pe_bl pa_nil))))) pss_nil)
      (pss_one (ps_ret (pe_tupRg rfl rfl T.z_tuple (prg_2 rfl T.z_range (pe_ix ix_tup (pv 0) pe_int (fun _ _ => rfl)) (pe_op op_add (pe_ix ix_tup (pv 0) pe_int (fun _ _ => rfl)) pe_int)))))), ?_⟩
  cases k with
  | flag =>
    refine ⟨_, rfl, p, _, 0, _, rfl, rfl, hp, rfl, rfl, _, rfl, ifT (by decide +kernel) ?_⟩
    refine ⟨by show 2 ≤ sizeLine; decide, fun t ht => ?_⟩
    exact q _ _ (Same.new ht _) (.tup (SqT.of upd_same) (.cons (.bl _) (.cons (.bl _) .nil)))
  | ref s => cases sm
  | num lo hi =>
    obtain ⟨o1, o2, o3⟩ := ok
    have sm' : hi - lo ≤ 7 := of_decide_eq_true sm
    refine ⟨_, rfl, p, _, 0, _, rfl, rfl, hp, rfl, rfl, _, rfl, ifF (by decide +kernel) ?_⟩
    refine ⟨_, rfl, p, _, 1, _, rfl, rfl, hp, rfl, _, rfl, p, _, 2, _, rfl, rfl, hp, rfl, hi, 1, rfl, rfl, lo, hi + 1, rfl, rfl, ⟨by omega, by omega, by omega, by omega, by omega⟩, fun t ht => ?_⟩
    refine q _ _ (Same.new ht _) ?_
    have e : Kd.values (.num lo hi) = .tuple (numsD lo hi) := if_pos sm'
    rw [e]
    exact .tup (SqT.of upd_same) (dp_nums _ lo)
theorem ok_start_value (T : Txt K mg) : FnOk P w K mg base CX0 1 T.a_start_value T.d_start_value p_start_value (spStart K) := by
  refine T.F_start_value.ok sc_start_value (fun vs H Q E h => ?_) (fun cdv A outer s H vs Q E hr h => ?_)
  · obtain ⟨v, k, rfl, _⟩ := h
    rfl
  obtain ⟨v, k, rfl, ⟨p, rfl, hp⟩, ok, q⟩ := h
  refine ⟨_, (pss_cons (ps_if (pt_cmpR op_eq (pe_ix ix_tup (pv 0) pe_int (fun _ _ => rfl)) pe_str (nomark _)) (pss_one (ps_ret pe_bl)) pss_nil)
      (pss_cons (ps_if (pt_cmpR op_eq (pe_ix ix_tup (pv 0) pe_int (fun _ _ => rfl)) pe_str (nomark _)) (pss_one (ps_ret pe_non)) pss_nil)
      (pss_one (ps_ret (pe_callB (call_max2 rfl) rfl T.z_max bb_max (pa_cons (pe_ix ix_tup (pv 0) pe_int (fun _ _ => rfl)) (pa_cons (pe_callB (call_min2 rfl) rfl T.z_min bb_min (pa_cons (pe_ix ix_tup (pv 0) pe_int (fun _ _ => rfl)) (pa_cons pe_int pa_nil))) pa_nil))))))), ?_⟩
  cases k with
  | flag => exact ⟨_, rfl, p, _, 0, _, rfl, rfl, hp, rfl, rfl, _, rfl, ifT (by decide +kernel) (q _ fun H' => .bl _)⟩
  | ref s => exact ⟨_, rfl, p, _, 0, _, rfl, rfl, hp, rfl, rfl, _, rfl, ifF (by decide +kernel) ⟨_, rfl, p, _, 0, _, rfl, rfl, hp, rfl, rfl, _, rfl, ifT (by decide +kernel) (q _ fun H' => .non)⟩⟩
  | num lo hi =>
    obtain ⟨o1, o2, o3⟩ := ok
    refine ⟨_, rfl, p, _, 0, _, rfl, rfl, hp, rfl, rfl, _, rfl, ifF (by decide +kernel) ⟨_, rfl, p, _, 0, _, rfl, rfl, hp, rfl, rfl, _, rfl, ifF (by decide +kernel) ?_⟩⟩
    refine ⟨_, rfl, p, _, 1, _, rfl, rfl, hp, rfl, _, rfl, p, _, 2, _, rfl, rfl, hp, rfl, hi, 0, rfl, lo, _, rfl, q _ fun H' => ?_⟩
    have e : (if (if (0 : Int) < hi then (0 : Int) else hi) > lo then (if (0 : Int) < hi then (0 : Int) else hi) else lo) = st0 lo hi := by
      unfold st0
      repeat' split
      all_goals omega
    rw [e]
    exact .int _
end
/-! ### the law's promises -/
def spNumber : Sp := fun vs H Q _ => ∃ (a : Addr) (n : Int), vs = [.ref a, .int n] ∧ Src H a ∧ 0 < n ∧ ∀ (r : Int) (H' : Hp), Stp a H H' → 0 ≤ r → r < n → Q (.int r) H'
def spWord : Sp := fun vs H Q _ => ∃ (a : Addr), vs = [.ref a] ∧ Src H a ∧ ∀ (z : Str) (H' : Hp), Stp a H H' → Q (.str z) H'
def spKind (K : PySem.W.Frag) : Sp := fun vs H Q _ => ∃ (a : Addr), vs = [.ref a] ∧ Src H a ∧ ∀ (v : V) (k : Kd) (H' : Hp), Stp a H H' → k.ok → KdAt K H' v k → Q v H'
def spDue (K : PySem.W.Frag) : Sp := fun vs H Q _ => ∃ (v : V) (k : Kd), vs = [v] ∧ KdAt K H v k ∧ k.ok ∧ ∀ p xs H', Same H H' → SqT K H' p xs → DpAll K H' xs [.bool k.small, .bool k.large, .bool k.disc, k.values, k.start] → xs[0]? = some (.bl k.small) → Q (.ref p) H'
def spTold (K : PySem.W.Frag) : Sp := fun vs H Q _ => ∃ (v : V) (k : Kd), vs = [v, .bl k.small] ∧ KdAt K H v k ∧ k.ok ∧ ∀ x H', Same H H' → Dp K H' x k.due → Q x H'
def spLaw (K : PySem.W.Frag) : Sp := fun vs H Q _ => ∃ (a : Addr) (ns : List Int), vs = [.ref a] ∧ SqL K H a (ns.map V.int) ∧ ns.length ≤ 63 ∧ ∀ H', Q (.bl true) H'
theorem Same.kd {K : PySem.W.Frag} {H H' : Hp} {v : V} {k : Kd} (s : Same H H') (h : KdAt K H v k) : KdAt K H' v k := by
  obtain ⟨p, e, h⟩ := h
  exact ⟨p, e, Same.tup s h⟩
section
variable {P : Program} {w : World} {K : PySem.W.Frag} {mg : Str → Option Value} {base : Heap}
mutual
theorem Same.dp {H H' : Hp} (s : Same H H') : ∀ {v : V} {d : PyData}, Dp K H v d → Dp K H' v d
  | _, _, .non => .non
  | _, _, .bl b => .bl b
  | _, _, .int i => .int i
  | _, _, .str x => .str x
  | _, _, .lst h r => .lst (s.seq h) (Same.dpAll s r)
  | _, _, .tup h r => .tup (Same.tup s h) (Same.dpAll s r)
theorem Same.dpAll {H H' : Hp} (s : Same H H') : ∀ {v : List V} {d : List PyData}, DpAll K H v d → DpAll K H' v d
  | _, _, .nil => .nil
  | _, _, .cons h r => .cons (Same.dp s h) (Same.dpAll s r)
end
theorem ok_l_number (T : Txt K mg) : FnOk P w K mg base CX0 2 T.a_l_number T.d_l_number p_l_number spNumber := by
  have g_l_pick := ok_l_pick (P := P) (w := w) (base := base) T
  refine T.F_l_number.ok sc_l_number (fun vs H Q E h => ?_) (fun cdv A outer s H vs Q E hr h => ?_)
  · obtain ⟨a, n, rfl, _⟩ := h
    rfl
  obtain ⟨a, n, rfl, hS, hn, q⟩ := h
  refine ⟨_, (pss_cons (ps_if (pt_cmpR op_lt (pv 1) pe_int (nomark _)) (pss_one (ps_ret (pe_call g_l_pick (hr.mono (by first | decide | omega)) rfl T.m_l_pick T.F_l_pick.kp T.b_l_pick .nil pass0 (pa_cons (pv 0) (pa_cons (pv 1) pa_nil))))) pss_nil)
      (pss_one (ps_ret (pe_op op_modN (pe_callTy call_int1 rfl T.z_int bt_int (pa_cons (pe_op op_add (pe_op op_mul (pe_call g_l_pick (hr.mono (by first | decide | omega)) rfl T.m_l_pick T.F_l_pick.kp T.b_l_pick .nil pass0 (pa_cons (pv 0) (pa_cons pe_int pa_nil))) pe_int) (pe_call g_l_pick (hr.mono (by first | decide | omega)) rfl T.m_l_pick T.F_l_pick.kp T.b_l_pick .nil pass0 (pa_cons (pv 0) (pa_cons pe_int pa_nil)))) pa_nil)) (pv 1))))), ?_⟩
  refine ⟨_, rfl, _, _, rfl, rfl, _, rfl, ?_⟩
  refine ite2 (fun c => ?_) (fun c => ?_)
  · have c' : n < 50000 := of_decide_eq_true c
    exact ⟨_, rfl, _, rfl, a, n, rfl, hS, by omega, fun r H' st r0 r1 => q r H' st r0 (by omega)⟩
  · refine ⟨_, rfl, a, 50000, rfl, hS, by decide, fun r H1 st r0 r1 => ?_⟩
    refine ⟨_, _, rfl, rfl, .inl ⟨by omega, by omega⟩, ?_⟩
    refine ⟨_, rfl, a, 50000, rfl, st.s, by decide, fun r2 H2 st2 r20 r21 => ?_⟩
    refine ⟨_, _, rfl, rfl, .inl ⟨_, rfl, ?_⟩⟩
    refine ⟨_, rfl, _, _, rfl, rfl, (by omega), ?_⟩
    exact q _ _ (st.trans st2) (fmod_bd hn).1 (fmod_bd hn).2
theorem ok_l_word (T : Txt K mg) : FnOk P w K mg base CX0 3 T.a_l_word T.d_l_word p_l_word spWord := by
  have g_l_pick := ok_l_pick (P := P) (w := w) (base := base) T
  have g_l_one := ok_l_one (P := P) (w := w) (base := base) T
  refine T.F_l_word.ok sc_l_word (fun vs H Q E h => ?_) (fun cdv A outer s H vs Q E hr h => ?_)
  · obtain ⟨a, rfl, _⟩ := h
    rfl
  obtain ⟨a, rfl, hS, q⟩ := h
  refine ⟨_, (pss_cons (ps_set (i := 1) sc_l_word.nd rfl (Or.inl rfl) (pe_call g_l_one (hr.mono (by first | decide | omega)) rfl T.m_l_one T.F_l_one.kp T.b_l_one .nil pass0 (pa_cons (pv 0) (pa_cons pe_str pa_nil))))
      (pss_cons (ps_for PassesOwn.never rfl (pi_range1 rfl T.z_range (pa_cons (pe_call g_l_pick (hr.mono (by first | decide | omega)) rfl T.m_l_pick T.F_l_pick.kp T.b_l_pick .nil pass0 (pa_cons (pv 0) (pa_cons pe_int pa_nil))) pa_nil)) (pg_name (i := 2) sc_l_word.nd rfl (Or.inl rfl))
        (pss_one (ps_set (i := 1) sc_l_word.nd rfl (Or.inl rfl) (pe_op op_add_str (pv 1) (pe_call g_l_one (hr.mono (by first | decide | omega)) rfl T.m_l_one T.F_l_one.kp T.b_l_one .nil pass0 (pa_cons (pv 0) (pa_cons pe_str pa_nil)))))))
      (pss_one (ps_ret (pv 1))))), ?_⟩
  refine ⟨_, rfl, a, _, rfl, hS, .inr ⟨_, rfl, by decide +kernel, by decide +kernel, fun c0 H1 _ st1 => ?_⟩⟩
  refine ⟨_, rfl, a, 12, rfl, st1.s, by decide, fun n H2 st2 n0 n1 => ?_⟩
  refine ⟨n, rfl, by omega, by omega, for_range (lo := 0) (fun i σ H' => Stp a H H' ∧ ∃ (z : Str) (v : Option V), z.length ≤ i + 1 ∧ σ = [some (.ref a), some (.str z), v]) ⟨st1.trans st2, ⟨#[c0]⟩, none, Nat.le_refl _, rfl⟩ ?_ ?_⟩
  · rintro i σ H' hi ⟨st, z, v, hz, rfl⟩
    have hi' : i < 12 := by omega
    refine ⟨_, rfl, _, rfl, a, _, rfl, st.s, .inr ⟨_, rfl, by decide +kernel, by decide +kernel, fun c1 H3 _ st3 => ?_⟩⟩
    refine ⟨_, _, rfl, rfl, Nat.le_of_lt (small1000 (by show z.length + 1 ≤ 1000; omega)), ?_⟩
    refine ⟨st.trans st3, _, _, ?_, rfl⟩
    show (z.cps ++ #[c1]).size ≤ i + 1 + 1
    rw [Array.size_append]
    exact Nat.succ_le_succ hz
  · rintro σ H' ⟨st, z, v, _, rfl⟩
    exact ⟨_, rfl, q z H' st⟩
theorem mem14 {v : V} (h : v ∈ [V.int 0, .int 1, .int 2, .int 3, .int 5, .int 6, .int 7, .int 7, .int 7, .int 8, .int 8, .int 8, .int 9, .int 12]) : ∃ z : Int, v = .int z ∧ 0 ≤ z ∧ z ≤ 12 := by
  simp at h
  rcases h with rfl | rfl | rfl | rfl | rfl | rfl | rfl | rfl | rfl | rfl <;> exact ⟨_, rfl, by decide, by decide⟩
theorem ok_l_kind (T : Txt K mg) : FnOk P w K mg base CX0 4 T.a_l_kind T.d_l_kind p_l_kind (spKind K) := by
  have g_l_pick := ok_l_pick (P := P) (w := w) (base := base) T
  have g_l_one := ok_l_one (P := P) (w := w) (K := K) (base := base) T
  have g_l_word := ok_l_word (P := P) (w := w) (base := base) T
  have g_l_number := ok_l_number (P := P) (w := w) (base := base) T
  refine T.F_l_kind.ok sc_l_kind (fun vs H Q E h => ?_) (fun cdv A outer s H vs Q E hr h => ?_)
  · obtain ⟨a, rfl, _⟩ := h
    rfl
  obtain ⟨a, rfl, hS, q⟩ := h
  refine ⟨_, (pss_cons (ps_set (i := 1) sc_l_kind.nd rfl (Or.inl rfl) (pe_call g_l_pick (hr.mono (by first | decide | omega)) rfl T.m_l_pick T.F_l_pick.kp T.b_l_pick .nil pass0 (pa_cons (pv 0) (pa_cons pe_int pa_nil))))
      (pss_cons (ps_if (pt_cmpR op_eq (pv 1) pe_int (nomark _)) (pss_one (ps_ret (pe_tup (pa_cons pe_str pa_nil)))) pss_nil)
      (pss_cons (ps_if (pt_cmpR op_eq (pv 1) pe_int (nomark _)) (pss_one (ps_ret (pe_tup (pa_cons pe_str (pa_cons (pe_call g_l_word (hr.mono (by first | decide | omega)) rfl T.m_l_word T.F_l_word.kp T.b_l_word .nil pass0 (pa_cons (pv 0) pa_nil)) pa_nil))))) pss_nil)
      (pss_cons (ps_set (i := 2) sc_l_kind.nd rfl (Or.inl rfl) (pe_call g_l_one (hr.mono (by first | decide | omega)) rfl T.m_l_one T.F_l_one.kp T.b_l_one .nil pass0 (pa_cons (pv 0) (pa_cons (pe_lst (pa_cons pe_int (pa_cons pe_int (pa_cons pe_int (pa_cons pe_int (pa_cons pe_int (pa_cons pe_int (pa_cons pe_int (pa_cons pe_int (pa_cons pe_int (pa_cons pe_int (pa_cons pe_int (pa_cons pe_int (pa_cons pe_int (pa_cons pe_int pa_nil))))))))))))))) pa_nil))))
      (C8.pss_cut (ps_if (pt_cmpR op_eq (pv 1) pe_int (nomark _)) (pss_one (ps_set (i := 2) sc_l_kind.nd rfl (Or.inl rfl) (pe_call g_l_number (hr.mono (by first | decide | omega)) rfl T.m_l_number T.F_l_number.kp T.b_l_number .nil pass0 (pa_cons (pv 0) (pa_cons (pe_op op_add (pe_op op_mul pe_int (pe_op op_pow pe_int pe_int)) pe_int) pa_nil))))) pss_nil)
      (pss_cons (ps_set (i := 3) sc_l_kind.nd rfl (Or.inl rfl) (pe_op op_sub (pe_op op_sub (pe_call g_l_number (hr.mono (by first | decide | omega)) rfl T.m_l_number T.F_l_number.kp T.b_l_number .nil pass0 (pa_cons (pv 0) (pa_cons (pe_op op_add (pv 2) pe_int) pa_nil))) (pv 2)) pe_int))
      (C8.pss_cut (ps_if (pt_cmpR op_gt (pv 1) pe_int (nomark _)) (pss_one (ps_set (i := 3) sc_l_kind.nd rfl (Or.inl rfl) (pe_op op_sub (pe_call g_l_number (hr.mono (by first | decide | omega)) rfl T.m_l_number T.F_l_number.kp T.b_l_number .nil pass0 (pa_cons (pv 0) (pa_cons (pe_op op_add (pe_op op_mul pe_int (pe_op op_pow pe_int pe_int)) pe_int) pa_nil))) (pe_op op_pow pe_int pe_int)))) pss_nil)
      (pss_cons (ps_set (i := 3) sc_l_kind.nd rfl (Or.inl rfl) (pe_callB (call_max2 rfl) rfl T.z_max bb_max (pa_cons (pe_op op_sub pe_int (pe_op op_pow pe_int pe_int)) (pa_cons (pe_callB (call_min2 rfl) rfl T.z_min bb_min (pa_cons (pv 3) (pa_cons (pe_op op_sub (pe_op op_pow pe_int pe_int) (pv 2)) pa_nil))) pa_nil))))
      (pss_one (ps_ret (pe_tup (pa_cons pe_str (pa_cons (pv 3) (pa_cons (pe_op op_add (pv 3) (pv 2)) pa_nil)))))))))))))), ?_⟩
  refine ⟨_, rfl, a, 8, rfl, hS, by decide, fun c H1 st1 c0 c1 => ?_⟩
  refine ⟨_, rfl, rfl, _, rfl, ?_⟩
  refine ite2 (fun _ => ?_) (fun _ => ?_)
  · refine ⟨by show 1 ≤ sizeLine; decide, fun p hp => ?_⟩
    exact q _ .flag _ (st1.new hp) trivial ⟨p, rfl, SqT.of upd_same⟩
  refine ⟨_, rfl, rfl, _, rfl, ?_⟩
  refine ite2 (fun _ => ?_) (fun _ => ?_)
  · refine ⟨_, rfl, a, rfl, st1.s, fun z H2 st2 => ⟨by show 2 ≤ sizeLine; decide, fun p hp => ?_⟩⟩
    exact q _ (.ref z) _ ((st1.trans st2).new hp) trivial ⟨p, rfl, SqT.of upd_same⟩
  refine ⟨_, rfl, by show 14 ≤ sizeLine; decide, fun l hl => ?_⟩
  have st2 := st1.new (o := .lst [V.int 0, .int 1, .int 2, .int 3, .int 5, .int 6, .int 7, .int 7, .int 7, .int 8, .int 8, .int 8, .int 9, .int 12]) hl
  refine ⟨a, _, rfl, st2.s, .inl ⟨l, _, rfl, (st1.s.ne hl).symm, SqL.of upd_same, by decide, by decide, fun v H3 hv st3 => ?_⟩⟩
  obtain ⟨z, rfl, z0, z1⟩ := mem14 hv
  have st4 := st2.trans st3
  refine ⟨fun σ H4 => Stp a H H4 ∧ ∃ wd : Int, 0 ≤ wd ∧ wd ≤ 2000000000 ∧ σ = [some (.ref a), some (.int c), some (.int wd), none], ⟨_, rfl, rfl, _, rfl, ?_⟩, ?_⟩
  · refine ite2 (fun _ => ⟨_, rfl, 10, 9, rfl, rfl, ⟨by decide, by decide, by decide⟩, 2, _, rfl, rfl, .inl ⟨by decide, by decide⟩, _, _, rfl, rfl, a, _, rfl, st4.s, by decide, fun r H4 st5 r0 r1 => ⟨st4.trans st5, r, r0, ?_, rfl⟩⟩) (fun _ => ⟨st4, z, z0, by omega, rfl⟩)
    have e : (2 * 10 ^ (9 : Int).toNat + 1 : Int) = 2000000001 := by decide
    omega
  · rintro σ H4 ⟨st5, wd, w0, w1, rfl⟩
    refine ⟨_, rfl, _, rfl, _, _, rfl, rfl, a, _, rfl, st5.s, by omega, fun r H5 st6 r0 r1 => ⟨_, rfl, _, _, rfl, rfl, _, _, rfl, rfl, ?_⟩⟩
    have st7 := st5.trans st6
    refine ⟨fun σ H6 => Stp a H H6 ∧ ∃ lw : Int, σ = [some (.ref a), some (.int c), some (.int wd), some (.int lw)], ⟨_, rfl, _, _, rfl, rfl, _, rfl, ?_⟩, ?_⟩
    · refine ite2 (fun _ => ⟨_, rfl, 10, 9, rfl, rfl, ⟨by decide, by decide, by decide⟩, 2, _, rfl, rfl, .inl ⟨by decide, by decide⟩, _, _, rfl, rfl, a, _, rfl, st7.s, by decide, fun r H6 st8 r0 r1 => ⟨_, _, rfl, rfl, ⟨by decide, by decide, by decide⟩, _, _, rfl, rfl, st7.trans st8, _, rfl⟩⟩) (fun _ => ⟨st7, _, rfl⟩)
    · rintro σ H6 ⟨st8, lw, rfl⟩
      refine ⟨10, 9, rfl, rfl, ⟨by decide, by decide, by decide⟩, _, _, rfl, rfl, _, rfl, 10, 9, rfl, rfl, ⟨by decide, by decide, by decide⟩, _, rfl, _, _, rfl, rfl, _, _, rfl, _, _, rfl, ?_⟩
      refine ⟨_, rfl, _, rfl, _, rfl, _, _, rfl, rfl, by show 3 ≤ sizeLine; decide, fun p hp => ?_⟩
      refine q _ (.num _ _) _ (st8.new hp) ?_ ⟨p, rfl, SqT.of upd_same⟩
      have e : (10 ^ (9 : Int).toNat : Int) = 1000000000 := by decide
      refine ⟨?_, ?_, ?_⟩
      all_goals
        rw [e]
        repeat' split
        all_goals omega
theorem ok_l_due (T : Txt K mg) : FnOk P w K mg base CX0 1 T.a_l_due T.d_l_due p_l_due (spDue K) := by
  refine T.F_l_due.ok sc_l_due (fun vs H Q E h => ?_) (fun cdv A outer s H vs Q E hr h => ?_)
  · obtain ⟨v, k, rfl, _⟩ := h
    rfl
  obtain ⟨v, k, rfl, ⟨p, rfl, hp⟩, ok, q⟩ := h
  refine ⟨_, (pss_cons (ps_if (pt_cmpR op_eq (pe_ix ix_tup (pv 0) pe_int (fun _ _ => rfl)) pe_str (nomark _)) (pss_one (ps_ret (pe_tup (pa_cons pe_bl (pa_cons pe_bl (pa_cons pe_bl (pa_cons (pe_tup (pa_cons pe_bl (pa_cons pe_bl pa_nil))) (pa_cons pe_bl pa_nil)))))))) pss_nil)
      (pss_cons (ps_if (pt_cmpR op_eq (pe_ix ix_tup (pv 0) pe_int (fun _ _ => rfl)) pe_str (nomark _)) (pss_one (ps_ret (pe_tup (pa_cons pe_bl (pa_cons pe_bl (pa_cons pe_bl (pa_cons pe_non (pa_cons pe_non pa_nil)))))))) pss_nil)
      (pss_cons (ps_set (i := 1) sc_l_due.nd rfl (Or.inl rfl) pe_int)
      (C8.pss_cut (ps_if (pt_cmpR op_gt (pe_ix ix_tup (pv 0) pe_int (fun _ _ => rfl)) pe_int (nomark _)) (pss_one (ps_set (i := 1) sc_l_due.nd rfl (Or.inl rfl) (pe_ix ix_tup (pv 0) pe_int (fun _ _ => rfl)))) pss_nil)
      (C8.pss_cut (ps_if (pt_cmpR op_lt (pe_ix ix_tup (pv 0) pe_int (fun _ _ => rfl)) pe_int (nomark _)) (pss_one (ps_set (i := 1) sc_l_due.nd rfl (Or.inl rfl) (pe_ix ix_tup (pv 0) pe_int (fun _ _ => rfl)))) pss_nil)
      (pss_cons (ps_if (pt_cmpR op_gt (pe_op op_sub (pe_ix ix_tup (pv 0) pe_int (fun _ _ => rfl)) (pe_ix ix_tup (pv 0) pe_int (fun _ _ => rfl))) pe_int (nomark _)) (pss_one (ps_ret (pe_tup (pa_cons pe_bl (pa_cons pe_bl (pa_cons pe_bl (pa_cons pe_non (pa_cons (pv 1) pa_nil)))))))) pss_nil)
      (pss_cons (ps_set (i := 2) sc_l_due.nd rfl (Or.inl rfl) (pe_tup pa_nil))
      (pss_cons (ps_for PassesOwn.never rfl (pi_range1 rfl T.z_range (pa_cons pe_int pa_nil)) (pg_name (i := 3) sc_l_due.nd rfl (Or.inl rfl))
        (pss_one (ps_if (pt_cmpR op_le (pe_op op_add (pe_ix ix_tup (pv 0) pe_int (fun _ _ => rfl)) (pv 3)) (pe_ix ix_tup (pv 0) pe_int (fun _ _ => rfl)) (nomark _)) (pss_one (ps_set (i := 2) sc_l_due.nd rfl (Or.inl rfl) (pe_op op_catA (pv 2) (pe_tup (pa_cons (pe_op op_add (pe_ix ix_tup (pv 0) pe_int (fun _ _ => rfl)) (pv 3)) pa_nil))))) pss_nil)))
      (pss_one (ps_ret (pe_tup (pa_cons pe_bl (pa_cons pe_bl (pa_cons pe_bl (pa_cons (pv 2) (pa_cons (pv 1) pa_nil)))))))))))))))), ?_⟩
  cases k with
  | flag =>
    refine ⟨_, rfl, p, _, 0, _, rfl, rfl, hp, rfl, rfl, _, rfl, ifT (by decide +kernel) ?_⟩
    refine ⟨by show 2 ≤ sizeLine; decide, fun t ht => ⟨by show 5 ≤ sizeLine; decide, fun r hr => ?_⟩⟩
    refine q r _ _ ((Same.new ht _).trans (Same.new hr _)) (SqT.of upd_same) ?_ rfl
    exact .cons (.bl _) (.cons (.bl _) (.cons (.bl _) (.cons (.tup (SqT.of (Same.new hr _ _ _ upd_same)) (.cons (.bl _) (.cons (.bl _) .nil))) (.cons (.bl _) .nil))))
  | ref z =>
    refine ⟨_, rfl, p, _, 0, _, rfl, rfl, hp, rfl, rfl, _, rfl, ifF (by decide +kernel) ⟨_, rfl, p, _, 0, _, rfl, rfl, hp, rfl, rfl, _, rfl, ifT (by decide +kernel) ?_⟩⟩
    refine ⟨by show 5 ≤ sizeLine; decide, fun r hr => ?_⟩
    refine q r _ _ (Same.new hr _) (SqT.of upd_same) ?_ rfl
    exact .cons (.bl _) (.cons (.bl _) (.cons (.bl _) (.cons .non (.cons .non .nil))))
  | num lo hi =>
    obtain ⟨o1, o2, o3⟩ := ok
    refine ⟨_, rfl, p, _, 0, _, rfl, rfl, hp, rfl, rfl, _, rfl, ifF (by decide +kernel) ⟨_, rfl, p, _, 0, _, rfl, rfl, hp, rfl, rfl, _, rfl, ifF (by decide +kernel) ?_⟩⟩
    refine ⟨fun σ H1 => H1 = H ∧ σ = [some (.ref p), some (.int (if lo > 0 then lo else 0)), none, none], ⟨_, rfl, p, _, 1, _, rfl, rfl, hp, rfl, _, _, rfl, rfl, _, rfl, ?_⟩, ?_⟩
    · refine ite2 (fun c => ⟨_, rfl, p, _, 1, _, rfl, rfl, hp, rfl, rfl, ?_⟩) (fun c => ⟨rfl, ?_⟩)
      · rw [if_pos (of_decide_eq_true c)] <;> rfl
      · rw [if_neg (of_decide_eq_false (Bool.eq_false_iff.mpr c))] <;> rfl
    rintro σ H1 ⟨rfl, rfl⟩
    refine ⟨fun σ H2 => H2 = H1 ∧ σ = [some (.ref p), some (.int (st0 lo hi)), none, none], ⟨_, rfl, p, _, 2, _, rfl, rfl, hp, rfl, _, _, rfl, rfl, _, rfl, ?_⟩, ?_⟩
    · refine ite2 (fun c => ⟨_, rfl, p, _, 2, _, rfl, rfl, hp, rfl, rfl, ?_⟩) (fun c => ⟨rfl, ?_⟩)
      · unfold st0
        rw [if_pos (of_decide_eq_true c)] <;> rfl
      · unfold st0
        rw [if_neg (of_decide_eq_false (Bool.eq_false_iff.mpr c))]
    rintro σ H2 ⟨rfl, rfl⟩
    refine ⟨_, rfl, p, _, 2, _, rfl, rfl, hp, rfl, _, rfl, p, _, 1, _, rfl, rfl, hp, rfl, _, _, rfl, rfl, _, _, rfl, rfl, _, rfl, ?_⟩
    refine ite2 (fun c => ?_) (fun c => ?_)
    · have c' : hi - lo > 7 := of_decide_eq_true c
      refine ⟨_, rfl, by show 5 ≤ sizeLine; decide, fun r hr => ?_⟩
      have e1 : Kd.small (.num lo hi) = false := decide_eq_false (by omega)
      have e2 : Kd.large (.num lo hi) = true := decide_eq_true (by omega)
      have e3 : Kd.disc (.num lo hi) = false := decide_eq_false (by omega)
      have e4 : Kd.values (.num lo hi) = .none := if_neg (by omega)
      refine q r _ _ (Same.new hr _) (SqT.of upd_same) ?_ ?_
      · rw [e1, e2, e3, e4]
        exact .cons (.bl _) (.cons (.bl _) (.cons (.bl _) (.cons .non (.cons (.int _) .nil))))
      · rw [e1] <;> rfl
    · have c' : ¬ hi - lo > 7 := of_decide_eq_false (Bool.eq_false_iff.mpr c)
      have e1 : Kd.small (.num lo hi) = true := decide_eq_true (by omega)
      have e2 : Kd.large (.num lo hi) = false := decide_eq_false (by omega)
      have e3 : Kd.disc (.num lo hi) = true := decide_eq_true (by omega)
      have e4 : Kd.values (.num lo hi) = .tuple (numsD lo hi) := if_pos (by omega)
      refine ⟨by show 0 ≤ sizeLine; decide, fun t ht => ?_⟩
      refine ⟨8, rfl, by decide, by decide, for_range (lo := 0) (n := 8) (fun i σ H' => Same H2 H' ∧ ∃ (t : Addr) (v : Option V), σ = [some (.ref p), some (.int (st0 lo hi)), some (.ref t), v] ∧
        SqT K H' t ((List.range (min i (hi + 1 - lo).toNat)).map fun (j : Nat) => V.int (lo + (j : Int)))) ⟨Same.new ht _, t, none, rfl, by rw [Nat.zero_min]; exact SqT.of upd_same⟩ ?_ ?_⟩
      · rintro i σ H' hi8 ⟨sm, t, v, rfl, htt⟩
        have hp' := Same.tup sm hp
        refine ⟨_, rfl, p, _, 1, _, rfl, rfl, hp', rfl, _, rfl, _, _, rfl, rfl, _, rfl, p, _, 2, _, rfl, rfl, hp', rfl, _, _, rfl, rfl, _, rfl, ?_⟩
        refine ite2 (fun c => ?_) (fun c => ?_)
        · have c2 : lo + (0 + (i : Int)) ≤ hi := of_decide_eq_true c
          refine ⟨_, rfl, _, rfl, p, _, 1, _, rfl, rfl, hp', rfl, _, rfl, _, _, rfl, rfl, by show 1 ≤ sizeLine; decide, fun u hu => ?_⟩
          have m1 : min i (hi + 1 - lo).toNat = i := by omega
          have m2 : min (i + 1) (hi + 1 - lo).toNat = i + 1 := by omega
          rw [m1] at htt
          have s2 : Same H' (upd H' u (.tup [.int (lo + (0 + (i : Int)))])) := Same.new hu _
          have fin : (List.range (i + 1)).map (fun (j : Nat) => V.int (lo + (j : Int))) = (List.range i).map (fun (j : Nat) => V.int (lo + (j : Int))) ++ [V.int (lo + (0 + (i : Int)))] := by
            rw [List.range_succ, List.map_append, Int.zero_add] <;> rfl
          refine ⟨t, u, _, _, rfl, rfl, Same.tup s2 htt, SqT.of upd_same, ?_, fun e => ?_, fun _ e => (List.cons_ne_nil _ _ e).elim, fun _ _ x hx => ?_⟩
          · rw [List.length_map, List.length_range]
            exact Nat.le_of_lt (small1000 (by show i + 1 ≤ 1000; omega))
          · refine ⟨sm.trans s2, u, _, rfl, ?_⟩
            rw [m2, fin, e]
            exact SqT.of upd_same
          · refine ⟨(sm.trans s2).trans (Same.new hx _), x, _, rfl, ?_⟩
            rw [m2, fin]
            exact SqT.of upd_same
        · have c2 : ¬ lo + (0 + (i : Int)) ≤ hi := of_decide_eq_false (Bool.eq_false_iff.mpr c)
          refine ⟨sm, t, _, rfl, ?_⟩
          have m2 : min (i + 1) (hi + 1 - lo).toNat = min i (hi + 1 - lo).toNat := by omega
          rw [m2]
          exact htt
      · rintro σ H' ⟨sm, t, v, rfl, htt⟩
        have m2 : min 8 (hi + 1 - lo).toNat = (hi + 1 - lo).toNat := by omega
        rw [m2] at htt
        refine ⟨_, rfl, _, rfl, by show 5 ≤ sizeLine; decide, fun r hr => ?_⟩
        refine q r _ _ (sm.trans (Same.new hr _)) (SqT.of upd_same) ?_ ?_
        · rw [e1, e2, e3, e4]
          exact .cons (.bl _) (.cons (.bl _) (.cons (.bl _) (.cons (.tup (Same.tup (Same.new hr _) htt) (dp_nums _ lo)) (.cons (.int _) .nil))))
        · rw [e1] <;> rfl
theorem ok_l_told (T : Txt K mg) : FnOk P w K mg base CX0 3 T.a_l_told T.d_l_told p_l_told (spTold K) := by
  have g_is_small := ok_is_small (P := P) (w := w) (base := base) T
  have g_is_large := ok_is_large (P := P) (w := w) (base := base) T
  have g_is_discrete := ok_is_discrete (P := P) (w := w) (base := base) T
  have g_kind_values := ok_kind_values (P := P) (w := w) (base := base) T
  have g_start_value := ok_start_value (P := P) (w := w) (base := base) T
  refine T.F_l_told.ok sc_l_told (fun vs H Q E h => ?_) (fun cdv A outer s H vs Q E hr h => ?_)
  · obtain ⟨v, k, rfl, _⟩ := h
    rfl
  obtain ⟨v, k, rfl, hk, ok, q⟩ := h
  refine ⟨_, (pss_cons (ps_set (i := 2) sc_l_told.nd rfl (Or.inl rfl) pe_non)
      (C8.pss_cut (ps_if (pt_val (pv 1)) (pss_one (ps_set (i := 2) sc_l_told.nd rfl (Or.inl rfl) (pe_call g_kind_values (hr.mono (by first | decide | omega)) rfl T.m_kind_values T.F_kind_values.kp T.b_kind_values .nil pass0 (pa_cons (pv 0) pa_nil)))) pss_nil)
      (pss_one (ps_ret (pe_tup (pa_cons (pe_call g_is_small (hr.mono (by first | decide | omega)) rfl T.m_is_small T.F_is_small.kp T.b_is_small .nil pass0 (pa_cons (pv 0) pa_nil)) (pa_cons (pe_call g_is_large (hr.mono (by first | decide | omega)) rfl T.m_is_large T.F_is_large.kp T.b_is_large .nil pass0 (pa_cons (pv 0) pa_nil)) (pa_cons (pe_call g_is_discrete (hr.mono (by first | decide | omega)) rfl T.m_is_discrete T.F_is_discrete.kp T.b_is_discrete .nil pass0 (pa_cons (pv 0) pa_nil)) (pa_cons (pv 2) (pa_cons (pe_call g_start_value (hr.mono (by first | decide | omega)) rfl T.m_start_value T.F_start_value.kp T.b_start_value .nil pass0 (pa_cons (pv 0) pa_nil)) pa_nil)))))))))), ?_⟩
  refine ⟨fun σ H1 => Same H H1 ∧ ∃ x : V, σ = [some v, some (.bl k.small), some x] ∧ Dp K H1 x k.values, ⟨_, rfl, _, rfl, ?_⟩, ?_⟩
  · refine ite2 (fun c => ?_) (fun c => ?_)
    · exact ⟨_, rfl, v, k, rfl, hk, ok, c, fun x H1 sm hx => ⟨sm, x, rfl, hx⟩⟩
    · refine ⟨Same.refl H, .non, rfl, ?_⟩
      cases k with
      | flag => exact absurd rfl c
      | ref z => exact .non
      | num lo hi =>
        have c' : ¬ hi - lo ≤ 7 := fun z => c (decide_eq_true z)
        have e4 : Kd.values (.num lo hi) = .none := if_neg c'
        rw [e4]
        exact .non
  · rintro σ H1 ⟨sm, x, rfl, hx⟩
    have hk1 := Same.kd sm hk
    refine ⟨_, rfl, v, k, rfl, hk1, _, rfl, v, k, rfl, hk1, _, rfl, v, k, rfl, hk1, _, rfl, _, rfl, v, k, rfl, hk1, ok, fun y hy => ?_⟩
    refine ⟨by show 5 ≤ sizeLine; decide, fun r hr => ?_⟩
    have s2 := Same.new hr (.tup [.bl k.small, .bl k.large, .bl k.disc, x, y])
    exact q _ _ (sm.trans s2) (.tup (SqT.of upd_same) (.cons (.bl _) (.cons (.bl _) (.cons (.bl _) (.cons (Same.dp s2 hx) (.cons (hy _) .nil))))))
theorem ok_law (T : Txt K mg) : FnOk P w K mg base CX0 5 T.a_law T.d_law p_law (spLaw K) := by
  have g_l_cell := ok_l_cell (P := P) (w := w) (K := K) (base := base) T
  have g_l_source := ok_l_source (P := P) (w := w) (base := base) T
  have g_l_kind := ok_l_kind (P := P) (w := w) (K := K) (base := base) T
  have g_l_due := ok_l_due (P := P) (w := w) (K := K) (base := base) T
  have g_l_told := ok_l_told (P := P) (w := w) (K := K) (base := base) T
  have g_l_same := ok_l_same (P := P) (w := w) (K := K) (base := base) T 3
  refine T.F_law.ok sc_law (fun vs H Q E h => ?_) (fun cdv A outer s H vs Q E hr h => ?_)
  · obtain ⟨a, ns, rfl, _⟩ := h
    rfl
  obtain ⟨a, ns, rfl, hS, h63, q⟩ := h
  refine ⟨_, (pss_cons (ps_set (i := 1) sc_law.nd rfl (Or.inl rfl) (pe_lst pa_nil))
      (pss_cons (ps_for PassesOwn.never rfl (pi_range1 rfl T.z_range (pa_cons (pe_callB (call_max2 rfl) rfl T.z_max bb_max (pa_cons pe_int (pa_cons (pe_callB (call_min2 rfl) rfl T.z_min bb_min (pa_cons (pe_callB call_len_seq rfl T.z_len PySem.boot_len (pa_cons (pv 0) pa_nil)) (pa_cons pe_int pa_nil))) pa_nil))) pa_nil)) (pg_name (i := 2) sc_law.nd rfl (Or.inl rfl))
        (pss_cons (ps_set (i := 3) sc_law.nd rfl (Or.inl rfl) (pe_call g_l_source (hr.mono (by first | decide | omega)) rfl T.m_l_source T.F_l_source.kp T.b_l_source .nil pass0 (pa_cons (pe_call g_l_cell (hr.mono (by first | decide | omega)) rfl T.m_l_cell T.F_l_cell.kp T.b_l_cell .nil pass0 (pa_cons (pv 0) (pa_cons (pv 2) pa_nil))) pa_nil)))
      (pss_one (ps_set (i := 1) sc_law.nd rfl (Or.inl rfl) (pe_op op_cat (pv 1) (pe_lst (pa_cons (pe_call g_l_kind (hr.mono (by first | decide | omega)) rfl T.m_l_kind T.F_l_kind.kp T.b_l_kind .nil pass0 (pa_cons (pv 3) pa_nil)) (pa_cons (pe_call g_l_kind (hr.mono (by first | decide | omega)) rfl T.m_l_kind T.F_l_kind.kp T.b_l_kind .nil pass0 (pa_cons (pv 3) pa_nil)) pa_nil))))))))
      (pss_cons (ps_for PassesOwn.never rfl (pi_list (pe_op op_cat (pv 1) (pe_revL (pv 1)))) (pg_name (i := 4) sc_law.nd rfl (Or.inl rfl))
        (pss_cons (ps_set (i := 5) sc_law.nd rfl (Or.inl rfl) (pe_call g_l_due (hr.mono (by first | decide | omega)) rfl T.m_l_due T.F_l_due.kp T.b_l_due .nil pass0 (pa_cons (pv 4) pa_nil)))
      (pss_one (ps_if (pt_not (pt_val (pe_call g_l_same (hr.mono (by first | decide | omega)) rfl T.m_l_same T.F_l_same.kp T.b_l_same .nil pass0 (pa_cons (pe_call g_l_told (hr.mono (by first | decide | omega)) rfl T.m_l_told T.F_l_told.kp T.b_l_told .nil pass0 (pa_cons (pv 4) (pa_cons (pe_ix ix_tup (pv 5) pe_int (fun _ _ => rfl)) pa_nil))) (pa_cons (pv 5) pa_nil))))) (pss_one (ps_ret pe_bl)) pss_nil))))
      (pss_one (ps_ret pe_bl))))), ?_⟩
  have hl : (ns.map V.int).length = ns.length := List.length_map _
  refine ⟨by show 0 ≤ sizeLine; decide, fun l0 hl0 => ?_⟩
  refine ⟨_, rfl, a, _, rfl, .inl ((Same.new hl0 _).seq hS), _, _, rfl, _, _, rfl, _, rfl, ?_, ?_, for_range (lo := 0) (fun i σ H' => Same H H' ∧ ∃ (l : Addr) (xs : List V) (v1 v2 v3 v4 : Option V), σ = [some (.ref a), some (.ref l), v1, v2, v3, v4] ∧
    H' l = some (.lst xs) ∧ xs.length = 2 * i ∧ ∀ v ∈ xs, ∃ k : Kd, k.ok ∧ KdAt K H' v k) ⟨Same.new hl0 _, l0, [], none, none, none, none, rfl, upd_same, rfl, fun v hv => nomatch hv⟩ ?_ ?_⟩
  · repeat' split
    all_goals omega
  · rw [hl]
    repeat' split
    all_goals omega
  · rintro i σ H' hi ⟨sm, l, xs, v1, v2, v3, v4, rfl, hl', hx2, hx⟩
    have hi63 : i < 63 := by
      rw [hl] at hi
      revert hi
      repeat' split
      all_goals omega
    refine ⟨_, rfl, _, rfl, a, ns, _, rfl, sm.seq hS, by omega, fun ci => ?_⟩
    refine ⟨ci, rfl, fun b H1 hb sm1 s1 => ?_⟩
    refine ⟨_, rfl, _, rfl, b, rfl, s1, fun x1 k1 H2 st2 ok1 kd1 => ?_⟩
    refine ⟨_, rfl, b, rfl, st2.s, fun x2 k2 H3 st3 ok2 kd2 => ?_⟩
    have hn0 : H' b = none := hb
    have sm3 : Same H' H3 := Stp.fresh sm1 hn0 (st2.trans st3)
    refine ⟨by show 2 ≤ sizeLine; decide, fun d hd => ?_⟩
    have sm4 := Same.new hd (.lst [x1, x2])
    have hl3 := sm4 _ _ (sm3 _ _ hl')
    refine ⟨l, d, xs, [x1, x2], rfl, rfl, hl3, upd_same, Nat.le_of_lt (small1000 (by show xs.length + 2 ≤ 1000; omega)), fun e he => ?_⟩
    have sm5 := Same.new he (.lst (xs ++ [x1, x2]))
    have kd1' : KdAt K H3 x1 k1 := by
      obtain ⟨p, e, h⟩ := kd1
      exact ⟨p, e, st3.rd h st2.s⟩
    refine ⟨sm.trans (sm3.trans (sm4.trans sm5)), e, xs ++ [x1, x2], _, _, _, _, rfl, upd_same, ?_, fun v hv => ?_⟩
    · rw [List.length_append]
      show xs.length + 2 = 2 * (i + 1)
      omega
    · rcases List.mem_append.mp hv with hv | hv
      · obtain ⟨k, o, kd⟩ := hx v hv
        exact ⟨k, o, Same.kd (sm3.trans (sm4.trans sm5)) kd⟩
      · simp at hv
        rcases hv with rfl | rfl
        · exact ⟨k1, ok1, Same.kd (sm4.trans sm5) kd1'⟩
        · exact ⟨k2, ok2, Same.kd (sm4.trans sm5) kd2⟩
  · rintro σ H' ⟨sm, l, xs, v1, v2, v3, v4, rfl, hl', hx2, hx⟩
    have hx126 : xs.length ≤ 126 := by
      rw [hl] at hx2
      revert hx2
      repeat' split
      all_goals omega
    refine ⟨_, rfl, _, rfl, l, xs, rfl, SqL.of hl', fun r hr => ?_⟩
    have sm1 := Same.new hr (.lst xs.reverse)
    refine ⟨l, r, _, _, rfl, rfl, sm1 _ _ hl', upd_same, ?_, fun e he => ?_⟩
    · rw [List.length_reverse]
      exact Nat.le_of_lt (small1000 (by omega))
    have sm2 := Same.new he (.lst (xs ++ xs.reverse))
    have smE := sm1.trans sm2
    refine ⟨e, rfl, ⟨_, SqL.of upd_same⟩, for_list (K := K) (a := e) (xs := xs ++ xs.reverse) (fun i σ H2 => Same (upd (upd H' r (.lst xs.reverse)) e (.lst (xs ++ xs.reverse))) H2 ∧ ∃ (v1 v2 v3 v4 : Option V), σ = [some (.ref a), some (.ref l), v1, v2, v3, v4])
      ⟨Same.refl _, _, _, _, _, rfl⟩ (fun i σ H2 _ ⟨s2, _⟩ => s2.seq (SqL.of upd_same)) ?_ ?_⟩
    · rintro i y σ H2 hi ⟨sm3, v1, v2, v3, v4, rfl⟩
      have hy : y ∈ xs := by
        rcases List.mem_append.mp (List.mem_of_getElem? hi) with h | h
        · exact h
        · exact List.mem_reverse.mp h
      obtain ⟨k, ok, kd⟩ := hx y hy
      have kd2 := Same.kd (smE.trans sm3) kd
      refine ⟨_, rfl, y, k, rfl, kd2, ok, fun p ds H3 sm4 hp hds h0 => ?_⟩
      have kd3 := Same.kd sm4 kd2
      refine ⟨_, rfl, _, rfl, p, _, 0, _, rfl, rfl, hp, atI_nat (j := 0) h0, y, k, rfl, kd3, ok, fun x H4 sm5 hx4 => ?_⟩
      refine ⟨_, rfl, x, .ref p, k.due, rfl, hx4, .tup (Same.tup sm5 hp) (Same.dpAll sm5 hds), k.dok ok, _, rfl, iteF ?_⟩
      exact ⟨sm3.trans (sm4.trans sm5), _, _, _, _, rfl⟩
    · rintro σ H2 ⟨_, _⟩
      exact q H2
end
theorem all_mk {l : PySem.W.OpenLaw} {w : World} {K : PySem.W.Frag} {h : Heap} {mg : Str → Option Value} {fa : Addr} (X : K.In h) (G : h.Ns mainGlobals mg) (hfa : mg "law" = some (.ref fa))
    {f_is_small : Addr} {od_is_small an_is_small : Option Addr} {sl_is_small : Array (Option Value)} {oc_is_small kV_is_small dc_is_small pm_is_small cd_is_small ct_is_small : Value}
    (A_is_small : PySem.W.nsIn K mainGlobals "is_small" = some (some (.ref f_is_small))) (L_is_small : K.lookup f_is_small = some ⟨oc_is_small, od_is_small, .func (PySem.W.fnOf "is_small" "is_small" (defArgs s_is_small) (defBody s_is_small) (defScope s_is_small) .none kV_is_small dc_is_small pm_is_small an_is_small cd_is_small ct_is_small), sl_is_small⟩) (C_is_small : PySem.W.codeIn K cd_is_small "is_small" = true) (K_is_small : PySem.W.keepIn K (.ref f_is_small) = true)
    {f_is_large : Addr} {od_is_large an_is_large : Option Addr} {sl_is_large : Array (Option Value)} {oc_is_large kV_is_large dc_is_large pm_is_large cd_is_large ct_is_large : Value}
    (A_is_large : PySem.W.nsIn K mainGlobals "is_large" = some (some (.ref f_is_large))) (L_is_large : K.lookup f_is_large = some ⟨oc_is_large, od_is_large, .func (PySem.W.fnOf "is_large" "is_large" (defArgs s_is_large) (defBody s_is_large) (defScope s_is_large) .none kV_is_large dc_is_large pm_is_large an_is_large cd_is_large ct_is_large), sl_is_large⟩) (C_is_large : PySem.W.codeIn K cd_is_large "is_large" = true) (K_is_large : PySem.W.keepIn K (.ref f_is_large) = true)
    {f_is_discrete : Addr} {od_is_discrete an_is_discrete : Option Addr} {sl_is_discrete : Array (Option Value)} {oc_is_discrete kV_is_discrete dc_is_discrete pm_is_discrete cd_is_discrete ct_is_discrete : Value}
    (A_is_discrete : PySem.W.nsIn K mainGlobals "is_discrete" = some (some (.ref f_is_discrete))) (L_is_discrete : K.lookup f_is_discrete = some ⟨oc_is_discrete, od_is_discrete, .func (PySem.W.fnOf "is_discrete" "is_discrete" (defArgs s_is_discrete) (defBody s_is_discrete) (defScope s_is_discrete) .none kV_is_discrete dc_is_discrete pm_is_discrete an_is_discrete cd_is_discrete ct_is_discrete), sl_is_discrete⟩) (C_is_discrete : PySem.W.codeIn K cd_is_discrete "is_discrete" = true) (K_is_discrete : PySem.W.keepIn K (.ref f_is_discrete) = true)
    {f_kind_values : Addr} {od_kind_values an_kind_values : Option Addr} {sl_kind_values : Array (Option Value)} {oc_kind_values kV_kind_values dc_kind_values pm_kind_values cd_kind_values ct_kind_values : Value}
    (A_kind_values : PySem.W.nsIn K mainGlobals "kind_values" = some (some (.ref f_kind_values))) (L_kind_values : K.lookup f_kind_values = some ⟨oc_kind_values, od_kind_values, .func (PySem.W.fnOf "kind_values" "kind_values" (defArgs s_kind_values) (defBody s_kind_values) (defScope s_kind_values) .none kV_kind_values dc_kind_values pm_kind_values an_kind_values cd_kind_values ct_kind_values), sl_kind_values⟩) (C_kind_values : PySem.W.codeIn K cd_kind_values "kind_values" = true) (K_kind_values : PySem.W.keepIn K (.ref f_kind_values) = true)
    {f_start_value : Addr} {od_start_value an_start_value : Option Addr} {sl_start_value : Array (Option Value)} {oc_start_value kV_start_value dc_start_value pm_start_value cd_start_value ct_start_value : Value}
    (A_start_value : PySem.W.nsIn K mainGlobals "start_value" = some (some (.ref f_start_value))) (L_start_value : K.lookup f_start_value = some ⟨oc_start_value, od_start_value, .func (PySem.W.fnOf "start_value" "start_value" (defArgs s_start_value) (defBody s_start_value) (defScope s_start_value) .none kV_start_value dc_start_value pm_start_value an_start_value cd_start_value ct_start_value), sl_start_value⟩) (C_start_value : PySem.W.codeIn K cd_start_value "start_value" = true) (K_start_value : PySem.W.keepIn K (.ref f_start_value) = true)
    {f_l_cell : Addr} {od_l_cell an_l_cell : Option Addr} {sl_l_cell : Array (Option Value)} {oc_l_cell kV_l_cell dc_l_cell pm_l_cell cd_l_cell ct_l_cell : Value}
    (A_l_cell : PySem.W.nsIn K mainGlobals "_law_cell" = some (some (.ref f_l_cell))) (L_l_cell : K.lookup f_l_cell = some ⟨oc_l_cell, od_l_cell, .func (PySem.W.fnOf "_law_cell" "_law_cell" (defArgs s_l_cell) (defBody s_l_cell) (defScope s_l_cell) .none kV_l_cell dc_l_cell pm_l_cell an_l_cell cd_l_cell ct_l_cell), sl_l_cell⟩) (C_l_cell : PySem.W.codeIn K cd_l_cell "_law_cell" = true) (K_l_cell : PySem.W.keepIn K (.ref f_l_cell) = true)
    {f_l_source : Addr} {od_l_source an_l_source : Option Addr} {sl_l_source : Array (Option Value)} {oc_l_source kV_l_source dc_l_source pm_l_source cd_l_source ct_l_source : Value}
    (A_l_source : PySem.W.nsIn K mainGlobals "_law_source" = some (some (.ref f_l_source))) (L_l_source : K.lookup f_l_source = some ⟨oc_l_source, od_l_source, .func (PySem.W.fnOf "_law_source" "_law_source" (defArgs s_l_source) (defBody s_l_source) (defScope s_l_source) .none kV_l_source dc_l_source pm_l_source an_l_source cd_l_source ct_l_source), sl_l_source⟩) (C_l_source : PySem.W.codeIn K cd_l_source "_law_source" = true) (K_l_source : PySem.W.keepIn K (.ref f_l_source) = true)
    {f_l_pick : Addr} {od_l_pick an_l_pick : Option Addr} {sl_l_pick : Array (Option Value)} {oc_l_pick kV_l_pick dc_l_pick pm_l_pick cd_l_pick ct_l_pick : Value}
    (A_l_pick : PySem.W.nsIn K mainGlobals "_law_pick" = some (some (.ref f_l_pick))) (L_l_pick : K.lookup f_l_pick = some ⟨oc_l_pick, od_l_pick, .func (PySem.W.fnOf "_law_pick" "_law_pick" (defArgs s_l_pick) (defBody s_l_pick) (defScope s_l_pick) .none kV_l_pick dc_l_pick pm_l_pick an_l_pick cd_l_pick ct_l_pick), sl_l_pick⟩) (C_l_pick : PySem.W.codeIn K cd_l_pick "_law_pick" = true) (K_l_pick : PySem.W.keepIn K (.ref f_l_pick) = true)
    {f_l_one : Addr} {od_l_one an_l_one : Option Addr} {sl_l_one : Array (Option Value)} {oc_l_one kV_l_one dc_l_one pm_l_one cd_l_one ct_l_one : Value}
    (A_l_one : PySem.W.nsIn K mainGlobals "_law_one" = some (some (.ref f_l_one))) (L_l_one : K.lookup f_l_one = some ⟨oc_l_one, od_l_one, .func (PySem.W.fnOf "_law_one" "_law_one" (defArgs s_l_one) (defBody s_l_one) (defScope s_l_one) .none kV_l_one dc_l_one pm_l_one an_l_one cd_l_one ct_l_one), sl_l_one⟩) (C_l_one : PySem.W.codeIn K cd_l_one "_law_one" = true) (K_l_one : PySem.W.keepIn K (.ref f_l_one) = true)
    {f_l_same : Addr} {od_l_same an_l_same : Option Addr} {sl_l_same : Array (Option Value)} {oc_l_same kV_l_same dc_l_same pm_l_same cd_l_same ct_l_same : Value}
    (A_l_same : PySem.W.nsIn K mainGlobals "_law_same" = some (some (.ref f_l_same))) (L_l_same : K.lookup f_l_same = some ⟨oc_l_same, od_l_same, .func (PySem.W.fnOf "_law_same" "_law_same" (defArgs s_l_same) (defBody s_l_same) (defScope s_l_same) .none kV_l_same dc_l_same pm_l_same an_l_same cd_l_same ct_l_same), sl_l_same⟩) (C_l_same : PySem.W.codeIn K cd_l_same "_law_same" = true) (K_l_same : PySem.W.keepIn K (.ref f_l_same) = true)
    {f_l_number : Addr} {od_l_number an_l_number : Option Addr} {sl_l_number : Array (Option Value)} {oc_l_number kV_l_number dc_l_number pm_l_number cd_l_number ct_l_number : Value}
    (A_l_number : PySem.W.nsIn K mainGlobals "_law_number" = some (some (.ref f_l_number))) (L_l_number : K.lookup f_l_number = some ⟨oc_l_number, od_l_number, .func (PySem.W.fnOf "_law_number" "_law_number" (defArgs s_l_number) (defBody s_l_number) (defScope s_l_number) .none kV_l_number dc_l_number pm_l_number an_l_number cd_l_number ct_l_number), sl_l_number⟩) (C_l_number : PySem.W.codeIn K cd_l_number "_law_number" = true) (K_l_number : PySem.W.keepIn K (.ref f_l_number) = true)
    {f_l_word : Addr} {od_l_word an_l_word : Option Addr} {sl_l_word : Array (Option Value)} {oc_l_word kV_l_word dc_l_word pm_l_word cd_l_word ct_l_word : Value}
    (A_l_word : PySem.W.nsIn K mainGlobals "_law_word" = some (some (.ref f_l_word))) (L_l_word : K.lookup f_l_word = some ⟨oc_l_word, od_l_word, .func (PySem.W.fnOf "_law_word" "_law_word" (defArgs s_l_word) (defBody s_l_word) (defScope s_l_word) .none kV_l_word dc_l_word pm_l_word an_l_word cd_l_word ct_l_word), sl_l_word⟩) (C_l_word : PySem.W.codeIn K cd_l_word "_law_word" = true) (K_l_word : PySem.W.keepIn K (.ref f_l_word) = true)
    {f_l_kind : Addr} {od_l_kind an_l_kind : Option Addr} {sl_l_kind : Array (Option Value)} {oc_l_kind kV_l_kind dc_l_kind pm_l_kind cd_l_kind ct_l_kind : Value}
    (A_l_kind : PySem.W.nsIn K mainGlobals "_law_kind" = some (some (.ref f_l_kind))) (L_l_kind : K.lookup f_l_kind = some ⟨oc_l_kind, od_l_kind, .func (PySem.W.fnOf "_law_kind" "_law_kind" (defArgs s_l_kind) (defBody s_l_kind) (defScope s_l_kind) .none kV_l_kind dc_l_kind pm_l_kind an_l_kind cd_l_kind ct_l_kind), sl_l_kind⟩) (C_l_kind : PySem.W.codeIn K cd_l_kind "_law_kind" = true) (K_l_kind : PySem.W.keepIn K (.ref f_l_kind) = true)
    {f_l_due : Addr} {od_l_due an_l_due : Option Addr} {sl_l_due : Array (Option Value)} {oc_l_due kV_l_due dc_l_due pm_l_due cd_l_due ct_l_due : Value}
    (A_l_due : PySem.W.nsIn K mainGlobals "_law_due" = some (some (.ref f_l_due))) (L_l_due : K.lookup f_l_due = some ⟨oc_l_due, od_l_due, .func (PySem.W.fnOf "_law_due" "_law_due" (defArgs s_l_due) (defBody s_l_due) (defScope s_l_due) .none kV_l_due dc_l_due pm_l_due an_l_due cd_l_due ct_l_due), sl_l_due⟩) (C_l_due : PySem.W.codeIn K cd_l_due "_law_due" = true) (K_l_due : PySem.W.keepIn K (.ref f_l_due) = true)
    {f_l_told : Addr} {od_l_told an_l_told : Option Addr} {sl_l_told : Array (Option Value)} {oc_l_told kV_l_told dc_l_told pm_l_told cd_l_told ct_l_told : Value}
    (A_l_told : PySem.W.nsIn K mainGlobals "_law_told" = some (some (.ref f_l_told))) (L_l_told : K.lookup f_l_told = some ⟨oc_l_told, od_l_told, .func (PySem.W.fnOf "_law_told" "_law_told" (defArgs s_l_told) (defBody s_l_told) (defScope s_l_told) .none kV_l_told dc_l_told pm_l_told an_l_told cd_l_told ct_l_told), sl_l_told⟩) (C_l_told : PySem.W.codeIn K cd_l_told "_law_told" = true) (K_l_told : PySem.W.keepIn K (.ref f_l_told) = true)
    {f_law : Addr} {od_law an_law : Option Addr} {sl_law : Array (Option Value)} {oc_law kV_law dc_law pm_law cd_law ct_law : Value}
    (A_law : PySem.W.nsIn K mainGlobals "law" = some (some (.ref f_law))) (L_law : K.lookup f_law = some ⟨oc_law, od_law, .func (PySem.W.fnOf "law" "law" (defArgs s_law) (defBody s_law) (defScope s_law) .none kV_law dc_law pm_law an_law cd_law ct_law), sl_law⟩) (C_law : PySem.W.codeIn K cd_law "law" = true) (K_law : PySem.W.keepIn K (.ref f_law) = true)
    {u_WIDEST_SMALL : Value} (A_WIDEST_SMALL : PySem.W.nsIn K mainGlobals "WIDEST_SMALL" = some (some u_WIDEST_SMALL)) (U_WIDEST_SMALL : ∃ t, u_WIDEST_SMALL = .int 7 t)
    (Z_bool : PySem.W.nsIn K mainGlobals "bool" = some none)
    (Z_int : PySem.W.nsIn K mainGlobals "int" = some none)
    (Z_isinstance : PySem.W.nsIn K mainGlobals "isinstance" = some none)
    (Z_len : PySem.W.nsIn K mainGlobals "len" = some none)
    (Z_list : PySem.W.nsIn K mainGlobals "list" = some none)
    (Z_max : PySem.W.nsIn K mainGlobals "max" = some none)
    (Z_min : PySem.W.nsIn K mainGlobals "min" = some none)
    (Z_range : PySem.W.nsIn K mainGlobals "range" = some none)
    (Z_str : PySem.W.nsIn K mainGlobals "str" = some none)
    (Z_tuple : PySem.W.nsIn K mainGlobals "tuple" = some none) :
    ∃ fd : FuncData, (∀ (s : Shared) (v : Value), BindsTo s fd ⟨[v], []⟩ [("_law_script", v)]) ∧ ∀ base : Heap, K.In base → base.Ns mainGlobals mg → FnOk l.prog w K mg base CX0 5 fa fd ["_law_script"] (spLaw K) := by
  have e := hfa.symm.trans (PySem.W.mg_of X G A_law)
  cases e
  let T : Txt K mg := {
    a_is_small := f_is_small, d_is_small := _, F_is_small := fun_mk (st := s_is_small) L_is_small C_is_small K_is_small, b_is_small := (fun_mk (st := s_is_small) L_is_small C_is_small K_is_small).binds (ps := p_is_small) (fun _ _ _ _ _ _ us hl => match us, hl with | [_], _ => rfl), m_is_small := PySem.W.mg_of X G A_is_small,
    a_is_large := f_is_large, d_is_large := _, F_is_large := fun_mk (st := s_is_large) L_is_large C_is_large K_is_large, b_is_large := (fun_mk (st := s_is_large) L_is_large C_is_large K_is_large).binds (ps := p_is_large) (fun _ _ _ _ _ _ us hl => match us, hl with | [_], _ => rfl), m_is_large := PySem.W.mg_of X G A_is_large,
    a_is_discrete := f_is_discrete, d_is_discrete := _, F_is_discrete := fun_mk (st := s_is_discrete) L_is_discrete C_is_discrete K_is_discrete, b_is_discrete := (fun_mk (st := s_is_discrete) L_is_discrete C_is_discrete K_is_discrete).binds (ps := p_is_discrete) (fun _ _ _ _ _ _ us hl => match us, hl with | [_], _ => rfl), m_is_discrete := PySem.W.mg_of X G A_is_discrete,
    a_kind_values := f_kind_values, d_kind_values := _, F_kind_values := fun_mk (st := s_kind_values) L_kind_values C_kind_values K_kind_values, b_kind_values := (fun_mk (st := s_kind_values) L_kind_values C_kind_values K_kind_values).binds (ps := p_kind_values) (fun _ _ _ _ _ _ us hl => match us, hl with | [_], _ => rfl), m_kind_values := PySem.W.mg_of X G A_kind_values,
    a_start_value := f_start_value, d_start_value := _, F_start_value := fun_mk (st := s_start_value) L_start_value C_start_value K_start_value, b_start_value := (fun_mk (st := s_start_value) L_start_value C_start_value K_start_value).binds (ps := p_start_value) (fun _ _ _ _ _ _ us hl => match us, hl with | [_], _ => rfl), m_start_value := PySem.W.mg_of X G A_start_value,
    a_l_cell := f_l_cell, d_l_cell := _, F_l_cell := fun_mk (st := s_l_cell) L_l_cell C_l_cell K_l_cell, b_l_cell := (fun_mk (st := s_l_cell) L_l_cell C_l_cell K_l_cell).binds (ps := p_l_cell) (fun _ _ _ _ _ _ us hl => match us, hl with | [_, _], _ => rfl), m_l_cell := PySem.W.mg_of X G A_l_cell,
    a_l_source := f_l_source, d_l_source := _, F_l_source := fun_mk (st := s_l_source) L_l_source C_l_source K_l_source, b_l_source := (fun_mk (st := s_l_source) L_l_source C_l_source K_l_source).binds (ps := p_l_source) (fun _ _ _ _ _ _ us hl => match us, hl with | [_], _ => rfl), m_l_source := PySem.W.mg_of X G A_l_source,
    a_l_pick := f_l_pick, d_l_pick := _, F_l_pick := fun_mk (st := s_l_pick) L_l_pick C_l_pick K_l_pick, b_l_pick := (fun_mk (st := s_l_pick) L_l_pick C_l_pick K_l_pick).binds (ps := p_l_pick) (fun _ _ _ _ _ _ us hl => match us, hl with | [_, _], _ => rfl), m_l_pick := PySem.W.mg_of X G A_l_pick,
    a_l_one := f_l_one, d_l_one := _, F_l_one := fun_mk (st := s_l_one) L_l_one C_l_one K_l_one, b_l_one := (fun_mk (st := s_l_one) L_l_one C_l_one K_l_one).binds (ps := p_l_one) (fun _ _ _ _ _ _ us hl => match us, hl with | [_, _], _ => rfl), m_l_one := PySem.W.mg_of X G A_l_one,
    a_l_same := f_l_same, d_l_same := _, F_l_same := fun_mk (st := s_l_same) L_l_same C_l_same K_l_same, b_l_same := (fun_mk (st := s_l_same) L_l_same C_l_same K_l_same).binds (ps := p_l_same) (fun _ _ _ _ _ _ us hl => match us, hl with | [_, _], _ => rfl), m_l_same := PySem.W.mg_of X G A_l_same,
    a_l_number := f_l_number, d_l_number := _, F_l_number := fun_mk (st := s_l_number) L_l_number C_l_number K_l_number, b_l_number := (fun_mk (st := s_l_number) L_l_number C_l_number K_l_number).binds (ps := p_l_number) (fun _ _ _ _ _ _ us hl => match us, hl with | [_, _], _ => rfl), m_l_number := PySem.W.mg_of X G A_l_number,
    a_l_word := f_l_word, d_l_word := _, F_l_word := fun_mk (st := s_l_word) L_l_word C_l_word K_l_word, b_l_word := (fun_mk (st := s_l_word) L_l_word C_l_word K_l_word).binds (ps := p_l_word) (fun _ _ _ _ _ _ us hl => match us, hl with | [_], _ => rfl), m_l_word := PySem.W.mg_of X G A_l_word,
    a_l_kind := f_l_kind, d_l_kind := _, F_l_kind := fun_mk (st := s_l_kind) L_l_kind C_l_kind K_l_kind, b_l_kind := (fun_mk (st := s_l_kind) L_l_kind C_l_kind K_l_kind).binds (ps := p_l_kind) (fun _ _ _ _ _ _ us hl => match us, hl with | [_], _ => rfl), m_l_kind := PySem.W.mg_of X G A_l_kind,
    a_l_due := f_l_due, d_l_due := _, F_l_due := fun_mk (st := s_l_due) L_l_due C_l_due K_l_due, b_l_due := (fun_mk (st := s_l_due) L_l_due C_l_due K_l_due).binds (ps := p_l_due) (fun _ _ _ _ _ _ us hl => match us, hl with | [_], _ => rfl), m_l_due := PySem.W.mg_of X G A_l_due,
    a_l_told := f_l_told, d_l_told := _, F_l_told := fun_mk (st := s_l_told) L_l_told C_l_told K_l_told, b_l_told := (fun_mk (st := s_l_told) L_l_told C_l_told K_l_told).binds (ps := p_l_told) (fun _ _ _ _ _ _ us hl => match us, hl with | [_, _], _ => rfl), m_l_told := PySem.W.mg_of X G A_l_told,
    a_law := fa, d_law := _, F_law := fun_mk (st := s_law) L_law C_law K_law, b_law := (fun_mk (st := s_law) L_law C_law K_law).binds (ps := p_law) (fun _ _ _ _ _ _ us hl => match us, hl with | [_], _ => rfl), m_law := PySem.W.mg_of X G A_law,
    c_WIDEST_SMALL := by obtain ⟨t, e⟩ := U_WIDEST_SMALL; exact ⟨t, by rw [← e]; exact PySem.W.mg_of X G A_WIDEST_SMALL⟩,
    z_bool := PySem.W.mg_none_of X G Z_bool,
    z_int := PySem.W.mg_none_of X G Z_int,
    z_isinstance := PySem.W.mg_none_of X G Z_isinstance,
    z_len := PySem.W.mg_none_of X G Z_len,
    z_list := PySem.W.mg_none_of X G Z_list,
    z_max := PySem.W.mg_none_of X G Z_max,
    z_min := PySem.W.mg_none_of X G Z_min,
    z_range := PySem.W.mg_none_of X G Z_range,
    z_str := PySem.W.mg_none_of X G Z_str,
    z_tuple := PySem.W.mg_none_of X G Z_tuple }
  refine ⟨PySem.W.fnOf "law" "law" (defArgs s_law) (defBody s_law) (defScope s_law) .none kV_law dc_law pm_law an_law cd_law ct_law, fun s v => .of_eq rfl, fun base _ _ => ok_law T⟩
theorem walk {l : PySem.W.OpenLaw} {q : Program} {loose : List Str} {XP : (Str → Option Value) → Heap → Prop} {YP : World → Heap → Prop} {d : DefRec} {K : Params → PySem.W.Frag} (hn : l.most = some 63) (hdf : d.params.defaults = [])
    (hY : ∀ (w : World) (h : Heap), YP w h → (K w.params).In h)
    (F : ∀ (w : World) (mg : Str → Option Value) (fa : Addr) (h : Heap), (K w.params).In h → h.Ns mainGlobals mg → mg d.name = some (.ref fa) →
      ∃ fd : FuncData, (∀ (s : Shared) (u : Value), BindsTo s fd ⟨[u], []⟩ [("_law_script", u)]) ∧ ∀ base : Heap, (K w.params).In base → base.Ns mainGlobals mg → FnOk l.prog w (K w.params) mg base CX0 5 fa fd ["_law_script"] (spLaw (K w.params))) :
    PySem.W.WalkO q loose XP YP l.row.toRowW d [] (fun f vs => PySem.call f vs) :=
  L2.walk_of (n := 63) (k := 5) (x := "_law_script") (CX := fun _ => CX0) (sp := fun w => spLaw (K w.params)) hn (by decide) hdf ⟨rfl, by decide, by decide⟩ hY F (fun _ _ a ns hl _ hS => ⟨a, ns, rfl, hS, hl, fun _ => rfl⟩) fun _ _ _ _ _ z => z
end Mine
open PySem PySem.W PyProof.Rows
set_option maxRecDepth 100000 in
set_option maxHeartbeats 0 in
theorem PySem.Challenge.cw_neverhappens_k06_kinds_holds : PySem.Challenge.rw_neverhappens_k06_kinds.Holds := by
  w_on; o_law; k_head; (case hw => w_witness2)
  k_fill
  refine Mine.walk (l := PySem.Challenge.rw_neverhappens_k06_kinds) rfl rfl (fun w h Y => PySem.W.kIn_of Y) ?F
  case F =>
    intro w mg fa h KX G hmg
    refine' Mine.all_mk KX G hmg ?A_is_small ?L_is_small ?C_is_small ?K_is_small ?A_is_large ?L_is_large ?C_is_large ?K_is_large ?A_is_discrete ?L_is_discrete ?C_is_discrete ?K_is_discrete ?A_kind_values ?L_kind_values ?C_kind_values ?K_kind_values ?A_start_value ?L_start_value ?C_start_value ?K_start_value ?A_l_cell ?L_l_cell ?C_l_cell ?K_l_cell ?A_l_source ?L_l_source ?C_l_source ?K_l_source ?A_l_pick ?L_l_pick ?C_l_pick ?K_l_pick ?A_l_one ?L_l_one ?C_l_one ?K_l_one ?A_l_same ?L_l_same ?C_l_same ?K_l_same ?A_l_number ?L_l_number ?C_l_number ?K_l_number ?A_l_word ?L_l_word ?C_l_word ?K_l_word ?A_l_kind ?L_l_kind ?C_l_kind ?K_l_kind ?A_l_due ?L_l_due ?C_l_due ?K_l_due ?A_l_told ?L_l_told ?C_l_told ?K_l_told ?A_law ?L_law ?C_law ?K_law ?A_WIDEST_SMALL ?U_WIDEST_SMALL ?Z_bool ?Z_int ?Z_isinstance ?Z_len ?Z_list ?Z_max ?Z_min ?Z_range ?Z_str ?Z_tuple
    (case A_is_small => k_is)
    (case L_is_small => k_is)
    (case C_is_small => k_is)
    (case K_is_small => k_is)
    (case A_is_large => k_is)
    (case L_is_large => k_is)
    (case C_is_large => k_is)
    (case K_is_large => k_is)
    (case A_is_discrete => k_is)
    (case L_is_discrete => k_is)
    (case C_is_discrete => k_is)
    (case K_is_discrete => k_is)
    (case A_kind_values => k_is)
    (case L_kind_values => k_is)
    (case C_kind_values => k_is)
    (case K_kind_values => k_is)
    (case A_start_value => k_is)
    (case L_start_value => k_is)
    (case C_start_value => k_is)
    (case K_start_value => k_is)
    (case A_l_cell => k_is)
    (case L_l_cell => k_is)
    (case C_l_cell => k_is)
    (case K_l_cell => k_is)
    (case A_l_source => k_is)
    (case L_l_source => k_is)
    (case C_l_source => k_is)
    (case K_l_source => k_is)
    (case A_l_pick => k_is)
    (case L_l_pick => k_is)
    (case C_l_pick => k_is)
    (case K_l_pick => k_is)
    (case A_l_one => k_is)
    (case L_l_one => k_is)
    (case C_l_one => k_is)
    (case K_l_one => k_is)
    (case A_l_same => k_is)
    (case L_l_same => k_is)
    (case C_l_same => k_is)
    (case K_l_same => k_is)
    (case A_l_number => k_is)
    (case L_l_number => k_is)
    (case C_l_number => k_is)
    (case K_l_number => k_is)
    (case A_l_word => k_is)
    (case L_l_word => k_is)
    (case C_l_word => k_is)
    (case K_l_word => k_is)
    (case A_l_kind => k_is)
    (case L_l_kind => k_is)
    (case C_l_kind => k_is)
    (case K_l_kind => k_is)
    (case A_l_due => k_is)
    (case L_l_due => k_is)
    (case C_l_due => k_is)
    (case K_l_due => k_is)
    (case A_l_told => k_is)
    (case L_l_told => k_is)
    (case C_l_told => k_is)
    (case K_l_told => k_is)
    (case A_law => k_is)
    (case L_law => k_is)
    (case C_law => k_is)
    (case K_law => k_is)
    (case A_WIDEST_SMALL => k_is)
    (case U_WIDEST_SMALL => exact ⟨_, rfl⟩)
    (case Z_bool => k_is)
    (case Z_int => k_is)
    (case Z_isinstance => k_is)
    (case Z_len => k_is)
    (case Z_list => k_is)
    (case Z_max => k_is)
    (case Z_min => k_is)
    (case Z_range => k_is)
    (case Z_str => k_is)
    (case Z_tuple => k_is)
#print axioms PySem.Challenge.cw_neverhappens_k06_kinds_holds
