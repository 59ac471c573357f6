import PyProof.Rows.All
import Wide.All
import OpenK.AllK
import Wide.FinOn
import HandS.ForMost
import HandS.IsInst
import HandS.FStr
import HandS.Codes
import HandS.Star
import HandS.Zip
import HandS.More
import PySem.Challenge.RW_neverhappens_k03_whole_program_text
set_option Elab.async false
set_option linter.all false
set_option maxRecDepth 100000
set_option maxHeartbeats 4000000
namespace Mine
open PySem L2
def top (i : Nat) : Stmt := PySem.Challenge.pw_neverhappens_k03_whole_program_text.main.body.getD i (.Pass ⟨0, 0, 0, 0⟩)
abbrev s_parts_of : Stmt := top 2
abbrev s_bodies_of : Stmt := top 3
abbrev s_expression_text : Stmt := top 6
abbrev s_kind_text : Stmt := top 7
abbrev s_declaration_text : Stmt := top 8
abbrev s_arguments_text : Stmt := top 9
abbrev s_part_text : Stmt := top 10
abbrev s_statement_text : Stmt := top 11
abbrev s_body_lines : Stmt := top 12
abbrev s_record_lines : Stmt := top 13
abbrev s_array_line : Stmt := top 14
abbrev s_function_lines : Stmt := top 15
abbrev s_joined : Stmt := top 16
abbrev s_function_text : Stmt := top 17
abbrev s_program_text : Stmt := top 18
abbrev s_l_cell : Stmt := top 20
abbrev s_l_source : Stmt := top 21
abbrev s_l_pick : Stmt := top 22
abbrev s_l_one : Stmt := top 23
abbrev s_l_reserved : Stmt := top 24
abbrev s_l_name : Stmt := top 25
abbrev s_l_word : Stmt := top 26
abbrev s_l_number : Stmt := top 27
abbrev s_l_node : Stmt := top 28
abbrev s_l_expression : Stmt := top 29
abbrev s_l_kind : Stmt := top 30
abbrev s_l_count : Stmt := top 31
abbrev s_l_pairs : Stmt := top 32
abbrev s_l_leaf : Stmt := top 33
abbrev s_l_body : Stmt := top 34
abbrev s_l_program : Stmt := top 35
abbrev s_l_joined : Stmt := top 36
abbrev s_l_kind_text : Stmt := top 37
abbrev s_l_text : Stmt := top 38
abbrev s_l_line : Stmt := top 39
abbrev s_l_lines : Stmt := top 40
abbrev s_l_function_lines : Stmt := top 41
abbrev s_l_program_lines : Stmt := top 42
abbrev s_l_same : Stmt := top 43
abbrev s_law : Stmt := top 44
abbrev p_parts_of : List Str := ["statement"]
abbrev p_bodies_of : List Str := ["statement"]
abbrev p_expression_text : List Str := ["expression"]
abbrev p_kind_text : List Str := ["kind"]
abbrev p_declaration_text : List Str := ["declaration"]
abbrev p_arguments_text : List Str := ["arguments"]
abbrev p_part_text : List Str := ["role", "part"]
abbrev p_statement_text : List Str := ["statement"]
abbrev p_body_lines : List Str := ["body", "margin"]
abbrev p_record_lines : List Str := ["record"]
abbrev p_array_line : List Str := ["array"]
abbrev p_function_lines : List Str := ["function"]
abbrev p_joined : List Str := ["lines"]
abbrev p_function_text : List Str := ["function"]
abbrev p_program_text : List Str := ["program"]
abbrev p_l_cell : List Str := ["_law_script", "_law_at"]
abbrev p_l_source : List Str := ["_law_cell_here"]
abbrev p_l_pick : List Str := ["_law_source_here", "_law_size"]
abbrev p_l_one : List Str := ["_law_source_here", "_law_row"]
abbrev p_l_reserved : List Str := []
abbrev p_l_name : List Str := ["_law_source_here", "_law_world"]
abbrev p_l_word : List Str := ["_law_source_here", "_law_world"]
abbrev p_l_number : List Str := ["_law_source_here", "_law_world"]
abbrev p_l_node : List Str := ["_law_source_here", "_law_world", "_law_choice", "_law_depth"]
abbrev p_l_expression : List Str := ["_law_source_here", "_law_world", "_law_depth"]
abbrev p_l_kind : List Str := ["_law_source_here", "_law_world", "_law_wide"]
abbrev p_l_count : List Str := ["_law_source_here", "_law_bound"]
abbrev p_l_pairs : List Str := ["_law_source_here", "_law_world", "_law_bound", "_law_wide"]
abbrev p_l_leaf : List Str := ["_law_source_here", "_law_world"]
abbrev p_l_body : List Str := ["_law_source_here", "_law_world", "_law_upto", "_law_depth"]
abbrev p_l_program : List Str := ["_law_source_here", "_law_spare"]
abbrev p_l_joined : List Str := ["_law_lines_here"]
abbrev p_l_kind_text : List Str := ["_law_kind_here"]
abbrev p_l_text : List Str := ["_law_expression_here"]
abbrev p_l_line : List Str := ["_law_statement"]
abbrev p_l_lines : List Str := ["_law_body_here", "_law_depth"]
abbrev p_l_function_lines : List Str := ["_law_head"]
abbrev p_l_program_lines : List Str := ["_law_program_here"]
abbrev p_l_same : List Str := ["_law_actual", "_law_due"]
abbrev p_law : List Str := ["_law_script"]
/-- what the program's top leaves: where each def stands -/
def tb_PARTS : List (Str × List Str) := [("set", ["variable", "expression"]), ("input", ["variable"]), ("new", ["variable"]), ("free", ["variable"]), ("load", ["variable", "variable", "field"]), ("store", ["variable", "field", "expression"]), ("get", ["variable", "array", "expression"]), ("put", ["array", "expression", "expression"]), ("call", ["variable", "function", "arguments"]), ("return", ["expression"]), ("if", ["expression", "body", "body"]), ("while", ["expression", "body"]), ("break", []), ("assert", ["expression"])]
/-- a list of strings, as values -/
def isStrs : List Str → List Value → Bool
  | [], [] => true
  | x :: xs, v :: vs => Value.isStrOf x v && isStrs xs vs
  | _, _ => false
theorem isStrs_vals : ∀ {xs : List Str} {vs : List Value}, isStrs xs vs = true → Vals (xs.map V.str) vs
  | [], [], _ => .nil
  | [], _ :: _, h => by cases h
  | _ :: _, [], h => by cases h
  | x :: xs, v :: vs, h => by
    have h' := (Bool.and_eq_true_iff).mp h
    obtain ⟨t, e⟩ := Value.isStrOf_shape (x := x) (v := v) h'.1
    exact .cons ⟨t, e⟩ (isStrs_vals h'.2)
/-- an entry of a written dict: a tuple of strings -/
def KPart (w : World) (K : PySem.W.Frag) (d : Addr) (x : Str) (rs : List Str) : Prop := ∃ r, KDct K w d x (.ref r) ∧ ∀ H, SqT K H r (rs.map V.str)
theorem kpart {w : World} {K : PySem.W.Frag} {d r : Addr} {es : Array DictEntry} {n m : Nat} {x : Str} {rs : List Str} {dd : Option Addr} {its : Array Value} {sl : Array (Option Value)} (D : K.lookup d = some ⟨.type "dict", none, .dict es n, #[]⟩) (Y : PySem.W.KeysLit w.params es.toList)
    (N : PySem.W.nsIn K d x = some (some (.ref r))) (R : K.lookup r = some ⟨.type "tuple", dd, .seq its m, sl⟩) (z : rs.length ≤ 1000) (v : isStrs rs its.toList = true) : KPart w K d x rs := by
  have r1 := isStrs_vals v
  refine ⟨r, ⟨es, n, .ref r, D, Y, N, rfl⟩, fun H => .inr ⟨_, its, m, R, rfl, rfl, ?_, r1⟩⟩
  have e := r1.length
  rw [List.length_map] at e
  have e2 : its.toList.length = its.size := by simp
  rw [sizeLine_eq]
  omega
structure Txt (w : World) (K : PySem.W.Frag) (mg : Str → Option Value) where
  a_parts_of : Addr
  d_parts_of : FuncData
  F_parts_of : Fun K "parts_of" "parts_of" s_parts_of a_parts_of d_parts_of
  b_parts_of : Binds K d_parts_of p_parts_of []
  m_parts_of : mg "parts_of" = some (.ref a_parts_of)
  a_bodies_of : Addr
  d_bodies_of : FuncData
  F_bodies_of : Fun K "bodies_of" "bodies_of" s_bodies_of a_bodies_of d_bodies_of
  b_bodies_of : Binds K d_bodies_of p_bodies_of []
  m_bodies_of : mg "bodies_of" = some (.ref a_bodies_of)
  a_expression_text : Addr
  d_expression_text : FuncData
  F_expression_text : Fun K "expression_text" "expression_text" s_expression_text a_expression_text d_expression_text
  b_expression_text : Binds K d_expression_text p_expression_text []
  m_expression_text : mg "expression_text" = some (.ref a_expression_text)
  a_kind_text : Addr
  d_kind_text : FuncData
  F_kind_text : Fun K "kind_text" "kind_text" s_kind_text a_kind_text d_kind_text
  b_kind_text : Binds K d_kind_text p_kind_text []
  m_kind_text : mg "kind_text" = some (.ref a_kind_text)
  a_declaration_text : Addr
  d_declaration_text : FuncData
  F_declaration_text : Fun K "declaration_text" "declaration_text" s_declaration_text a_declaration_text d_declaration_text
  b_declaration_text : Binds K d_declaration_text p_declaration_text []
  m_declaration_text : mg "declaration_text" = some (.ref a_declaration_text)
  a_arguments_text : Addr
  d_arguments_text : FuncData
  F_arguments_text : Fun K "arguments_text" "arguments_text" s_arguments_text a_arguments_text d_arguments_text
  b_arguments_text : Binds K d_arguments_text p_arguments_text []
  m_arguments_text : mg "arguments_text" = some (.ref a_arguments_text)
  a_part_text : Addr
  d_part_text : FuncData
  F_part_text : Fun K "part_text" "part_text" s_part_text a_part_text d_part_text
  b_part_text : Binds K d_part_text p_part_text []
  m_part_text : mg "part_text" = some (.ref a_part_text)
  a_statement_text : Addr
  d_statement_text : FuncData
  F_statement_text : Fun K "statement_text" "statement_text" s_statement_text a_statement_text d_statement_text
  b_statement_text : Binds K d_statement_text p_statement_text []
  m_statement_text : mg "statement_text" = some (.ref a_statement_text)
  a_body_lines : Addr
  d_body_lines : FuncData
  F_body_lines : Fun K "body_lines" "body_lines" s_body_lines a_body_lines d_body_lines
  b_body_lines : Binds K d_body_lines p_body_lines []
  m_body_lines : mg "body_lines" = some (.ref a_body_lines)
  a_record_lines : Addr
  d_record_lines : FuncData
  F_record_lines : Fun K "record_lines" "record_lines" s_record_lines a_record_lines d_record_lines
  b_record_lines : Binds K d_record_lines p_record_lines []
  m_record_lines : mg "record_lines" = some (.ref a_record_lines)
  a_array_line : Addr
  d_array_line : FuncData
  F_array_line : Fun K "array_line" "array_line" s_array_line a_array_line d_array_line
  b_array_line : Binds K d_array_line p_array_line []
  m_array_line : mg "array_line" = some (.ref a_array_line)
  a_function_lines : Addr
  d_function_lines : FuncData
  F_function_lines : Fun K "function_lines" "function_lines" s_function_lines a_function_lines d_function_lines
  b_function_lines : Binds K d_function_lines p_function_lines []
  m_function_lines : mg "function_lines" = some (.ref a_function_lines)
  a_joined : Addr
  d_joined : FuncData
  F_joined : Fun K "joined" "joined" s_joined a_joined d_joined
  b_joined : Binds K d_joined p_joined []
  m_joined : mg "joined" = some (.ref a_joined)
  a_function_text : Addr
  d_function_text : FuncData
  F_function_text : Fun K "function_text" "function_text" s_function_text a_function_text d_function_text
  b_function_text : Binds K d_function_text p_function_text []
  m_function_text : mg "function_text" = some (.ref a_function_text)
  a_program_text : Addr
  d_program_text : FuncData
  F_program_text : Fun K "program_text" "program_text" s_program_text a_program_text d_program_text
  b_program_text : Binds K d_program_text p_program_text []
  m_program_text : mg "program_text" = some (.ref a_program_text)
  a_l_cell : Addr
  d_l_cell : FuncData
  F_l_cell : Fun K "_law_cell" "_law_cell" s_l_cell a_l_cell d_l_cell
  b_l_cell : Binds K d_l_cell p_l_cell []
  m_l_cell : mg "_law_cell" = some (.ref a_l_cell)
  a_l_source : Addr
  d_l_source : FuncData
  F_l_source : Fun K "_law_source" "_law_source" s_l_source a_l_source d_l_source
  b_l_source : Binds K d_l_source p_l_source []
  m_l_source : mg "_law_source" = some (.ref a_l_source)
  a_l_pick : Addr
  d_l_pick : FuncData
  F_l_pick : Fun K "_law_pick" "_law_pick" s_l_pick a_l_pick d_l_pick
  b_l_pick : Binds K d_l_pick p_l_pick []
  m_l_pick : mg "_law_pick" = some (.ref a_l_pick)
  a_l_one : Addr
  d_l_one : FuncData
  F_l_one : Fun K "_law_one" "_law_one" s_l_one a_l_one d_l_one
  b_l_one : Binds K d_l_one p_l_one []
  m_l_one : mg "_law_one" = some (.ref a_l_one)
  a_l_reserved : Addr
  d_l_reserved : FuncData
  F_l_reserved : Fun K "_law_reserved" "_law_reserved" s_l_reserved a_l_reserved d_l_reserved
  b_l_reserved : Binds K d_l_reserved p_l_reserved []
  m_l_reserved : mg "_law_reserved" = some (.ref a_l_reserved)
  a_l_name : Addr
  d_l_name : FuncData
  F_l_name : Fun K "_law_name" "_law_name" s_l_name a_l_name d_l_name
  b_l_name : Binds K d_l_name p_l_name []
  m_l_name : mg "_law_name" = some (.ref a_l_name)
  a_l_word : Addr
  d_l_word : FuncData
  F_l_word : Fun K "_law_word" "_law_word" s_l_word a_l_word d_l_word
  b_l_word : Binds K d_l_word p_l_word []
  m_l_word : mg "_law_word" = some (.ref a_l_word)
  a_l_number : Addr
  d_l_number : FuncData
  F_l_number : Fun K "_law_number" "_law_number" s_l_number a_l_number d_l_number
  b_l_number : Binds K d_l_number p_l_number []
  m_l_number : mg "_law_number" = some (.ref a_l_number)
  a_l_node : Addr
  d_l_node : FuncData
  F_l_node : Fun K "_law_node" "_law_node" s_l_node a_l_node d_l_node
  b_l_node : Binds K d_l_node p_l_node []
  m_l_node : mg "_law_node" = some (.ref a_l_node)
  a_l_expression : Addr
  d_l_expression : FuncData
  F_l_expression : Fun K "_law_expression" "_law_expression" s_l_expression a_l_expression d_l_expression
  b_l_expression : Binds K d_l_expression p_l_expression []
  m_l_expression : mg "_law_expression" = some (.ref a_l_expression)
  a_l_kind : Addr
  d_l_kind : FuncData
  F_l_kind : Fun K "_law_kind" "_law_kind" s_l_kind a_l_kind d_l_kind
  b_l_kind : Binds K d_l_kind p_l_kind []
  m_l_kind : mg "_law_kind" = some (.ref a_l_kind)
  a_l_count : Addr
  d_l_count : FuncData
  F_l_count : Fun K "_law_count" "_law_count" s_l_count a_l_count d_l_count
  b_l_count : Binds K d_l_count p_l_count []
  m_l_count : mg "_law_count" = some (.ref a_l_count)
  a_l_pairs : Addr
  d_l_pairs : FuncData
  F_l_pairs : Fun K "_law_pairs" "_law_pairs" s_l_pairs a_l_pairs d_l_pairs
  b_l_pairs : Binds K d_l_pairs p_l_pairs []
  m_l_pairs : mg "_law_pairs" = some (.ref a_l_pairs)
  a_l_leaf : Addr
  d_l_leaf : FuncData
  F_l_leaf : Fun K "_law_leaf" "_law_leaf" s_l_leaf a_l_leaf d_l_leaf
  b_l_leaf : Binds K d_l_leaf p_l_leaf []
  m_l_leaf : mg "_law_leaf" = some (.ref a_l_leaf)
  a_l_body : Addr
  d_l_body : FuncData
  F_l_body : Fun K "_law_body" "_law_body" s_l_body a_l_body d_l_body
  b_l_body : Binds K d_l_body p_l_body []
  m_l_body : mg "_law_body" = some (.ref a_l_body)
  a_l_program : Addr
  d_l_program : FuncData
  F_l_program : Fun K "_law_program" "_law_program" s_l_program a_l_program d_l_program
  b_l_program : Binds K d_l_program p_l_program []
  m_l_program : mg "_law_program" = some (.ref a_l_program)
  a_l_joined : Addr
  d_l_joined : FuncData
  F_l_joined : Fun K "_law_joined" "_law_joined" s_l_joined a_l_joined d_l_joined
  b_l_joined : Binds K d_l_joined p_l_joined []
  m_l_joined : mg "_law_joined" = some (.ref a_l_joined)
  a_l_kind_text : Addr
  d_l_kind_text : FuncData
  F_l_kind_text : Fun K "_law_kind_text" "_law_kind_text" s_l_kind_text a_l_kind_text d_l_kind_text
  b_l_kind_text : Binds K d_l_kind_text p_l_kind_text []
  m_l_kind_text : mg "_law_kind_text" = some (.ref a_l_kind_text)
  a_l_text : Addr
  d_l_text : FuncData
  F_l_text : Fun K "_law_text" "_law_text" s_l_text a_l_text d_l_text
  b_l_text : Binds K d_l_text p_l_text []
  m_l_text : mg "_law_text" = some (.ref a_l_text)
  a_l_line : Addr
  d_l_line : FuncData
  F_l_line : Fun K "_law_line" "_law_line" s_l_line a_l_line d_l_line
  b_l_line : Binds K d_l_line p_l_line []
  m_l_line : mg "_law_line" = some (.ref a_l_line)
  a_l_lines : Addr
  d_l_lines : FuncData
  F_l_lines : Fun K "_law_lines" "_law_lines" s_l_lines a_l_lines d_l_lines
  b_l_lines : Binds K d_l_lines p_l_lines []
  m_l_lines : mg "_law_lines" = some (.ref a_l_lines)
  a_l_function_lines : Addr
  d_l_function_lines : FuncData
  F_l_function_lines : Fun K "_law_function_lines" "_law_function_lines" s_l_function_lines a_l_function_lines d_l_function_lines
  b_l_function_lines : Binds K d_l_function_lines p_l_function_lines []
  m_l_function_lines : mg "_law_function_lines" = some (.ref a_l_function_lines)
  a_l_program_lines : Addr
  d_l_program_lines : FuncData
  F_l_program_lines : Fun K "_law_program_lines" "_law_program_lines" s_l_program_lines a_l_program_lines d_l_program_lines
  b_l_program_lines : Binds K d_l_program_lines p_l_program_lines []
  m_l_program_lines : mg "_law_program_lines" = some (.ref a_l_program_lines)
  a_l_same : Addr
  d_l_same : FuncData
  F_l_same : Fun K "_law_same" "_law_same" s_l_same a_l_same d_l_same
  b_l_same : Binds K d_l_same p_l_same []
  m_l_same : mg "_law_same" = some (.ref a_l_same)
  a_law : Addr
  d_law : FuncData
  F_law : Fun K "law" "law" s_law a_law d_law
  b_law : Binds K d_law p_law []
  m_law : mg "law" = some (.ref a_law)
  c_PARTS : ∃ d, mg "PARTS" = some (.ref d) ∧ ∀ q ∈ tb_PARTS, KPart w K d q.1 q.2
  c_STEP : ∃ t, mg "STEP" = some (.str "  " t)
  z_bool : mg "bool" = none
  z_int : mg "int" = none
  z_isinstance : mg "isinstance" = none
  z_len : mg "len" = none
  z_list : mg "list" = none
  z_max : mg "max" = none
  z_min : mg "min" = none
  z_range : mg "range" = none
  z_str : mg "str" = none
  z_tuple : mg "tuple" = none
  z_zip : mg "zip" = none
abbrev n_parts_of : List Str := ["statement", "roles", "role", "part"]
theorem sc_parts_of : FnScope n_parts_of p_parts_of (defScope s_parts_of) := ⟨rfl, rfl, rfl, by decide +kernel, rfl, by decide +kernel, by decide +kernel⟩
abbrev n_bodies_of : List Str := ["statement", "roles", "role", "part"]
theorem sc_bodies_of : FnScope n_bodies_of p_bodies_of (defScope s_bodies_of) := ⟨rfl, rfl, rfl, by decide +kernel, rfl, by decide +kernel, by decide +kernel⟩
abbrev n_expression_text : List Str := ["expression", "word"]
theorem sc_expression_text : FnScope n_expression_text p_expression_text (defScope s_expression_text) := ⟨rfl, rfl, rfl, by decide +kernel, rfl, by decide +kernel, by decide +kernel⟩
abbrev n_kind_text : List Str := ["kind"]
theorem sc_kind_text : FnScope n_kind_text p_kind_text (defScope s_kind_text) := ⟨rfl, rfl, rfl, by decide +kernel, rfl, by decide +kernel, by decide +kernel⟩
abbrev n_declaration_text : List Str := ["declaration"]
theorem sc_declaration_text : FnScope n_declaration_text p_declaration_text (defScope s_declaration_text) := ⟨rfl, rfl, rfl, by decide +kernel, rfl, by decide +kernel, by decide +kernel⟩
abbrev n_arguments_text : List Str := ["arguments", "argument"]
theorem sc_arguments_text : FnScope n_arguments_text p_arguments_text (defScope s_arguments_text) := ⟨rfl, rfl, rfl, by decide +kernel, rfl, by decide +kernel, by decide +kernel⟩
abbrev n_part_text : List Str := ["role", "part"]
theorem sc_part_text : FnScope n_part_text p_part_text (defScope s_part_text) := ⟨rfl, rfl, rfl, by decide +kernel, rfl, by decide +kernel, by decide +kernel⟩
abbrev n_statement_text : List Str := ["statement", "word", "texts", "role", "part", "before"]
theorem sc_statement_text : FnScope n_statement_text p_statement_text (defScope s_statement_text) := ⟨rfl, rfl, rfl, by decide +kernel, rfl, by decide +kernel, by decide +kernel⟩
abbrev n_body_lines : List Str := ["body", "margin", "lines", "statement", "bodies"]
theorem sc_body_lines : FnScope n_body_lines p_body_lines (defScope s_body_lines) := ⟨rfl, rfl, rfl, by decide +kernel, rfl, by decide +kernel, by decide +kernel⟩
abbrev n_record_lines : List Str := ["record", "fields", "field"]
theorem sc_record_lines : FnScope n_record_lines p_record_lines (defScope s_record_lines) := ⟨rfl, rfl, rfl, by decide +kernel, rfl, by decide +kernel, by decide +kernel⟩
abbrev n_array_line : List Str := ["array"]
theorem sc_array_line : FnScope n_array_line p_array_line (defScope s_array_line) := ⟨rfl, rfl, rfl, by decide +kernel, rfl, by decide +kernel, by decide +kernel⟩
abbrev n_function_lines : List Str := ["function", "name", "params", "result", "own", "body", "told", "param", "tail", "variables", "variable"]
theorem sc_function_lines : FnScope n_function_lines p_function_lines (defScope s_function_lines) := ⟨rfl, rfl, rfl, by decide +kernel, rfl, by decide +kernel, by decide +kernel⟩
abbrev n_joined : List Str := ["lines", "line"]
theorem sc_joined : FnScope n_joined p_joined (defScope s_joined) := ⟨rfl, rfl, rfl, by decide +kernel, rfl, by decide +kernel, by decide +kernel⟩
abbrev n_function_text : List Str := ["function"]
theorem sc_function_text : FnScope n_function_text p_function_text (defScope s_function_text) := ⟨rfl, rfl, rfl, by decide +kernel, rfl, by decide +kernel, by decide +kernel⟩
abbrev n_program_text : List Str := ["program", "lines", "record", "array", "declaration", "function"]
theorem sc_program_text : FnScope n_program_text p_program_text (defScope s_program_text) := ⟨rfl, rfl, rfl, by decide +kernel, rfl, by decide +kernel, by decide +kernel⟩
abbrev n_l_cell : List Str := ["_law_script", "_law_at"]
theorem sc_l_cell : FnScope n_l_cell p_l_cell (defScope s_l_cell) := ⟨rfl, rfl, rfl, by decide +kernel, rfl, by decide +kernel, by decide +kernel⟩
abbrev n_l_source : List Str := ["_law_cell_here"]
theorem sc_l_source : FnScope n_l_source p_l_source (defScope s_l_source) := ⟨rfl, rfl, rfl, by decide +kernel, rfl, by decide +kernel, by decide +kernel⟩
abbrev n_l_pick : List Str := ["_law_source_here", "_law_size", "_law_k", "_law_digit", "_law_mixed"]
theorem sc_l_pick : FnScope n_l_pick p_l_pick (defScope s_l_pick) := ⟨rfl, rfl, rfl, by decide +kernel, rfl, by decide +kernel, by decide +kernel⟩
abbrev n_l_one : List Str := ["_law_source_here", "_law_row"]
theorem sc_l_one : FnScope n_l_one p_l_one (defScope s_l_one) := ⟨rfl, rfl, rfl, by decide +kernel, rfl, by decide +kernel, by decide +kernel⟩
abbrev n_l_reserved : List Str := ["_law_words"]
theorem sc_l_reserved : FnScope n_l_reserved p_l_reserved (defScope s_l_reserved) := ⟨rfl, rfl, rfl, by decide +kernel, rfl, by decide +kernel, by decide +kernel⟩
abbrev n_l_name : List Str := ["_law_source_here", "_law_world", "_law_size", "_law_word_here", "_law_k"]
theorem sc_l_name : FnScope n_l_name p_l_name (defScope s_l_name) := ⟨rfl, rfl, rfl, by decide +kernel, rfl, by decide +kernel, by decide +kernel⟩
abbrev n_l_word : List Str := ["_law_source_here", "_law_world", "_law_at"]
theorem sc_l_word : FnScope n_l_word p_l_word (defScope s_l_word) := ⟨rfl, rfl, rfl, by decide +kernel, rfl, by decide +kernel, by decide +kernel⟩
abbrev n_l_number : List Str := ["_law_source_here", "_law_world", "_law_choice", "_law_size"]
theorem sc_l_number : FnScope n_l_number p_l_number (defScope s_l_number) := ⟨rfl, rfl, rfl, by decide +kernel, rfl, by decide +kernel, by decide +kernel⟩
abbrev n_l_node : List Str := ["_law_source_here", "_law_world", "_law_choice", "_law_depth", "_law_left", "_law_sign"]
theorem sc_l_node : FnScope n_l_node p_l_node (defScope s_l_node) := ⟨rfl, rfl, rfl, by decide +kernel, rfl, by decide +kernel, by decide +kernel⟩
abbrev n_l_expression : List Str := ["_law_source_here", "_law_world", "_law_depth", "_law_choice"]
theorem sc_l_expression : FnScope n_l_expression p_l_expression (defScope s_l_expression) := ⟨rfl, rfl, rfl, by decide +kernel, rfl, by decide +kernel, by decide +kernel⟩
abbrev n_l_kind : List Str := ["_law_source_here", "_law_world", "_law_wide", "_law_choice", "_law_low"]
theorem sc_l_kind : FnScope n_l_kind p_l_kind (defScope s_l_kind) := ⟨rfl, rfl, rfl, by decide +kernel, rfl, by decide +kernel, by decide +kernel⟩
abbrev n_l_count : List Str := ["_law_source_here", "_law_bound"]
theorem sc_l_count : FnScope n_l_count p_l_count (defScope s_l_count) := ⟨rfl, rfl, rfl, by decide +kernel, rfl, by decide +kernel, by decide +kernel⟩
abbrev n_l_pairs : List Str := ["_law_source_here", "_law_world", "_law_bound", "_law_wide", "_law_pairs_here", "_law_k"]
theorem sc_l_pairs : FnScope n_l_pairs p_l_pairs (defScope s_l_pairs) := ⟨rfl, rfl, rfl, by decide +kernel, rfl, by decide +kernel, by decide +kernel⟩
abbrev n_l_leaf : List Str := ["_law_source_here", "_law_world", "_law_signs", "_law_sign", "_law_first", "_law_second", "_law_told", "_law_ones", "_law_k"]
theorem sc_l_leaf : FnScope n_l_leaf p_l_leaf (defScope s_l_leaf) := ⟨rfl, rfl, rfl, by decide +kernel, rfl, by decide +kernel, by decide +kernel⟩
abbrev n_l_body : List Str := ["_law_source_here", "_law_world", "_law_upto", "_law_depth", "_law_body_here", "_law_k", "_law_choice", "_law_test", "_law_inner"]
theorem sc_l_body : FnScope n_l_body p_l_body (defScope s_l_body) := ⟨rfl, rfl, rfl, by decide +kernel, rfl, by decide +kernel, by decide +kernel⟩
abbrev n_l_program : List Str := ["_law_source_here", "_law_spare", "_law_world", "_law_k", "_law_records", "_law_arrays", "_law_length", "_law_pairs_here", "_law_functions", "_law_name_here", "_law_params", "_law_result", "_law_own", "_law_upto", "_law_body_here"]
theorem sc_l_program : FnScope n_l_program p_l_program (defScope s_l_program) := ⟨rfl, rfl, rfl, by decide +kernel, rfl, by decide +kernel, by decide +kernel⟩
abbrev n_l_joined : List Str := ["_law_lines_here", "_law_row"]
theorem sc_l_joined : FnScope n_l_joined p_l_joined (defScope s_l_joined) := ⟨rfl, rfl, rfl, by decide +kernel, rfl, by decide +kernel, by decide +kernel⟩
abbrev n_l_kind_text : List Str := ["_law_kind_here"]
theorem sc_l_kind_text : FnScope n_l_kind_text p_l_kind_text (defScope s_l_kind_text) := ⟨rfl, rfl, rfl, by decide +kernel, rfl, by decide +kernel, by decide +kernel⟩
abbrev n_l_text : List Str := ["_law_expression_here", "_law_sign"]
theorem sc_l_text : FnScope n_l_text p_l_text (defScope s_l_text) := ⟨rfl, rfl, rfl, by decide +kernel, rfl, by decide +kernel, by decide +kernel⟩
abbrev n_l_line : List Str := ["_law_statement", "_law_sign", "_law_shown", "_law_one_here"]
theorem sc_l_line : FnScope n_l_line p_l_line (defScope s_l_line) := ⟨rfl, rfl, rfl, by decide +kernel, rfl, by decide +kernel, by decide +kernel⟩
abbrev n_l_lines : List Str := ["_law_body_here", "_law_depth", "_law_lines_here", "_law_statement"]
theorem sc_l_lines : FnScope n_l_lines p_l_lines (defScope s_l_lines) := ⟨rfl, rfl, rfl, by decide +kernel, rfl, by decide +kernel, by decide +kernel⟩
abbrev n_l_function_lines : List Str := ["_law_head", "_law_shown", "_law_pair", "_law_first", "_law_own"]
theorem sc_l_function_lines : FnScope n_l_function_lines p_l_function_lines (defScope s_l_function_lines) := ⟨rfl, rfl, rfl, by decide +kernel, rfl, by decide +kernel, by decide +kernel⟩
abbrev n_l_program_lines : List Str := ["_law_program_here", "_law_lines_here", "_law_record", "_law_field", "_law_array", "_law_pair", "_law_head"]
theorem sc_l_program_lines : FnScope n_l_program_lines p_l_program_lines (defScope s_l_program_lines) := ⟨rfl, rfl, rfl, by decide +kernel, rfl, by decide +kernel, by decide +kernel⟩
abbrev n_l_same : List Str := ["_law_actual", "_law_due", "_law_k"]
theorem sc_l_same : FnScope n_l_same p_l_same (defScope s_l_same) := ⟨rfl, rfl, rfl, by decide +kernel, rfl, by decide +kernel, by decide +kernel⟩
abbrev n_law : List Str := ["_law_script", "_law_first", "_law_second", "_law_program_here", "_law_head"]
theorem sc_law : FnScope n_law p_law (defScope s_law) := ⟨rfl, rfl, rfl, by decide +kernel, rfl, by decide +kernel, by decide +kernel⟩
/-! ### built-in names -/
theorem bt_int : bootBuiltins "int" = some (.type "int") := by decide +kernel
theorem bt_str : bootBuiltins "str" = some (.type "str") := by decide +kernel
theorem bt_bool : bootBuiltins "bool" = some (.type "bool") := by decide +kernel
theorem bt_tuple : bootBuiltins "tuple" = some (.type "tuple") := by decide +kernel
theorem bt_list : bootBuiltins "list" = some (.type "list") := by decide +kernel
theorem bt_dict : bootBuiltins "dict" = some (.type "dict") := by decide +kernel
theorem bb_max : bootBuiltins "max" = some (.builtin "max") := by decide +kernel
theorem bb_min : bootBuiltins "min" = some (.builtin "min") := by decide +kernel
theorem bb_isinstance : bootBuiltins "isinstance" = some (.builtin "isinstance") := by decide +kernel
/-! ### a source of draws: a list of three ints, which draws alone change -/
def Src (H : Hp) (a : Addr) : Prop := ∃ c m k : Int, H a = some (.lst [.int c, .int m, .int k])
/-- a source stands at a, and nothing else that was tracked has changed -/
structure Stp (a : Addr) (H H' : Hp) : Prop where
  s : Src H' a
  k : ∀ b o, b ≠ a → H b = some o → H' b = some o
theorem Stp.refl {a : Addr} {H : Hp} (h : Src H a) : Stp a H H := ⟨h, fun _ _ _ e => e⟩
theorem Stp.trans {a : Addr} {H H1 H2 : Hp} (x : Stp a H H1) (y : Stp a H1 H2) : Stp a H H2 := ⟨y.s, fun b o hb e => y.k b o hb (x.k b o hb e)⟩
theorem Src.ne {a p : Addr} {H : Hp} (h : Src H a) (n : H p = none) : a ≠ p := by
  obtain ⟨c, m, k, h⟩ := h
  exact ne_of_none h n
theorem Stp.free {a p : Addr} {H H' : Hp} (x : Stp a H H') (n : H' p = none) : H p = none := by
  cases q : H p with
  | none => rfl
  | some o =>
    have ne : p ≠ a := fun z => x.s.ne n z.symm
    rw [x.k p o ne q] at n
    cases n
/-- a new object beside the source -/
theorem Stp.new {a p : Addr} {H H' : Hp} {o : HO} (x : Stp a H H') (n : H' p = none) : Stp a H (upd H' p o) := by
  have ne := x.s.ne n
  obtain ⟨c, m, k, h⟩ := x.s
  refine ⟨⟨c, m, k, by rw [upd_ne ne]; exact h⟩, fun b u hb e => ?_⟩
  have e' := x.k b u hb e
  rw [upd_ne (ne_of_none e' n)]
  exact e'
theorem Stp.same {a : Addr} {H H' H2 : Hp} (x : Stp a H H') (s : Same H' H2) : Stp a H H2 := by
  obtain ⟨c, m, k, h⟩ := x.s
  exact ⟨⟨c, m, k, s _ _ h⟩, fun b o hb e => s b o (x.k b o hb e)⟩
theorem Stp.of_same {a : Addr} {H H' : Hp} (h : Src H a) (s : Same H H') : Stp a H H' := (Stp.refl h).same s
theorem Same.new {H : Hp} {p : Addr} (h : H p = none) (o : HO) : Same H (upd H p o) := fun b u q => by rw [upd_ne (ne_of_none q h)]; exact q
/-- a source that is new ahead of its draws: all that was tracked stands -/
theorem Stp.fresh {a : Addr} {H H1 H2 : Hp} (s : Same H H1) (n : H a = none) (x : Stp a H1 H2) : Same H H2 := fun b o e => x.k b o (ne_of_none e n) (s b o e)
theorem Stp.rd {K : PySem.W.Frag} {a p : Addr} {H H' : Hp} {xs : List V} (x : Stp a H H') (h : SqT K H p xs) (hs : Src H a) : SqT K H' p xs := by
  obtain ⟨c, m, k, hs⟩ := hs
  rcases h with (h | ⟨o, h⟩) | h
  · exact .inl (.inl (x.k _ _ (ne_of h hs (by intro z; cases z)) h))
  · exact .inl (.inr ⟨o, x.k _ _ (ne_of h hs (by intro z; cases z)) h⟩)
  · exact .inr h
theorem Stp.rdL {K : PySem.W.Frag} {a p : Addr} {H H' : Hp} {xs : List V} (x : Stp a H H') (h : SqL K H p xs) (ne : p ≠ a) : SqL K H' p xs := by
  rcases h with (h | ⟨o, h⟩) | h
  · exact .inl (.inl (x.k _ _ ne h))
  · exact .inl (.inr ⟨o, x.k _ _ ne h⟩)
  · exact .inr h
theorem Same.tup {K : PySem.W.Frag} {p : Addr} {H H' : Hp} {xs : List V} (x : Same H H') (h : SqT K H p xs) : SqT K H' p xs := by
  rcases h with (h | ⟨o, h⟩) | h
  · exact .inl (.inl (x _ _ h))
  · exact .inl (.inr ⟨o, x _ _ h⟩)
  · exact .inr h
/-! ### numbers -/
theorem ifT {c : Bool} {A B : Prop} (h : c = true) (a : A) : if c = true then A else B := by rw [if_pos h]; exact a
theorem ifF {c : Bool} {A B : Prop} (h : c = false) (b : B) : if c = true then A else B := by rw [h]; exact iteF b
theorem fmod_bd {x m : Int} (h : 0 < m) : 0 ≤ x.fmod m ∧ x.fmod m < m := ⟨Int.fmod_nonneg_of_pos x h, Int.fmod_lt_of_pos x h⟩
theorem fm64 {x m : Int} (h : 0 < m) (h2 : m ≤ 2 ^ 64) : -(2 ^ 64) < x.fmod m ∧ x.fmod m < 2 ^ 64 :=
  ⟨Int.lt_of_lt_of_le (by decide) (fmod_bd h).1, Int.lt_of_lt_of_le (fmod_bd h).2 h2⟩
theorem atI_int {α : Type} {xs : List α} {r : Int} (h0 : 0 ≤ r) (h : r.toNat < xs.length) : atI xs r = some xs[r.toNat] := by
  have e := atI_nat (xs := xs) (j := r.toNat) (List.getElem?_eq_getElem h)
  rwa [Int.toNat_of_nonneg h0] at e
/-! ### the promises of the draws -/
def spCell (K : PySem.W.Frag) : Sp := fun vs H Q _ => ∃ (l : Addr) (ns : List Int) (j : Int), vs = [.ref l, .int j] ∧ SqL K H l (ns.map V.int) ∧ 0 ≤ j ∧ ∀ i : Int, Q (.int i) H
def spSource : Sp := fun vs H Q _ => ∃ c : Int, vs = [.int c] ∧ ∀ p H', H p = none → Same H H' → Src H' p → Q (.ref p) H'
def spPick : Sp := fun vs H Q _ => ∃ (a : Addr) (n : Int), vs = [.ref a, .int n] ∧ Src H a ∧ n < 1073741824 ∧ ∀ (r : Int) (H' : Hp), Stp a H H' → 0 ≤ r → (r < n ∨ r = 0) → Q (.int r) H'
def spOne (K : PySem.W.Frag) : Sp := fun vs H Q _ => ∃ (a : Addr) (row : V), vs = [.ref a, row] ∧ Src H a ∧
  ((∃ (p : Addr) (xs : List V), row = .ref p ∧ p ≠ a ∧ SqL K H p xs ∧ 0 < xs.length ∧ xs.length < 1000 ∧ ∀ v H', v ∈ xs → Stp a H H' → Q v H') ∨
   (∃ z : Str, row = .str z ∧ 0 < z.length ∧ z.length < 1000 ∧ ∀ (c : Nat) H', c ∈ z.cps.toList → Stp a H H' → Q (.str ⟨#[c]⟩) H'))
section
variable {P : Program} {w : World} {K : PySem.W.Frag} {mg : Str → Option Value} {base : Heap}
theorem ok_l_cell (T : Txt w K mg) : FnOk P w K mg base CX0 1 T.a_l_cell T.d_l_cell p_l_cell (spCell K) := by
  refine T.F_l_cell.ok sc_l_cell (fun vs H Q E h => ?_) (fun cdv A outer s H vs Q E hr h => ?_)
  · obtain ⟨l, ns, j, rfl, _⟩ := h
    rfl
  obtain ⟨l, ns, j, rfl, hS, h0, q⟩ := h
  refine ⟨_, (pss_cons (ps_if (pt_cmpR op_lt (pv 1) (pe_callB call_len_seq rfl T.z_len PySem.boot_len (pa_cons (pv 0) pa_nil)) (nomark _)) (pss_one (ps_ret (pe_ix ix_list (pv 0) (pv 1) (fun _ _ => rfl)))) pss_nil)
      (pss_one (ps_ret pe_int))), ?_⟩
  have hl : (ns.map V.int).length = ns.length := List.length_map _
  refine ⟨_, rfl, _, rfl, l, _, rfl, .inl hS, _, _, rfl, rfl, _, rfl, ?_⟩
  refine ite2 (fun c => ?_) (fun c => ?_)
  · have c' : j < (((ns.map V.int).length : Nat) : Int) := of_decide_eq_true c
    rw [hl] at c'
    have hk : j.toNat < ns.length := by omega
    have e := atI_int (xs := ns.map V.int) h0 (by omega)
    rw [List.getElem_map] at e
    exact ⟨_, rfl, _, rfl, l, _, _, _, rfl, rfl, hS, e, q _⟩
  · exact q 0
theorem ok_l_source (T : Txt w K mg) : FnOk P w K mg base CX0 1 T.a_l_source T.d_l_source p_l_source spSource := by
  refine T.F_l_source.ok sc_l_source (fun vs H Q E h => ?_) (fun cdv A outer s H vs Q E hr h => ?_)
  · obtain ⟨c, rfl, _⟩ := h
    rfl
  obtain ⟨c, rfl, q⟩ := h
  refine ⟨_, (pss_one (ps_ret (pe_lst (pa_cons (pv 0) (pa_cons (pv 0) (pa_cons pe_int pa_nil)))))), ?_⟩
  refine ⟨_, rfl, _, rfl, (by show 3 ≤ sizeLine; decide), fun p hp => ?_⟩
  exact q p _ hp (Same.new hp _) ⟨c, c, 0, upd_same⟩
theorem ok_l_pick (T : Txt w K mg) : FnOk P w K mg base CX0 1 T.a_l_pick T.d_l_pick p_l_pick spPick := by
  refine T.F_l_pick.ok sc_l_pick (fun vs H Q E h => ?_) (fun cdv A outer s H vs Q E hr h => ?_)
  · obtain ⟨a, n, rfl, _⟩ := h
    rfl
  obtain ⟨a, n, rfl, ⟨c, m, k, hS⟩, hn, q⟩ := h
  refine ⟨_, (pss_cons (ps_set (i := 2) sc_l_pick.nd rfl (Or.inl rfl) (pe_ix ix_list (pv 0) pe_int (fun _ _ => rfl)))
      (pss_cons (ps_asg (pe_op op_add (pv 2) pe_int) (pg_sub (pv 0) pe_int set_list))
      (pss_cons (ps_if (pt_cmpR op_lt (pv 1) pe_int (nomark _)) (pss_one (ps_ret pe_int)) pss_nil)
      (pss_cons (ps_if (PW.pt (pw_and (pt_cmpR op_ge (pe_ix ix_list (pv 0) pe_int (fun _ _ => rfl)) (pe_op op_pow pe_int pe_int) (nomark _)) (pw_and1 (pt_cmpR op_gt (pe_ix ix_list (pv 0) pe_int (fun _ _ => rfl)) pe_int (nomark _))))) (pss_cons (ps_set (i := 3) sc_l_pick.nd rfl (Or.inl rfl) (pe_op op_modN (pe_callTy call_int1 rfl T.z_int bt_int (pa_cons (pe_ix ix_list (pv 0) pe_int (fun _ _ => rfl)) pa_nil)) (pv 1)))
      (pss_cons (ps_asg (pe_op op_fdivN (pe_ix ix_list (pv 0) pe_int (fun _ _ => rfl)) (pv 1)) (pg_sub (pv 0) pe_int set_list))
      (pss_one (ps_ret (pv 3))))) pss_nil)
      (pss_cons (ps_set (i := 4) sc_l_pick.nd rfl (Or.inl rfl) (pe_op op_modN (pe_callTy call_int1 rfl T.z_int bt_int (pa_cons (pe_op op_add (pe_op op_add (pe_ix ix_list (pv 0) pe_int (fun _ _ => rfl)) (pe_op op_mul pe_int (pv 2))) pe_int) pa_nil)) pe_int))
      (pss_cons (ps_set (i := 4) sc_l_pick.nd rfl (Or.inl rfl) (pe_op op_modN (pe_callTy call_int1 rfl T.z_int bt_int (pa_cons (pe_op op_mul (pv 4) (pe_op op_add (pv 4) pe_int)) pa_nil)) pe_int))
      (pss_cons (ps_set (i := 4) sc_l_pick.nd rfl (Or.inl rfl) (pe_op op_modN (pe_callTy call_int1 rfl T.z_int bt_int (pa_cons (pe_op op_add (pe_op op_mul (pv 4) (pe_op op_add (pv 4) pe_int)) (pe_op op_mul pe_int (pv 2))) pa_nil)) pe_int))
      (pss_one (ps_ret (pe_op op_modN (pe_callTy call_int1 rfl T.z_int bt_int (pa_cons (pe_op op_fdivN (pv 4) pe_int) pa_nil)) (pv 1))))))))))), ?_⟩
  refine ⟨_, rfl, a, _, 2, _, rfl, rfl, SqL.of hS, rfl, ?_⟩
  refine ⟨_, rfl, k, 1, rfl, rfl, _, rfl, a, _, 2, 2, rfl, rfl, hS, rfl, ?_⟩
  have h1 : (upd H a (.lst [.int c, .int m, .int (k + 1)])) a = some (.lst [.int c, .int m, .int (k + 1)]) := upd_same
  have st : Stp a H (upd H a (.lst [.int c, .int m, .int (k + 1)])) := ⟨⟨c, m, k + 1, upd_same⟩, fun b o hb e => by rw [upd_ne hb]; exact e⟩
  refine ⟨_, rfl, n, 2, rfl, rfl, _, rfl, ?_⟩
  refine ite2 (fun _ => ?_) (fun c2 => ?_)
  · exact q 0 _ st (Int.le_refl 0) (.inr rfl)
  have hn2 : ¬ n < 2 := of_decide_eq_false (Bool.eq_false_iff.mpr c2)
  refine ⟨_, rfl, a, _, 0, _, rfl, rfl, SqL.of h1, rfl, 10, 18, rfl, rfl, ⟨by decide, by decide, by decide⟩, _, _, rfl, rfl, _, rfl, ?_⟩
  refine ite2 (fun _ => ⟨_, rfl, a, _, 1, _, rfl, rfl, SqL.of h1, rfl, _, _, rfl, rfl, _, rfl, ite2 (fun _ => ?first) (fun _ => ?second)⟩) (fun _ => iteF ?third)
  case first =>
    refine ⟨_, rfl, a, _, 1, _, rfl, rfl, SqL.of h1, rfl, .inl ⟨_, rfl, ?_⟩⟩
    refine ⟨_, rfl, _, _, rfl, rfl, by omega, ?_⟩
    refine ⟨_, rfl, a, _, 1, _, rfl, rfl, SqL.of h1, rfl, _, rfl, m, n, rfl, rfl, ⟨by omega, by omega⟩, _, rfl, a, _, 1, 1, rfl, rfl, h1, rfl, ?_⟩
    refine ⟨_, rfl, ?_⟩
    have b := fmod_bd (x := m) (m := n) (by omega)
    refine q _ _ ⟨⟨c, m.fdiv n, k + 1, upd_same⟩, fun b o hb e => ?_⟩ b.1 (.inl b.2)
    rw [upd_ne hb]
    exact st.k b o hb e
  all_goals
    refine ⟨_, rfl, a, _, 0, _, rfl, rfl, SqL.of h1, rfl, _, rfl, 7919, k, rfl, rfl, .inl ⟨by decide, by decide⟩, _, _, rfl, rfl, _, _, rfl, rfl, .inl ⟨_, rfl, ?_⟩⟩
    refine ⟨_, _, rfl, rfl, (by intro z; cases z), ?_⟩
    refine ⟨_, rfl, _, rfl, _, _, rfl, rfl, _, _, rfl, rfl, .inl (fm64 (by decide) (by decide)), .inl ⟨_, rfl, ?_⟩⟩
    refine ⟨_, _, rfl, rfl, (by intro z; cases z), ?_⟩
    refine ⟨_, rfl, _, rfl, _, _, rfl, rfl, _, _, rfl, rfl, .inl (fm64 (by decide) (by decide)), _, rfl, 31, k, rfl, rfl, .inl ⟨by decide, by decide⟩, _, _, rfl, rfl, .inl ⟨_, rfl, ?_⟩⟩
    refine ⟨_, _, rfl, rfl, (by intro z; cases z), ?_⟩
    refine ⟨_, rfl, _, _, rfl, rfl, ⟨by decide, by decide⟩, .inl ⟨_, rfl, ?_⟩⟩
    refine ⟨_, rfl, _, _, rfl, rfl, (by omega), ?_⟩
    exact q _ _ st (fmod_bd (by omega)).1 (.inl (fmod_bd (by omega)).2)
theorem ok_l_one (T : Txt w K mg) : FnOk P w K mg base CX0 2 T.a_l_one T.d_l_one p_l_one (spOne K) := by
  have g_l_pick := ok_l_pick (P := P) (w := w) (base := base) T
  refine T.F_l_one.ok sc_l_one (fun vs H Q E h => ?_) (fun cdv A outer s H vs Q E hr h => ?_)
  · obtain ⟨a, row, rfl, _⟩ := h
    rfl
  obtain ⟨a, row, rfl, hS, h⟩ := h
  refine ⟨_, (pss_one (ps_ret (pe_ix ix_seq (pv 1) (pe_call g_l_pick (hr.mono (by first | decide | omega)) rfl T.m_l_pick T.F_l_pick.kp T.b_l_pick .nil pass0 (pa_cons (pv 0) (pa_cons (pe_callB call_len rfl T.z_len PySem.boot_len (pa_cons (pv 1) pa_nil)) pa_nil))) (fun _ _ => rfl)))), ?_⟩
  rcases h with ⟨p, xs, rfl, ne, hx, h0, h9, q⟩ | ⟨z, rfl, h0, h9, q⟩
  · refine ⟨_, rfl, _, rfl, _, rfl, .ref p, xs.length, rfl, .inl ⟨_, hx, rfl⟩, ?_⟩
    refine ⟨a, _, rfl, hS, by omega, fun r H' st r0 r1 => ?_⟩
    have hr' : r.toNat < xs.length := by omega
    have e := atI_int (xs := xs) r0 hr'
    exact .inl ⟨p, xs, r, _, rfl, rfl, st.rdL hx ne, e, q _ _ (List.getElem_mem hr') st⟩
  · refine ⟨_, rfl, _, rfl, _, rfl, .str z, z.length, rfl, ⟨Nat.le_of_lt (small1000 (by omega)), rfl⟩, ?_⟩
    refine ⟨a, _, rfl, hS, by omega, fun r H' st r0 r1 => ?_⟩
    have ez : z.length = z.cps.toList.length := by simp [Str.length]
    have hr' : r.toNat < z.cps.toList.length := by omega
    have e := atI_int (xs := z.cps.toList) r0 hr'
    exact .inr (.inr ⟨z, r, _, rfl, rfl, Nat.le_of_lt (small1000 (by omega)), e, q _ _ (List.getElem_mem hr') st⟩)
end
/-! ### data: equal data are the same to _law_same -/
def Dok : Nat → PyData → Prop
  | 0, _ => False
  | _ + 1, .none => True
  | _ + 1, .bool _ => True
  | _ + 1, .int _ => True
  | _ + 1, .str _ => True
  | n + 1, .tuple ds => ds.length ≤ 100000 ∧ ∀ d ∈ ds, Dok n d
  | n + 1, .list ds => ds.length ≤ 100000 ∧ ∀ d ∈ ds, Dok n d
  | _ + 1, .dict _ => False
theorem dpAll_len {K : PySem.W.Frag} {H : Hp} : ∀ {vs : List V} {ds : List PyData}, DpAll K H vs ds → vs.length = ds.length
  | _, _, .nil => rfl
  | _, _, .cons _ r => congrArg (· + 1) (dpAll_len r)
theorem dpAll_get {K : PySem.W.Frag} {H : Hp} : ∀ {vs : List V} {ds : List PyData} {i : Nat} {d : PyData}, DpAll K H vs ds → ds[i]? = some d → ∃ v, vs[i]? = some v ∧ Dp K H v d
  | _, _, _, _, .nil, e => by simp at e
  | _, _, 0, d, .cons h _, e => by
    simp at e
    subst e
    exact ⟨_, rfl, h⟩
  | _, _, i + 1, d, .cons _ r, e => by
    obtain ⟨v, h1, h2⟩ := dpAll_get (i := i) r (by simpa using e)
    exact ⟨v, by simpa using h1, h2⟩
theorem tyL {K : PySem.W.Frag} {H : Hp} {a : Addr} {xs : List V} (h : SqL K H a xs) : TyX K H (.ref a) (.type "list") := by
  rcases h with (h | ⟨o, h⟩) | ⟨o, its, n, h, c, _⟩
  · exact .base (.lst h)
  · exact .base (.frz h)
  · exact .kList h c
theorem tyT {K : PySem.W.Frag} {H : Hp} {a : Addr} {xs : List V} (h : SqT K H a xs) : TyX K H (.ref a) (.type "tuple") := by
  rcases h with (h | ⟨o, h⟩) | ⟨o, its, n, h, c, _⟩
  · exact .base (.tup h)
  · exact .fTuple h
  · exact .kTuple h c
theorem isi {K : PySem.W.Frag} {H : Hp} {Q : VK} {x : V} {t c : String} (b : Bool) (ty : TyX K H x (.type t)) (kb : kitB t c = some b) (q : Q (.bl b) H) : rIsi K [x, .ty c] H Q := ⟨x, .ty c, _, _, b, rfl, .ty c, ty, kit_ty kb, q⟩
theorem kb_nt : kitB "NoneType" "tuple" = some false := by decide +kernel
theorem kb_nl : kitB "NoneType" "list" = some false := by decide +kernel
theorem kb_bt : kitB "bool" "tuple" = some false := by decide +kernel
theorem kb_bl : kitB "bool" "list" = some false := by decide +kernel
theorem kb_bb : kitB "bool" "bool" = some true := by decide +kernel
theorem kb_it : kitB "int" "tuple" = some false := by decide +kernel
theorem kb_il : kitB "int" "list" = some false := by decide +kernel
theorem kb_ib : kitB "int" "bool" = some false := by decide +kernel
theorem kb_ii : kitB "int" "int" = some true := by decide +kernel
theorem kb_st : kitB "str" "tuple" = some false := by decide +kernel
theorem kb_sl : kitB "str" "list" = some false := by decide +kernel
theorem kb_sb : kitB "str" "bool" = some false := by decide +kernel
theorem kb_si : kitB "str" "int" = some false := by decide +kernel
theorem kb_ss : kitB "str" "str" = some true := by decide +kernel
theorem kb_tt : kitB "tuple" "tuple" = some true := by decide +kernel
theorem kb_tl : kitB "tuple" "list" = some false := by decide +kernel
theorem kb_lt : kitB "list" "tuple" = some false := by decide +kernel
theorem kb_ll : kitB "list" "list" = some true := by decide +kernel
def spSame (K : PySem.W.Frag) (n : Nat) : Sp := fun vs H Q _ => ∃ (x y : V) (d : PyData), vs = [x, y] ∧ Dp K H x d ∧ Dp K H y d ∧ Dok n d ∧ Q (.bl true) H
section
variable {P : Program} {w : World} {K : PySem.W.Frag} {mg : Str → Option Value} {base : Heap}
theorem ok_l_same0 (T : Txt w K mg) : FnOk P w K mg base CX0 0 T.a_l_same T.d_l_same p_l_same (spSame K 0) := by
  have no : ∀ vs H Q E, ¬ spSame K 0 vs H Q E := fun vs H Q E h => by
    obtain ⟨x, y, d, _, _, _, h, _⟩ := h
    exact h
  exact ⟨fun vs H Q E h => absurd h (no vs H Q E), fun A outer s H args us vs Q E _ _ _ _ h => absurd h (no vs H Q E)⟩
/-- the part for two lists or two tuples -/
theorem same_seq {n : Nat} {H : Hp} {p r : Addr} {xs ys : List V} {ds : List PyData} (h1 : SqL K H p xs ∨ SqT K H p xs) (h2 : SqL K H r ys ∨ SqT K H r ys) (d1 : DpAll K H xs ds) (d2 : DpAll K H ys ds)
    (hd : ∀ d ∈ ds, Dok n d) {i : Nat} (hi : i < ds.length) {R : V → Hp → Prop} (q : R (.bl true) H) :
    tCall (spSame K n) [] E0 (tCons (tOp (rIx K) (tVar 0) (tVar 2)) (tCons (tOp (rIx K) (tVar 1) (tVar 2)) tNil)) [some (.ref p), some (.ref r), some (.int (0 + (i : Int)))] H R := by
  obtain ⟨x, e1, q1⟩ := dpAll_get (i := i) d1 (List.getElem?_eq_getElem hi)
  obtain ⟨y, e2, q2⟩ := dpAll_get (i := i) d2 (List.getElem?_eq_getElem hi)
  have a1 : atI xs (0 + (i : Int)) = some x := by rw [Int.zero_add]; exact atI_nat e1
  have a2 : atI ys (0 + (i : Int)) = some y := by rw [Int.zero_add]; exact atI_nat e2
  have k2 : tOp (rIx K) (tVar 1) (tVar 2) [some (.ref p), some (.ref r), some (.int (0 + (i : Int)))] H (fun v H' => tNil [some (.ref p), some (.ref r), some (.int (0 + (i : Int)))] H' fun vs H'' => spSame K n ((x :: v :: vs) ++ []) H'' R E0) := by
    refine ⟨_, rfl, _, rfl, ?_⟩
    have z : spSame K n [x, y] H R E0 := ⟨x, y, _, rfl, q1, q2, hd _ (List.getElem_mem hi), q⟩
    rcases h2 with h2 | h2
    · exact .inl ⟨r, _, _, _, rfl, rfl, h2, a2, z⟩
    · exact .inr (.inl ⟨r, _, _, _, rfl, rfl, h2, a2, z⟩)
  refine ⟨_, rfl, _, rfl, ?_⟩
  rcases h1 with h1 | h1
  · exact .inl ⟨p, _, _, _, rfl, rfl, h1, a1, k2⟩
  · exact .inr (.inl ⟨p, _, _, _, rfl, rfl, h1, a1, k2⟩)
theorem ok_l_same (T : Txt w K mg) : ∀ n : Nat, FnOk P w K mg base CX0 n T.a_l_same T.d_l_same p_l_same (spSame K n)
  | 0 => ok_l_same0 T
  | n + 1 => by
    have g_l_same := ok_l_same T n
    refine T.F_l_same.ok sc_l_same (fun vs H Q E h => ?_) (fun cdv A outer s H vs Q E hr h => ?_)
    · obtain ⟨x, y, d, rfl, _⟩ := h
      rfl
    obtain ⟨x, y, d, rfl, hx, hy, hd, q⟩ := h
    refine ⟨_, (pss_cons (ps_if (PW.pt (pw_or (pt_val (pe_callB call_isi rfl T.z_isinstance bb_isinstance (pa_cons (pv 1) (pa_cons (pe_bltn (v := .ty "tuple") rfl T.z_tuple bt_tuple rfl) pa_nil)))) (pw_or1 (pt_val (pe_callB call_isi rfl T.z_isinstance bb_isinstance (pa_cons (pv 1) (pa_cons (pe_bltn (v := .ty "list") rfl T.z_list bt_list rfl) pa_nil))))))) (pss_cons (ps_if (PW.pt (pw_or (pt_cmpR op_ne (pe_callB call_isi rfl T.z_isinstance bb_isinstance (pa_cons (pv 1) (pa_cons (pe_bltn (v := .ty "tuple") rfl T.z_tuple bt_tuple rfl) pa_nil))) (pe_callB call_isi rfl T.z_isinstance bb_isinstance (pa_cons (pv 0) (pa_cons (pe_bltn (v := .ty "tuple") rfl T.z_tuple bt_tuple rfl) pa_nil))) (nomark _)) (pw_or1 (pt_cmpR op_ne (pe_callB call_isi rfl T.z_isinstance bb_isinstance (pa_cons (pv 1) (pa_cons (pe_bltn (v := .ty "list") rfl T.z_list bt_list rfl) pa_nil))) (pe_callB call_isi rfl T.z_isinstance bb_isinstance (pa_cons (pv 0) (pa_cons (pe_bltn (v := .ty "list") rfl T.z_list bt_list rfl) pa_nil))) (nomark _))))) (pss_one (ps_ret pe_bl)) pss_nil)
      (pss_cons (ps_if (pt_cmpR op_ne (pe_callB call_len_seq rfl T.z_len PySem.boot_len (pa_cons (pv 0) pa_nil)) (pe_callB call_len_seq rfl T.z_len PySem.boot_len (pa_cons (pv 1) pa_nil)) (nomark _)) (pss_one (ps_ret pe_bl)) pss_nil)
      (pss_cons (ps_for PassesOwn.never rfl (pi_range1 rfl T.z_range (pa_cons (pe_callB call_len_seq rfl T.z_len PySem.boot_len (pa_cons (pv 1) pa_nil)) pa_nil)) (pg_name (i := 2) sc_l_same.nd rfl (Or.inl rfl))
        (pss_one (ps_if (pt_not (pt_val (pe_call g_l_same (hr.mono (by first | decide | omega)) rfl T.m_l_same T.F_l_same.kp T.b_l_same .nil pass0 (pa_cons (pe_ix ix_seq (pv 0) (pv 2) (fun _ _ => rfl)) (pa_cons (pe_ix ix_seq (pv 1) (pv 2) (fun _ _ => rfl)) pa_nil))))) (pss_one (ps_ret pe_bl)) pss_nil)))
      (pss_one (ps_ret pe_bl))))) pss_nil)
      (pss_cons (ps_if (pt_cmpR op_isN (pv 1) pe_non (nomark _)) (pss_one (ps_ret (pe_cmpR op_isN (pv 0) pe_non (nomark _)))) pss_nil)
      (pss_cons (ps_if (pt_val (pe_callB call_isi rfl T.z_isinstance bb_isinstance (pa_cons (pv 1) (pa_cons (pe_bltn (v := .ty "bool") rfl T.z_bool bt_bool rfl) pa_nil)))) (pss_one (ps_ret (pe_and (pe_callB call_isi rfl T.z_isinstance bb_isinstance (pa_cons (pv 0) (pa_cons (pe_bltn (v := .ty "bool") rfl T.z_bool bt_bool rfl) pa_nil))) (pe_one (pe_cmpR op_eq (pv 0) (pv 1) (nomark _)))))) pss_nil)
      (pss_cons (ps_if (pt_val (pe_callB call_isi rfl T.z_isinstance bb_isinstance (pa_cons (pv 1) (pa_cons (pe_bltn (v := .ty "int") rfl T.z_int bt_int rfl) pa_nil)))) (pss_one (ps_ret (pe_and (pe_callB call_isi rfl T.z_isinstance bb_isinstance (pa_cons (pv 0) (pa_cons (pe_bltn (v := .ty "int") rfl T.z_int bt_int rfl) pa_nil))) (pe_and (pe_not (pe_callB call_isi rfl T.z_isinstance bb_isinstance (pa_cons (pv 0) (pa_cons (pe_bltn (v := .ty "bool") rfl T.z_bool bt_bool rfl) pa_nil)))) (pe_one (pe_cmpR op_eq (pv 0) (pv 1) (nomark _))))))) pss_nil)
      (pss_one (ps_ret (pe_and (pe_callB call_isi rfl T.z_isinstance bb_isinstance (pa_cons (pv 0) (pa_cons (pe_bltn (v := .ty "str") rfl T.z_str bt_str rfl) pa_nil))) (pe_one (pe_cmpR op_eq (pv 0) (pv 1) (nomark _)))))))))), ?_⟩
    cases hx with
    | non =>
      cases hy
      refine ⟨_, rfl, _, _, _, _, false, rfl, .ty _, (.base .non), kit_ty kb_nt, ⟨_, rfl, iteF ⟨_, rfl, _, _, _, _, false, rfl, .ty _, (.base .non), kit_ty kb_nl, ⟨_, rfl, iteF ?_⟩⟩⟩⟩
      refine ⟨_, rfl, rfl, _, rfl, iteT ?_⟩
      exact ⟨_, rfl, rfl, q⟩
    | bl b =>
      cases hy
      refine ⟨_, rfl, _, _, _, _, false, rfl, .ty _, (.base (.bl _)), kit_ty kb_bt, ⟨_, rfl, iteF ⟨_, rfl, _, _, _, _, false, rfl, .ty _, (.base (.bl _)), kit_ty kb_bl, ⟨_, rfl, iteF ?_⟩⟩⟩⟩
      refine ⟨_, rfl, rfl, _, rfl, iteF ?_⟩
      refine ⟨_, rfl, _, _, _, _, true, rfl, .ty _, (.base (.bl _)), kit_ty kb_bb, ⟨_, rfl, iteT ?_⟩⟩
      refine ⟨_, rfl, _, _, _, _, true, rfl, .ty _, (.base (.bl _)), kit_ty kb_bb, ⟨_, rfl, iteT ?_⟩⟩
      refine ⟨_, rfl, _, rfl, rfl, ?_⟩
      rw [decide_eq_true rfl]
      exact q
    | int b =>
      cases hy
      refine ⟨_, rfl, _, _, _, _, false, rfl, .ty _, (.base (.int _)), kit_ty kb_it, ⟨_, rfl, iteF ⟨_, rfl, _, _, _, _, false, rfl, .ty _, (.base (.int _)), kit_ty kb_il, ⟨_, rfl, iteF ?_⟩⟩⟩⟩
      refine ⟨_, rfl, rfl, _, rfl, iteF ?_⟩
      refine ⟨_, rfl, _, _, _, _, false, rfl, .ty _, (.base (.int _)), kit_ty kb_ib, ⟨_, rfl, iteF ?_⟩⟩
      refine ⟨_, rfl, _, _, _, _, true, rfl, .ty _, (.base (.int _)), kit_ty kb_ii, ⟨_, rfl, iteT ?_⟩⟩
      refine ⟨_, rfl, _, _, _, _, true, rfl, .ty _, (.base (.int _)), kit_ty kb_ii, ⟨_, rfl, iteT ?_⟩⟩
      refine ⟨_, rfl, _, _, _, _, false, rfl, .ty _, (.base (.int _)), kit_ty kb_ib, ⟨_, rfl, _, rfl, iteT ?_⟩⟩
      refine ⟨_, rfl, _, rfl, rfl, ?_⟩
      rw [decide_eq_true rfl]
      exact q
    | str b =>
      cases hy
      refine ⟨_, rfl, _, _, _, _, false, rfl, .ty _, (.base (.str _)), kit_ty kb_st, ⟨_, rfl, iteF ⟨_, rfl, _, _, _, _, false, rfl, .ty _, (.base (.str _)), kit_ty kb_sl, ⟨_, rfl, iteF ?_⟩⟩⟩⟩
      refine ⟨_, rfl, rfl, _, rfl, iteF ?_⟩
      refine ⟨_, rfl, _, _, _, _, false, rfl, .ty _, (.base (.str _)), kit_ty kb_sb, ⟨_, rfl, iteF ?_⟩⟩
      refine ⟨_, rfl, _, _, _, _, false, rfl, .ty _, (.base (.str _)), kit_ty kb_si, ⟨_, rfl, iteF ?_⟩⟩
      refine ⟨_, rfl, _, _, _, _, true, rfl, .ty _, (.base (.str _)), kit_ty kb_ss, ⟨_, rfl, iteT ?_⟩⟩
      refine ⟨_, rfl, _, rfl, rfl, ?_⟩
      rw [decide_eq_true rfl]
      exact q
    | @lst p xs ds h1 d1 =>
      cases hy with
      | @lst r ys _ h2 d2 =>
      have l1 := dpAll_len d1
      have l2 := dpAll_len d2
      obtain ⟨hlen, hd⟩ := hd
      refine ⟨_, rfl, _, _, _, _, false, rfl, .ty _, (tyL h2), kit_ty kb_lt, ⟨_, rfl, iteF ⟨_, rfl, _, _, _, _, true, rfl, .ty _, (tyL h2), kit_ty kb_ll, ⟨_, rfl, iteT ?_⟩⟩⟩⟩
      refine ⟨_, rfl, _, _, _, _, false, rfl, .ty _, (tyL h2), kit_ty kb_lt, ⟨_, rfl, _, _, _, _, false, rfl, .ty _, (tyL h1), kit_ty kb_lt, ⟨rfl, _, rfl, iteF ?_⟩⟩⟩
      refine ⟨_, rfl, _, _, _, _, true, rfl, .ty _, (tyL h2), kit_ty kb_ll, ⟨_, rfl, _, _, _, _, true, rfl, .ty _, (tyL h1), kit_ty kb_ll, ⟨rfl, _, rfl, iteF ?_⟩⟩⟩
      refine ⟨_, rfl, p, _, rfl, .inl h1, _, rfl, r, _, rfl, .inl h2, rfl, _, rfl, ?_⟩
      refine iteNS (congrArg V.int (by omega)) ?_
      refine ⟨_, rfl, r, _, rfl, .inl h2, _, rfl, by omega, by omega, for_range (lo := 0) (fun i σ H' => H' = H ∧ ∃ v : Option V, σ = [some (.ref p), some (.ref r), v]) ⟨rfl, none, rfl⟩ ?_ ?_⟩
      · rintro i σ H' hi ⟨rfl, v, rfl⟩
        refine same_seq (.inl h1) (.inl h2) d1 d2 hd (by omega) ⟨_, rfl, iteF ?_⟩
        exact ⟨rfl, _, rfl⟩
      · rintro σ H' ⟨rfl, v, rfl⟩
        exact q
    | @tup p xs ds h1 d1 =>
      cases hy with
      | @tup r ys _ h2 d2 =>
      have l1 := dpAll_len d1
      have l2 := dpAll_len d2
      obtain ⟨hlen, hd⟩ := hd
      refine ⟨_, rfl, _, _, _, _, true, rfl, .ty _, (tyT h2), kit_ty kb_tt, ⟨_, rfl, iteT ?_⟩⟩
      refine ⟨_, rfl, _, _, _, _, true, rfl, .ty _, (tyT h2), kit_ty kb_tt, ⟨_, rfl, _, _, _, _, true, rfl, .ty _, (tyT h1), kit_ty kb_tt, ⟨rfl, _, rfl, iteF ?_⟩⟩⟩
      refine ⟨_, rfl, _, _, _, _, false, rfl, .ty _, (tyT h2), kit_ty kb_tl, ⟨_, rfl, _, _, _, _, false, rfl, .ty _, (tyT h1), kit_ty kb_tl, ⟨rfl, _, rfl, iteF ?_⟩⟩⟩
      refine ⟨_, rfl, p, _, rfl, .inr h1, _, rfl, r, _, rfl, .inr h2, rfl, _, rfl, ?_⟩
      refine iteNS (congrArg V.int (by omega)) ?_
      refine ⟨_, rfl, r, _, rfl, .inr h2, _, rfl, by omega, by omega, for_range (lo := 0) (fun i σ H' => H' = H ∧ ∃ v : Option V, σ = [some (.ref p), some (.ref r), v]) ⟨rfl, none, rfl⟩ ?_ ?_⟩
      · rintro i σ H' hi ⟨rfl, v, rfl⟩
        refine same_seq (.inr h1) (.inr h2) d1 d2 hd (by omega) ⟨_, rfl, iteF ?_⟩
        exact ⟨rfl, _, rfl⟩
      · rintro σ H' ⟨rfl, v, rfl⟩
        exact q
end
/-! ### a zip of two tuples in a comprehension -/
theorem lc_zipT {K : PySem.W.Frag} {a b : Addr} {xs ys : List V} {g : TG} {tt : TT} {te : TE} {vs : List Nat} {σ : L2.St} {H1 : Hp} {D : Addr} {Qd : Hp → Prop} (hl : xs.length = ys.length) (Pv : Nat → Hp → Prop) (h0 : Pv 0 (upd H1 D (.lst []))) (hq : ∀ i H, Pv i H → SqT K H a xs ∧ SqT K H b ys)
    (hs : ∀ (i : Nat) (x y : V) (t : Addr) (H : Hp), xs[i]? = some x → ys[i]? = some y → Pv i H → H t = none → g (.ref t) (wipe σ vs) (upd H t (.tup [x, y])) fun σ2 H2 => wipe σ2 vs = wipe σ vs ∧ tt σ2 H2 fun k H3 =>
      if k = true then te σ2 H3 fun z H4 => ∃ acc, H4 D = some (.lst acc) ∧ acc.length < sizeLine ∧ Pv (i + 1) (upd H4 D (.lst (acc ++ [z]))) else Pv (i + 1) H3) (hd : ∀ H, Pv xs.length H → Qd H) :
    ∃ W : Nat → Nat → Hp → Prop, (∃ m, W 0 m (upd H1 D (.lst []))) ∧ ∀ i m H, W i m H →
      ((RZ.ItzT K a b).stop i H ∧ Qd H) ∨ ((RZ.ItzT K a b).go i H ∧ ∃ Nx : Hp → Prop, (∀ H', Nx H' → ∃ m', m' < m ∧ W (i + 1) m' H') ∧ ∀ x H', (RZ.ItzT K a b).yld i H x H' → g x (wipe σ vs) H' fun σ2 H2 => wipe σ2 vs = wipe σ vs ∧ tt σ2 H2 fun k H3 =>
        if k = true then te σ2 H3 fun y H4 => ∃ acc, H4 D = some (.lst acc) ∧ acc.length < sizeLine ∧ Nx (upd H4 D (.lst (acc ++ [y]))) else Nx H3) := by
  refine ⟨fun i m H => m = xs.length - i ∧ i ≤ xs.length ∧ Pv i H, ⟨xs.length, rfl, Nat.zero_le _, h0⟩, ?_⟩
  rintro i m H ⟨rfl, hi, p⟩
  have q := hq i H p
  rcases Nat.lt_or_ge i xs.length with hlt | hge
  · have h2 : i < ys.length := hl ▸ hlt
    have ex := List.getElem?_eq_getElem hlt
    have ey := List.getElem?_eq_getElem h2
    refine .inr ⟨⟨xs, ys, _, _, q.1, q.2, ex, ey⟩, Pv (i + 1), fun H' p' => ⟨xs.length - (i + 1), by omega, rfl, hlt, p'⟩, ?_⟩
    rintro v H' ⟨t, x, y, rfl, ht, rfl, f1, f2⟩
    exact hs i x y t H (f1 xs q.1) (f2 ys q.2) p ht
  · have e : i = xs.length := by omega
    subst e
    exact .inl ⟨⟨xs, ys, q.1, q.2, .inl hge⟩, hd H p⟩
/-! ### the parts of a statement: the roles of its word, and the values that are there -/
def partsL : List Str → List V → List (Str × V)
  | r :: rs, v :: vs => if v = .non then partsL rs vs else (r, v) :: partsL rs vs
  | _, _ => []
/-- pairs, as tuples in the heap -/
inductive Prs (H : Hp) : List Addr → List (Str × V) → Prop where
  | nil : Prs H [] []
  | cons {p : Addr} {ps : List Addr} {r : Str} {v : V} {l : List (Str × V)} : H p = some (.tup [.str r, v]) → Prs H ps l → Prs H (p :: ps) ((r, v) :: l)
theorem Prs.same {H H' : Hp} (s : Same H H') : ∀ {ps : List Addr} {l : List (Str × V)}, Prs H ps l → Prs H' ps l
  | _, _, .nil => .nil
  | _, _, .cons h r => .cons (s _ _ h) (Prs.same s r)
theorem Prs.snoc {H : Hp} {p : Addr} {r : Str} {v : V} (h : H p = some (.tup [.str r, v])) : ∀ {ps : List Addr} {l : List (Str × V)}, Prs H ps l → Prs H (ps ++ [p]) (l ++ [(r, v)])
  | _, _, .nil => .cons h .nil
  | _, _, .cons q t => .cons q (Prs.snoc h t)
theorem Prs.upd {H : Hp} {D : Addr} {acc : List V} {o : HO} (hD : H D = some (.lst acc)) : ∀ {ps : List Addr} {l : List (Str × V)}, Prs H ps l → Prs (upd H D o) ps l
  | _, _, .nil => .nil
  | _, _, .cons h r => .cons (by rw [upd_ne (ne_of h hD (by intro z; cases z))]; exact h) (Prs.upd hD r)
theorem Prs.len {H : Hp} : ∀ {ps : List Addr} {l : List (Str × V)}, Prs H ps l → ps.length = l.length
  | _, _, .nil => rfl
  | _, _, .cons _ r => congrArg (· + 1) (Prs.len r)
theorem Prs.get {H : Hp} : ∀ {ps : List Addr} {l : List (Str × V)} {i : Nat} {v : V}, Prs H ps l → (ps.map V.ref)[i]? = some v → ∃ p r x, v = .ref p ∧ l[i]? = some (r, x) ∧ H p = some (.tup [.str r, x])
  | _, _, _, _, .nil, e => by simp at e
  | _, _, 0, v, .cons h _, e => by
    simp at e
    exact ⟨_, _, _, e.symm, rfl, h⟩
  | _, _, i + 1, v, .cons _ t, e => by
    obtain ⟨p, r, x, h1, h2, h3⟩ := Prs.get (i := i) t (by simpa using e)
    exact ⟨p, r, x, h1, by simpa using h2, h3⟩
theorem partsL_len : ∀ (rs : List Str) (vs : List V), (partsL rs vs).length ≤ rs.length
  | [], _ => by simp [partsL]
  | _ :: _, [] => by simp [partsL]
  | r :: rs, v :: vs => by
    have ih := partsL_len rs vs
    unfold partsL
    split
    · exact Nat.le_succ_of_le ih
    · exact Nat.succ_le_succ ih
/-- the same from the left: what the first i places give -/
theorem parts_take {rs : List Str} {vs : List V} (hl : rs.length = vs.length) : ∀ {i : Nat} {r : Str} {v : V}, rs[i]? = some r → vs[i]? = some v → partsL (rs.take (i + 1)) (vs.take (i + 1)) = if v = .non then partsL (rs.take i) (vs.take i) else partsL (rs.take i) (vs.take i) ++ [(r, v)] := by
  induction rs generalizing vs with
  | nil => intro i r v h; simp at h
  | cons x xs ih =>
    cases vs with
    | nil => cases hl
    | cons y ys =>
      intro i r v h1 h2
      cases i with
      | zero =>
        simp at h1 h2
        subst h1 h2
        show (if y = .non then partsL (List.take 0 xs) (List.take 0 ys) else (x, y) :: partsL (List.take 0 xs) (List.take 0 ys)) = _
        rw [List.take_zero, List.take_zero, List.take_zero, List.take_zero]
        split <;> rfl
      | succ i =>
        have e := ih (Nat.succ.inj hl) (i := i) (r := r) (v := v) (by simpa using h1) (by simpa using h2)
        show (if y = .non then partsL (xs.take (i + 1)) (ys.take (i + 1)) else (x, y) :: partsL (xs.take (i + 1)) (ys.take (i + 1))) = if v = .non then (if y = .non then partsL (xs.take i) (ys.take i) else (x, y) :: partsL (xs.take i) (ys.take i)) else (if y = .non then partsL (xs.take i) (ys.take i) else (x, y) :: partsL (xs.take i) (ys.take i)) ++ [(r, v)]
        rw [e]
        by_cases hv : v = .non <;> by_cases hy : y = .non <;> simp [hv, hy]
/-- the bodies among the values of a statement -/
def bodL : List Str → List V → List V
  | r :: rs, v :: vs => if r = ("body" : Str) then v :: bodL rs vs else bodL rs vs
  | _, _ => []
theorem bodL_nil {vs : List V} : bodL [] vs = [] := by simp [bodL]
theorem bodL_end {rs : List Str} : bodL rs [] = [] := by cases rs <;> simp [bodL]
theorem bodL_cons {r : Str} {v : V} {rs : List Str} {vs : List V} (h : r ≠ ("body" : Str)) : bodL (r :: rs) (v :: vs) = bodL rs vs := if_neg h
theorem bodL_body {v : V} {rs : List Str} {vs : List V} : bodL (("body" : Str) :: rs) (v :: vs) = v :: bodL rs vs := if_pos rfl
theorem bodL_no : ∀ {rs : List Str} {vs : List V}, ("body" : Str) ∉ rs → bodL rs vs = []
  | [], _, _ => bodL_nil
  | _ :: _, [], _ => bodL_end
  | r :: rs, v :: vs, h => by
    rw [bodL_cons fun z => h (by rw [z]; exact List.mem_cons_self)]
    exact bodL_no fun z => h (List.mem_cons_of_mem _ z)
theorem bodL_len : ∀ (rs : List Str) (vs : List V), (bodL rs vs).length ≤ rs.length
  | [], _ => by rw [bodL_nil]; exact Nat.zero_le _
  | _ :: _, [] => by rw [bodL_end]; exact Nat.zero_le _
  | r :: rs, v :: vs => by
    have ih := bodL_len rs vs
    unfold bodL
    split
    · exact Nat.succ_le_succ ih
    · exact Nat.le_succ_of_le ih
theorem bodL_take {rs : List Str} {vs : List V} (hl : rs.length = vs.length) : ∀ {i : Nat} {r : Str} {v : V}, rs[i]? = some r → vs[i]? = some v → bodL (rs.take (i + 1)) (vs.take (i + 1)) = bodL (rs.take i) (vs.take i) ++ (if r = ("body" : Str) then [v] else []) := by
  induction rs generalizing vs with
  | nil => intro i r v h; simp at h
  | cons x xs ih =>
    cases vs with
    | nil => cases hl
    | cons y ys =>
      intro i r v h1 h2
      cases i with
      | zero =>
        simp at h1 h2
        subst h1 h2
        show (if x = ("body" : Str) then y :: bodL (List.take 0 xs) (List.take 0 ys) else bodL (List.take 0 xs) (List.take 0 ys)) = bodL [] [] ++ _
        rw [List.take_zero, bodL_nil, bodL_nil, List.nil_append]
      | succ i =>
        have e := ih (Nat.succ.inj hl) (i := i) (r := r) (v := v) (by simpa using h1) (by simpa using h2)
        show (if x = ("body" : Str) then y :: bodL (xs.take (i + 1)) (ys.take (i + 1)) else bodL (xs.take (i + 1)) (ys.take (i + 1))) = (if x = ("body" : Str) then y :: bodL (xs.take i) (ys.take i) else bodL (xs.take i) (ys.take i)) ++ _
        rw [e]
        by_cases hy : x = ("body" : Str) <;> simp [hy]
theorem flat_roles (l : List Str) : (l.map V.str).all flatV = true := by
  rw [List.all_eq_true]
  intro x hx
  obtain ⟨z, _, rfl⟩ := List.mem_map.mp hx
  rfl
theorem body_in (l : List Str) : inV (.str ("body" : Str)) (l.map V.str) = decide (("body" : Str) ∈ l) := by
  induction l with
  | nil => rfl
  | cons a l ih =>
    have e : inV (.str ("body" : Str)) (V.str a :: l.map V.str) = (eqV (V.str a) (.str ("body" : Str)) || inV (.str ("body" : Str)) (l.map V.str)) := rfl
    rw [List.map_cons, e, ih, Bool.eq_iff_iff, Bool.or_eq_true, decide_eq_true_eq, decide_eq_true_eq, List.mem_cons]
    have f : eqV (V.str a) (.str ("body" : Str)) = true ↔ ("body" : Str) = a := by
      show (a == ("body" : Str)) = true ↔ _
      rw [beq_iff_eq]
      exact ⟨fun z => z.symm, fun z => z.symm⟩
    rw [f]
def spParts (K : PySem.W.Frag) : Sp := fun vs H Q _ => ∃ (p : Addr) (wd : Str) (rest : List V) (roles : List Str), vs = [.ref p] ∧ SqT K H p (.str wd :: rest) ∧ (wd, roles) ∈ tb_PARTS ∧ roles.length = rest.length ∧ roles.length ≤ 10 ∧
  ∀ (D : Addr) (ps : List Addr) (H' : Hp), Same H H' → H D = none → H' D = some (.lst (ps.map V.ref)) → Prs H' ps (partsL roles rest) → Q (.ref D) H'
def spBodies (K : PySem.W.Frag) : Sp := fun vs H Q _ => ∃ (p : Addr) (wd : Str) (rest : List V) (roles : List Str), vs = [.ref p] ∧ SqT K H p (.str wd :: rest) ∧ (wd, roles) ∈ tb_PARTS ∧ roles.length = rest.length ∧ roles.length ≤ 10 ∧
  ∀ (D : Addr) (H' : Hp), Same H H' → H D = none → H' D = some (.lst (bodL roles rest)) → Q (.ref D) H'
theorem at0 {x : V} {xs : List V} : atI (x :: xs) 0 = some x := atI_nat (j := 0) rfl
theorem cut_tail (x : V) (xs : List V) : cutV (x :: xs) (some 1) none = xs := by
  show ((x :: xs).drop (HT.sIx (xs.length + 1) 0 (some 1))).take (xs.length + 1 - HT.sIx (xs.length + 1) 0 (some 1)) = xs
  have e : HT.sIx (xs.length + 1) 0 (some 1) = 1 := by
    show min (1 : Int).toNat (xs.length + 1) = 1
    show min 1 (xs.length + 1) = 1
    omega
  rw [e]
  show xs.take (xs.length + 1 - 1) = xs
  rw [Nat.add_sub_cancel, List.take_length]
theorem no_whole (x : V) (xs : List V) : ¬ (HT.sIx (x :: xs).length 0 (some 1) = 0 ∧ HT.sIx (x :: xs).length (x :: xs).length none = (x :: xs).length) := by
  rintro ⟨h, _⟩
  have e : HT.sIx (x :: xs).length 0 (some 1) = 1 := by
    show min (1 : Int).toNat (xs.length + 1) = 1
    show min 1 (xs.length + 1) = 1
    omega
  rw [e] at h
  cases h
/-- the list at D grows, all else stands -/
theorem Same.grow {H H1 : Hp} {D : Addr} {o : HO} (hD : H D = none) (s : Same H H1) : Same H (upd H1 D o) := fun b u e => by
  rw [upd_ne (ne_of_none e hD)]
  exact s b u e
section
variable {P : Program} {w : World} {K : PySem.W.Frag} {mg : Str → Option Value} {base : Heap}
theorem ok_parts_of (T : Txt w K mg) : FnOk P w K mg base CX0 1 T.a_parts_of T.d_parts_of p_parts_of (spParts K) := by
  obtain ⟨d_PARTS, c_PARTS_h, tab⟩ := T.c_PARTS
  refine T.F_parts_of.ok sc_parts_of (fun vs H Q E h => ?_) (fun cdv A outer s H vs Q E hr h => ?_)
  · obtain ⟨p, wd, rest, roles, rfl, _⟩ := h
    rfl
  obtain ⟨p, wd, rest, roles, rfl, hp, htb, hl, h10, q⟩ := h
  obtain ⟨r, hk, hrl⟩ := tab _ htb
  refine ⟨_, (pss_cons (ps_set (i := 1) sc_parts_of.nd rfl (Or.inl rfl) (pe_ix ix_kdict (pe_glob (v := .ref d_PARTS) rfl c_PARTS_h rfl) (pe_ix ix_tup (pv 0) pe_int (fun _ _ => rfl)) (fun _ _ => rfl)))
      (pss_one (ps_ret (pe_lc (own := [("role", 2), ("part", 3)]) (g := gTup K 2 (gCons (gName 2) (gCons (gName 3) gNil))) rfl sc_parts_of.nd (RZ.pi_zipA (by rfl) T.z_zip (pa_cons (pv 1) (pa_cons (pe_slice sl_tup (pv 0) (po_some pe_int) po_none) pa_nil))) (blkOk_by (own := [("role", 2), ("part", 3)]) (N := n_parts_of) (sc := defScope s_parts_of) (by decide +kernel)) (fun _ _ _ _ _ => (pg_tup rfl (pgs_cons (pg_name (i := 2) sc_parts_of.nd rfl (Or.inl rfl)) (pgs_cons (pg_name (i := 3) sc_parts_of.nd rfl (Or.inl rfl)) pgs_nil)))) (fun _ _ _ _ _ => (pts_one (pt_cmpR op_notN (pv 3) pe_non (nomark _)))) (fun _ _ _ _ _ => (pe_tup (pa_cons (pv 2) (pa_cons (pv 3) pa_nil)))))))), ?_⟩
  refine ⟨_, rfl, p, _, 0, _, rfl, rfl, hp, at0, d_PARTS, wd, _, rfl, rfl, hk, ?_⟩
  refine ⟨_, rfl, _, rfl, 1, rfl, p, _, rfl, hp, no_whole _ _, fun t ht => ?_⟩
  rw [cut_tail]
  have s1 := Same.new ht (.tup rest)
  refine ⟨r, t, _, _, rfl, .inr ⟨hrl _, SqT.of upd_same, fun D hD => ?_⟩⟩
  have hDH : H D = none := s1.free hD
  refine lc_zipT (K := K) (xs := roles.map V.str) (ys := rest) (by rw [List.length_map]; exact hl)
    (fun i H' => Same H (H') ∧ H' t = some (.tup rest) ∧ ∃ ps : List Addr, H' D = some (.lst (ps.map V.ref)) ∧ Prs H' ps (partsL (roles.take i) (rest.take i))) ?_ ?_ ?_ ?_
  · refine ⟨Same.grow hDH s1, ?_, [], upd_same, .nil⟩
    rw [upd_ne (ne_of_none upd_same hD)]
    exact upd_same
  · rintro i H' ⟨sm, ht', _⟩
    exact ⟨hrl _, SqT.of ht'⟩
  · rintro i x y z H' hx hy ⟨sm, ht', ps, hD', pr⟩ hz
    obtain ⟨ro, hro, rfl⟩ : ∃ ro, roles[i]? = some ro ∧ x = .str ro := by
      rw [List.getElem?_map] at hx
      cases e : roles[i]? with
      | none => rw [e] at hx; cases hx
      | some ro => rw [e] at hx; exact ⟨ro, rfl, (Option.some.inj hx).symm⟩
    have step := parts_take (rs := roles) (vs := rest) hl hro hy
    have s2 := Same.new hz (.tup [.str ro, y])
    refine ⟨z, _, rfl, SqT.of upd_same, rfl, _, _, rfl, _, _, rfl, rfl, rfl, ?_⟩
    refine ⟨_, rfl, rfl, _, rfl, ?_⟩
    by_cases hy0 : y = .non
    · rw [if_pos hy0] at step
      refine ifF (by rw [hy0]; rfl) ⟨sm.trans s2, s2 _ _ ht', ps, s2 _ _ hD', ?_⟩
      rw [step]
      exact Prs.same s2 pr
    · rw [if_neg hy0] at step
      refine ifT (by rw [decide_eq_false hy0]; rfl) ⟨_, rfl, _, rfl, by show 2 ≤ sizeLine; decide, fun e he => ?_⟩
      have s3 := Same.new he (.tup [.str ro, y])
      have s23 := s2.trans s3
      have len := pr.len
      have plen := partsL_len (roles.take i) (rest.take i)
      have tlen : (roles.take i).length ≤ roles.length := List.length_take_le' _ _
      have nDe : D ≠ e := ne_of_none (s2 _ _ hD') he
      refine ⟨_, s23 _ _ hD', ?_, ?_⟩
      · rw [List.length_map]
        exact small1000 (by omega)
      · refine ⟨Same.grow hDH (sm.trans s23), ?_, ps ++ [e], ?_, ?_⟩
        · rw [upd_ne (ne_of ht' hD' (by intro z; cases z))]
          exact s23 _ _ ht'
        · rw [upd_same, List.map_append]
          rfl
        · rw [step]
          refine Prs.snoc ?_ (Prs.upd (s23 _ _ hD') (Prs.same s23 pr))
          rw [upd_ne nDe.symm]
          exact upd_same
  · rintro H' ⟨sm, ht', ps, hD', pr⟩
    rw [List.length_map, List.take_length, hl, List.take_length] at pr
    exact q D ps H' sm hDH hD' pr
theorem ok_bodies_of (T : Txt w K mg) : FnOk P w K mg base CX0 2 T.a_bodies_of T.d_bodies_of p_bodies_of (spBodies K) := by
  obtain ⟨d_PARTS, c_PARTS_h, tab⟩ := T.c_PARTS
  refine T.F_bodies_of.ok sc_bodies_of (fun vs H Q E h => ?_) (fun cdv A outer s H vs Q E hr h => ?_)
  · obtain ⟨p, wd, rest, roles, rfl, _⟩ := h
    rfl
  obtain ⟨p, wd, rest, roles, rfl, hp, htb, hl, h10, q⟩ := h
  obtain ⟨r, hk, hrl⟩ := tab _ htb
  refine ⟨_, (pss_cons (ps_set (i := 1) sc_bodies_of.nd rfl (Or.inl rfl) (pe_ix ix_kdict (pe_glob (v := .ref d_PARTS) rfl c_PARTS_h rfl) (pe_ix ix_tup (pv 0) pe_int (fun _ _ => rfl)) (fun _ _ => rfl)))
      (pss_cons (ps_if (pt_cmpR op_notIn_seq pe_str (pv 1) (by rfl)) (pss_one (ps_ret (pe_lst pa_nil))) pss_nil)
      (pss_one (ps_ret (pe_lc (own := [("role", 2), ("part", 3)]) (g := gTup K 2 (gCons (gName 2) (gCons (gName 3) gNil))) rfl sc_bodies_of.nd (RZ.pi_zipA (by rfl) T.z_zip (pa_cons (pv 1) (pa_cons (pe_slice sl_tup (pv 0) (po_some pe_int) po_none) pa_nil))) (blkOk_by (own := [("role", 2), ("part", 3)]) (N := n_bodies_of) (sc := defScope s_bodies_of) (by decide +kernel)) (fun _ _ _ _ _ => (pg_tup rfl (pgs_cons (pg_name (i := 2) sc_bodies_of.nd rfl (Or.inl rfl)) (pgs_cons (pg_name (i := 3) sc_bodies_of.nd rfl (Or.inl rfl)) pgs_nil)))) (fun _ _ _ _ _ => (pts_one (pt_cmpR op_eq (pv 2) pe_str (nomark _)))) (fun _ _ _ _ _ => (pv 3))))))), ?_⟩
  refine ⟨_, rfl, p, _, 0, _, rfl, rfl, hp, at0, d_PARTS, wd, _, rfl, rfl, hk, ?_⟩
  refine ⟨_, rfl, r, _, rfl, .inr (hrl _), rfl, flat_roles roles, ?_⟩
  have eb := body_in roles
  by_cases hb : ("body" : Str) ∈ roles
  · refine ⟨_, rfl, ifF (show (!inV (V.str ("body" : Str)) (roles.map V.str)) = false by rw [eb, decide_eq_true hb]; rfl) ?_⟩
    refine ⟨_, rfl, _, rfl, 1, rfl, p, _, rfl, hp, no_whole _ _, fun t ht => ?_⟩
    rw [cut_tail]
    have s1 := Same.new ht (.tup rest)
    refine ⟨r, t, _, _, rfl, .inr ⟨hrl _, SqT.of upd_same, fun D hD => ?_⟩⟩
    have hDH : H D = none := s1.free hD
    refine lc_zipT (K := K) (xs := roles.map V.str) (ys := rest) (by rw [List.length_map]; exact hl)
      (fun i H' => Same H H' ∧ H' t = some (.tup rest) ∧ H' D = some (.lst (bodL (roles.take i) (rest.take i)))) ?_ ?_ ?_ ?_
    · refine ⟨Same.grow hDH s1, ?_, ?_⟩
      · rw [upd_ne (ne_of_none upd_same hD)]
        exact upd_same
      · rw [List.take_zero, bodL_nil]
        exact upd_same
    · rintro i H' ⟨sm, ht', _⟩
      exact ⟨hrl _, SqT.of ht'⟩
    · rintro i x y z H' hx hy ⟨sm, ht', hD'⟩ hz
      obtain ⟨ro, hro, rfl⟩ : ∃ ro, roles[i]? = some ro ∧ x = .str ro := by
        rw [List.getElem?_map] at hx
        cases e : roles[i]? with
        | none => rw [e] at hx; cases hx
        | some ro => rw [e] at hx; exact ⟨ro, rfl, (Option.some.inj hx).symm⟩
      have step := bodL_take (rs := roles) (vs := rest) hl hro hy
      have s2 := Same.new hz (.tup [.str ro, y])
      refine ⟨z, _, rfl, SqT.of upd_same, rfl, _, _, rfl, _, _, rfl, rfl, rfl, _, rfl, rfl, _, rfl, ?_⟩
      by_cases h : ro = ("body" : Str)
      · rw [if_pos h] at step
        refine ifT (decide_eq_true (congrArg V.str h)) ⟨_, rfl, _, s2 _ _ hD', ?_, Same.grow hDH (sm.trans s2), ?_, ?_⟩
        · have a1 := bodL_len (roles.take i) (rest.take i)
          have a2 : (roles.take i).length ≤ roles.length := List.length_take_le' _ _
          exact small1000 (by omega)
        · rw [upd_ne (ne_of ht' hD' (by intro z; cases z))]
          exact s2 _ _ ht'
        · rw [upd_same, step]
      · rw [if_neg h, List.append_nil] at step
        refine ifF (decide_eq_false fun z => h (V.str.inj z)) ⟨sm.trans s2, s2 _ _ ht', ?_⟩
        rw [step]
        exact s2 _ _ hD'
    · rintro H' ⟨sm, ht', hD'⟩
      rw [List.length_map, List.take_length, hl, List.take_length] at hD'
      exact q D H' sm hDH hD'
  · refine ⟨_, rfl, ifT (show (!inV (V.str ("body" : Str)) (roles.map V.str)) = true by rw [eb, decide_eq_false hb]; rfl) ⟨by show 0 ≤ sizeLine; decide, fun D hD => ?_⟩⟩
    refine q D _ (Same.new hD _) hD ?_
    rw [bodL_no hb]
    exact upd_same
end
/-! ### expressions -/
inductive Ex where
  | num (i : Int) | name (s : Str) | flag (b : Bool) | null | not (a : Ex) | bin (op : Str) (a b : Ex)
def opsL : List Str := ["+", "-", "*", "<", "<=", "==", "!=", "same", "and", "or"]
theorem ops_ne : ∀ s ∈ opsL, ¬ (V.str s = V.str "num") ∧ ¬ (V.str s = V.str "flag") ∧ ¬ (V.str s = V.str "null") ∧ ¬ (V.str s = V.str "name") ∧ ¬ (V.str s = V.str "not") ∧ s.length ≤ 4 := by decide +kernel
def Ex.ok : Nat → Ex → Prop
  | 0, _ => False
  | _ + 1, .num i => -1000000000 ≤ i ∧ i ≤ 1000000000
  | _ + 1, .name s => s.length ≤ 20
  | _ + 1, .flag _ => True
  | _ + 1, .null => True
  | m + 1, .not a => a.ok m
  | m + 1, .bin op a b => op ∈ opsL ∧ a.ok m ∧ b.ok m
def ExAt (K : PySem.W.Frag) (H : Hp) : Ex → V → Prop
  | .num i, v => ∃ p, v = .ref p ∧ SqT K H p [.str "num", .int i]
  | .name s, v => ∃ p, v = .ref p ∧ SqT K H p [.str "name", .str s]
  | .flag b, v => ∃ p, v = .ref p ∧ SqT K H p [.str "flag", .bl b]
  | .null, v => ∃ p, v = .ref p ∧ SqT K H p [.str "null"]
  | .not a, v => ∃ p x, v = .ref p ∧ SqT K H p [.str "not", x] ∧ ExAt K H a x
  | .bin op a b, v => ∃ p x y, v = .ref p ∧ SqT K H p [.str op, x, y] ∧ ExAt K H a x ∧ ExAt K H b y
/-- tuples stand as they were -/
def Keeps (K : PySem.W.Frag) (H H' : Hp) : Prop := ∀ p xs, SqT K H p xs → SqT K H' p xs
theorem Keeps.of_same {K : PySem.W.Frag} {H H' : Hp} (s : Same H H') : Keeps K H H' := fun _ _ h => Same.tup s h
theorem Keeps.of_stp {K : PySem.W.Frag} {a : Addr} {H H' : Hp} (s : Stp a H H') (h : Src H a) : Keeps K H H' := fun _ _ q => s.rd q h
theorem ExAt.keep {K : PySem.W.Frag} {H H' : Hp} (k : Keeps K H H') : ∀ {e : Ex} {v : V}, ExAt K H e v → ExAt K H' e v
  | .num _, _, ⟨p, e, h⟩ => ⟨p, e, k _ _ h⟩
  | .name _, _, ⟨p, e, h⟩ => ⟨p, e, k _ _ h⟩
  | .flag _, _, ⟨p, e, h⟩ => ⟨p, e, k _ _ h⟩
  | .null, _, ⟨p, e, h⟩ => ⟨p, e, k _ _ h⟩
  | .not _, _, ⟨p, x, e, h, q⟩ => ⟨p, x, e, k _ _ h, ExAt.keep k q⟩
  | .bin _ _ _, _, ⟨p, x, y, e, h, q, r⟩ => ⟨p, x, y, e, k _ _ h, ExAt.keep k q, ExAt.keep k r⟩
/-! ### texts of expressions -/
def numS (i : Int) : Str := Str.ofString (toString i)
def txt : Ex → Str
  | .num i => numS i
  | .name s => s
  | .flag b => if b then "true" else "false"
  | .null => "null"
  | .not a => ("(not " : Str) ++ txt a ++ (")" : Str)
  | .bin op a b => ("(" : Str) ++ txt a ++ (" " : Str) ++ op ++ (" " : Str) ++ txt b ++ (")" : Str)
theorem len_app (x y : Str) : (x ++ y).length = x.length + y.length := Array.size_append
theorem numS_len {i : Int} (h : -1000000000 ≤ i ∧ i ≤ 1000000000) : (numS i).length ≤ 11 := by
  have e := int_text_length_le10 (a := i) (k := 10) (by decide) (by omega)
  unfold numS
  rw [ofString_length]
  exact e
theorem log_ok {i : Int} (h : -1000000000 ≤ i ∧ i ≤ 1000000000) : i.natAbs.log2 < 1920 := by
  by_cases z : i.natAbs = 0
  · rw [z]
    decide
  · refine (Nat.log2_lt z).mpr (Nat.lt_of_lt_of_le (m := 2 ^ 32) ?_ (Nat.pow_le_pow_right (by decide) (by decide)))
    omega
theorem txt_len : ∀ {m : Nat} {e : Ex}, e.ok m → (txt e).length + 12 ≤ 32 * 2 ^ m
  | 0, _, h => h.elim
  | m + 1, .num i, h => by
    have := numS_len h
    have p : 0 < 2 ^ m := Nat.pow_pos (by decide)
    show (numS i).length + 12 ≤ 32 * 2 ^ (m + 1)
    rw [Nat.pow_succ]
    omega
  | m + 1, .name s, h => by
    have h' : s.length ≤ 20 := h
    have p : 0 < 2 ^ m := Nat.pow_pos (by decide)
    show s.length + 12 ≤ 32 * 2 ^ (m + 1)
    rw [Nat.pow_succ]
    omega
  | m + 1, .flag b, h => by
    have p : 0 < 2 ^ m := Nat.pow_pos (by decide)
    have e : (txt (.flag b)).length ≤ 5 := by cases b <;> decide +kernel
    rw [Nat.pow_succ]
    omega
  | m + 1, .null, h => by
    have p : 0 < 2 ^ m := Nat.pow_pos (by decide)
    have e : (txt .null).length ≤ 5 := by decide +kernel
    rw [Nat.pow_succ]
    omega
  | m + 1, .not a, h => by
    have ih := txt_len (m := m) (e := a) h
    have e : (txt (.not a)).length = 5 + (txt a).length + 1 := by
      show (("(not " : Str) ++ txt a ++ (")" : Str)).length = _
      rw [len_app, len_app] <;> rfl
    rw [Nat.pow_succ]
    omega
  | m + 1, .bin op a b, h => by
    have ih1 := txt_len (m := m) (e := a) h.2.1
    have ih2 := txt_len (m := m) (e := b) h.2.2
    have ho := (ops_ne op h.1).2.2.2.2.2
    have e : (txt (.bin op a b)).length = 1 + (txt a).length + 1 + op.length + 1 + (txt b).length + 1 := by
      show (("(" : Str) ++ txt a ++ (" " : Str) ++ op ++ (" " : Str) ++ txt b ++ (")" : Str)).length = _
      rw [len_app, len_app, len_app, len_app, len_app, len_app] <;> rfl
    rw [Nat.pow_succ]
    omega
/-! ### the world of the draws: a dict of names and bounds -/
def kN : Key := Sum.inr "names"
def kL : Key := Sum.inr "long"
def kS : Key := Sum.inr "side"
structure Wd (H : Hp) (d : Addr) : Prop where
  ex : ∃ (kvs : List (Key × V)) (ln : Addr) (nz : List Str) (lng side : Int), H d = some (.dK kvs) ∧ valV kvs kN = some (.ref ln) ∧ valV kvs kL = some (.int lng) ∧ valV kvs kS = some (.int side) ∧
    H ln = some (.lst (nz.map V.str)) ∧ nz.length ≤ 900 ∧ (∀ z ∈ nz, z.length ≤ 20) ∧ 1 ≤ lng ∧ lng ≤ 12 ∧ 1 ≤ side ∧ side ≤ 40000
theorem Wd.same {H H' : Hp} {d : Addr} (s : Same H H') (h : Wd H d) : Wd H' d := by
  obtain ⟨kvs, ln, nz, lng, side, h1, h2, h3, h4, h5, h6⟩ := h.ex
  exact ⟨kvs, ln, nz, lng, side, s _ _ h1, h2, h3, h4, s _ _ h5, h6⟩
theorem Wd.stp {H H' : Hp} {a d : Addr} (h : Wd H d) (hs : Src H a) (s : Stp a H H') : Wd H' d := by
  obtain ⟨kvs, ln, nz, lng, side, h1, h2, h3, h4, h5, h6⟩ := h.ex
  obtain ⟨c, m, k, hs⟩ := hs
  have n1 : d ≠ a := ne_of h1 hs (by intro z; cases z)
  have n2 : ln ≠ a := ne_of h5 hs (by
    intro z
    have z' := HO.lst.inj z
    cases nz with
    | nil => cases z'
    | cons x r =>
      have z2 := (List.cons.inj z').1
      cases z2)
  exact ⟨kvs, ln, nz, lng, side, s.k _ _ n1 h1, h2, h3, h4, s.k _ _ n2 h5, h6⟩
def resA : List Str := ["record", "end", "array", "global", "def", "var", "flag", "input", "new", "free", "return", "if", "else"]
def resL : List Str := resA ++ (["while", "break", "assert", "null", "true", "false", "not", "and", "or", "same", "result"] : List Str)
/-! ### the promises of the draws -/
def spReserved : Sp := fun vs H Q _ => vs = [] ∧ ∀ p H', Same H H' → H p = none → H' p = some (.lst (resL.map V.str)) → Q (.ref p) H'
def spName : Sp := fun vs H Q _ => ∃ (a d : Addr), vs = [.ref a, .ref d] ∧ Src H a ∧ Wd H d ∧ ∀ (z : Str) (H' : Hp), Stp a H H' → z.length ≤ 20 → Q (.str z) H'
def spNum : Sp := fun vs H Q _ => ∃ (a d : Addr), vs = [.ref a, .ref d] ∧ Src H a ∧ Wd H d ∧ ∀ (r : Int) (H' : Hp), Stp a H H' → -1000000000 ≤ r ∧ r ≤ 1000000000 → Q (.int r) H'
def spNode (K : PySem.W.Frag) (m : Nat) : Sp := fun vs H Q _ => ∃ (a d : Addr) (c : Int) (n : Int), vs = [.ref a, .ref d, .int c, .int n] ∧ Src H a ∧ Wd H d ∧ 0 ≤ c ∧ c < 15 ∧ (c < 4 ∨ 1 ≤ n) ∧ n < (m : Int) ∧ 0 < m ∧
  ∀ (v : V) (e : Ex) (H' : Hp), Stp a H H' → e.ok m → ExAt K H' e v → Q v H'
def spExpr (K : PySem.W.Frag) (m : Nat) : Sp := fun vs H Q _ => ∃ (a d : Addr) (n : Int), vs = [.ref a, .ref d, .int n] ∧ Src H a ∧ Wd H d ∧ n < (m : Int) ∧ 0 < m ∧
  ∀ (v : V) (e : Ex) (H' : Hp), Stp a H H' → e.ok m → ExAt K H' e v → Q v H'
theorem DGet.at {H : Hp} {d : Addr} {kvs : List (Key × V)} {k : Key} {v : V} (h : H d = some (.dK kvs)) (e : valV kvs k = some v) : DGet H d (kV k) (some v) := by
  rw [← e]
  exact DGet.k (k := k) h
section
variable {P : Program} {w : World} {K : PySem.W.Frag} {mg : Str → Option Value} {base : Heap}
theorem ok_l_reserved (T : Txt w K mg) : FnOk P w K mg base CX0 1 T.a_l_reserved T.d_l_reserved p_l_reserved spReserved := by
  refine T.F_l_reserved.ok sc_l_reserved (fun vs H Q E h => ?_) (fun cdv A outer s H vs Q E hr h => ?_)
  · obtain ⟨rfl, _⟩ := h
    rfl
  obtain ⟨rfl, q⟩ := h
  refine ⟨_, (pss_cons (ps_set (i := 0) sc_l_reserved.nd rfl (Or.inl rfl) (pe_lst (pa_cons pe_str (pa_cons pe_str (pa_cons pe_str (pa_cons pe_str (pa_cons pe_str (pa_cons pe_str (pa_cons pe_str (pa_cons pe_str (pa_cons pe_str (pa_cons pe_str (pa_cons pe_str (pa_cons pe_str (pa_cons pe_str pa_nil)))))))))))))))
      (pss_one (ps_ret (pe_op op_cat (pv 0) (pe_lst (pa_cons pe_str (pa_cons pe_str (pa_cons pe_str (pa_cons pe_str (pa_cons pe_str (pa_cons pe_str (pa_cons pe_str (pa_cons pe_str (pa_cons pe_str (pa_cons pe_str (pa_cons pe_str pa_nil)))))))))))))))), ?_⟩
  refine ⟨by show 13 ≤ sizeLine; decide, fun l hl => ?_⟩
  refine ⟨_, rfl, by show 11 ≤ sizeLine; decide, fun r hr => ?_⟩
  have s1 := Same.new hl (.lst (resA.map V.str))
  refine ⟨l, r, _, _, rfl, rfl, Same.new hr _ _ _ upd_same, upd_same, by show 24 ≤ sizeLine; decide, fun p hp => ?_⟩
  exact q p _ (s1.trans ((Same.new hr _).trans (Same.new hp _))) (s1.free ((Same.new hr _).free hp)) upd_same
theorem flat_strs : ∀ l : List Str, (l.map V.str).all flatV = true
  | [] => rfl
  | _ :: r => flat_strs r
theorem ok_l_name (T : Txt w K mg) : FnOk P w K mg base CX0 2 T.a_l_name T.d_l_name p_l_name spName := by
  have g_l_pick := ok_l_pick (P := P) (w := w) (base := base) T
  have g_l_reserved := ok_l_reserved (P := P) (w := w) (base := base) T
  refine T.F_l_name.ok sc_l_name (fun vs H Q E h => ?_) (fun cdv A outer s H vs Q E hr h => ?_)
  · obtain ⟨a, d, rfl, _⟩ := h
    rfl
  obtain ⟨a, d, rfl, hS, hW, q⟩ := h
  refine ⟨_, (pss_cons (ps_set (i := 2) sc_l_name.nd rfl (Or.inl rfl) (pe_call g_l_pick (hr.mono (by first | decide | omega)) rfl T.m_l_pick T.F_l_pick.kp T.b_l_pick .nil pass0 (pa_cons (pv 0) (pa_cons pe_int pa_nil))))
      (C8.pss_cut (ps_if (pt_cmpR op_eq (pv 2) pe_int (nomark _)) (pss_one (ps_set (i := 2) sc_l_name.nd rfl (Or.inl rfl) (pe_call g_l_pick (hr.mono (by first | decide | omega)) rfl T.m_l_pick T.F_l_pick.kp T.b_l_pick .nil pass0 (pa_cons (pv 0) (pa_cons (pe_dget (hu_of hr) (pv 1) pe_str (fun _ _ => rfl)) pa_nil))))) pss_nil)
      (pss_cons (ps_set (i := 3) sc_l_name.nd rfl (Or.inl rfl) (pe_ix ix_str pe_str (pe_call g_l_pick (hr.mono (by first | decide | omega)) rfl T.m_l_pick T.F_l_pick.kp T.b_l_pick .nil pass0 (pa_cons (pv 0) (pa_cons pe_int pa_nil))) (fun _ _ => rfl)))
      (pss_cons (ps_for PassesOwn.never rfl (pi_range1 rfl T.z_range (pa_cons (pv 2) pa_nil)) (pg_name (i := 4) sc_l_name.nd rfl (Or.inl rfl))
        (pss_one (ps_set (i := 3) sc_l_name.nd rfl (Or.inl rfl) (pe_op op_add_str (pv 3) (pe_ix ix_str pe_str (pe_call g_l_pick (hr.mono (by first | decide | omega)) rfl T.m_l_pick T.F_l_pick.kp T.b_l_pick .nil pass0 (pa_cons (pv 0) (pa_cons pe_int pa_nil))) (fun _ _ => rfl))))))
      (pss_cons (ps_if (pt_cmpR op_in_seq (pv 3) (pe_call0 g_l_reserved (hr.mono (by first | decide | omega)) rfl T.m_l_reserved T.F_l_reserved.kp T.b_l_reserved .nil pass0) (by rfl)) (pss_one (ps_ret (pe_op op_add_str (pv 3) pe_str))) pss_nil)
      (pss_one (ps_ret (pv 3)))))))), ?_⟩
  refine ⟨_, rfl, a, 4, rfl, hS, by decide, fun sz H1 st1 z0 z1 => ?_⟩
  refine ⟨fun σ H2 => Stp a H H2 ∧ ∃ n : Int, 0 ≤ n ∧ n ≤ 12 ∧ σ = [some (.ref a), some (.ref d), some (.int n), none, none], ⟨_, rfl, rfl, _, rfl, ?_⟩, ?_⟩
  · refine ite2 (fun _ => ?_) (fun _ => ⟨st1, sz, z0, by omega, rfl⟩)
    have hW1 := hW.stp hS st1
    obtain ⟨kvs, ln, nz, lng, side, h1, h2, h3, h4, h5, h6, h7, h8, h9, _⟩ := hW1.ex
    refine ⟨_, rfl, _, rfl, d, _, rfl, DGet.at h1 h3, ?_⟩
    exact ⟨a, lng, rfl, st1.s, by omega, fun r H2 st2 r0 r1 => ⟨st1.trans st2, r, r0, by omega, rfl⟩⟩
  rintro σ H2 ⟨st2, n, n0, n1, rfl⟩
  refine ⟨_, rfl, a, 26, rfl, st2.s, by decide, fun i H3 st3 i0 i1 => ?_⟩
  have hi : i.toNat < ("abcdefghijklmnopqrstuvwxyz" : Str).cps.toList.length := by
    show i.toNat < 26
    omega
  refine ⟨_, i, _, rfl, rfl, by decide +kernel, atI_int i0 hi, ?_⟩
  refine ⟨_, rfl, n, rfl, by omega, by omega, for_range (lo := 0) (fun i σ H' => Stp a H H' ∧ ∃ (z : Str) (v : Option V), z.length ≤ i + 1 ∧ σ = [some (.ref a), some (.ref d), some (.int n), some (.str z), v]) ⟨st2.trans st3, _, none, Nat.le_refl _, rfl⟩ ?_ ?_⟩
  · rintro i σ H' hi ⟨st, z, v, hz, rfl⟩
    refine ⟨_, rfl, _, rfl, a, 36, rfl, st.s, by decide, fun j H4 st4 j0 j1 => ?_⟩
    have hj : j.toNat < ("abcdefghijklmnopqrstuvwxyz0123456789" : Str).cps.toList.length := by
      show j.toNat < 36
      omega
    refine ⟨_, j, _, rfl, rfl, by decide +kernel, atI_int j0 hj, ?_⟩
    refine ⟨_, _, rfl, rfl, Nat.le_of_lt (small1000 (by show z.length + 1 ≤ 1000; omega)), ?_⟩
    refine ⟨st.trans st4, _, _, ?_, rfl⟩
    rw [len_app]
    exact Nat.succ_le_succ hz
  · rintro σ H' ⟨st, z, v, hz, rfl⟩
    refine ⟨_, rfl, rfl, fun p H5 sm hp hl => ?_⟩
    refine ⟨p, _, rfl, .inl (SqL.of hl), rfl, flat_strs _, _, rfl, ?_⟩
    have st5 : Stp a H H5 := st.same sm
    refine ite2 (fun _ => ?_) (fun _ => ?_)
    · refine ⟨_, rfl, _, _, rfl, rfl, Nat.le_of_lt (small1000 (by show z.length + 1 ≤ 1000; omega)), q _ _ st5 ?_⟩
      rw [len_app]
      show z.length + 1 ≤ 20
      omega
    · exact ⟨_, rfl, q _ _ st5 (by omega)⟩
theorem ok_l_word (T : Txt w K mg) : FnOk P w K mg base CX0 3 T.a_l_word T.d_l_word p_l_word spName := by
  have g_l_pick := ok_l_pick (P := P) (w := w) (base := base) T
  have g_l_name := ok_l_name (P := P) (w := w) (K := K) (base := base) T
  refine T.F_l_word.ok sc_l_word (fun vs H Q E h => ?_) (fun cdv A outer s H vs Q E hr h => ?_)
  · obtain ⟨a, d, rfl, _⟩ := h
    rfl
  obtain ⟨a, d, rfl, hS, hW, q⟩ := h
  refine ⟨_, (pss_cons (ps_set (i := 2) sc_l_word.nd rfl (Or.inl rfl) (pe_call g_l_pick (hr.mono (by first | decide | omega)) rfl T.m_l_pick T.F_l_pick.kp T.b_l_pick .nil pass0 (pa_cons (pv 0) (pa_cons (pe_op op_add (pe_callB call_len_seq rfl T.z_len PySem.boot_len (pa_cons (pe_dget (hu_of hr) (pv 1) pe_str (fun _ _ => rfl)) pa_nil)) pe_int) pa_nil))))
      (pss_cons (ps_if (pt_cmpR op_lt (pv 2) (pe_callB call_len_seq rfl T.z_len PySem.boot_len (pa_cons (pe_dget (hu_of hr) (pv 1) pe_str (fun _ _ => rfl)) pa_nil)) (nomark _)) (pss_one (ps_ret (pe_ix ix_list (pe_dget (hu_of hr) (pv 1) pe_str (fun _ _ => rfl)) (pv 2) (fun _ _ => rfl)))) pss_nil)
      (pss_one (ps_ret (pe_call g_l_name (hr.mono (by first | decide | omega)) rfl T.m_l_name T.F_l_name.kp T.b_l_name .nil pass0 (pa_cons (pv 0) (pa_cons (pv 1) pa_nil))))))), ?_⟩
  obtain ⟨kvs, ln, nz, lng, side, h1, h2, h3, h4, h5, h6, h6', _⟩ := hW.ex
  refine ⟨_, rfl, _, rfl, d, _, rfl, DGet.at h1 h2, ln, _, rfl, .inl (SqL.of h5), _, _, rfl, rfl, ?_⟩
  refine ⟨a, _, rfl, hS, by rw [List.length_map]; omega, fun r H1 st1 r0 r1 => ?_⟩
  have hW1 := hW.stp hS st1
  obtain ⟨kvs, ln, nz, lng, side, h1, h2, h3, h4, h5, h6, h6', _⟩ := hW1.ex
  refine ⟨_, rfl, _, rfl, d, _, rfl, DGet.at h1 h2, ln, _, rfl, .inl (SqL.of h5), _, _, rfl, rfl, _, rfl, ?_⟩
  refine ite2 (fun c => ?_) (fun _ => ?_)
  · have c' : r < (((nz.map V.str).length : Nat) : Int) := of_decide_eq_true c
    have e := atI_int (xs := nz.map V.str) r0 (by omega)
    rw [List.getElem_map] at e
    exact ⟨_, rfl, d, _, rfl, DGet.at h1 h2, _, rfl, ln, _, _, _, rfl, rfl, SqL.of h5, e, q _ _ st1 (h6' _ (List.getElem_mem _))⟩
  · exact ⟨_, rfl, _, rfl, a, d, rfl, st1.s, hW1, fun z H2 st2 hz => q _ _ (st1.trans st2) hz⟩
theorem ok_l_number (T : Txt w K mg) : FnOk P w K mg base CX0 2 T.a_l_number T.d_l_number p_l_number spNum := by
  have g_l_pick := ok_l_pick (P := P) (w := w) (base := base) T
  refine T.F_l_number.ok sc_l_number (fun vs H Q E h => ?_) (fun cdv A outer s H vs Q E hr h => ?_)
  · obtain ⟨a, d, rfl, _⟩ := h
    rfl
  obtain ⟨a, d, rfl, hS, hW, q⟩ := h
  refine ⟨_, (pss_cons (ps_set (i := 2) sc_l_number.nd rfl (Or.inl rfl) (pe_call g_l_pick (hr.mono (by first | decide | omega)) rfl T.m_l_pick T.F_l_pick.kp T.b_l_pick .nil pass0 (pa_cons (pv 0) (pa_cons pe_int pa_nil))))
      (pss_cons (ps_if (pt_cmpR op_lt (pv 2) pe_int (nomark _)) (pss_one (ps_ret (pe_op op_sub (pe_call g_l_pick (hr.mono (by first | decide | omega)) rfl T.m_l_pick T.F_l_pick.kp T.b_l_pick .nil pass0 (pa_cons (pv 0) (pa_cons pe_int pa_nil))) pe_int))) pss_nil)
      (pss_cons (ps_set (i := 3) sc_l_number.nd rfl (Or.inl rfl) (pe_callB (call_min2 rfl) rfl T.z_min bb_min (pa_cons (pe_op op_add (pe_op op_mul (pe_call g_l_pick (hr.mono (by first | decide | omega)) rfl T.m_l_pick T.F_l_pick.kp T.b_l_pick .nil pass0 (pa_cons (pv 0) (pa_cons (pe_dget (hu_of hr) (pv 1) pe_str (fun _ _ => rfl)) pa_nil))) (pe_dget (hu_of hr) (pv 1) pe_str (fun _ _ => rfl))) (pe_call g_l_pick (hr.mono (by first | decide | omega)) rfl T.m_l_pick T.F_l_pick.kp T.b_l_pick .nil pass0 (pa_cons (pv 0) (pa_cons (pe_dget (hu_of hr) (pv 1) pe_str (fun _ _ => rfl)) pa_nil)))) (pa_cons (pe_op op_pow pe_int pe_int) pa_nil))))
      (pss_one (ps_ret (pe_ix ix_list (pe_lst (pa_cons (pv 3) (pa_cons (pe_un un_neg (pv 3)) pa_nil))) (pe_op op_sub (pv 2) pe_int) (fun _ _ => rfl))))))), ?_⟩
  refine ⟨_, rfl, a, 4, rfl, hS, by decide, fun c H1 st1 c0 c1 => ?_⟩
  refine ⟨_, rfl, _, _, rfl, rfl, _, rfl, ?_⟩
  refine ite2 (fun _ => ?_) (fun cc => ?_)
  · exact ⟨_, rfl, a, 21, rfl, st1.s, by decide, fun r H2 st2 r0 r1 => ⟨_, _, rfl, rfl, q _ _ (st1.trans st2) (by omega)⟩⟩
  have c2 : ¬ c < 2 := of_decide_eq_false (Bool.eq_false_iff.mpr cc)
  have hW1 := hW.stp hS st1
  obtain ⟨kvs, ln, nz, lng, side, h1, h2, h3, h4, h5, h6, h6', h7, h8, h9, h10⟩ := hW1.ex
  refine ⟨_, rfl, _, rfl, d, _, rfl, DGet.at h1 h4, a, _, rfl, st1.s, by omega, fun r H2 st2 r0 r1 => ?_⟩
  have hW2 := hW1.stp st1.s st2
  obtain ⟨kvs', ln', nz', lng', side', g1, g2, g3, g4, g5, g6, g6', g7, g8, g9, g10⟩ := hW2.ex
  refine ⟨_, rfl, d, _, rfl, DGet.at g1 g4, _, _, rfl, rfl, .inl ⟨by omega, by omega⟩, ?_⟩
  refine ⟨_, rfl, _, rfl, d, _, rfl, DGet.at g1 g4, a, _, rfl, st2.s, by omega, fun r3 H3 st3 r30 r31 => ?_⟩
  have pz : 0 ≤ r * side' := Int.mul_nonneg r0 (by omega)
  refine ⟨_, _, rfl, rfl, 10, 9, rfl, rfl, ⟨by decide, by decide, by decide⟩, _, _, rfl, ?_⟩
  have e9 : (10 ^ (9 : Int).toNat : Int) = 1000000000 := by decide
  rw [e9]
  have b1 : 0 ≤ (if (1000000000 : Int) < r * side' + r3 then (1000000000 : Int) else r * side' + r3) ∧ (if (1000000000 : Int) < r * side' + r3 then (1000000000 : Int) else r * side' + r3) ≤ 1000000000 := by
    split <;> omega
  have st4 := (st1.trans st2).trans st3
  refine ⟨_, rfl, _, rfl, _, rfl, by show 2 ≤ sizeLine; decide, fun p hp => ?_⟩
  refine ⟨_, rfl, c, 2, rfl, rfl, ?_⟩
  have c23 : c = 2 ∨ c = 3 := by omega
  rcases c23 with rfl | rfl
  · exact ⟨p, _, _, _, rfl, rfl, SqL.of upd_same, rfl, q _ _ (st4.new hp) (by omega)⟩
  · exact ⟨p, _, _, _, rfl, rfl, SqL.of upd_same, rfl, q _ _ (st4.new hp) (by omega)⟩
theorem fn_vac {k : Nat} {f : Addr} {fd : FuncData} {ps : List Str} {sp : Sp} (no : ∀ vs H Q E, ¬ sp vs H Q E) : FnOk P w K mg base CX0 k f fd ps sp :=
  ⟨fun vs H Q E h => absurd h (no vs H Q E), fun A outer s H args us vs Q E _ _ _ _ h => absurd h (no vs H Q E)⟩
theorem ops_mem {v : V} (h : v ∈ opsL.map V.str) : ∃ s ∈ opsL, v = .str s := by
  obtain ⟨s, h1, h2⟩ := List.mem_map.mp h
  exact ⟨s, h1, h2.symm⟩
theorem ok_node {m : Nat} (T : Txt w K mg) (g_l_expression : FnOk P w K mg base CX0 (2 * m + 4) T.a_l_expression T.d_l_expression p_l_expression (spExpr K m)) :
    FnOk P w K mg base CX0 (2 * m + 5) T.a_l_node T.d_l_node p_l_node (spNode K (m + 1)) := by
  have g_l_pick := ok_l_pick (P := P) (w := w) (base := base) T
  have g_l_number := ok_l_number (P := P) (w := w) (K := K) (base := base) T
  have g_l_word := ok_l_word (P := P) (w := w) (K := K) (base := base) T
  refine T.F_l_node.ok sc_l_node (fun vs H Q E h => ?_) (fun cdv A outer s H vs Q E hr h => ?_)
  · obtain ⟨a, d, c, n, rfl, _⟩ := h
    rfl
  obtain ⟨a, d, c, n, rfl, hS, hW, c0, c1, c2, hn, _, q⟩ := h
  refine ⟨_, (pss_cons (ps_if (pt_cmpR op_eq (pv 2) pe_int (nomark _)) (pss_one (ps_ret (pe_tup (pa_cons pe_str (pa_cons (pe_call g_l_number (hr.mono (by first | decide | omega)) rfl T.m_l_number T.F_l_number.kp T.b_l_number .nil pass0 (pa_cons (pv 0) (pa_cons (pv 1) pa_nil))) pa_nil))))) pss_nil)
      (pss_cons (ps_if (pt_cmpR op_eq (pv 2) pe_int (nomark _)) (pss_one (ps_ret (pe_tup (pa_cons pe_str (pa_cons (pe_call g_l_word (hr.mono (by first | decide | omega)) rfl T.m_l_word T.F_l_word.kp T.b_l_word .nil pass0 (pa_cons (pv 0) (pa_cons (pv 1) pa_nil))) pa_nil))))) pss_nil)
      (pss_cons (ps_if (pt_cmpR op_eq (pv 2) pe_int (nomark _)) (pss_one (ps_ret (pe_tup (pa_cons pe_str (pa_cons (pe_cmpR op_eq (pe_call g_l_pick (hr.mono (by first | decide | omega)) rfl T.m_l_pick T.F_l_pick.kp T.b_l_pick .nil pass0 (pa_cons (pv 0) (pa_cons pe_int pa_nil))) pe_int (nomark _)) pa_nil))))) pss_nil)
      (pss_cons (ps_if (pt_cmpR op_eq (pv 2) pe_int (nomark _)) (pss_one (ps_ret (pe_tup (pa_cons pe_str pa_nil)))) pss_nil)
      (pss_cons (ps_set (i := 4) sc_l_node.nd rfl (Or.inl rfl) (pe_call g_l_expression (hr.mono (by first | decide | omega)) rfl T.m_l_expression T.F_l_expression.kp T.b_l_expression .nil pass0 (pa_cons (pv 0) (pa_cons (pv 1) (pa_cons (pe_op op_sub (pv 3) pe_int) pa_nil)))))
      (pss_cons (ps_if (pt_cmpR op_eq (pv 2) pe_int (nomark _)) (pss_one (ps_ret (pe_tup (pa_cons pe_str (pa_cons (pv 4) pa_nil))))) pss_nil)
      (pss_cons (ps_set (i := 5) sc_l_node.nd rfl (Or.inl rfl) (pe_ix ix_list (pe_lst (pa_cons pe_str (pa_cons pe_str (pa_cons pe_str (pa_cons pe_str (pa_cons pe_str (pa_cons pe_str (pa_cons pe_str (pa_cons pe_str (pa_cons pe_str (pa_cons pe_str pa_nil))))))))))) (pe_op op_sub (pv 2) pe_int) (fun _ _ => rfl)))
      (pss_one (ps_ret (pe_tup (pa_cons (pv 5) (pa_cons (pv 4) (pa_cons (pe_call g_l_expression (hr.mono (by first | decide | omega)) rfl T.m_l_expression T.F_l_expression.kp T.b_l_expression .nil pass0 (pa_cons (pv 0) (pa_cons (pv 1) (pa_cons (pe_op op_sub (pv 3) pe_int) pa_nil)))) pa_nil))))))))))))), ?_⟩
  refine ⟨_, rfl, rfl, _, rfl, ite2 (fun _ => ?_) (fun h0 => ?_)⟩
  · refine ⟨_, rfl, _, rfl, a, d, rfl, hS, hW, fun r H1 st1 b => ⟨by show 2 ≤ sizeLine; decide, fun p hp => ?_⟩⟩
    exact q _ (.num r) _ (st1.new hp) b ⟨p, rfl, SqT.of upd_same⟩
  refine ⟨_, rfl, rfl, _, rfl, ite2 (fun _ => ?_) (fun h1 => ?_)⟩
  · refine ⟨_, rfl, _, rfl, a, d, rfl, hS, hW, fun r H1 st1 b => ⟨by show 2 ≤ sizeLine; decide, fun p hp => ?_⟩⟩
    exact q _ (.name r) _ (st1.new hp) b ⟨p, rfl, SqT.of upd_same⟩
  refine ⟨_, rfl, rfl, _, rfl, ite2 (fun _ => ?_) (fun h2 => ?_)⟩
  · refine ⟨_, rfl, a, 2, rfl, hS, by decide, fun r H1 st1 _ _ => ⟨rfl, by show 2 ≤ sizeLine; decide, fun p hp => ?_⟩⟩
    exact q _ (.flag _) _ (st1.new hp) trivial ⟨p, rfl, SqT.of upd_same⟩
  refine ⟨_, rfl, rfl, _, rfl, ite2 (fun _ => ?_) (fun h3 => ?_)⟩
  · refine ⟨by show 1 ≤ sizeLine; decide, fun p hp => ?_⟩
    exact q _ .null _ ((Stp.refl hS).new hp) trivial ⟨p, rfl, SqT.of upd_same⟩
  have n0 : c ≠ 0 := fun z => h0 (decide_eq_true (congrArg V.int z))
  have n1 : c ≠ 1 := fun z => h1 (decide_eq_true (congrArg V.int z))
  have n2 : c ≠ 2 := fun z => h2 (decide_eq_true (congrArg V.int z))
  have n3 : c ≠ 3 := fun z => h3 (decide_eq_true (congrArg V.int z))
  refine ⟨_, rfl, _, rfl, _, rfl, _, _, rfl, rfl, a, d, n - 1, rfl, hS, hW, by omega, by omega, fun x e1 H1 st1 o1 x1 => ?_⟩
  refine ⟨_, rfl, rfl, _, rfl, ite2 (fun _ => ?_) (fun h4 => ?_)⟩
  · refine ⟨_, rfl, by show 2 ≤ sizeLine; decide, fun p hp => ?_⟩
    exact q _ (.not e1) _ (st1.new hp) o1 ⟨p, x, rfl, SqT.of upd_same, ExAt.keep (Keeps.of_same (Same.new hp _)) x1⟩
  have n4 : c ≠ 4 := fun z => h4 (decide_eq_true (congrArg V.int z))
  refine ⟨by show 10 ≤ sizeLine; decide, fun l hl => ?_⟩
  have c5 : (c - 5).toNat < (opsL.map V.str).length := by
    show (c - 5).toNat < 10
    omega
  have e := atI_int (xs := opsL.map V.str) (r := c - 5) (by omega) c5
  obtain ⟨sg, hsg, esg⟩ := ops_mem (List.getElem_mem c5)
  rw [esg] at e
  refine ⟨_, rfl, _, _, rfl, rfl, l, opsL.map V.str, _, _, rfl, rfl, SqL.of upd_same, e, ?_⟩
  have s2 := Same.new hl (.lst (opsL.map V.str))
  have st2 : Stp a H1 (upd H1 l (.lst (opsL.map V.str))) := Stp.of_same st1.s s2
  refine ⟨_, rfl, _, rfl, _, rfl, _, rfl, _, rfl, _, _, rfl, rfl, a, d, n - 1, rfl, st2.s, (hW.stp hS st1).same s2, by omega, by omega, fun y e2 H3 st3 o2 y1 => ?_⟩
  refine ⟨by show 3 ≤ sizeLine; decide, fun p hp => ?_⟩
  have x3 : ExAt K H3 e1 x := ExAt.keep (Keeps.of_stp (st2.trans st3) st1.s) x1
  have kp : Keeps K H3 (upd H3 p (.tup [.str sg, x, y])) := Keeps.of_same (Same.new hp _)
  exact q _ (.bin sg e1 e2) _ ((st1.trans (st2.trans st3)).new hp) ⟨hsg, o1, o2⟩ ⟨p, x, y, rfl, SqT.of upd_same, ExAt.keep kp x3, ExAt.keep kp y1⟩
theorem ok_expr {m : Nat} (T : Txt w K mg) (g_l_node : FnOk P w K mg base CX0 (2 * m + 5) T.a_l_node T.d_l_node p_l_node (spNode K (m + 1))) :
    FnOk P w K mg base CX0 (2 * (m + 1) + 4) T.a_l_expression T.d_l_expression p_l_expression (spExpr K (m + 1)) := by
  have g_l_pick := ok_l_pick (P := P) (w := w) (base := base) T
  refine T.F_l_expression.ok sc_l_expression (fun vs H Q E h => ?_) (fun cdv A outer s H vs Q E hr h => ?_)
  · obtain ⟨a, d, n, rfl, _⟩ := h
    rfl
  obtain ⟨a, d, n, rfl, hS, hW, hn, _, q⟩ := h
  refine ⟨_, (pss_cons (ps_set (i := 3) sc_l_expression.nd rfl (Or.inl rfl) (pe_call g_l_pick (hr.mono (by first | decide | omega)) rfl T.m_l_pick T.F_l_pick.kp T.b_l_pick .nil pass0 (pa_cons (pv 0) (pa_cons pe_int pa_nil))))
      (C8.pss_cut (ps_if (PW.pt (pw_or (pt_cmpR op_lt (pv 2) pe_int (nomark _)) (pw_or1 (pt_cmpR op_eq (pe_call g_l_pick (hr.mono (by first | decide | omega)) rfl T.m_l_pick T.F_l_pick.kp T.b_l_pick .nil pass0 (pa_cons (pv 0) (pa_cons pe_int pa_nil))) pe_int (nomark _))))) (pss_one (ps_set (i := 3) sc_l_expression.nd rfl (Or.inl rfl) (pe_op op_modN (pv 3) pe_int))) pss_nil)
      (pss_one (ps_ret (pe_call g_l_node (hr.mono (by first | decide | omega)) rfl T.m_l_node T.F_l_node.kp T.b_l_node .nil pass0 (pa_cons (pv 0) (pa_cons (pv 1) (pa_cons (pv 3) (pa_cons (pv 2) pa_nil))))))))), ?_⟩
  refine ⟨_, rfl, a, 15, rfl, hS, by decide, fun c H1 st1 c0 c1 => ?_⟩
  refine ⟨fun σ H2 => Stp a H H2 ∧ ∃ c : Int, 0 ≤ c ∧ c < 15 ∧ (c < 4 ∨ 1 ≤ n) ∧ σ = [some (.ref a), some (.ref d), some (.int n), some (.int c)], ⟨_, rfl, n, 1, rfl, rfl, _, rfl, ?_⟩, ?_⟩
  · have b := fmod_bd (x := c) (m := 4) (by decide)
    refine ite2 (fun _ => iteT ⟨_, rfl, _, _, rfl, rfl, (by intro z; cases z), ⟨st1, _, b.1, by omega, .inl b.2, rfl⟩⟩) (fun hc => ?_)
    have hc' : ¬ n < 1 := of_decide_eq_false (Bool.eq_false_iff.mpr hc)
    refine ⟨_, rfl, a, 3, rfl, st1.s, by decide, fun r H2 st2 _ _ => ⟨rfl, _, rfl, ?_⟩⟩
    exact ite2 (fun _ => ⟨_, rfl, _, _, rfl, rfl, (by intro z; cases z), ⟨st1.trans st2, _, b.1, by omega, .inl b.2, rfl⟩⟩) (fun _ => ⟨st1.trans st2, c, c0, by omega, .inr (by omega), rfl⟩)
  rintro σ H2 ⟨st2, c, c0, c1, c2, rfl⟩
  exact ⟨_, rfl, _, rfl, _, rfl, _, rfl, a, d, c, n, rfl, st2.s, hW.stp hS st2, c0, c1, c2, hn, by omega, fun v e H3 st3 o x => q v e H3 (st2.trans st3) o x⟩
theorem ok_draws (T : Txt w K mg) : ∀ m : Nat, FnOk P w K mg base CX0 (2 * m + 4) T.a_l_expression T.d_l_expression p_l_expression (spExpr K m) ∧ FnOk P w K mg base CX0 (2 * m + 3) T.a_l_node T.d_l_node p_l_node (spNode K m)
  | 0 => ⟨fn_vac fun vs H Q E h => by obtain ⟨a, d, n, _, _, _, _, h, _⟩ := h; omega, fn_vac fun vs H Q E h => by obtain ⟨a, d, c, n, _, _, _, _, _, _, _, h, _⟩ := h; omega⟩
  | m + 1 => by
    have ih := (ok_draws T m).1
    have h1 := ok_node T ih
    exact ⟨ok_expr T h1, h1⟩
end
/-- f-strings of two parts or more, by a name -/
def tJoined (ts : List TE) : TE := fun σ H Q => tJs ts Str.empty σ H fun out H1 => Q (.str out) H1
theorem pe_joinedN {X : Cx} {v1 v2 : Expr} {rest : List Expr} {ts : List TE} {pos : Pos} (h : PJ X (v1 :: v2 :: rest) ts) : PE X (.JoinedStr (v1 :: v2 :: rest) pos) (tJoined ts) := pe_joined h
/-! ### the two texts -/
theorem l_not : ("(not " : Str).length = 5 := by decide +kernel
theorem l_cl : (")" : Str).length = 1 := by decide +kernel
theorem l_op : ("(" : Str).length = 1 := by decide +kernel
theorem l_sp : (" " : Str).length = 1 := by decide +kernel
theorem l_dd : (".." : Str).length = 2 := by decide +kernel
theorem l_emp : (Str.empty).length = 0 := by decide +kernel
theorem emp_app (x : Str) : Str.empty ++ x = x := congrArg Str.mk (Array.empty_append)
theorem txt_fit {m : Nat} {e : Ex} (h : e.ok m) (hm : m ≤ 12) : (txt e).length ≤ 131072 := by
  have h1 := txt_len h
  have h2 : 2 ^ m ≤ 2 ^ 12 := Nat.pow_le_pow_right (by decide) hm
  have h3 : (2 : Nat) ^ 12 = 4096 := by decide
  omega
inductive Kd where
  | flag | ref (s : Str) | num (lo hi : Int)
def Kd.vals : Kd → List V
  | .flag => [.str "flag"]
  | .ref s => [.str "ref", .str s]
  | .num lo hi => [.str "num", .int lo, .int hi]
def Kd.ok : Kd → Prop
  | .flag => True
  | .ref s => s.length ≤ 20
  | .num lo hi => (-1000000000 ≤ lo ∧ lo ≤ 1000000000) ∧ (-1000000000 ≤ hi ∧ hi ≤ 1000000000)
def kdT : Kd → Str
  | .flag => "flag"
  | .ref s => s
  | .num lo hi => numS lo ++ (".." : Str) ++ numS hi
def KdAt (K : PySem.W.Frag) (H : Hp) (v : V) (k : Kd) : Prop := ∃ p, v = .ref p ∧ SqT K H p k.vals
def spTx (K : PySem.W.Frag) (m : Nat) : Sp := fun vs H Q _ => ∃ (v : V) (e : Ex), vs = [v] ∧ ExAt K H e v ∧ e.ok m ∧ Q (.str (txt e)) H
def spTl (K : PySem.W.Frag) (m : Nat) : Sp := fun vs H Q _ => ∃ (v : V) (e : Ex), vs = [v] ∧ ExAt K H e v ∧ e.ok m ∧ ∀ H', Same H H' → Q (.str (txt e)) H'
def spKt (K : PySem.W.Frag) : Sp := fun vs H Q _ => ∃ (v : V) (k : Kd), vs = [v] ∧ KdAt K H v k ∧ k.ok ∧ Q (.str (kdT k)) H
section
variable {P : Program} {w : World} {K : PySem.W.Frag} {mg : Str → Option Value} {base : Heap}
theorem ok_expression_text (T : Txt w K mg) : ∀ m : Nat, m ≤ 12 → FnOk P w K mg base CX0 m T.a_expression_text T.d_expression_text p_expression_text (spTx K m)
  | 0, _ => fn_vac fun vs H Q E h => by obtain ⟨v, e, _, _, h, _⟩ := h; exact h
  | m + 1, hm => by
    have g_expression_text := ok_expression_text T m (by omega)
    refine T.F_expression_text.ok sc_expression_text (fun vs H Q E h => ?_) (fun cdv A outer s H vs Q E hr h => ?_)
    · obtain ⟨v, e, rfl, _⟩ := h
      rfl
    obtain ⟨v, e, rfl, hx, ho, q⟩ := h
    refine ⟨_, (pss_cons (ps_set (i := 1) sc_expression_text.nd rfl (Or.inl rfl) (pe_ix ix_tup (pv 0) pe_int (fun _ _ => rfl)))
      (pss_cons (ps_if (pt_cmpR op_eq (pv 1) pe_str (nomark _)) (pss_one (ps_ret (pe_callTy call_str_int rfl T.z_str bt_str (pa_cons (pe_ix ix_tup (pv 0) pe_int (fun _ _ => rfl)) pa_nil)))) pss_nil)
      (pss_cons (ps_if (pt_cmpR op_eq (pv 1) pe_str (nomark _)) (pss_one (ps_ret (pe_ifExp (pt_val (pe_ix ix_tup (pv 0) pe_int (fun _ _ => rfl))) pe_str pe_str))) pss_nil)
      (pss_cons (ps_if (pt_cmpR op_eq (pv 1) pe_str (nomark _)) (pss_one (ps_ret pe_str)) pss_nil)
      (pss_cons (ps_if (pt_cmpR op_eq (pv 1) pe_str (nomark _)) (pss_one (ps_ret (pe_ix ix_tup (pv 0) pe_int (fun _ _ => rfl)))) pss_nil)
      (pss_cons (ps_if (pt_cmpR op_eq (pv 1) pe_str (nomark _)) (pss_one (ps_ret (pe_joinedN (PJ.cons pe_str (PJ.cons (pe_fmt (pe_call g_expression_text (hr.mono (by first | decide | omega)) rfl T.m_expression_text T.F_expression_text.kp T.b_expression_text .nil pass0 (pa_cons (pe_ix ix_tup (pv 0) pe_int (fun _ _ => rfl)) pa_nil))) (PJ.cons pe_str PJ.nil)))))) pss_nil)
      (pss_one (ps_ret (pe_joinedN (PJ.cons pe_str (PJ.cons (pe_fmt (pe_call g_expression_text (hr.mono (by first | decide | omega)) rfl T.m_expression_text T.F_expression_text.kp T.b_expression_text .nil pass0 (pa_cons (pe_ix ix_tup (pv 0) pe_int (fun _ _ => rfl)) pa_nil))) (PJ.cons pe_str (PJ.cons (pe_fmt (pv 1)) (PJ.cons pe_str (PJ.cons (pe_fmt (pe_call g_expression_text (hr.mono (by first | decide | omega)) rfl T.m_expression_text T.F_expression_text.kp T.b_expression_text .nil pass0 (pa_cons (pe_ix ix_tup (pv 0) pe_int (fun _ _ => rfl)) pa_nil))) (PJ.cons pe_str PJ.nil)))))))))))))))), ?_⟩
    cases e with
    | num i =>
      obtain ⟨p, rfl, hp⟩ := hx
      exact ⟨_, rfl, p, _, 0, _, rfl, rfl, hp, rfl, _, rfl, rfl, _, rfl, ifT (by decide +kernel) ⟨_, rfl, p, _, 1, _, rfl, rfl, hp, rfl, _, rfl, log_ok ho, q⟩⟩
    | flag b =>
      obtain ⟨p, rfl, hp⟩ := hx
      refine ⟨_, rfl, p, _, 0, _, rfl, rfl, hp, rfl, _, rfl, rfl, _, rfl, ifF (by decide +kernel) ⟨_, rfl, rfl, _, rfl, ifT (by decide +kernel) ⟨_, rfl, p, _, 1, _, rfl, rfl, hp, rfl, _, rfl, ?_⟩⟩⟩
      cases b with
      | true => exact iteT q
      | false => exact iteF q
    | null =>
      obtain ⟨p, rfl, hp⟩ := hx
      exact ⟨_, rfl, p, _, 0, _, rfl, rfl, hp, rfl, _, rfl, rfl, _, rfl, ifF (by decide +kernel) ⟨_, rfl, rfl, _, rfl, ifF (by decide +kernel) ⟨_, rfl, rfl, _, rfl, ifT (by decide +kernel) q⟩⟩⟩
    | name z =>
      obtain ⟨p, rfl, hp⟩ := hx
      exact ⟨_, rfl, p, _, 0, _, rfl, rfl, hp, rfl, _, rfl, rfl, _, rfl, ifF (by decide +kernel) ⟨_, rfl, rfl, _, rfl, ifF (by decide +kernel) ⟨_, rfl, rfl, _, rfl, ifF (by decide +kernel) ⟨_, rfl, rfl, _, rfl, ifT (by decide +kernel) ⟨_, rfl, p, _, 1, _, rfl, rfl, hp, rfl, q⟩⟩⟩⟩⟩
    | not a =>
      obtain ⟨p, x, rfl, hp, hx⟩ := hx
      have f1 := txt_fit (m := m) (e := a) ho (by omega)
      refine ⟨_, rfl, p, _, 0, _, rfl, rfl, hp, rfl, _, rfl, rfl, _, rfl, ifF (by decide +kernel) ⟨_, rfl, rfl, _, rfl, ifF (by decide +kernel) ⟨_, rfl, rfl, _, rfl, ifF (by decide +kernel) ⟨_, rfl, rfl, _, rfl, ifF (by decide +kernel) ⟨_, rfl, rfl, _, rfl, ifT (by decide +kernel) ?_⟩⟩⟩⟩⟩
      refine ⟨_, rfl, (by rw [sizeLine_eq]; (try simp only [len_app, l_not, l_cl, l_op, l_sp, l_dd, l_emp]); omega), _, rfl, p, _, 1, _, rfl, rfl, hp, rfl, x, a, rfl, hx, ho, .inl ⟨_, rfl, (by rw [sizeLine_eq]; (try simp only [len_app, l_not, l_cl, l_op, l_sp, l_dd, l_emp]); omega), _, rfl, (by rw [sizeLine_eq]; (try simp only [len_app, l_not, l_cl, l_op, l_sp, l_dd, l_emp]); omega), _, rfl, (by rw [sizeLine_eq]; (try simp only [len_app, l_not, l_cl, l_op, l_sp, l_dd, l_emp]); omega), ?_⟩⟩
      rw [emp_app]
      exact q
    | bin op a b =>
      obtain ⟨p, x, y, rfl, hp, hx, hy⟩ := hx
      obtain ⟨ho, oa, ob⟩ := ho
      obtain ⟨n1, n2, n3, n4, n5, n6⟩ := ops_ne op ho
      have f1 := txt_fit oa (by omega)
      have f2 := txt_fit ob (by omega)
      refine ⟨_, rfl, p, _, 0, _, rfl, rfl, hp, rfl, _, rfl, rfl, _, rfl, ifF (decide_eq_false n1) ⟨_, rfl, rfl, _, rfl, ifF (decide_eq_false n2) ⟨_, rfl, rfl, _, rfl, ifF (decide_eq_false n3) ⟨_, rfl, rfl, _, rfl, ifF (decide_eq_false n4) ⟨_, rfl, rfl, _, rfl, ifF (decide_eq_false n5) ?_⟩⟩⟩⟩⟩
      refine ⟨_, rfl, (by rw [sizeLine_eq]; (try simp only [len_app, l_not, l_cl, l_op, l_sp, l_dd, l_emp]); omega), _, rfl, p, _, 1, _, rfl, rfl, hp, rfl, x, a, rfl, hx, oa, .inl ⟨_, rfl, (by rw [sizeLine_eq]; (try simp only [len_app, l_not, l_cl, l_op, l_sp, l_dd, l_emp]); omega), _, rfl, (by rw [sizeLine_eq]; (try simp only [len_app, l_not, l_cl, l_op, l_sp, l_dd, l_emp]); omega), _, rfl, (by rw [sizeLine_eq]; (try simp only [len_app, l_not, l_cl, l_op, l_sp, l_dd, l_emp]); omega), _, rfl, .inl ⟨_, rfl, (by rw [sizeLine_eq]; (try simp only [len_app, l_not, l_cl, l_op, l_sp, l_dd, l_emp]); omega), _, rfl, (by rw [sizeLine_eq]; (try simp only [len_app, l_not, l_cl, l_op, l_sp, l_dd, l_emp]); omega), _, rfl, (by rw [sizeLine_eq]; (try simp only [len_app, l_not, l_cl, l_op, l_sp, l_dd, l_emp]); omega), _, rfl, p, _, 2, _, rfl, rfl, hp, rfl, y, b, rfl, hy, ob, .inl ⟨_, rfl, (by rw [sizeLine_eq]; (try simp only [len_app, l_not, l_cl, l_op, l_sp, l_dd, l_emp]); omega), _, rfl, (by rw [sizeLine_eq]; (try simp only [len_app, l_not, l_cl, l_op, l_sp, l_dd, l_emp]); omega), _, rfl, (by rw [sizeLine_eq]; (try simp only [len_app, l_not, l_cl, l_op, l_sp, l_dd, l_emp]); omega), ?_⟩⟩⟩⟩
      rw [emp_app]
      exact q
theorem ok_l_text (T : Txt w K mg) : ∀ m : Nat, m ≤ 12 → FnOk P w K mg base CX0 m T.a_l_text T.d_l_text p_l_text (spTl K m)
  | 0, _ => fn_vac fun vs H Q E h => by obtain ⟨v, e, _, _, h, _⟩ := h; exact h
  | m + 1, hm => by
    have g_l_text := ok_l_text T m (by omega)
    refine T.F_l_text.ok sc_l_text (fun vs H Q E h => ?_) (fun cdv A outer s H vs Q E hr h => ?_)
    · obtain ⟨v, e, rfl, _⟩ := h
      rfl
    obtain ⟨v, e, rfl, hx, ho, q⟩ := h
    refine ⟨_, (pss_cons (ps_set (i := 1) sc_l_text.nd rfl (Or.inl rfl) (pe_ix ix_tup (pv 0) pe_int (fun _ _ => rfl)))
      (pss_cons (ps_if (pt_cmpR op_eq (pv 1) pe_str (nomark _)) (pss_one (ps_ret (pe_callTy call_str_int rfl T.z_str bt_str (pa_cons (pe_ix ix_tup (pv 0) pe_int (fun _ _ => rfl)) pa_nil)))) pss_nil)
      (pss_cons (ps_if (pt_cmpR op_eq (pv 1) pe_str (nomark _)) (pss_one (ps_ret (pe_ix ix_list (pe_lst (pa_cons pe_str (pa_cons pe_str pa_nil))) (pe_callTy call_int1 rfl T.z_int bt_int (pa_cons (pe_ix ix_tup (pv 0) pe_int (fun _ _ => rfl)) pa_nil)) (fun _ _ => rfl)))) pss_nil)
      (pss_cons (ps_if (pt_cmpR op_eq (pv 1) pe_str (nomark _)) (pss_one (ps_ret pe_str)) pss_nil)
      (pss_cons (ps_if (pt_cmpR op_eq (pv 1) pe_str (nomark _)) (pss_one (ps_ret (pe_ix ix_tup (pv 0) pe_int (fun _ _ => rfl)))) pss_nil)
      (pss_cons (ps_if (pt_cmpR op_eq (pv 1) pe_str (nomark _)) (pss_one (ps_ret (pe_op op_add_str (pe_op op_add_str pe_str (pe_call g_l_text (hr.mono (by first | decide | omega)) rfl T.m_l_text T.F_l_text.kp T.b_l_text .nil pass0 (pa_cons (pe_ix ix_tup (pv 0) pe_int (fun _ _ => rfl)) pa_nil))) pe_str))) pss_nil)
      (pss_one (ps_ret (pe_op op_add_str (pe_op op_add_str (pe_op op_add_str (pe_op op_add_str (pe_op op_add_str (pe_op op_add_str pe_str (pe_call g_l_text (hr.mono (by first | decide | omega)) rfl T.m_l_text T.F_l_text.kp T.b_l_text .nil pass0 (pa_cons (pe_ix ix_tup (pv 0) pe_int (fun _ _ => rfl)) pa_nil))) pe_str) (pv 1)) pe_str) (pe_call g_l_text (hr.mono (by first | decide | omega)) rfl T.m_l_text T.F_l_text.kp T.b_l_text .nil pass0 (pa_cons (pe_ix ix_tup (pv 0) pe_int (fun _ _ => rfl)) pa_nil))) pe_str))))))))), ?_⟩
    cases e with
    | num i =>
      obtain ⟨p, rfl, hp⟩ := hx
      exact ⟨_, rfl, p, _, 0, _, rfl, rfl, hp, rfl, _, rfl, rfl, _, rfl, ifT (by decide +kernel) ⟨_, rfl, p, _, 1, _, rfl, rfl, hp, rfl, _, rfl, log_ok ho, q _ (Same.refl H)⟩⟩
    | flag b =>
      obtain ⟨p, rfl, hp⟩ := hx
      refine ⟨_, rfl, p, _, 0, _, rfl, rfl, hp, rfl, _, rfl, rfl, _, rfl, ifF (by decide +kernel) ⟨_, rfl, rfl, _, rfl, ifT (by decide +kernel) ⟨by show 2 ≤ sizeLine; decide, fun l hl => ?_⟩⟩⟩
      have hp' := Same.tup (Same.new hl (.lst [.str "false", .str "true"])) hp
      refine ⟨_, rfl, p, _, 1, _, rfl, rfl, hp', rfl, .inr ⟨b, rfl, ?_⟩⟩
      cases b with
      | true => exact ⟨l, _, 1, _, rfl, rfl, SqL.of upd_same, rfl, q _ (Same.new hl _)⟩
      | false => exact ⟨l, _, 0, _, rfl, rfl, SqL.of upd_same, rfl, q _ (Same.new hl _)⟩
    | null =>
      obtain ⟨p, rfl, hp⟩ := hx
      exact ⟨_, rfl, p, _, 0, _, rfl, rfl, hp, rfl, _, rfl, rfl, _, rfl, ifF (by decide +kernel) ⟨_, rfl, rfl, _, rfl, ifF (by decide +kernel) ⟨_, rfl, rfl, _, rfl, ifT (by decide +kernel) (q _ (Same.refl H))⟩⟩⟩
    | name z =>
      obtain ⟨p, rfl, hp⟩ := hx
      exact ⟨_, rfl, p, _, 0, _, rfl, rfl, hp, rfl, _, rfl, rfl, _, rfl, ifF (by decide +kernel) ⟨_, rfl, rfl, _, rfl, ifF (by decide +kernel) ⟨_, rfl, rfl, _, rfl, ifF (by decide +kernel) ⟨_, rfl, rfl, _, rfl, ifT (by decide +kernel) ⟨_, rfl, p, _, 1, _, rfl, rfl, hp, rfl, q _ (Same.refl H)⟩⟩⟩⟩⟩
    | not a =>
      obtain ⟨p, x, rfl, hp, hx⟩ := hx
      have f1 := txt_fit (m := m) (e := a) ho (by omega)
      refine ⟨_, rfl, p, _, 0, _, rfl, rfl, hp, rfl, _, rfl, rfl, _, rfl, ifF (by decide +kernel) ⟨_, rfl, rfl, _, rfl, ifF (by decide +kernel) ⟨_, rfl, rfl, _, rfl, ifF (by decide +kernel) ⟨_, rfl, rfl, _, rfl, ifF (by decide +kernel) ⟨_, rfl, rfl, _, rfl, ifT (by decide +kernel) ?_⟩⟩⟩⟩⟩
      exact ⟨_, rfl, p, _, 1, _, rfl, rfl, hp, rfl, x, a, rfl, hx, ho, fun H1 s1 => ⟨_, _, rfl, rfl, (by rw [sizeLine_eq]; (try simp only [len_app, l_not, l_cl, l_op, l_sp, l_dd, l_emp]); omega), _, _, rfl, rfl, (by rw [sizeLine_eq]; (try simp only [len_app, l_not, l_cl, l_op, l_sp, l_dd, l_emp]); omega), q _ s1⟩⟩
    | bin op a b =>
      obtain ⟨p, x, y, rfl, hp, hx, hy⟩ := hx
      obtain ⟨ho, oa, ob⟩ := ho
      obtain ⟨n1, n2, n3, n4, n5, n6⟩ := ops_ne op ho
      have f1 := txt_fit oa (by omega)
      have f2 := txt_fit ob (by omega)
      refine ⟨_, rfl, p, _, 0, _, rfl, rfl, hp, rfl, _, rfl, rfl, _, rfl, ifF (decide_eq_false n1) ⟨_, rfl, rfl, _, rfl, ifF (decide_eq_false n2) ⟨_, rfl, rfl, _, rfl, ifF (decide_eq_false n3) ⟨_, rfl, rfl, _, rfl, ifF (decide_eq_false n4) ⟨_, rfl, rfl, _, rfl, ifF (decide_eq_false n5) ?_⟩⟩⟩⟩⟩
      refine ⟨_, rfl, p, _, 1, _, rfl, rfl, hp, rfl, x, a, rfl, hx, oa, fun H1 s1 => ?_⟩
      have hp1 := Same.tup s1 hp
      have hy1 := ExAt.keep (Keeps.of_same s1) hy
      exact ⟨_, _, rfl, rfl, (by rw [sizeLine_eq]; (try simp only [len_app, l_not, l_cl, l_op, l_sp, l_dd, l_emp]); omega), _, _, rfl, rfl, (by rw [sizeLine_eq]; (try simp only [len_app, l_not, l_cl, l_op, l_sp, l_dd, l_emp]); omega), _, rfl, _, _, rfl, rfl, (by rw [sizeLine_eq]; (try simp only [len_app, l_not, l_cl, l_op, l_sp, l_dd, l_emp]); omega), _, _, rfl, rfl, (by rw [sizeLine_eq]; (try simp only [len_app, l_not, l_cl, l_op, l_sp, l_dd, l_emp]); omega), _, rfl, p, _, 2, _, rfl, rfl, hp1, rfl, y, b, rfl, hy1, ob, fun H2 s2 => ⟨_, _, rfl, rfl, (by rw [sizeLine_eq]; (try simp only [len_app, l_not, l_cl, l_op, l_sp, l_dd, l_emp]); omega), _, _, rfl, rfl, (by rw [sizeLine_eq]; (try simp only [len_app, l_not, l_cl, l_op, l_sp, l_dd, l_emp]); omega), q _ (s1.trans s2)⟩⟩
theorem ok_kind_text (T : Txt w K mg) : FnOk P w K mg base CX0 1 T.a_kind_text T.d_kind_text p_kind_text (spKt K) := by
  refine T.F_kind_text.ok sc_kind_text (fun vs H Q E h => ?_) (fun cdv A outer s H vs Q E hr h => ?_)
  · obtain ⟨v, e, rfl, _⟩ := h
    rfl
  obtain ⟨v, k, rfl, ⟨p, rfl, hp⟩, ok, q⟩ := h
  refine ⟨_, (pss_cons (ps_if (pt_cmpR op_eq (pe_ix ix_tup (pv 0) pe_int (fun _ _ => rfl)) pe_str (nomark _)) (pss_one (ps_ret pe_str)) pss_nil)
      (pss_cons (ps_if (pt_cmpR op_eq (pe_ix ix_tup (pv 0) pe_int (fun _ _ => rfl)) pe_str (nomark _)) (pss_one (ps_ret (pe_ix ix_tup (pv 0) pe_int (fun _ _ => rfl)))) pss_nil)
      (pss_one (ps_ret (pe_joinedN (PJ.cons (pe_fmt (pe_ix ix_tup (pv 0) pe_int (fun _ _ => rfl))) (PJ.cons pe_str (PJ.cons (pe_fmt (pe_ix ix_tup (pv 0) pe_int (fun _ _ => rfl))) PJ.nil)))))))), ?_⟩
  cases k with
  | flag => exact ⟨_, rfl, p, _, 0, _, rfl, rfl, hp, rfl, rfl, _, rfl, ifT (by decide +kernel) q⟩
  | ref z => exact ⟨_, rfl, p, _, 0, _, rfl, rfl, hp, rfl, rfl, _, rfl, ifF (by decide +kernel) ⟨_, rfl, p, _, 0, _, rfl, rfl, hp, rfl, rfl, _, rfl, ifT (by decide +kernel) ⟨_, rfl, p, _, 1, _, rfl, rfl, hp, rfl, q⟩⟩⟩
  | num lo hi =>
    have f1 := numS_len ok.1
    have f2 := numS_len ok.2
    have g1 : (Str.ofString (toString lo)).length ≤ 11 := f1
    have g2 : (Str.ofString (toString hi)).length ≤ 11 := f2
    refine ⟨_, rfl, p, _, 0, _, rfl, rfl, hp, rfl, rfl, _, rfl, ifF (by decide +kernel) ⟨_, rfl, p, _, 0, _, rfl, rfl, hp, rfl, rfl, _, rfl, ifF (by decide +kernel) ?_⟩⟩
    refine ⟨_, rfl, p, _, 1, _, rfl, rfl, hp, rfl, .inr ⟨_, rfl, log_ok ok.1, _, rfl, (by rw [sizeLine_eq]; (try simp only [len_app, l_not, l_cl, l_op, l_sp, l_dd, l_emp]); omega), _, rfl, (by rw [sizeLine_eq]; (try simp only [len_app, l_not, l_cl, l_op, l_sp, l_dd, l_emp]); omega), _, rfl, p, _, 2, _, rfl, rfl, hp, rfl, .inr ⟨_, rfl, log_ok ok.2, _, rfl, (by rw [sizeLine_eq]; (try simp only [len_app, l_not, l_cl, l_op, l_sp, l_dd, l_emp]); omega), ?_⟩⟩⟩
    rw [emp_app]
    exact q
theorem ok_l_kind_text (T : Txt w K mg) : FnOk P w K mg base CX0 1 T.a_l_kind_text T.d_l_kind_text p_l_kind_text (spKt K) := by
  refine T.F_l_kind_text.ok sc_l_kind_text (fun vs H Q E h => ?_) (fun cdv A outer s H vs Q E hr h => ?_)
  · obtain ⟨v, e, rfl, _⟩ := h
    rfl
  obtain ⟨v, k, rfl, ⟨p, rfl, hp⟩, ok, q⟩ := h
  refine ⟨_, (pss_cons (ps_if (pt_cmpR op_eq (pe_ix ix_tup (pv 0) pe_int (fun _ _ => rfl)) pe_str (nomark _)) (pss_one (ps_ret pe_str)) pss_nil)
      (pss_cons (ps_if (pt_cmpR op_eq (pe_ix ix_tup (pv 0) pe_int (fun _ _ => rfl)) pe_str (nomark _)) (pss_one (ps_ret (pe_ix ix_tup (pv 0) pe_int (fun _ _ => rfl)))) pss_nil)
      (pss_one (ps_ret (pe_op op_add_str (pe_op op_add_str (pe_callTy call_str_int rfl T.z_str bt_str (pa_cons (pe_ix ix_tup (pv 0) pe_int (fun _ _ => rfl)) pa_nil)) pe_str) (pe_callTy call_str_int rfl T.z_str bt_str (pa_cons (pe_ix ix_tup (pv 0) pe_int (fun _ _ => rfl)) pa_nil))))))), ?_⟩
  cases k with
  | flag => exact ⟨_, rfl, p, _, 0, _, rfl, rfl, hp, rfl, rfl, _, rfl, ifT (by decide +kernel) q⟩
  | ref z => exact ⟨_, rfl, p, _, 0, _, rfl, rfl, hp, rfl, rfl, _, rfl, ifF (by decide +kernel) ⟨_, rfl, p, _, 0, _, rfl, rfl, hp, rfl, rfl, _, rfl, ifT (by decide +kernel) ⟨_, rfl, p, _, 1, _, rfl, rfl, hp, rfl, q⟩⟩⟩
  | num lo hi =>
    have f1 := numS_len ok.1
    have f2 := numS_len ok.2
    have g1 : (Str.ofString (toString lo)).length ≤ 11 := f1
    have g2 : (Str.ofString (toString hi)).length ≤ 11 := f2
    refine ⟨_, rfl, p, _, 0, _, rfl, rfl, hp, rfl, rfl, _, rfl, ifF (by decide +kernel) ⟨_, rfl, p, _, 0, _, rfl, rfl, hp, rfl, rfl, _, rfl, ifF (by decide +kernel) ?_⟩⟩
    exact ⟨_, rfl, p, _, 1, _, rfl, rfl, hp, rfl, _, rfl, log_ok ok.1, _, _, rfl, rfl, (by rw [sizeLine_eq]; (try simp only [len_app, l_not, l_cl, l_op, l_sp, l_dd, l_emp]); omega), _, rfl, p, _, 2, _, rfl, rfl, hp, rfl, _, rfl, log_ok ok.2, _, _, rfl, rfl, (by rw [sizeLine_eq]; (try simp only [len_app, l_not, l_cl, l_op, l_sp, l_dd, l_emp]); omega), q⟩
end
/-! ### statements and bodies -/
mutual
inductive Sm where
  | set (x : Str) (e : Ex) | input (x : Str) | new (x : Str) | free (x : Str) | load (x y f : Str) | store (y f : Str) (e : Ex) | get (x a : Str) (e : Ex) | put (a : Str) (e1 e2 : Ex)
  | call (x : Option Str) (g : Str) (es : List Ex) | ret (e : Option Ex) | iff (e : Ex) (b c : Bd) | loop (e : Ex) (b : Bd) | brk | asrt (e : Ex)
inductive Bd where
  | nil | cons (s : Sm) (b : Bd)
end
def ExL (K : PySem.W.Frag) (H : Hp) : List Ex → List V → Prop
  | [], [] => True
  | e :: es, v :: vs => ExAt K H e v ∧ ExL K H es vs
  | _, _ => False
theorem ExL.keep {K : PySem.W.Frag} {H H' : Hp} (k : Keeps K H H') : ∀ {es : List Ex} {vs : List V}, ExL K H es vs → ExL K H' es vs
  | [], [], _ => trivial
  | _ :: _, _ :: _, h => ⟨ExAt.keep k h.1, ExL.keep k h.2⟩
  | [], _ :: _, h => h.elim
  | _ :: _, [], h => h.elim
def optV : Option Str → V
  | none => .non
  | some x => .str x
mutual
def SmAt (K : PySem.W.Frag) (H : Hp) : Sm → V → Prop
  | .set x e, v => ∃ p a, v = .ref p ∧ SqT K H p [.str "set", .str x, a] ∧ ExAt K H e a
  | .input x, v => ∃ p, v = .ref p ∧ SqT K H p [.str "input", .str x]
  | .new x, v => ∃ p, v = .ref p ∧ SqT K H p [.str "new", .str x]
  | .free x, v => ∃ p, v = .ref p ∧ SqT K H p [.str "free", .str x]
  | .load x y f, v => ∃ p, v = .ref p ∧ SqT K H p [.str "load", .str x, .str y, .str f]
  | .store y f e, v => ∃ p a, v = .ref p ∧ SqT K H p [.str "store", .str y, .str f, a] ∧ ExAt K H e a
  | .get x y e, v => ∃ p a, v = .ref p ∧ SqT K H p [.str "get", .str x, .str y, a] ∧ ExAt K H e a
  | .put y e1 e2, v => ∃ p a b, v = .ref p ∧ SqT K H p [.str "put", .str y, a, b] ∧ ExAt K H e1 a ∧ ExAt K H e2 b
  | .call x g es, v => ∃ p q vs, v = .ref p ∧ SqT K H p [.str "call", optV x, .str g, .ref q] ∧ SqT K H q vs ∧ ExL K H es vs
  | .ret none, v => ∃ p, v = .ref p ∧ SqT K H p [.str "return", .non]
  | .ret (some e), v => ∃ p a, v = .ref p ∧ SqT K H p [.str "return", a] ∧ ExAt K H e a
  | .iff e b c, v => ∃ p a q r vs ws, v = .ref p ∧ SqT K H p [.str "if", a, .ref q, .ref r] ∧ ExAt K H e a ∧ SqT K H q vs ∧ BdL K H b vs ∧ SqT K H r ws ∧ BdL K H c ws
  | .loop e b, v => ∃ p a q vs, v = .ref p ∧ SqT K H p [.str "while", a, .ref q] ∧ ExAt K H e a ∧ SqT K H q vs ∧ BdL K H b vs
  | .brk, v => ∃ p, v = .ref p ∧ SqT K H p [.str "break"]
  | .asrt e, v => ∃ p a, v = .ref p ∧ SqT K H p [.str "assert", a] ∧ ExAt K H e a
def BdL (K : PySem.W.Frag) (H : Hp) : Bd → List V → Prop
  | .nil, vs => vs = []
  | .cons s b, vs => ∃ v ws, vs = v :: ws ∧ SmAt K H s v ∧ BdL K H b ws
end
mutual
theorem SmAt.keep {K : PySem.W.Frag} {H H' : Hp} (k : Keeps K H H') : ∀ {s : Sm} {v : V}, SmAt K H s v → SmAt K H' s v
  | .set _ _, _, ⟨p, a, e, h, x⟩ => ⟨p, a, e, k _ _ h, ExAt.keep k x⟩
  | .input _, _, ⟨p, e, h⟩ => ⟨p, e, k _ _ h⟩
  | .new _, _, ⟨p, e, h⟩ => ⟨p, e, k _ _ h⟩
  | .free _, _, ⟨p, e, h⟩ => ⟨p, e, k _ _ h⟩
  | .load _ _ _, _, ⟨p, e, h⟩ => ⟨p, e, k _ _ h⟩
  | .store _ _ _, _, ⟨p, a, e, h, x⟩ => ⟨p, a, e, k _ _ h, ExAt.keep k x⟩
  | .get _ _ _, _, ⟨p, a, e, h, x⟩ => ⟨p, a, e, k _ _ h, ExAt.keep k x⟩
  | .put _ _ _, _, ⟨p, a, b, e, h, x, y⟩ => ⟨p, a, b, e, k _ _ h, ExAt.keep k x, ExAt.keep k y⟩
  | .call _ _ _, _, ⟨p, q, vs, e, h, h2, x⟩ => ⟨p, q, vs, e, k _ _ h, k _ _ h2, ExL.keep k x⟩
  | .ret none, _, ⟨p, e, h⟩ => ⟨p, e, k _ _ h⟩
  | .ret (some _), _, ⟨p, a, e, h, x⟩ => ⟨p, a, e, k _ _ h, ExAt.keep k x⟩
  | .iff _ _ _, _, ⟨p, a, q, r, vs, ws, e, h, x, h2, b, h3, c⟩ => ⟨p, a, q, r, vs, ws, e, k _ _ h, ExAt.keep k x, k _ _ h2, BdL.keep k b, k _ _ h3, BdL.keep k c⟩
  | .loop _ _, _, ⟨p, a, q, vs, e, h, x, h2, b⟩ => ⟨p, a, q, vs, e, k _ _ h, ExAt.keep k x, k _ _ h2, BdL.keep k b⟩
  | .brk, _, ⟨p, e, h⟩ => ⟨p, e, k _ _ h⟩
  | .asrt _, _, ⟨p, a, e, h, x⟩ => ⟨p, a, e, k _ _ h, ExAt.keep k x⟩
theorem BdL.keep {K : PySem.W.Frag} {H H' : Hp} (k : Keeps K H H') : ∀ {b : Bd} {vs : List V}, BdL K H b vs → BdL K H' b vs
  | .nil, _, h => h
  | .cons _ _, _, ⟨v, ws, e, h, r⟩ => ⟨v, ws, e, SmAt.keep k h, BdL.keep k r⟩
end
def Bd.snoc : Bd → Sm → Bd
  | .nil, s => .cons s .nil
  | .cons x b, s => .cons x (b.snoc s)
theorem BdL.snoc {K : PySem.W.Frag} {H : Hp} {s : Sm} {v : V} (h : SmAt K H s v) : ∀ {b : Bd} {vs : List V}, BdL K H b vs → BdL K H (b.snoc s) (vs ++ [v])
  | .nil, _, e => by
    subst e
    exact ⟨v, [], rfl, h, rfl⟩
  | .cons _ _, _, ⟨x, ws, e, q, r⟩ => by
    subst e
    exact ⟨x, ws ++ [v], rfl, q, BdL.snoc h r⟩
/-! ### the bounds of the draws: how deep, how many -/
mutual
/-- numbers, names and expressions (by fuel 4) within the bounds; bodies at most d within one another -/
def Sm.ok : Nat → Sm → Prop
  | _, .set x e => x.length ≤ 20 ∧ e.ok 4
  | _, .input x => x.length ≤ 20
  | _, .new x => x.length ≤ 20
  | _, .free x => x.length ≤ 20
  | _, .load x y f => x.length ≤ 20 ∧ y.length ≤ 20 ∧ f.length ≤ 20
  | _, .store y f e => y.length ≤ 20 ∧ f.length ≤ 20 ∧ e.ok 4
  | _, .get x a e => x.length ≤ 20 ∧ a.length ≤ 20 ∧ e.ok 4
  | _, .put a e1 e2 => a.length ≤ 20 ∧ e1.ok 4 ∧ e2.ok 4
  | _, .call x g es => (∀ z, x = some z → z.length ≤ 20) ∧ g.length ≤ 20 ∧ es.length ≤ 3 ∧ ∀ e ∈ es, e.ok 4
  | _, .ret e => ∀ z, e = some z → z.ok 4
  | 0, .iff _ _ _ => False
  | d + 1, .iff e b c => e.ok 4 ∧ b.ok d ∧ c.ok d
  | 0, .loop _ _ => False
  | d + 1, .loop e b => e.ok 4 ∧ b.ok d
  | _, .brk => True
  | _, .asrt e => e.ok 4
def Bd.ok : Nat → Bd → Prop
  | _, .nil => True
  | d, .cons s b => s.ok d ∧ b.ok d
end
mutual
def Sm.cnt : Sm → Nat
  | .iff _ b c => 1 + b.cnt + c.cnt
  | .loop _ b => 1 + b.cnt
  | _ => 1
def Bd.cnt : Bd → Nat
  | .nil => 0
  | .cons s b => s.cnt + b.cnt
end
theorem Bd.cnt_snoc (s : Sm) : ∀ b : Bd, (b.snoc s).cnt = b.cnt + s.cnt
  | .nil => by show s.cnt + 0 = 0 + s.cnt; omega
  | .cons x b => by
    have ih := Bd.cnt_snoc s b
    show x.cnt + (b.snoc s).cnt = x.cnt + b.cnt + s.cnt
    omega
theorem Bd.ok_snoc {d : Nat} {s : Sm} (h : s.ok d) : ∀ {b : Bd}, b.ok d → (b.snoc s).ok d
  | .nil, _ => ⟨h, trivial⟩
  | .cons _ _, q => ⟨q.1, Bd.ok_snoc h q.2⟩
/-! ### the lines of a body -/
def ind : Nat → Str
  | 0 => Str.empty
  | d + 1 => ind d ++ ("  " : Str)
def argsT (es : List Ex) : Str := Txt.join ", " (es.map txt)
def lineT : Sm → Str
  | .set x e => x ++ (" = " : Str) ++ txt e
  | .input x => x ++ (" = " : Str) ++ ("input" : Str)
  | .new x => x ++ (" = " : Str) ++ ("new" : Str)
  | .free x => ("free" : Str) ++ (" " : Str) ++ x
  | .load x y f => x ++ (" = " : Str) ++ y ++ ("." : Str) ++ f
  | .store y f e => y ++ ("." : Str) ++ f ++ (" = " : Str) ++ txt e
  | .get x a e => x ++ (" = " : Str) ++ a ++ ("[" : Str) ++ txt e ++ ("]" : Str)
  | .put a e1 e2 => a ++ ("[" : Str) ++ txt e1 ++ ("] = " : Str) ++ txt e2
  | .call none g es => g ++ ("(" : Str) ++ argsT es ++ (")" : Str)
  | .call (some x) g es => x ++ (" = " : Str) ++ (g ++ ("(" : Str) ++ argsT es ++ (")" : Str))
  | .ret none => "return"
  | .ret (some e) => ("return" : Str) ++ (" " : Str) ++ txt e
  | .iff e _ _ => ("if" : Str) ++ (" " : Str) ++ txt e
  | .loop e _ => ("while" : Str) ++ (" " : Str) ++ txt e
  | .brk => "break"
  | .asrt e => ("assert" : Str) ++ (" " : Str) ++ txt e
mutual
def Sm.lines (d : Nat) : Sm → List Str
  | .iff e b .nil => [ind d ++ lineT (.iff e b .nil)] ++ b.lines (d + 1) ++ [ind d ++ ("end" : Str)]
  | .iff e b (.cons s c) => [ind d ++ lineT (.iff e b (.cons s c))] ++ b.lines (d + 1) ++ ([ind d ++ ("else" : Str)] ++ (s.lines (d + 1) ++ c.lines (d + 1))) ++ [ind d ++ ("end" : Str)]
  | .loop e b => [ind d ++ lineT (.loop e b)] ++ b.lines (d + 1) ++ [ind d ++ ("end" : Str)]
  | .set x e => [ind d ++ lineT (.set x e)]
  | .input x => [ind d ++ lineT (.input x)]
  | .new x => [ind d ++ lineT (.new x)]
  | .free x => [ind d ++ lineT (.free x)]
  | .load x y f => [ind d ++ lineT (.load x y f)]
  | .store y f e => [ind d ++ lineT (.store y f e)]
  | .get x a e => [ind d ++ lineT (.get x a e)]
  | .put a e1 e2 => [ind d ++ lineT (.put a e1 e2)]
  | .call x g es => [ind d ++ lineT (.call x g es)]
  | .ret e => [ind d ++ lineT (.ret e)]
  | .brk => [ind d ++ lineT .brk]
  | .asrt e => [ind d ++ lineT (.asrt e)]
def Bd.lines (d : Nat) : Bd → List Str
  | .nil => []
  | .cons s b => s.lines d ++ b.lines d
end
/-! ### texts of statements -/
theorem txt4 {e : Ex} (h : e.ok 4) : (txt e).length ≤ 500 := by
  have := txt_len h
  have p : (2 : Nat) ^ 4 = 16 := by decide
  omega
theorem str_assoc (x y z : Str) : x ++ y ++ z = x ++ (y ++ z) := congrArg Str.mk (Array.append_assoc ..)
theorem argsT_len : ∀ {es : List Ex}, es.length ≤ 3 → (∀ e ∈ es, e.ok 4) → (argsT es).length ≤ 1504
  | [], _, _ => by decide +kernel
  | [a], _, h => by
    have := txt4 (h a (by simp))
    show (txt a).length ≤ 1504
    omega
  | [a, b], _, h => by
    have := txt4 (h a (by simp))
    have := txt4 (h b (by simp))
    show (txt a ++ (", " : Str) ++ txt b).length ≤ 1504
    rw [len_app, len_app]
    show (txt a).length + 2 + (txt b).length ≤ 1504
    omega
  | [a, b, c], _, h => by
    have := txt4 (h a (by simp))
    have := txt4 (h b (by simp))
    have := txt4 (h c (by simp))
    show (txt a ++ (", " : Str) ++ txt b ++ (", " : Str) ++ txt c).length ≤ 1504
    rw [len_app, len_app, len_app, len_app]
    show (txt a).length + 2 + (txt b).length + 2 + (txt c).length ≤ 1504
    omega
  | _ :: _ :: _ :: _ :: _, h, _ => by simp at h
theorem ExL.len {K : PySem.W.Frag} {H : Hp} : ∀ {es : List Ex} {vs : List V}, ExL K H es vs → vs.length = es.length
  | [], [], _ => rfl
  | _ :: _, _ :: _, h => congrArg (· + 1) (ExL.len h.2)
  | [], _ :: _, h => h.elim
  | _ :: _, [], h => h.elim
theorem ExL.get {K : PySem.W.Frag} {H : Hp} : ∀ {es : List Ex} {vs : List V} {i : Nat} {v : V}, ExL K H es vs → vs[i]? = some v → ∃ e, es[i]? = some e ∧ ExAt K H e v
  | [], [], _, _, _, h => by simp at h
  | e :: _, _ :: _, 0, _, q, h => by
    simp at h
    subst h
    exact ⟨e, rfl, q.1⟩
  | _ :: es, _ :: vs, i + 1, _, q, h => by
    obtain ⟨e, h1, h2⟩ := ExL.get (i := i) q.2 (by simpa using h)
    exact ⟨e, by simpa using h1, h2⟩
  | [], _ :: _, _, _, h, _ => h.elim
  | _ :: _, [], _, _, h, _ => h.elim
def spArgsT (K : PySem.W.Frag) : Sp := fun vs H Q _ => ∃ (q : Addr) (us : List V) (es : List Ex), vs = [.ref q] ∧ SqT K H q us ∧ ExL K H es us ∧ es.length ≤ 3 ∧ (∀ e ∈ es, e.ok 4) ∧ ∀ H', Same H H' → Q (.str (argsT es)) H'
/-- a part and its text -/
def PtAt (K : PySem.W.Frag) (H : Hp) (r : Str) (v : V) (t : Str) : Prop :=
  (r = "expression" ∧ ∃ e, ExAt K H e v ∧ e.ok 4 ∧ t = txt e) ∨ (r = "arguments" ∧ ∃ q us es, v = .ref q ∧ SqT K H q us ∧ ExL K H es us ∧ es.length ≤ 3 ∧ (∀ e ∈ es, e.ok 4) ∧ t = argsT es) ∨ (r ≠ "expression" ∧ r ≠ "arguments" ∧ v = .str t)
theorem PtAt.keep {K : PySem.W.Frag} {H H' : Hp} (k : Keeps K H H') {r : Str} {v : V} {t : Str} (h : PtAt K H r v t) : PtAt K H' r v t := by
  rcases h with ⟨e, x, h1, h2⟩ | ⟨e, q, us, es, h1, h2, h3, h4⟩ | h
  · exact .inl ⟨e, x, ExAt.keep k h1, h2⟩
  · exact .inr (.inl ⟨e, q, us, es, h1, k _ _ h2, ExL.keep k h3, h4⟩)
  · exact .inr (.inr h)
def spPartT (K : PySem.W.Frag) : Sp := fun vs H Q _ => ∃ (r : Str) (v : V) (t : Str), vs = [.str r, v] ∧ PtAt K H r v t ∧ ∀ H', Same H H' → Q (.str t) H'
/-- the texts of the parts but the bodies -/
def PtL (K : PySem.W.Frag) (H : Hp) : List (Str × V) → List Str → Prop
  | [], ts => ts = []
  | (r, v) :: l, ts => if r = "body" then PtL K H l ts else ∃ t us, ts = t :: us ∧ PtAt K H r v t ∧ PtL K H l us
theorem PtL.keep {K : PySem.W.Frag} {H H' : Hp} (k : Keeps K H H') : ∀ {l : List (Str × V)} {ts : List Str}, PtL K H l ts → PtL K H' l ts
  | [], _, h => h
  | (r, v) :: l, ts, h => by
    unfold PtL at h ⊢
    split
    · rename_i e
      rw [if_pos e] at h
      exact PtL.keep k h
    · rename_i e
      rw [if_neg e] at h
      obtain ⟨t, us, e, h1, h2⟩ := h
      exact ⟨t, us, e, PtAt.keep k h1, PtL.keep k h2⟩
section
variable {P : Program} {w : World} {K : PySem.W.Frag} {mg : Str → Option Value} {base : Heap}
theorem ok_arguments_text (T : Txt w K mg) : FnOk P w K mg base CX0 9 T.a_arguments_text T.d_arguments_text p_arguments_text (spArgsT K) := by
  have g_expression_text := ok_expression_text (P := P) (w := w) (K := K) (base := base) T 4 (by decide)
  refine T.F_arguments_text.ok sc_arguments_text (fun vs H Q E h => ?_) (fun cdv A outer s H vs Q E hr h => ?_)
  · obtain ⟨q, us, es, rfl, _⟩ := h
    rfl
  obtain ⟨qa, us, es, rfl, hq, hx, h3, ho, q⟩ := h
  refine ⟨_, (pss_one (ps_ret (pe_join pe_str (pe_lc (own := [("argument", 1)]) (g := gName 1) (tt := tYes) rfl sc_arguments_text.nd (pi_tup (pv 0)) (blkOk_by (own := [("argument", 1)]) (N := n_arguments_text) (sc := defScope s_arguments_text) (by decide +kernel)) (fun _ _ _ _ _ => (pg_name (i := 1) sc_arguments_text.nd rfl (Or.inl rfl))) (fun _ _ _ _ _ => pts_nil) (fun _ _ _ _ _ => (pe_call g_expression_text (hr.mono (by first | decide | omega)) rfl T.m_expression_text T.F_expression_text.kp T.b_expression_text .nil pass0 (pa_cons (pv 1) pa_nil))))))), ?_⟩
  have hlen := ExL.len hx
  refine ⟨⟨_, rfl⟩, _, rfl, qa, rfl, ⟨_, hq⟩, fun D hD => ?_⟩
  refine lc_tup (K := K) (a := qa) (xs := us) (fun i H' => Same H H' ∧ H' D = some (.lst (((es.take i).map txt).map V.str))) ?_ ?_ ?_ ?_
  · exact ⟨Same.new hD _, by rw [upd_same]; rfl⟩
  · rintro i H' _ ⟨sm, _⟩
    exact Same.tup sm hq
  · rintro i v H' hi ⟨sm, hD'⟩
    obtain ⟨e, he, hv⟩ := ExL.get hx hi
    have t1 : es.take (i + 1) = es.take i ++ [e] := by
      rw [List.take_add_one, he]
      rfl
    have tl : (es.take i).length ≤ es.length := List.length_take_le' _ _
    refine ⟨rfl, _, rfl, v, e, rfl, ExAt.keep (Keeps.of_same sm) hv, ho e (List.mem_of_getElem? he), _, hD', ?_, Same.grow hD sm, ?_⟩
    · rw [List.length_map, List.length_map]
      exact small1000 (by omega)
    · rw [upd_same, t1, List.map_append, List.map_append]
      rfl
  · rintro H' ⟨sm, hD'⟩
    rw [hlen, List.take_length] at hD'
    refine ⟨_, D, es.map txt, rfl, rfl, .inl (SqL.of hD'), ?_, q H' sm⟩
    have b : ∀ l : List Ex, (∀ e ∈ l, e.ok 4) → ((l.map txt).map (·.length)).sum ≤ 500 * l.length := by
      intro l
      induction l with
      | nil => intro _; exact Nat.le_refl _
      | cons x r ih =>
        intro h
        have h1 := txt4 (h x List.mem_cons_self)
        have h2 := ih fun e he => h e (List.mem_cons_of_mem _ he)
        simp only [List.map_cons, List.sum_cons, List.length_cons] at h2 ⊢
        omega
    have b1 := b es ho
    rw [List.length_map]
    show ((es.map txt).map (·.length)).sum + es.length * 2 ≤ 16777216
    omega
theorem ok_part_text (T : Txt w K mg) : FnOk P w K mg base CX0 10 T.a_part_text T.d_part_text p_part_text (spPartT K) := by
  have g_expression_text := ok_expression_text (P := P) (w := w) (K := K) (base := base) T 4 (by decide)
  have g_arguments_text := ok_arguments_text (P := P) (w := w) (K := K) (base := base) T
  refine T.F_part_text.ok sc_part_text (fun vs H Q E h => ?_) (fun cdv A outer s H vs Q E hr h => ?_)
  · obtain ⟨r, v, t, rfl, _⟩ := h
    rfl
  obtain ⟨r, v, t, rfl, h, q⟩ := h
  refine ⟨_, (pss_cons (ps_if (pt_cmpR op_eq (pv 0) pe_str (nomark _)) (pss_one (ps_ret (pe_call g_expression_text (hr.mono (by first | decide | omega)) rfl T.m_expression_text T.F_expression_text.kp T.b_expression_text .nil pass0 (pa_cons (pv 1) pa_nil)))) pss_nil)
      (pss_cons (ps_if (pt_cmpR op_eq (pv 0) pe_str (nomark _)) (pss_one (ps_ret (pe_call g_arguments_text (hr.mono (by first | decide | omega)) rfl T.m_arguments_text T.F_arguments_text.kp T.b_arguments_text .nil pass0 (pa_cons (pv 1) pa_nil)))) pss_nil)
      (pss_one (ps_ret (pv 1))))), ?_⟩
  rcases h with ⟨rfl, e, h1, h2, rfl⟩ | ⟨rfl, qa, us, es, rfl, h1, h2, h3, h4, rfl⟩ | ⟨n1, n2, rfl⟩
  · exact ⟨_, rfl, rfl, _, rfl, ifT (by decide +kernel) ⟨_, rfl, v, e, rfl, h1, h2, q _ (Same.refl H)⟩⟩
  · exact ⟨_, rfl, rfl, _, rfl, ifF (by decide +kernel) ⟨_, rfl, rfl, _, rfl, ifT (by decide +kernel) ⟨_, rfl, qa, us, es, rfl, h1, h2, h3, h4, q⟩⟩⟩
  · exact ⟨_, rfl, rfl, _, rfl, ifF (decide_eq_false fun z => n1 (V.str.inj z)) ⟨_, rfl, rfl, _, rfl, ifF (decide_eq_false fun z => n2 (V.str.inj z)) ⟨_, rfl, q _ (Same.refl H)⟩⟩⟩
end
/-! ### a statement's line, by its word and the texts of its parts -/
inductive LineOk : Str → List V → List Str → Str → Prop where
  | set (r : List V) (x t : Str) : LineOk "set" r [x, t] (x ++ (" = " : Str) ++ t)
  | input (r : List V) (x : Str) : LineOk "input" r [x] (x ++ (" = " : Str) ++ ("input" : Str))
  | new (r : List V) (x : Str) : LineOk "new" r [x] (x ++ (" = " : Str) ++ ("new" : Str))
  | load (r : List V) (x y f : Str) : LineOk "load" r [x, y, f] (x ++ (" = " : Str) ++ y ++ ("." : Str) ++ f)
  | store (r : List V) (y f t : Str) : LineOk "store" r [y, f, t] (y ++ ("." : Str) ++ f ++ (" = " : Str) ++ t)
  | get (r : List V) (x a t : Str) : LineOk "get" r [x, a, t] (x ++ (" = " : Str) ++ a ++ ("[" : Str) ++ t ++ ("]" : Str))
  | put (r : List V) (a t u : Str) : LineOk "put" r [a, t, u] (a ++ ("[" : Str) ++ t ++ ("] = " : Str) ++ u)
  | callN (r : List V) (g t : Str) : LineOk "call" (.non :: r) [g, t] (g ++ ("(" : Str) ++ t ++ (")" : Str))
  | callS (r : List V) (x g t : Str) : LineOk "call" (.str x :: r) [x, g, t] (x ++ (" = " : Str) ++ (g ++ ("(" : Str) ++ t ++ (")" : Str)))
  | one (wd : Str) (r : List V) (t : Str) (h : wd ∈ (["if", "while", "assert", "return", "free"] : List Str)) : LineOk wd r [t] (wd ++ (" " : Str) ++ t)
  | zero (wd : Str) (r : List V) (h : wd ∈ (["break", "return"] : List Str)) : LineOk wd r [] wd
structure SmFacts (K : PySem.W.Frag) (H : Hp) (v : V) (l : Str) : Prop where
  ex : ∃ (p : Addr) (wd : Str) (rest : List V) (roles ts : List Str), v = .ref p ∧ SqT K H p (.str wd :: rest) ∧ (wd, roles) ∈ tb_PARTS ∧ roles.length = rest.length ∧ roles.length ≤ 10 ∧
    PtL K H (partsL roles rest) ts ∧ LineOk wd rest ts l ∧ ∀ t ∈ ts, t.length ≤ 1504
theorem ExAt.nn {K : PySem.W.Frag} {H : Hp} {e : Ex} {v : V} (h : ExAt K H e v) : v ≠ .non := by
  cases e with
  | num i => obtain ⟨p, rfl, _⟩ := h; intro z; cases z
  | name i => obtain ⟨p, rfl, _⟩ := h; intro z; cases z
  | flag i => obtain ⟨p, rfl, _⟩ := h; intro z; cases z
  | null => obtain ⟨p, rfl, _⟩ := h; intro z; cases z
  | not a => obtain ⟨p, x, rfl, _⟩ := h; intro z; cases z
  | bin op a b => obtain ⟨p, x, y, rfl, _⟩ := h; intro z; cases z
theorem pt_ex {K : PySem.W.Frag} {H : Hp} {e : Ex} {v : V} (h : ExAt K H e v) (o : e.ok 4) : PtAt K H "expression" v (txt e) := .inl ⟨rfl, e, h, o, rfl⟩
theorem pt_nm {K : PySem.W.Frag} {H : Hp} {r x : Str} (h : r ≠ "expression" ∧ r ≠ "arguments" := by decide +kernel) : PtAt K H r (.str x) x := .inr (.inr ⟨h.1, h.2, rfl⟩)
theorem partsL_cons {r : Str} {rs : List Str} {v : V} {vs : List V} (h : v ≠ .non) : partsL (r :: rs) (v :: vs) = (r, v) :: partsL rs vs := if_neg h
theorem partsL_non {r : Str} {rs : List Str} {vs : List V} : partsL (r :: rs) (.non :: vs) = partsL rs vs := if_pos rfl
theorem PtL.cons {K : PySem.W.Frag} {H : Hp} {r : Str} {v : V} {l : List (Str × V)} {t : Str} {us : List Str} (h : PtAt K H r v t) (q : PtL K H l us) (n : r ≠ "body" := by decide +kernel) : PtL K H ((r, v) :: l) (t :: us) := by
  unfold PtL
  rw [if_neg n]
  exact ⟨t, us, rfl, h, q⟩
theorem PtL.body {K : PySem.W.Frag} {H : Hp} {v : V} {l : List (Str × V)} {us : List Str} (q : PtL K H l us) : PtL K H (("body", v) :: l) us := by
  unfold PtL
  rw [if_pos rfl]
  exact q
theorem nnS {x : Str} : V.str x ≠ .non := fun z => by cases z
theorem nnR {x : Addr} : V.ref x ≠ .non := fun z => by cases z
theorem SmAt.facts {K : PySem.W.Frag} {H : Hp} {s : Sm} {v : V} {d : Nat} (h : SmAt K H s v) (o : s.ok d) : SmFacts K H v (lineT s) := by
  have L20 : ∀ {x : Str}, x.length ≤ 20 → x.length ≤ 1504 := fun h => by omega
  have L4 : ∀ {e : Ex}, e.ok 4 → (txt e).length ≤ 1504 := fun h => by have := txt4 h; omega
  constructor
  cases s with
  | set x e =>
    obtain ⟨p, a, rfl, hp, hx⟩ := h
    have o : x.length ≤ 20 ∧ e.ok 4 := by cases d <;> exact o
    refine ⟨p, "set", _, ["variable", "expression"], [x, txt e], rfl, hp, by decide +kernel, rfl, by decide, ?_, .set _ _ _, ?_⟩
    · rw [partsL_cons nnS, partsL_cons hx.nn]
      exact .cons pt_nm (.cons (pt_ex hx o.2) rfl)
    · simp only [List.forall_mem_cons, List.not_mem_nil, false_implies, implies_true, and_true]
      exact ⟨L20 o.1, L4 o.2⟩
  | input x =>
    obtain ⟨p, rfl, hp⟩ := h
    have o : x.length ≤ 20 := by cases d <;> exact o
    refine ⟨p, "input", _, ["variable"], [x], rfl, hp, by decide +kernel, rfl, by decide, ?_, .input _ _, ?_⟩
    · rw [partsL_cons nnS]
      exact .cons pt_nm rfl
    · simp only [List.forall_mem_cons, List.not_mem_nil, false_implies, implies_true, and_true]
      exact L20 o
  | new x =>
    obtain ⟨p, rfl, hp⟩ := h
    have o : x.length ≤ 20 := by cases d <;> exact o
    refine ⟨p, "new", _, ["variable"], [x], rfl, hp, by decide +kernel, rfl, by decide, ?_, .new _ _, ?_⟩
    · rw [partsL_cons nnS]
      exact .cons pt_nm rfl
    · simp only [List.forall_mem_cons, List.not_mem_nil, false_implies, implies_true, and_true]
      exact L20 o
  | free x =>
    obtain ⟨p, rfl, hp⟩ := h
    have o : x.length ≤ 20 := by cases d <;> exact o
    refine ⟨p, "free", _, ["variable"], [x], rfl, hp, by decide +kernel, rfl, by decide, ?_, .one _ _ _ (by decide +kernel), ?_⟩
    · rw [partsL_cons nnS]
      exact .cons pt_nm rfl
    · simp only [List.forall_mem_cons, List.not_mem_nil, false_implies, implies_true, and_true]
      exact L20 o
  | load x y f =>
    obtain ⟨p, rfl, hp⟩ := h
    have o : x.length ≤ 20 ∧ y.length ≤ 20 ∧ f.length ≤ 20 := by cases d <;> exact o
    refine ⟨p, "load", _, ["variable", "variable", "field"], [x, y, f], rfl, hp, by decide +kernel, rfl, by decide, ?_, .load _ _ _ _, ?_⟩
    · rw [partsL_cons nnS, partsL_cons nnS, partsL_cons nnS]
      exact .cons pt_nm (.cons pt_nm (.cons pt_nm rfl))
    · simp only [List.forall_mem_cons, List.not_mem_nil, false_implies, implies_true, and_true]
      exact ⟨L20 o.1, L20 o.2.1, L20 o.2.2⟩
  | store y f e =>
    obtain ⟨p, a, rfl, hp, hx⟩ := h
    have o : y.length ≤ 20 ∧ f.length ≤ 20 ∧ e.ok 4 := by cases d <;> exact o
    refine ⟨p, "store", _, ["variable", "field", "expression"], [y, f, txt e], rfl, hp, by decide +kernel, rfl, by decide, ?_, .store _ _ _ _, ?_⟩
    · rw [partsL_cons nnS, partsL_cons nnS, partsL_cons hx.nn]
      exact .cons pt_nm (.cons pt_nm (.cons (pt_ex hx o.2.2) rfl))
    · simp only [List.forall_mem_cons, List.not_mem_nil, false_implies, implies_true, and_true]
      exact ⟨L20 o.1, L20 o.2.1, L4 o.2.2⟩
  | get x y e =>
    obtain ⟨p, a, rfl, hp, hx⟩ := h
    have o : x.length ≤ 20 ∧ y.length ≤ 20 ∧ e.ok 4 := by cases d <;> exact o
    refine ⟨p, "get", _, ["variable", "array", "expression"], [x, y, txt e], rfl, hp, by decide +kernel, rfl, by decide, ?_, .get _ _ _ _, ?_⟩
    · rw [partsL_cons nnS, partsL_cons nnS, partsL_cons hx.nn]
      exact .cons pt_nm (.cons pt_nm (.cons (pt_ex hx o.2.2) rfl))
    · simp only [List.forall_mem_cons, List.not_mem_nil, false_implies, implies_true, and_true]
      exact ⟨L20 o.1, L20 o.2.1, L4 o.2.2⟩
  | put y e1 e2 =>
    obtain ⟨p, a, b, rfl, hp, hx, hy⟩ := h
    have o : y.length ≤ 20 ∧ e1.ok 4 ∧ e2.ok 4 := by cases d <;> exact o
    refine ⟨p, "put", _, ["array", "expression", "expression"], [y, txt e1, txt e2], rfl, hp, by decide +kernel, rfl, by decide, ?_, .put _ _ _ _, ?_⟩
    · rw [partsL_cons nnS, partsL_cons hx.nn, partsL_cons hy.nn]
      exact .cons pt_nm (.cons (pt_ex hx o.2.1) (.cons (pt_ex hy o.2.2) rfl))
    · simp only [List.forall_mem_cons, List.not_mem_nil, false_implies, implies_true, and_true]
      exact ⟨L20 o.1, L4 o.2.1, L4 o.2.2⟩
  | call x g es =>
    obtain ⟨p, q, vs, rfl, hp, hq, hx⟩ := h
    have o : (∀ z, x = some z → z.length ≤ 20) ∧ g.length ≤ 20 ∧ es.length ≤ 3 ∧ ∀ e ∈ es, e.ok 4 := by cases d <;> exact o
    have pa : PtAt K H "arguments" (.ref q) (argsT es) := .inr (.inl ⟨rfl, q, vs, es, rfl, hq, hx, o.2.2.1, o.2.2.2, rfl⟩)
    have la := argsT_len o.2.2.1 o.2.2.2
    cases x with
    | none =>
      refine ⟨p, "call", _, ["variable", "function", "arguments"], [g, argsT es], rfl, hp, by decide +kernel, rfl, by decide, ?_, .callN _ _ _, ?_⟩
      · show PtL K H (partsL ["variable", "function", "arguments"] [.non, .str g, .ref q]) _
        rw [partsL_non, partsL_cons nnS, partsL_cons nnR]
        exact .cons pt_nm (.cons pa rfl)
      · simp only [List.forall_mem_cons, List.not_mem_nil, false_implies, implies_true, and_true]
        exact ⟨L20 o.2.1, la⟩
    | some x =>
      refine ⟨p, "call", _, ["variable", "function", "arguments"], [x, g, argsT es], rfl, hp, by decide +kernel, rfl, by decide, ?_, .callS _ _ _ _, ?_⟩
      · show PtL K H (partsL ["variable", "function", "arguments"] [.str x, .str g, .ref q]) _
        rw [partsL_cons nnS, partsL_cons nnS, partsL_cons nnR]
        exact .cons pt_nm (.cons pt_nm (.cons pa rfl))
      · simp only [List.forall_mem_cons, List.not_mem_nil, false_implies, implies_true, and_true]
        exact ⟨L20 (o.1 x rfl), L20 o.2.1, la⟩
  | ret e =>
    have o : ∀ z, e = some z → z.ok 4 := by cases d <;> exact o
    cases e with
    | none =>
      obtain ⟨p, rfl, hp⟩ := h
      refine ⟨p, "return", _, ["expression"], [], rfl, hp, by decide +kernel, rfl, by decide, ?_, .zero _ _ (by decide +kernel), fun t ht => (List.not_mem_nil ht).elim⟩
      rw [partsL_non]
      rfl
    | some e =>
      obtain ⟨p, a, rfl, hp, hx⟩ := h
      refine ⟨p, "return", _, ["expression"], [txt e], rfl, hp, by decide +kernel, rfl, by decide, ?_, .one _ _ _ (by decide +kernel), ?_⟩
      · rw [partsL_cons hx.nn]
        exact .cons (pt_ex hx (o e rfl)) rfl
      · simp only [List.forall_mem_cons, List.not_mem_nil, false_implies, implies_true, and_true]
        exact L4 (o e rfl)
  | iff e b c =>
    obtain ⟨p, a, q, r, vs, ws, rfl, hp, hx, _⟩ := h
    have o : e.ok 4 := by
      cases d with
      | zero => exact o.elim
      | succ d => exact o.1
    refine ⟨p, "if", _, ["expression", "body", "body"], [txt e], rfl, hp, by decide +kernel, rfl, by decide, ?_, .one _ _ _ (by decide +kernel), ?_⟩
    · rw [partsL_cons hx.nn, partsL_cons nnR, partsL_cons nnR]
      exact .cons (pt_ex hx o) (.body (.body rfl))
    · simp only [List.forall_mem_cons, List.not_mem_nil, false_implies, implies_true, and_true]
      exact L4 o
  | loop e b =>
    obtain ⟨p, a, q, vs, rfl, hp, hx, _⟩ := h
    have o : e.ok 4 := by
      cases d with
      | zero => exact o.elim
      | succ d => exact o.1
    refine ⟨p, "while", _, ["expression", "body"], [txt e], rfl, hp, by decide +kernel, rfl, by decide, ?_, .one _ _ _ (by decide +kernel), ?_⟩
    · rw [partsL_cons hx.nn, partsL_cons nnR]
      exact .cons (pt_ex hx o) (.body rfl)
    · simp only [List.forall_mem_cons, List.not_mem_nil, false_implies, implies_true, and_true]
      exact L4 o
  | brk =>
    obtain ⟨p, rfl, hp⟩ := h
    exact ⟨p, "break", _, [], [], rfl, hp, by decide +kernel, rfl, by decide, rfl, .zero _ _ (by decide +kernel), fun t ht => (List.not_mem_nil ht).elim⟩
  | asrt e =>
    obtain ⟨p, a, rfl, hp, hx⟩ := h
    have o : e.ok 4 := by cases d <;> exact o
    refine ⟨p, "assert", _, ["expression"], [txt e], rfl, hp, by decide +kernel, rfl, by decide, ?_, .one _ _ _ (by decide +kernel), ?_⟩
    · rw [partsL_cons hx.nn]
      exact .cons (pt_ex hx o) rfl
    · simp only [List.forall_mem_cons, List.not_mem_nil, false_implies, implies_true, and_true]
      exact L4 o
def spStT (K : PySem.W.Frag) : Sp := fun vs H Q _ => ∃ (v : V) (l : Str), vs = [v] ∧ SmFacts K H v l ∧ ∀ H', Same H H' → Q (.str l) H'
theorem ones_ne : ∀ wd ∈ (["if", "while", "assert", "return", "free", "break"] : List Str), ¬ (V.str wd = V.str "set") ∧ ¬ (V.str wd = V.str "input") ∧ ¬ (V.str wd = V.str "new") ∧ ¬ (V.str wd = V.str "load") ∧ ¬ (V.str wd = V.str "store") ∧ ¬ (V.str wd = V.str "get") ∧ ¬ (V.str wd = V.str "put") ∧ ¬ (V.str wd = V.str "call") ∧ wd.length ≤ 10 := by decide +kernel
theorem l_eq : (" = " : Str).length = 3 := by decide +kernel
theorem l_dot : ("." : Str).length = 1 := by decide +kernel
theorem l_sq1 : ("[" : Str).length = 1 := by decide +kernel
theorem l_sq2 : ("]" : Str).length = 1 := by decide +kernel
theorem l_sq3 : ("] = " : Str).length = 4 := by decide +kernel
theorem l_inp : ("input" : Str).length = 5 := by decide +kernel
theorem l_new : ("new" : Str).length = 3 := by decide +kernel
theorem l_em : ("" : Str).length = 0 := by decide +kernel
theorem em_app (x : Str) : ("" : Str) ++ x = x := by
  rw [show ("" : Str) = Str.empty by decide +kernel]
  exact emp_app x
section
variable {P : Program} {w : World} {K : PySem.W.Frag} {mg : Str → Option Value} {base : Heap}
theorem ok_statement_text (T : Txt w K mg) : FnOk P w K mg base CX0 11 T.a_statement_text T.d_statement_text p_statement_text (spStT K) := by
  have g_parts_of := ok_parts_of (P := P) (base := base) T
  have g_part_text := ok_part_text (P := P) (base := base) T
  refine T.F_statement_text.ok sc_statement_text (fun vs H Q E h => ?_) (fun cdv A outer s H vs Q E hr h => ?_)
  · obtain ⟨v, l, rfl, _⟩ := h
    rfl
  obtain ⟨v, l, rfl, ⟨p, wd, rest, roles, ts, rfl, hp, htb, hl, h10, hpt, hline, hts⟩, q⟩ := h
  refine ⟨_, (pss_cons (ps_set (i := 1) sc_statement_text.nd rfl (Or.inl rfl) (pe_ix ix_tup (pv 0) pe_int (fun _ _ => rfl)))
      (pss_cons (ps_setLc (i := 2) (own := [("role", 3), ("part", 4)]) (g := gTup K 2 (gCons (gName 3) (gCons (gName 4) gNil))) rfl sc_statement_text.nd rfl rfl (sw_true rfl rfl rfl (by decide +kernel)) (pi_list (pe_call g_parts_of (hr.mono (by first | decide | omega)) rfl T.m_parts_of T.F_parts_of.kp T.b_parts_of .nil pass0 (pa_cons (pv 0) pa_nil))) (blkOk_by (own := [("role", 3), ("part", 4)]) (N := n_statement_text) (sc := defScope s_statement_text) (by decide +kernel)) (fun _ _ _ _ _ => (pg_tup rfl (pgs_cons (pg_name (i := 3) sc_statement_text.nd rfl (Or.inl rfl)) (pgs_cons (pg_name (i := 4) sc_statement_text.nd rfl (Or.inl rfl)) pgs_nil)))) (fun _ _ _ _ _ => (pts_one (pt_cmpR op_ne (pv 3) pe_str (nomark _)))) (fun _ _ _ _ _ => (pe_call g_part_text (hr.mono (by first | decide | omega)) rfl T.m_part_text T.F_part_text.kp T.b_part_text .nil pass0 (pa_cons (pv 3) (pa_cons (pv 4) pa_nil)))))
      (pss_cons (ps_if (pt_cmpR op_eq (pv 1) pe_str (nomark _)) (pss_one (ps_ret (pe_joinedN (PJ.cons (pe_fmt (pe_ix ix_list (pv 2) pe_int (fun _ _ => rfl))) (PJ.cons pe_str (PJ.cons (pe_fmt (pe_ix ix_list (pv 2) pe_int (fun _ _ => rfl))) PJ.nil)))))) pss_nil)
      (pss_cons (ps_if (PW.pt (pw_or (pt_cmpR op_eq (pv 1) pe_str (nomark _)) (pw_or1 (pt_cmpR op_eq (pv 1) pe_str (nomark _))))) (pss_one (ps_ret (pe_joinedN (PJ.cons (pe_fmt (pe_ix ix_list (pv 2) pe_int (fun _ _ => rfl))) (PJ.cons pe_str (PJ.cons (pe_fmt (pv 1)) PJ.nil)))))) pss_nil)
      (pss_cons (ps_if (pt_cmpR op_eq (pv 1) pe_str (nomark _)) (pss_one (ps_ret (pe_joinedN (PJ.cons (pe_fmt (pe_ix ix_list (pv 2) pe_int (fun _ _ => rfl))) (PJ.cons pe_str (PJ.cons (pe_fmt (pe_ix ix_list (pv 2) pe_int (fun _ _ => rfl))) (PJ.cons pe_str (PJ.cons (pe_fmt (pe_ix ix_list (pv 2) pe_int (fun _ _ => rfl))) PJ.nil)))))))) pss_nil)
      (pss_cons (ps_if (pt_cmpR op_eq (pv 1) pe_str (nomark _)) (pss_one (ps_ret (pe_joinedN (PJ.cons (pe_fmt (pe_ix ix_list (pv 2) pe_int (fun _ _ => rfl))) (PJ.cons pe_str (PJ.cons (pe_fmt (pe_ix ix_list (pv 2) pe_int (fun _ _ => rfl))) (PJ.cons pe_str (PJ.cons (pe_fmt (pe_ix ix_list (pv 2) pe_int (fun _ _ => rfl))) PJ.nil)))))))) pss_nil)
      (pss_cons (ps_if (pt_cmpR op_eq (pv 1) pe_str (nomark _)) (pss_one (ps_ret (pe_joinedN (PJ.cons (pe_fmt (pe_ix ix_list (pv 2) pe_int (fun _ _ => rfl))) (PJ.cons pe_str (PJ.cons (pe_fmt (pe_ix ix_list (pv 2) pe_int (fun _ _ => rfl))) (PJ.cons pe_str (PJ.cons (pe_fmt (pe_ix ix_list (pv 2) pe_int (fun _ _ => rfl))) (PJ.cons pe_str PJ.nil))))))))) pss_nil)
      (pss_cons (ps_if (pt_cmpR op_eq (pv 1) pe_str (nomark _)) (pss_one (ps_ret (pe_joinedN (PJ.cons (pe_fmt (pe_ix ix_list (pv 2) pe_int (fun _ _ => rfl))) (PJ.cons pe_str (PJ.cons (pe_fmt (pe_ix ix_list (pv 2) pe_int (fun _ _ => rfl))) (PJ.cons pe_str (PJ.cons (pe_fmt (pe_ix ix_list (pv 2) pe_int (fun _ _ => rfl))) PJ.nil)))))))) pss_nil)
      (pss_cons (ps_if (pt_cmpR op_eq (pv 1) pe_str (nomark _)) (pss_cons (ps_set (i := 5) sc_statement_text.nd rfl (Or.inl rfl) (pe_ifExp (pt_cmpR op_isN (pe_ix ix_tup (pv 0) pe_int (fun _ _ => rfl)) pe_non (nomark _)) pe_str (pe_joinedN (PJ.cons (pe_fmt (pe_ix ix_tup (pv 0) pe_int (fun _ _ => rfl))) (PJ.cons pe_str PJ.nil)))))
      (pss_one (ps_ret (pe_joinedN (PJ.cons (pe_fmt (pv 5)) (PJ.cons (pe_fmt (pe_ix ix_list (pv 2) (pe_un un_neg pe_int) (fun _ _ => rfl))) (PJ.cons pe_str (PJ.cons (pe_fmt (pe_ix ix_list (pv 2) (pe_un un_neg pe_int) (fun _ _ => rfl))) (PJ.cons pe_str PJ.nil))))))))) pss_nil)
      (pss_one (ps_ret (pe_join pe_str (pe_lst (pa_cons (pv 1) (StX.pa_star (pv 2) pa_nil))))))))))))))), ?_⟩
  refine ⟨_, rfl, p, _, 0, _, rfl, rfl, hp, at0, ?_⟩
  refine ⟨_, rfl, p, wd, rest, roles, rfl, hp, htb, hl, h10, fun L0 ps H1 s1 hL0 hL1 pr => ?_⟩
  refine ⟨L0, rfl, ⟨_, SqL.of hL1⟩, fun L hL => ?_⟩
  have hLH : H L = none := s1.free hL
  have nLL : L0 ≠ L := ne_of_none hL1 hL
  have plen := pr.len
  have p10 := partsL_len roles rest
  refine lc_list (K := K) (a := L0) (xs := ps.map V.ref) (fun i H' => Same H H' ∧ H' L0 = some (.lst (ps.map V.ref)) ∧ Prs H' ps (partsL roles rest) ∧ ∃ us vs : List Str, ts = us ++ vs ∧ us.length ≤ i ∧ H' L = some (.lst (us.map V.str)) ∧ PtL K H ((partsL roles rest).drop i) vs) ?_ ?_ ?_ ?_
  · refine ⟨Same.grow hLH s1, ?_, Prs.same (Same.new hL _) pr, [], ts, rfl, Nat.le_refl _, upd_same, hpt⟩
    rw [upd_ne nLL]
    exact hL1
  · rintro i H' _ ⟨_, h, _⟩
    exact SqL.of h
  · rintro i x H' hi ⟨sm, hL0', pr', us, vs, ets, hus, hL', hptv⟩
    obtain ⟨z, ro, y, rfl, hiL, hz⟩ := Prs.get pr' hi
    have hil : i < (partsL roles rest).length := (List.getElem?_eq_some_iff.mp hiL).1
    have dr : (partsL roles rest).drop i = (ro, y) :: (partsL roles rest).drop (i + 1) := by
      rw [List.drop_eq_getElem_cons hil]
      congr 1
      exact (List.getElem?_eq_some_iff.mp hiL).2
    rw [dr] at hptv
    refine ⟨z, _, rfl, SqT.of hz, rfl, _, _, rfl, _, _, rfl, rfl, rfl, _, rfl, rfl, _, rfl, ?_⟩
    unfold PtL at hptv
    by_cases h : ro = ("body" : Str)
    · rw [if_pos h] at hptv
      refine ifF (by rw [decide_eq_true (congrArg V.str h)]; rfl) ⟨sm, hL0', pr', us, vs, ets, by omega, hL', hptv⟩
    · rw [if_neg h] at hptv
      obtain ⟨t, vs', e2, pt, ptl⟩ := hptv
      subst e2
      refine ifT (by rw [decide_eq_false fun z => h (V.str.inj z)]; rfl) ⟨_, rfl, _, rfl, ro, y, t, rfl, PtAt.keep (Keeps.of_same sm) pt, fun H2 s2 => ?_⟩
      have hL2 := s2 _ _ hL'
      refine ⟨_, hL2, ?_, Same.grow hLH (sm.trans s2), ?_, Prs.upd hL2 (Prs.same s2 pr'), us ++ [t], vs', ?_, ?_, ?_, ptl⟩
      · rw [List.length_map]
        exact small1000 (by omega)
      · rw [upd_ne nLL]
        exact s2 _ _ hL0'
      · rw [ets, List.append_assoc]
        rfl
      · rw [List.length_append]
        exact Nat.succ_le_succ hus
      · rw [upd_same, List.map_append]
        rfl
  · rintro H' ⟨sm, _, _, us, vs, ets, _, hL', hptv⟩
    rw [List.length_map, plen, List.drop_length] at hptv
    have ev : vs = [] := hptv
    subst ev
    rw [List.append_nil] at ets
    subst ets
    have hp' := Same.tup sm hp
    have q' := q H' sm
    clear hptv hpt
    cases hline with
    | set r x t =>
      have b1 := hts x (by simp)
      have b2 := hts t (by simp)
      refine ⟨_, rfl, rfl, _, rfl, ifT (by decide +kernel) ⟨_, rfl, L, _, 0, _, rfl, rfl, SqL.of hL', rfl, .inl ⟨_, rfl, (by rw [sizeLine_eq]; (try simp only [len_app, l_eq, l_dot, l_sq1, l_sq2, l_sq3, l_inp, l_new, l_em, l_op, l_cl, l_sp, l_emp]); omega), _, rfl, (by rw [sizeLine_eq]; (try simp only [len_app, l_eq, l_dot, l_sq1, l_sq2, l_sq3, l_inp, l_new, l_em, l_op, l_cl, l_sp, l_emp]); omega), _, rfl, (by rw [sizeLine_eq]; (try simp only [len_app, l_eq, l_dot, l_sq1, l_sq2, l_sq3, l_inp, l_new, l_em, l_op, l_cl, l_sp, l_emp]); omega), _, rfl, L, _, 1, _, rfl, rfl, SqL.of hL', rfl, .inl ⟨_, rfl, (by rw [sizeLine_eq]; (try simp only [len_app, l_eq, l_dot, l_sq1, l_sq2, l_sq3, l_inp, l_new, l_em, l_op, l_cl, l_sp, l_emp]); omega), _, rfl, (by rw [sizeLine_eq]; (try simp only [len_app, l_eq, l_dot, l_sq1, l_sq2, l_sq3, l_inp, l_new, l_em, l_op, l_cl, l_sp, l_emp]); omega), ?_⟩⟩⟩⟩
      rw [emp_app]
      exact q'
    | input r x =>
      have b1 := hts x (by simp)
      refine ⟨_, rfl, rfl, _, rfl, ifF (by decide +kernel) ⟨_, rfl, rfl, _, rfl, ifT (by decide +kernel) (iteT ⟨_, rfl, L, _, 0, _, rfl, rfl, SqL.of hL', rfl, .inl ⟨_, rfl, (by rw [sizeLine_eq]; (try simp only [len_app, l_eq, l_dot, l_sq1, l_sq2, l_sq3, l_inp, l_new, l_em, l_op, l_cl, l_sp, l_emp]); omega), _, rfl, (by rw [sizeLine_eq]; (try simp only [len_app, l_eq, l_dot, l_sq1, l_sq2, l_sq3, l_inp, l_new, l_em, l_op, l_cl, l_sp, l_emp]); omega), _, rfl, (by rw [sizeLine_eq]; (try simp only [len_app, l_eq, l_dot, l_sq1, l_sq2, l_sq3, l_inp, l_new, l_em, l_op, l_cl, l_sp, l_emp]); omega), _, rfl, .inl ⟨_, rfl, (by rw [sizeLine_eq]; (try simp only [len_app, l_eq, l_dot, l_sq1, l_sq2, l_sq3, l_inp, l_new, l_em, l_op, l_cl, l_sp, l_emp]); omega), _, rfl, (by rw [sizeLine_eq]; (try simp only [len_app, l_eq, l_dot, l_sq1, l_sq2, l_sq3, l_inp, l_new, l_em, l_op, l_cl, l_sp, l_emp]); omega), ?_⟩⟩⟩)⟩⟩
      rw [emp_app]
      exact q'
    | new r x =>
      have b1 := hts x (by simp)
      refine ⟨_, rfl, rfl, _, rfl, ifF (by decide +kernel) ⟨_, rfl, rfl, _, rfl, ifF (by decide +kernel) ⟨_, rfl, rfl, _, rfl, ifT (by decide +kernel) ⟨_, rfl, L, _, 0, _, rfl, rfl, SqL.of hL', rfl, .inl ⟨_, rfl, (by rw [sizeLine_eq]; (try simp only [len_app, l_eq, l_dot, l_sq1, l_sq2, l_sq3, l_inp, l_new, l_em, l_op, l_cl, l_sp, l_emp]); omega), _, rfl, (by rw [sizeLine_eq]; (try simp only [len_app, l_eq, l_dot, l_sq1, l_sq2, l_sq3, l_inp, l_new, l_em, l_op, l_cl, l_sp, l_emp]); omega), _, rfl, (by rw [sizeLine_eq]; (try simp only [len_app, l_eq, l_dot, l_sq1, l_sq2, l_sq3, l_inp, l_new, l_em, l_op, l_cl, l_sp, l_emp]); omega), _, rfl, .inl ⟨_, rfl, (by rw [sizeLine_eq]; (try simp only [len_app, l_eq, l_dot, l_sq1, l_sq2, l_sq3, l_inp, l_new, l_em, l_op, l_cl, l_sp, l_emp]); omega), _, rfl, (by rw [sizeLine_eq]; (try simp only [len_app, l_eq, l_dot, l_sq1, l_sq2, l_sq3, l_inp, l_new, l_em, l_op, l_cl, l_sp, l_emp]); omega), ?_⟩⟩⟩⟩⟩⟩
      rw [emp_app]
      exact q'
    | load r x y f =>
      have b1 := hts x (by simp)
      have b2 := hts y (by simp)
      have b3 := hts f (by simp)
      refine ⟨_, rfl, rfl, _, rfl, ifF (by decide +kernel) ⟨_, rfl, rfl, _, rfl, ifF (by decide +kernel) ⟨_, rfl, rfl, _, rfl, ifF (by decide +kernel) ⟨_, rfl, rfl, _, rfl, ifT (by decide +kernel) ⟨_, rfl, L, _, 0, _, rfl, rfl, SqL.of hL', rfl, .inl ⟨_, rfl, (by rw [sizeLine_eq]; (try simp only [len_app, l_eq, l_dot, l_sq1, l_sq2, l_sq3, l_inp, l_new, l_em, l_op, l_cl, l_sp, l_emp]); omega), _, rfl, (by rw [sizeLine_eq]; (try simp only [len_app, l_eq, l_dot, l_sq1, l_sq2, l_sq3, l_inp, l_new, l_em, l_op, l_cl, l_sp, l_emp]); omega), _, rfl, (by rw [sizeLine_eq]; (try simp only [len_app, l_eq, l_dot, l_sq1, l_sq2, l_sq3, l_inp, l_new, l_em, l_op, l_cl, l_sp, l_emp]); omega), _, rfl, L, _, 1, _, rfl, rfl, SqL.of hL', rfl, .inl ⟨_, rfl, (by rw [sizeLine_eq]; (try simp only [len_app, l_eq, l_dot, l_sq1, l_sq2, l_sq3, l_inp, l_new, l_em, l_op, l_cl, l_sp, l_emp]); omega), _, rfl, (by rw [sizeLine_eq]; (try simp only [len_app, l_eq, l_dot, l_sq1, l_sq2, l_sq3, l_inp, l_new, l_em, l_op, l_cl, l_sp, l_emp]); omega), _, rfl, (by rw [sizeLine_eq]; (try simp only [len_app, l_eq, l_dot, l_sq1, l_sq2, l_sq3, l_inp, l_new, l_em, l_op, l_cl, l_sp, l_emp]); omega), _, rfl, L, _, 2, _, rfl, rfl, SqL.of hL', rfl, .inl ⟨_, rfl, (by rw [sizeLine_eq]; (try simp only [len_app, l_eq, l_dot, l_sq1, l_sq2, l_sq3, l_inp, l_new, l_em, l_op, l_cl, l_sp, l_emp]); omega), _, rfl, (by rw [sizeLine_eq]; (try simp only [len_app, l_eq, l_dot, l_sq1, l_sq2, l_sq3, l_inp, l_new, l_em, l_op, l_cl, l_sp, l_emp]); omega), ?_⟩⟩⟩⟩⟩⟩⟩⟩
      rw [emp_app]
      exact q'
    | store r x y f =>
      have b1 := hts x (by simp)
      have b2 := hts y (by simp)
      have b3 := hts f (by simp)
      refine ⟨_, rfl, rfl, _, rfl, ifF (by decide +kernel) ⟨_, rfl, rfl, _, rfl, ifF (by decide +kernel) ⟨_, rfl, rfl, _, rfl, ifF (by decide +kernel) ⟨_, rfl, rfl, _, rfl, ifF (by decide +kernel) ⟨_, rfl, rfl, _, rfl, ifT (by decide +kernel) ⟨_, rfl, L, _, 0, _, rfl, rfl, SqL.of hL', rfl, .inl ⟨_, rfl, (by rw [sizeLine_eq]; (try simp only [len_app, l_eq, l_dot, l_sq1, l_sq2, l_sq3, l_inp, l_new, l_em, l_op, l_cl, l_sp, l_emp]); omega), _, rfl, (by rw [sizeLine_eq]; (try simp only [len_app, l_eq, l_dot, l_sq1, l_sq2, l_sq3, l_inp, l_new, l_em, l_op, l_cl, l_sp, l_emp]); omega), _, rfl, (by rw [sizeLine_eq]; (try simp only [len_app, l_eq, l_dot, l_sq1, l_sq2, l_sq3, l_inp, l_new, l_em, l_op, l_cl, l_sp, l_emp]); omega), _, rfl, L, _, 1, _, rfl, rfl, SqL.of hL', rfl, .inl ⟨_, rfl, (by rw [sizeLine_eq]; (try simp only [len_app, l_eq, l_dot, l_sq1, l_sq2, l_sq3, l_inp, l_new, l_em, l_op, l_cl, l_sp, l_emp]); omega), _, rfl, (by rw [sizeLine_eq]; (try simp only [len_app, l_eq, l_dot, l_sq1, l_sq2, l_sq3, l_inp, l_new, l_em, l_op, l_cl, l_sp, l_emp]); omega), _, rfl, (by rw [sizeLine_eq]; (try simp only [len_app, l_eq, l_dot, l_sq1, l_sq2, l_sq3, l_inp, l_new, l_em, l_op, l_cl, l_sp, l_emp]); omega), _, rfl, L, _, 2, _, rfl, rfl, SqL.of hL', rfl, .inl ⟨_, rfl, (by rw [sizeLine_eq]; (try simp only [len_app, l_eq, l_dot, l_sq1, l_sq2, l_sq3, l_inp, l_new, l_em, l_op, l_cl, l_sp, l_emp]); omega), _, rfl, (by rw [sizeLine_eq]; (try simp only [len_app, l_eq, l_dot, l_sq1, l_sq2, l_sq3, l_inp, l_new, l_em, l_op, l_cl, l_sp, l_emp]); omega), ?_⟩⟩⟩⟩⟩⟩⟩⟩⟩
      rw [emp_app]
      exact q'
    | get r x y f =>
      have b1 := hts x (by simp)
      have b2 := hts y (by simp)
      have b3 := hts f (by simp)
      refine ⟨_, rfl, rfl, _, rfl, ifF (by decide +kernel) ⟨_, rfl, rfl, _, rfl, ifF (by decide +kernel) ⟨_, rfl, rfl, _, rfl, ifF (by decide +kernel) ⟨_, rfl, rfl, _, rfl, ifF (by decide +kernel) ⟨_, rfl, rfl, _, rfl, ifF (by decide +kernel) ⟨_, rfl, rfl, _, rfl, ifT (by decide +kernel) ⟨_, rfl, L, _, 0, _, rfl, rfl, SqL.of hL', rfl, .inl ⟨_, rfl, (by rw [sizeLine_eq]; (try simp only [len_app, l_eq, l_dot, l_sq1, l_sq2, l_sq3, l_inp, l_new, l_em, l_op, l_cl, l_sp, l_emp]); omega), _, rfl, (by rw [sizeLine_eq]; (try simp only [len_app, l_eq, l_dot, l_sq1, l_sq2, l_sq3, l_inp, l_new, l_em, l_op, l_cl, l_sp, l_emp]); omega), _, rfl, (by rw [sizeLine_eq]; (try simp only [len_app, l_eq, l_dot, l_sq1, l_sq2, l_sq3, l_inp, l_new, l_em, l_op, l_cl, l_sp, l_emp]); omega), _, rfl, L, _, 1, _, rfl, rfl, SqL.of hL', rfl, .inl ⟨_, rfl, (by rw [sizeLine_eq]; (try simp only [len_app, l_eq, l_dot, l_sq1, l_sq2, l_sq3, l_inp, l_new, l_em, l_op, l_cl, l_sp, l_emp]); omega), _, rfl, (by rw [sizeLine_eq]; (try simp only [len_app, l_eq, l_dot, l_sq1, l_sq2, l_sq3, l_inp, l_new, l_em, l_op, l_cl, l_sp, l_emp]); omega), _, rfl, (by rw [sizeLine_eq]; (try simp only [len_app, l_eq, l_dot, l_sq1, l_sq2, l_sq3, l_inp, l_new, l_em, l_op, l_cl, l_sp, l_emp]); omega), _, rfl, L, _, 2, _, rfl, rfl, SqL.of hL', rfl, .inl ⟨_, rfl, (by rw [sizeLine_eq]; (try simp only [len_app, l_eq, l_dot, l_sq1, l_sq2, l_sq3, l_inp, l_new, l_em, l_op, l_cl, l_sp, l_emp]); omega), _, rfl, (by rw [sizeLine_eq]; (try simp only [len_app, l_eq, l_dot, l_sq1, l_sq2, l_sq3, l_inp, l_new, l_em, l_op, l_cl, l_sp, l_emp]); omega), _, rfl, (by rw [sizeLine_eq]; (try simp only [len_app, l_eq, l_dot, l_sq1, l_sq2, l_sq3, l_inp, l_new, l_em, l_op, l_cl, l_sp, l_emp]); omega), ?_⟩⟩⟩⟩⟩⟩⟩⟩⟩⟩
      rw [emp_app]
      exact q'
    | put r x y f =>
      have b1 := hts x (by simp)
      have b2 := hts y (by simp)
      have b3 := hts f (by simp)
      refine ⟨_, rfl, rfl, _, rfl, ifF (by decide +kernel) ⟨_, rfl, rfl, _, rfl, ifF (by decide +kernel) ⟨_, rfl, rfl, _, rfl, ifF (by decide +kernel) ⟨_, rfl, rfl, _, rfl, ifF (by decide +kernel) ⟨_, rfl, rfl, _, rfl, ifF (by decide +kernel) ⟨_, rfl, rfl, _, rfl, ifF (by decide +kernel) ⟨_, rfl, rfl, _, rfl, ifT (by decide +kernel) ⟨_, rfl, L, _, 0, _, rfl, rfl, SqL.of hL', rfl, .inl ⟨_, rfl, (by rw [sizeLine_eq]; (try simp only [len_app, l_eq, l_dot, l_sq1, l_sq2, l_sq3, l_inp, l_new, l_em, l_op, l_cl, l_sp, l_emp]); omega), _, rfl, (by rw [sizeLine_eq]; (try simp only [len_app, l_eq, l_dot, l_sq1, l_sq2, l_sq3, l_inp, l_new, l_em, l_op, l_cl, l_sp, l_emp]); omega), _, rfl, (by rw [sizeLine_eq]; (try simp only [len_app, l_eq, l_dot, l_sq1, l_sq2, l_sq3, l_inp, l_new, l_em, l_op, l_cl, l_sp, l_emp]); omega), _, rfl, L, _, 1, _, rfl, rfl, SqL.of hL', rfl, .inl ⟨_, rfl, (by rw [sizeLine_eq]; (try simp only [len_app, l_eq, l_dot, l_sq1, l_sq2, l_sq3, l_inp, l_new, l_em, l_op, l_cl, l_sp, l_emp]); omega), _, rfl, (by rw [sizeLine_eq]; (try simp only [len_app, l_eq, l_dot, l_sq1, l_sq2, l_sq3, l_inp, l_new, l_em, l_op, l_cl, l_sp, l_emp]); omega), _, rfl, (by rw [sizeLine_eq]; (try simp only [len_app, l_eq, l_dot, l_sq1, l_sq2, l_sq3, l_inp, l_new, l_em, l_op, l_cl, l_sp, l_emp]); omega), _, rfl, L, _, 2, _, rfl, rfl, SqL.of hL', rfl, .inl ⟨_, rfl, (by rw [sizeLine_eq]; (try simp only [len_app, l_eq, l_dot, l_sq1, l_sq2, l_sq3, l_inp, l_new, l_em, l_op, l_cl, l_sp, l_emp]); omega), _, rfl, (by rw [sizeLine_eq]; (try simp only [len_app, l_eq, l_dot, l_sq1, l_sq2, l_sq3, l_inp, l_new, l_em, l_op, l_cl, l_sp, l_emp]); omega), ?_⟩⟩⟩⟩⟩⟩⟩⟩⟩⟩⟩
      rw [emp_app]
      exact q'
    | callN r x y =>
      have b1 := hts x (by simp)
      have b2 := hts y (by simp)
      refine ⟨_, rfl, rfl, _, rfl, ifF (by decide +kernel) ⟨_, rfl, rfl, _, rfl, ifF (by decide +kernel) ⟨_, rfl, rfl, _, rfl, ifF (by decide +kernel) ⟨_, rfl, rfl, _, rfl, ifF (by decide +kernel) ⟨_, rfl, rfl, _, rfl, ifF (by decide +kernel) ⟨_, rfl, rfl, _, rfl, ifF (by decide +kernel) ⟨_, rfl, rfl, _, rfl, ifF (by decide +kernel) ⟨_, rfl, rfl, _, rfl, ifT (by decide +kernel) ?_⟩⟩⟩⟩⟩⟩⟩⟩
      refine ⟨_, rfl, p, _, 1, _, rfl, rfl, hp', atI_nat (j := 1) rfl, rfl, _, rfl, ifT (decide_eq_true rfl) ?_⟩
      refine ⟨_, rfl, .inl ⟨_, rfl, (by rw [sizeLine_eq]; (try simp only [len_app, l_eq, l_dot, l_sq1, l_sq2, l_sq3, l_inp, l_new, l_em, l_op, l_cl, l_sp, l_emp]); omega), _, rfl, (by rw [sizeLine_eq]; (try simp only [len_app, l_eq, l_dot, l_sq1, l_sq2, l_sq3, l_inp, l_new, l_em, l_op, l_cl, l_sp, l_emp]); omega), _, rfl, 2, rfl, L, _, -2, _, rfl, rfl, SqL.of hL', rfl, .inl ⟨_, rfl, (by rw [sizeLine_eq]; (try simp only [len_app, l_eq, l_dot, l_sq1, l_sq2, l_sq3, l_inp, l_new, l_em, l_op, l_cl, l_sp, l_emp]); omega), _, rfl, (by rw [sizeLine_eq]; (try simp only [len_app, l_eq, l_dot, l_sq1, l_sq2, l_sq3, l_inp, l_new, l_em, l_op, l_cl, l_sp, l_emp]); omega), _, rfl, (by rw [sizeLine_eq]; (try simp only [len_app, l_eq, l_dot, l_sq1, l_sq2, l_sq3, l_inp, l_new, l_em, l_op, l_cl, l_sp, l_emp]); omega), _, rfl, 1, rfl, L, _, -1, _, rfl, rfl, SqL.of hL', rfl, .inl ⟨_, rfl, (by rw [sizeLine_eq]; (try simp only [len_app, l_eq, l_dot, l_sq1, l_sq2, l_sq3, l_inp, l_new, l_em, l_op, l_cl, l_sp, l_emp]); omega), _, rfl, (by rw [sizeLine_eq]; (try simp only [len_app, l_eq, l_dot, l_sq1, l_sq2, l_sq3, l_inp, l_new, l_em, l_op, l_cl, l_sp, l_emp]); omega), _, rfl, (by rw [sizeLine_eq]; (try simp only [len_app, l_eq, l_dot, l_sq1, l_sq2, l_sq3, l_inp, l_new, l_em, l_op, l_cl, l_sp, l_emp]); omega), ?_⟩⟩⟩⟩
      rw [emp_app, em_app]
      exact q'
    | callS r x y f =>
      have b1 := hts x (by simp)
      have b2 := hts y (by simp)
      have b3 := hts f (by simp)
      refine ⟨_, rfl, rfl, _, rfl, ifF (by decide +kernel) ⟨_, rfl, rfl, _, rfl, ifF (by decide +kernel) ⟨_, rfl, rfl, _, rfl, ifF (by decide +kernel) ⟨_, rfl, rfl, _, rfl, ifF (by decide +kernel) ⟨_, rfl, rfl, _, rfl, ifF (by decide +kernel) ⟨_, rfl, rfl, _, rfl, ifF (by decide +kernel) ⟨_, rfl, rfl, _, rfl, ifF (by decide +kernel) ⟨_, rfl, rfl, _, rfl, ifT (by decide +kernel) ?_⟩⟩⟩⟩⟩⟩⟩⟩
      refine ⟨_, rfl, p, _, 1, _, rfl, rfl, hp', atI_nat (j := 1) rfl, rfl, _, rfl, ifF (decide_eq_false nnS) ?_⟩
      refine ⟨_, rfl, p, _, 1, _, rfl, rfl, hp', atI_nat (j := 1) rfl, .inl ⟨_, rfl, (by rw [sizeLine_eq]; (try simp only [len_app, l_eq, l_dot, l_sq1, l_sq2, l_sq3, l_inp, l_new, l_em, l_op, l_cl, l_sp, l_emp]); omega), _, rfl, (by rw [sizeLine_eq]; (try simp only [len_app, l_eq, l_dot, l_sq1, l_sq2, l_sq3, l_inp, l_new, l_em, l_op, l_cl, l_sp, l_emp]); omega), _, rfl, (by rw [sizeLine_eq]; (try simp only [len_app, l_eq, l_dot, l_sq1, l_sq2, l_sq3, l_inp, l_new, l_em, l_op, l_cl, l_sp, l_emp]); omega), ?_⟩⟩
      refine ⟨_, rfl, .inl ⟨_, rfl, (by rw [sizeLine_eq]; (try simp only [len_app, l_eq, l_dot, l_sq1, l_sq2, l_sq3, l_inp, l_new, l_em, l_op, l_cl, l_sp, l_emp]); omega), _, rfl, (by rw [sizeLine_eq]; (try simp only [len_app, l_eq, l_dot, l_sq1, l_sq2, l_sq3, l_inp, l_new, l_em, l_op, l_cl, l_sp, l_emp]); omega), _, rfl, 2, rfl, L, _, -2, _, rfl, rfl, SqL.of hL', rfl, .inl ⟨_, rfl, (by rw [sizeLine_eq]; (try simp only [len_app, l_eq, l_dot, l_sq1, l_sq2, l_sq3, l_inp, l_new, l_em, l_op, l_cl, l_sp, l_emp]); omega), _, rfl, (by rw [sizeLine_eq]; (try simp only [len_app, l_eq, l_dot, l_sq1, l_sq2, l_sq3, l_inp, l_new, l_em, l_op, l_cl, l_sp, l_emp]); omega), _, rfl, (by rw [sizeLine_eq]; (try simp only [len_app, l_eq, l_dot, l_sq1, l_sq2, l_sq3, l_inp, l_new, l_em, l_op, l_cl, l_sp, l_emp]); omega), _, rfl, 1, rfl, L, _, -1, _, rfl, rfl, SqL.of hL', rfl, .inl ⟨_, rfl, (by rw [sizeLine_eq]; (try simp only [len_app, l_eq, l_dot, l_sq1, l_sq2, l_sq3, l_inp, l_new, l_em, l_op, l_cl, l_sp, l_emp]); omega), _, rfl, (by rw [sizeLine_eq]; (try simp only [len_app, l_eq, l_dot, l_sq1, l_sq2, l_sq3, l_inp, l_new, l_em, l_op, l_cl, l_sp, l_emp]); omega), _, rfl, (by rw [sizeLine_eq]; (try simp only [len_app, l_eq, l_dot, l_sq1, l_sq2, l_sq3, l_inp, l_new, l_em, l_op, l_cl, l_sp, l_emp]); omega), ?_⟩⟩⟩⟩
      rw [emp_app, emp_app]
      have e : x ++ (" = " : Str) ++ y ++ ("(" : Str) ++ f ++ (")" : Str) = x ++ (" = " : Str) ++ (y ++ ("(" : Str) ++ f ++ (")" : Str)) := by
        simp only [str_assoc]
      rw [e]
      exact q'
    | one wd r t h =>
      have b1 := hts t (by simp)
      have hw : wd ∈ (["if", "while", "assert", "return", "free", "break"] : List Str) := by
        simp only [List.mem_cons, List.not_mem_nil, or_false] at h ⊢
        rcases h with h | h | h | h | h <;> simp [h]
      obtain ⟨n1, n2, n3, n4, n5, n6, n7, n8, n9⟩ := ones_ne _ hw
      refine ⟨_, rfl, rfl, _, rfl, ifF (decide_eq_false n1) ⟨_, rfl, rfl, _, rfl, ifF (decide_eq_false n2) ⟨_, rfl, rfl, _, rfl, ifF (decide_eq_false n3) ⟨_, rfl, rfl, _, rfl, ifF (decide_eq_false n4) ⟨_, rfl, rfl, _, rfl, ifF (decide_eq_false n5) ⟨_, rfl, rfl, _, rfl, ifF (decide_eq_false n6) ⟨_, rfl, rfl, _, rfl, ifF (decide_eq_false n7) ⟨_, rfl, rfl, _, rfl, ifF (decide_eq_false n8) ?_⟩⟩⟩⟩⟩⟩⟩⟩
      refine ⟨⟨_, rfl⟩, _, rfl, _, rfl, L, _, rfl, .inr (SqL.of hL'), by show 2 ≤ sizeLine; decide, fun z hz => ?_⟩
      refine ⟨_, z, [wd, t], rfl, rfl, .inl (SqL.of upd_same), ?_, q _ (sm.trans (Same.new hz _))⟩
      show wd.length + (t.length + 0) + 2 * 1 ≤ 16777216
      omega
    | zero wd r h =>
      have hw : l ∈ (["if", "while", "assert", "return", "free", "break"] : List Str) := by
        simp only [List.mem_cons, List.not_mem_nil, or_false] at h ⊢
        rcases h with h | h <;> simp [h]
      obtain ⟨n1, n2, n3, n4, n5, n6, n7, n8, n9⟩ := ones_ne _ hw
      refine ⟨_, rfl, rfl, _, rfl, ifF (decide_eq_false n1) ⟨_, rfl, rfl, _, rfl, ifF (decide_eq_false n2) ⟨_, rfl, rfl, _, rfl, ifF (decide_eq_false n3) ⟨_, rfl, rfl, _, rfl, ifF (decide_eq_false n4) ⟨_, rfl, rfl, _, rfl, ifF (decide_eq_false n5) ⟨_, rfl, rfl, _, rfl, ifF (decide_eq_false n6) ⟨_, rfl, rfl, _, rfl, ifF (decide_eq_false n7) ⟨_, rfl, rfl, _, rfl, ifF (decide_eq_false n8) ?_⟩⟩⟩⟩⟩⟩⟩⟩
      refine ⟨⟨_, rfl⟩, _, rfl, _, rfl, L, _, rfl, .inr (SqL.of hL'), by show 1 ≤ sizeLine; decide, fun z hz => ?_⟩
      refine ⟨_, z, [l], rfl, rfl, .inl (SqL.of upd_same), ?_, q _ (sm.trans (Same.new hz _))⟩
      show l.length + 0 + 1 * 1 ≤ 16777216
      omega
end
/-! ### the bodies of a statement -/
theorem nobody {rs : List Str} {vs : List V} (h : ("body" : Str) ∉ rs) : ((partsL rs vs).filter fun q => decide (q.1 = ("body" : Str))).map (·.2) = [] := by
  induction rs generalizing vs with
  | nil => simp [partsL]
  | cons r rs ih =>
    have h1 : r ≠ "body" := fun z => h (by rw [z]; exact List.mem_cons_self)
    have h2 : ("body" : Str) ∉ rs := fun z => h (List.mem_cons_of_mem _ z)
    cases vs with
    | nil => simp [partsL]
    | cons v vs =>
      unfold partsL
      split
      · exact ih h2
      · rw [List.filter_cons, if_neg (by simpa using h1)]
        exact ih h2
theorem bf_no {r : Str} {v : V} {l : List (Str × V)} (h : r ≠ "body") : (((r, v) :: l).filter fun q => decide (q.1 = ("body" : Str))).map (·.2) = (l.filter fun q => decide (q.1 = ("body" : Str))).map (·.2) := by
  rw [List.filter_cons, if_neg (by simpa using h)]
theorem bf_yes {v : V} {l : List (Str × V)} : (((("body" : Str), v) :: l).filter fun q => decide (q.1 = ("body" : Str))).map (·.2) = v :: (l.filter fun q => decide (q.1 = ("body" : Str))).map (·.2) := by
  rw [List.filter_cons, if_pos (decide_eq_true rfl)]
  rfl
inductive BodInfo (K : PySem.W.Frag) (H : Hp) : Sm → List V → Prop where
  | leaf (s : Sm) (h : ∀ d, s.lines d = [ind d ++ lineT s]) : BodInfo K H s []
  | loop (e : Ex) (b : Bd) (q : Addr) (vs : List V) (h : SqT K H q vs) (hb : BdL K H b vs) : BodInfo K H (.loop e b) [.ref q]
  | iff (e : Ex) (b c : Bd) (q r : Addr) (vs ws : List V) (h : SqT K H q vs) (hb : BdL K H b vs) (h2 : SqT K H r ws) (hc : BdL K H c ws) : BodInfo K H (.iff e b c) [.ref q, .ref r]
theorem SmAt.bods {K : PySem.W.Frag} {H : Hp} {s : Sm} {v : V} (h : SmAt K H s v) : ∃ (p : Addr) (wd : Str) (rest : List V) (roles : List Str), v = .ref p ∧ SqT K H p (.str wd :: rest) ∧ (wd, roles) ∈ tb_PARTS ∧ roles.length = rest.length ∧ roles.length ≤ 10 ∧
    BodInfo K H s (bodL roles rest) := by
  cases s with
  | set x e => obtain ⟨p, a, rfl, hp, hx⟩ := h; exact ⟨p, "set", _, ["variable", "expression"], rfl, hp, by decide +kernel, rfl, by decide, by rw [bodL_no (by decide +kernel)]; exact .leaf _ fun _ => rfl⟩
  | input x => obtain ⟨p, rfl, hp⟩ := h; exact ⟨p, "input", _, ["variable"], rfl, hp, by decide +kernel, rfl, by decide, by rw [bodL_no (by decide +kernel)]; exact .leaf _ fun _ => rfl⟩
  | new x => obtain ⟨p, rfl, hp⟩ := h; exact ⟨p, "new", _, ["variable"], rfl, hp, by decide +kernel, rfl, by decide, by rw [bodL_no (by decide +kernel)]; exact .leaf _ fun _ => rfl⟩
  | free x => obtain ⟨p, rfl, hp⟩ := h; exact ⟨p, "free", _, ["variable"], rfl, hp, by decide +kernel, rfl, by decide, by rw [bodL_no (by decide +kernel)]; exact .leaf _ fun _ => rfl⟩
  | load x y f => obtain ⟨p, rfl, hp⟩ := h; exact ⟨p, "load", _, ["variable", "variable", "field"], rfl, hp, by decide +kernel, rfl, by decide, by rw [bodL_no (by decide +kernel)]; exact .leaf _ fun _ => rfl⟩
  | store y f e => obtain ⟨p, a, rfl, hp, hx⟩ := h; exact ⟨p, "store", _, ["variable", "field", "expression"], rfl, hp, by decide +kernel, rfl, by decide, by rw [bodL_no (by decide +kernel)]; exact .leaf _ fun _ => rfl⟩
  | get x y e => obtain ⟨p, a, rfl, hp, hx⟩ := h; exact ⟨p, "get", _, ["variable", "array", "expression"], rfl, hp, by decide +kernel, rfl, by decide, by rw [bodL_no (by decide +kernel)]; exact .leaf _ fun _ => rfl⟩
  | put y e1 e2 => obtain ⟨p, a, b, rfl, hp, hx, hy⟩ := h; exact ⟨p, "put", _, ["array", "expression", "expression"], rfl, hp, by decide +kernel, rfl, by decide, by rw [bodL_no (by decide +kernel)]; exact .leaf _ fun _ => rfl⟩
  | call x g es => obtain ⟨p, q, vs, rfl, hp, hq, hx⟩ := h; exact ⟨p, "call", _, ["variable", "function", "arguments"], rfl, hp, by decide +kernel, rfl, by decide, by rw [bodL_no (by decide +kernel)]; exact .leaf _ fun _ => rfl⟩
  | ret e =>
    cases e with
    | none => obtain ⟨p, rfl, hp⟩ := h; exact ⟨p, "return", _, ["expression"], rfl, hp, by decide +kernel, rfl, by decide, by rw [bodL_no (by decide +kernel)]; exact .leaf _ fun _ => rfl⟩
    | some e => obtain ⟨p, a, rfl, hp, hx⟩ := h; exact ⟨p, "return", _, ["expression"], rfl, hp, by decide +kernel, rfl, by decide, by rw [bodL_no (by decide +kernel)]; exact .leaf _ fun _ => rfl⟩
  | iff e b c =>
    obtain ⟨p, a, q, r, vs, ws, rfl, hp, hx, h1, h2, h3, h4⟩ := h
    refine ⟨p, "if", _, ["expression", "body", "body"], rfl, hp, by decide +kernel, rfl, by decide, ?_⟩
    rw [bodL_cons (by decide +kernel), bodL_body, bodL_body, bodL_nil]
    exact .iff _ _ _ _ _ _ _ h1 h2 h3 h4
  | loop e b =>
    obtain ⟨p, a, q, vs, rfl, hp, hx, h1, h2⟩ := h
    refine ⟨p, "while", _, ["expression", "body"], rfl, hp, by decide +kernel, rfl, by decide, ?_⟩
    rw [bodL_cons (by decide +kernel), bodL_body, bodL_nil]
    exact .loop _ _ _ _ h1 h2
  | brk => obtain ⟨p, rfl, hp⟩ := h; exact ⟨p, "break", _, [], rfl, hp, by decide +kernel, rfl, by decide, by rw [bodL_nil]; exact .leaf _ fun _ => rfl⟩
  | asrt e => obtain ⟨p, a, rfl, hp, hx⟩ := h; exact ⟨p, "assert", _, ["expression"], rfl, hp, by decide +kernel, rfl, by decide, by rw [bodL_no (by decide +kernel)]; exact .leaf _ fun _ => rfl⟩
mutual
theorem Sm.lines_len (d : Nat) : ∀ s : Sm, (s.lines d).length ≤ 4 * s.cnt
  | .iff e b .nil => by
    have h := Bd.lines_len (d + 1) b
    simp only [Sm.lines, Sm.cnt, Bd.cnt, List.length_append, List.length_singleton]
    omega
  | .iff e b (.cons s c) => by
    have h := Bd.lines_len (d + 1) b
    have h1 := Sm.lines_len (d + 1) s
    have h2 := Bd.lines_len (d + 1) c
    simp only [Sm.lines, Sm.cnt, Bd.cnt, List.length_append, List.length_singleton]
    omega
  | .loop e b => by
    have h := Bd.lines_len (d + 1) b
    simp only [Sm.lines, Sm.cnt, List.length_append, List.length_singleton]
    omega
  | .set _ _ => by simp [Sm.lines, Sm.cnt]
  | .input _ => by simp [Sm.lines, Sm.cnt]
  | .new _ => by simp [Sm.lines, Sm.cnt]
  | .free _ => by simp [Sm.lines, Sm.cnt]
  | .load _ _ _ => by simp [Sm.lines, Sm.cnt]
  | .store _ _ _ => by simp [Sm.lines, Sm.cnt]
  | .get _ _ _ => by simp [Sm.lines, Sm.cnt]
  | .put _ _ _ => by simp [Sm.lines, Sm.cnt]
  | .call _ _ _ => by simp [Sm.lines, Sm.cnt]
  | .ret _ => by simp [Sm.lines, Sm.cnt]
  | .brk => by simp [Sm.lines, Sm.cnt]
  | .asrt _ => by simp [Sm.lines, Sm.cnt]
theorem Bd.lines_len (d : Nat) : ∀ b : Bd, (b.lines d).length ≤ 4 * b.cnt
  | .nil => Nat.le_refl _
  | .cons s b => by
    have h1 := Sm.lines_len d s
    have h2 := Bd.lines_len d b
    simp only [Bd.lines, Bd.cnt, List.length_append]
    omega
end
theorem ind_len : ∀ d : Nat, (ind d).length = 2 * d
  | 0 => rfl
  | d + 1 => by
    have h := ind_len d
    show (ind d ++ ("  " : Str)).length = _
    rw [len_app, h]
    show 2 * d + 2 = 2 * (d + 1)
    omega
theorem lineT_len {s : Sm} {d : Nat} (o : s.ok d) : (lineT s).length ≤ 1600 := by
  have L4 : ∀ {e : Ex}, e.ok 4 → (txt e).length ≤ 500 := fun h => txt4 h
  cases s with
  | set x e =>
    have o : x.length ≤ 20 ∧ e.ok 4 := by cases d <;> exact o
    have := L4 o.2
    simp only [lineT, len_app, l_eq]; omega
  | input x =>
    have o : x.length ≤ 20 := by cases d <;> exact o
    simp only [lineT, len_app, l_eq, l_inp]; omega
  | new x =>
    have o : x.length ≤ 20 := by cases d <;> exact o
    simp only [lineT, len_app, l_eq, l_new]; omega
  | free x =>
    have o : x.length ≤ 20 := by cases d <;> exact o
    have f : ("free" : Str).length = 4 := by decide +kernel
    simp only [lineT, len_app, l_sp, f]; omega
  | load x y f =>
    have o : x.length ≤ 20 ∧ y.length ≤ 20 ∧ f.length ≤ 20 := by cases d <;> exact o
    simp only [lineT, len_app, l_eq, l_dot]; omega
  | store y f e =>
    have o : y.length ≤ 20 ∧ f.length ≤ 20 ∧ e.ok 4 := by cases d <;> exact o
    have := L4 o.2.2
    simp only [lineT, len_app, l_eq, l_dot]; omega
  | get x y e =>
    have o : x.length ≤ 20 ∧ y.length ≤ 20 ∧ e.ok 4 := by cases d <;> exact o
    have := L4 o.2.2
    simp only [lineT, len_app, l_eq, l_sq1, l_sq2]; omega
  | put y e1 e2 =>
    have o : y.length ≤ 20 ∧ e1.ok 4 ∧ e2.ok 4 := by cases d <;> exact o
    have := L4 o.2.1
    have := L4 o.2.2
    simp only [lineT, len_app, l_sq1, l_sq3]; omega
  | call x g es =>
    have o : (∀ z, x = some z → z.length ≤ 20) ∧ g.length ≤ 20 ∧ es.length ≤ 3 ∧ ∀ e ∈ es, e.ok 4 := by cases d <;> exact o
    have la := argsT_len o.2.2.1 o.2.2.2
    cases x with
    | none => simp only [lineT, len_app, l_op, l_cl]; omega
    | some x =>
      have := o.1 x rfl
      simp only [lineT, len_app, l_op, l_cl, l_eq]; omega
  | ret e =>
    have o : ∀ z, e = some z → z.ok 4 := by cases d <;> exact o
    have f : ("return" : Str).length = 6 := by decide +kernel
    cases e with
    | none => simp only [lineT, f]; omega
    | some e =>
      have := L4 (o e rfl)
      simp only [lineT, len_app, l_sp, f]; omega
  | iff e b c =>
    have o : e.ok 4 := by
      cases d with
      | zero => exact o.elim
      | succ d => exact o.1
    have := L4 o
    have f : ("if" : Str).length = 2 := by decide +kernel
    simp only [lineT, len_app, l_sp, f]; omega
  | loop e b =>
    have o : e.ok 4 := by
      cases d with
      | zero => exact o.elim
      | succ d => exact o.1
    have := L4 o
    have f : ("while" : Str).length = 5 := by decide +kernel
    simp only [lineT, len_app, l_sp, f]; omega
  | brk =>
    have f : ("break" : Str).length = 5 := by decide +kernel
    simp only [lineT, f]; omega
  | asrt e =>
    have o : e.ok 4 := by cases d <;> exact o
    have := L4 o
    have f : ("assert" : Str).length = 6 := by decide +kernel
    simp only [lineT, len_app, l_sp, f]; omega
theorem Sm.ok_inner_loop {d : Nat} {e : Ex} {b : Bd} (h : Sm.ok d (.loop e b)) : ∃ k, d = k + 1 ∧ b.ok k := by
  cases d with
  | zero => exact h.elim
  | succ k => exact ⟨k, rfl, h.2⟩
theorem Sm.ok_inner_iff {d : Nat} {e : Ex} {b c : Bd} (h : Sm.ok d (.iff e b c)) : ∃ k, d = k + 1 ∧ b.ok k ∧ c.ok k := by
  cases d with
  | zero => exact h.elim
  | succ k => exact ⟨k, rfl, h.2⟩
def spLines (K : PySem.W.Frag) (m : Nat) : Sp := fun vs H Q _ => ∃ (q : Addr) (us : List V) (b : Bd) (d : Nat), vs = [.ref q, .str (ind d)] ∧ SqT K H q us ∧ BdL K H b us ∧ b.ok m ∧ b.cnt ≤ 100 ∧ d + m ≤ 20 ∧
  ∀ (D : Addr) (H' : Hp), Same H H' → H D = none → H' D = some (.lst ((b.lines d).map V.str)) → Q (.ref D) H'
theorem iff_nil (d : Nat) (e : Ex) (b : Bd) : Sm.lines d (.iff e b .nil) = [ind d ++ lineT (.iff e b .nil)] ++ b.lines (d + 1) ++ [ind d ++ ("end" : Str)] := by simp only [Sm.lines]
theorem iff_cons (d : Nat) (e : Ex) (b c : Bd) (s : Sm) : Sm.lines d (.iff e b (.cons s c)) = [ind d ++ lineT (.iff e b (.cons s c))] ++ b.lines (d + 1) ++ ([ind d ++ ("else" : Str)] ++ (Bd.cons s c).lines (d + 1)) ++ [ind d ++ ("end" : Str)] := by simp only [Sm.lines, Bd.lines]
theorem loop_ln (d : Nat) (e : Ex) (b : Bd) : Sm.lines d (.loop e b) = [ind d ++ lineT (.loop e b)] ++ b.lines (d + 1) ++ [ind d ++ ("end" : Str)] := by simp only [Sm.lines]
section
variable {P : Program} {w : World} {K : PySem.W.Frag} {mg : Str → Option Value} {base : Heap}
theorem ok_body_lines0 (T : Txt w K mg) {m : Nat} (g_body_lines : FnOk P w K mg base CX0 (m + 12) T.a_body_lines T.d_body_lines p_body_lines (match m with | 0 => fun _ _ _ _ => False | k + 1 => spLines K k)) :
    FnOk P w K mg base CX0 (m + 13) T.a_body_lines T.d_body_lines p_body_lines (spLines K m) := by
  have g_statement_text := ok_statement_text (P := P) (base := base) T
  have g_bodies_of := ok_bodies_of (P := P) (base := base) T
  obtain ⟨tS, c_STEP_h⟩ := T.c_STEP
  refine T.F_body_lines.ok sc_body_lines (fun vs H Q E h => ?_) (fun cdv A outer s H vs Q E hr h => ?_)
  · obtain ⟨q, us, b, d, rfl, _⟩ := h
    rfl
  obtain ⟨qa, us, b, d, rfl, hq, hb, ho, hc, hd, q⟩ := h
  refine ⟨_, (pss_cons (ps_set (i := 2) sc_body_lines.nd rfl (Or.inl rfl) (pe_lst pa_nil))
      (pss_cons (ps_for PassesOwn.never rfl (pi_tup (pv 0)) (pg_name (i := 3) sc_body_lines.nd rfl (Or.inl rfl))
        (pss_cons (ps_expr (pe_bm PySem.F.plainAttrs_list PySem.F.slot_list_append PySem.F.type_list_append mt_append (pv 2) (pa_cons (pe_op op_add_str (pv 1) (pe_call g_statement_text (hr.mono (by first | decide | omega)) rfl T.m_statement_text T.F_statement_text.kp T.b_statement_text .nil pass0 (pa_cons (pv 3) pa_nil))) pa_nil)))
      (pss_cons (ps_set (i := 4) sc_body_lines.nd rfl (Or.inl rfl) (pe_call g_bodies_of (hr.mono (by first | decide | omega)) rfl T.m_bodies_of T.F_bodies_of.kp T.b_bodies_of .nil pass0 (pa_cons (pv 3) pa_nil)))
      (pss_one (ps_if (pt_truth (pv 4) (by intro _; rfl)) (pss_cons (ps_expr (pe_bm PySem.F.plainAttrs_list PySem.F.slot_list_extend PySem.F.type_list_extend mt_extend (pv 2) (pa_cons (pe_call g_body_lines (hr.mono (by first | decide | omega)) rfl T.m_body_lines T.F_body_lines.kp T.b_body_lines .nil pass0 (pa_cons (pe_ix ix_list (pv 4) pe_int (fun _ _ => rfl)) (pa_cons (pe_op op_add_str (pv 1) (pe_glob (v := .str "  ") rfl c_STEP_h ⟨_, rfl⟩)) pa_nil))) pa_nil)))
      (C8.pss_cut (ps_if (PW.pt (pw_and (pt_cmpR op_gt (pe_callB call_len_seq rfl T.z_len PySem.boot_len (pa_cons (pv 4) pa_nil)) pe_int (nomark _)) (pw_and1 (pt_truth (pe_ix ix_list (pv 4) pe_int (fun _ _ => rfl)) (by intro _; rfl))))) (pss_cons (ps_expr (pe_bm PySem.F.plainAttrs_list PySem.F.slot_list_append PySem.F.type_list_append mt_append (pv 2) (pa_cons (pe_op op_add_str (pv 1) pe_str) pa_nil)))
      (pss_one (ps_expr (pe_bm PySem.F.plainAttrs_list PySem.F.slot_list_extend PySem.F.type_list_extend mt_extend (pv 2) (pa_cons (pe_call g_body_lines (hr.mono (by first | decide | omega)) rfl T.m_body_lines T.F_body_lines.kp T.b_body_lines .nil pass0 (pa_cons (pe_ix ix_list (pv 4) pe_int (fun _ _ => rfl)) (pa_cons (pe_op op_add_str (pv 1) (pe_glob (v := .str "  ") rfl c_STEP_h ⟨_, rfl⟩)) pa_nil))) pa_nil))))) pss_nil)
      (pss_one (ps_expr (pe_bm PySem.F.plainAttrs_list PySem.F.slot_list_append PySem.F.type_list_append mt_append (pv 2) (pa_cons (pe_op op_add_str (pv 1) pe_str) pa_nil)))))) pss_nil)))))
      (pss_one (ps_ret (pv 2))))), ?_⟩
  have hll := Bd.lines_len d b
  have hind := ind_len d
  refine ⟨by show 0 ≤ sizeLine; decide, fun l hl0 => ?_⟩
  have s0 := Same.new hl0 (.lst [])
  refine ⟨_, rfl, qa, rfl, ⟨_, Same.tup s0 hq⟩, for_tup (K := K) (a := qa) (xs := us) (fun i σ H' => Same H H' ∧ ∃ (pre : List Str) (r : Bd) (v3 v4 : Option V), σ = [some (.ref qa), some (.str (ind d)), some (.ref l), v3, v4] ∧ H' l = some (.lst (pre.map V.str)) ∧ BdL K H r (us.drop i) ∧ r.ok m ∧ b.lines d = pre ++ r.lines d ∧ r.cnt ≤ 100)
    ⟨s0, [], b, none, none, rfl, upd_same, hb, ho, rfl, hc⟩ (fun i σ H' _ ⟨h, _⟩ => Same.tup h hq) ?_ ?_⟩
  · rintro i v σ H' hi ⟨sm, pre, r, v3, v4, rfl, hl, hr1, ro, el, rc⟩
    have hil : i < us.length := (List.getElem?_eq_some_iff.mp hi).1
    have dr : us.drop i = v :: us.drop (i + 1) := by
      rw [List.drop_eq_getElem_cons hil]
      congr 1
      exact (List.getElem?_eq_some_iff.mp hi).2
    rw [dr] at hr1
    obtain ⟨s1, r1, rfl⟩ : ∃ s1 r1, r = .cons s1 r1 := by
      cases r with
      | nil => cases hr1
      | cons s1 r1 => exact ⟨s1, r1, rfl⟩
    obtain ⟨v', ws, ev, hs1, hr2⟩ := hr1
    obtain ⟨rfl, rfl⟩ := List.cons.inj ev
    have os1 : s1.ok m := ro.1
    have plen : pre.length ≤ 400 := by
      have := congrArg List.length el
      rw [List.length_append] at this
      omega
    have lt := lineT_len os1
    have hsm := SmAt.keep (Keeps.of_same sm) hs1
    -- lines.append(margin + statement_text(statement))
    refine ⟨_, rfl, .inl ⟨rfl, _, SqL.of hl⟩, _, rfl, _, rfl, v, lineT s1, rfl, SmAt.facts hsm os1, fun H1 sm1 => ⟨_, _, rfl, rfl, by rw [sizeLine_eq]; omega, ?_⟩⟩
    refine ⟨l, _, _, rfl, rfl, sm1 _ _ hl, ?_, ?_⟩
    · rw [List.length_map]
      exact small1000 (by omega)
    have smA : Same H (upd H1 l (.lst (pre.map V.str ++ [.str (ind d ++ lineT s1)]))) := Same.grow hl0 (sm.trans sm1)
    have hlA : (upd H1 l (.lst (pre.map V.str ++ [.str (ind d ++ lineT s1)]))) l = some (.lst ((pre ++ [ind d ++ lineT s1]).map V.str)) := by
      rw [upd_same, List.map_append]
      rfl
    generalize (upd H1 l (.lst (pre.map V.str ++ [.str (ind d ++ lineT s1)]))) = HA at smA hlA ⊢
    -- bodies = bodies_of(statement)
    obtain ⟨p, wd, rest, roles, rfl, hp, htb, hlen, h10, hbi⟩ := SmAt.bods (SmAt.keep (Keeps.of_same smA) hs1)
    refine ⟨_, rfl, p, wd, rest, roles, rfl, hp, htb, hlen, h10, fun B HB smB hB0 hB => ?_⟩
    have nBl : l ≠ B := ne_of_none hlA hB0
    have smAB := smA.trans smB
    have hlB := smB _ _ hlA
    generalize hbl : bodL roles rest = bl at hbi hB
    -- the end of a turn
    have fin : ∀ (H5 : Hp) (ls : List Str) (v3 v4 : Option V), Same H H5 → H5 l = some (.lst (ls.map V.str)) → ls = pre ++ s1.lines d →
        Same H H5 ∧ ∃ (pre : List Str) (r : Bd) (v5 v6 : Option V), ([some (.ref qa), some (.str (ind d)), some (.ref l), v3, v4] : List (Option V)) = [some (.ref qa), some (.str (ind d)), some (.ref l), v5, v6] ∧ H5 l = some (.lst (pre.map V.str)) ∧ BdL K H r (us.drop (i + 1)) ∧ r.ok m ∧ b.lines d = pre ++ r.lines d ∧ r.cnt ≤ 100 := by
      intro H5 ls v3 v4 a1 a2 a3
      refine ⟨a1, ls, r1, v3, v4, rfl, a2, hr2, ro.2, ?_, ?_⟩
      · rw [a3, el, List.append_assoc]
        rfl
      · have : s1.cnt + r1.cnt ≤ 100 := rc
        omega
    -- one body's lines behind the others
    cases hbi with
    | leaf _ hleaf =>
      refine ⟨_, rfl, false, .inl ⟨_, SqL.of hB, rfl⟩, iteF ?_⟩
      exact fin HB _ _ _ smAB hlB (by rw [hleaf])
    | loop e b1 qb vb hqb hbb =>
      obtain ⟨k, rfl, ob⟩ := Sm.ok_inner_loop os1
      have c1 : b1.cnt ≤ 100 := by
        have : (1 + b1.cnt) + r1.cnt ≤ 100 := rc
        omega
      have l1 := Bd.lines_len (d + 1) b1
      refine ⟨_, rfl, true, .inl ⟨_, SqL.of hB, rfl⟩, iteT ?_⟩
      refine ⟨_, rfl, .inl ⟨rfl, _, SqL.of hlB⟩, _, rfl, B, _, 0, _, rfl, rfl, SqL.of hB, rfl, _, rfl, _, _, rfl, rfl, by rw [sizeLine_eq]; show _ + 2 ≤ _; omega, ?_⟩
      refine ⟨qb, vb, b1, d + 1, rfl, Same.tup smB hqb, BdL.keep (Keeps.of_same smB) hbb, ob, c1, by omega, fun D HD smD hD0 hD => ?_⟩
      have hlD := smD _ _ hlB
      have hBD := smD _ _ hB
      refine ⟨l, D, _, _, rfl, rfl, hlD, hD, ?_, ?_⟩
      · rw [List.length_map, List.length_map, List.length_append, sizeLine_eq]
        show pre.length + 1 + _ ≤ _
        omega
      have smE : Same H (upd HD l (.lst ((pre ++ [ind d ++ lineT (.loop e b1)]).map V.str ++ (b1.lines (d + 1)).map V.str))) := Same.grow hl0 (smAB.trans smD)
      have hlE : (upd HD l (.lst ((pre ++ [ind d ++ lineT (.loop e b1)]).map V.str ++ (b1.lines (d + 1)).map V.str))) l = some (.lst ((pre ++ [ind d ++ lineT (.loop e b1)] ++ b1.lines (d + 1)).map V.str)) := by
        rw [upd_same, ← List.map_append]
      have hBE : (upd HD l (.lst ((pre ++ [ind d ++ lineT (.loop e b1)]).map V.str ++ (b1.lines (d + 1)).map V.str))) B = some (.lst [.ref qb]) := by
        rw [upd_ne nBl.symm]
        exact hBD
      generalize (upd HD l (.lst ((pre ++ [ind d ++ lineT (.loop e b1)]).map V.str ++ (b1.lines (d + 1)).map V.str))) = HE at smE hlE hBE ⊢
      refine ⟨fun σ H5 => H5 = HE ∧ σ = [some (.ref qa), some (.str (ind d)), some (.ref l), some (.ref p), some (.ref B)], ⟨_, rfl, B, _, rfl, .inl (SqL.of hBE), _, _, rfl, rfl, _, rfl, ifF rfl (iteF ⟨rfl, rfl⟩)⟩, ?_⟩
      rintro σ H5 ⟨rfl, rfl⟩
      refine ⟨_, rfl, .inl ⟨rfl, _, SqL.of hlE⟩, _, rfl, _, _, rfl, rfl, by rw [sizeLine_eq]; show _ + 3 ≤ _; omega, ?_⟩
      refine ⟨l, _, _, rfl, rfl, hlE, ?_, ?_⟩
      · rw [List.length_map, List.length_append, List.length_append]
        exact small1000 (by show pre.length + 1 + _ ≤ 1000; omega)
      refine fin _ (pre ++ [ind d ++ lineT (.loop e b1)] ++ b1.lines (d + 1) ++ [ind d ++ ("end" : Str)]) _ _ (Same.grow hl0 smE) ?_ ?_
      · rw [upd_same, List.map_append (l₂ := [ind d ++ ("end" : Str)])]
        rfl
      · rw [loop_ln]
        simp only [List.append_assoc]
    | iff e b1 b2 qb rb vb wb hqb hbb hrb hcb =>
      obtain ⟨k, rfl, ob, oc⟩ := Sm.ok_inner_iff os1
      have c12 : b1.cnt ≤ 100 ∧ b2.cnt ≤ 100 ∧ b1.cnt + b2.cnt ≤ 100 := by
        have : (1 + b1.cnt + b2.cnt) + r1.cnt ≤ 100 := rc
        omega
      have l1 := Bd.lines_len (d + 1) b1
      have l2 := Bd.lines_len (d + 1) b2
      refine ⟨_, rfl, true, .inl ⟨_, SqL.of hB, rfl⟩, iteT ?_⟩
      refine ⟨_, rfl, .inl ⟨rfl, _, SqL.of hlB⟩, _, rfl, B, _, 0, _, rfl, rfl, SqL.of hB, rfl, _, rfl, _, _, rfl, rfl, by rw [sizeLine_eq]; show _ + 2 ≤ _; omega, ?_⟩
      refine ⟨qb, vb, b1, d + 1, rfl, Same.tup smB hqb, BdL.keep (Keeps.of_same smB) hbb, ob, c12.1, by omega, fun D HD smD hD0 hD => ?_⟩
      have hlD := smD _ _ hlB
      have hBD := smD _ _ hB
      refine ⟨l, D, _, _, rfl, rfl, hlD, hD, ?_, ?_⟩
      · rw [List.length_map, List.length_map, List.length_append, sizeLine_eq]
        show pre.length + 1 + _ ≤ _
        omega
      have smE : Same H (upd HD l (.lst ((pre ++ [ind d ++ lineT (.iff e b1 b2)]).map V.str ++ (b1.lines (d + 1)).map V.str))) := Same.grow hl0 (smAB.trans smD)
      have hlE : (upd HD l (.lst ((pre ++ [ind d ++ lineT (.iff e b1 b2)]).map V.str ++ (b1.lines (d + 1)).map V.str))) l = some (.lst ((pre ++ [ind d ++ lineT (.iff e b1 b2)] ++ b1.lines (d + 1)).map V.str)) := by
        rw [upd_same, ← List.map_append]
      have hBE : (upd HD l (.lst ((pre ++ [ind d ++ lineT (.iff e b1 b2)]).map V.str ++ (b1.lines (d + 1)).map V.str))) B = some (.lst [.ref qb, .ref rb]) := by
        rw [upd_ne nBl.symm]
        exact hBD
      have kE : Keeps K HB (upd HD l (.lst ((pre ++ [ind d ++ lineT (.iff e b1 b2)]).map V.str ++ (b1.lines (d + 1)).map V.str))) := by
        intro z xs hz
        have hz' := Same.tup smD hz
        rcases hz' with (hz | ⟨o, hz⟩) | hz
        · exact .inl (.inl (by rw [upd_ne (ne_of hz hlD (by intro z; cases z))]; exact hz))
        · exact .inl (.inr ⟨o, by rw [upd_ne (ne_of hz hlD (by intro z; cases z))]; exact hz⟩)
        · exact .inr hz
      generalize (upd HD l (.lst ((pre ++ [ind d ++ lineT (.iff e b1 b2)]).map V.str ++ (b1.lines (d + 1)).map V.str))) = HE at smE hlE hBE kE ⊢
      refine ⟨fun σ H5 => Same H H5 ∧ σ = [some (.ref qa), some (.str (ind d)), some (.ref l), some (.ref p), some (.ref B)] ∧ ∃ ls : List Str, H5 l = some (.lst (ls.map V.str)) ∧ ls.length ≤ 900 ∧ ls ++ [ind d ++ ("end" : Str)] = pre ++ (Sm.iff e b1 b2).lines d, ⟨_, rfl, B, _, rfl, .inl (SqL.of hBE), _, _, rfl, rfl, _, rfl, ifT rfl ?_⟩, ?_⟩
      · refine ⟨_, rfl, B, _, 1, _, rfl, rfl, SqL.of hBE, rfl, !wb.isEmpty, .inr (.inl ⟨_, kE _ _ (Same.tup smB hrb), rfl⟩), ?_⟩
        cases b2 with
        | nil =>
          obtain rfl : wb = [] := hcb
          refine iteF ⟨smE, rfl, _, hlE, ?_, ?_⟩
          · rw [List.length_append, List.length_append]
            show pre.length + 1 + _ ≤ 900
            omega
          · rw [iff_nil]
            simp only [List.append_assoc]
        | cons s2 c2 =>
          obtain ⟨x2, w2, rfl, hx2, hc2⟩ := id hcb
          refine iteT ⟨_, rfl, .inl ⟨rfl, _, SqL.of hlE⟩, _, rfl, _, _, rfl, rfl, by rw [sizeLine_eq]; show _ + 4 ≤ _; omega, ?_⟩
          refine ⟨l, _, _, rfl, rfl, hlE, ?_, ?_⟩
          · rw [List.length_map, List.length_append, List.length_append]
            exact small1000 (by show pre.length + 1 + _ ≤ 1000; omega)
          have smF : Same H (upd HE l (.lst ((pre ++ [ind d ++ lineT (.iff e b1 (.cons s2 c2))] ++ b1.lines (d + 1)).map V.str ++ [.str (ind d ++ ("else" : Str))]))) := Same.grow hl0 smE
          have hlF : (upd HE l (.lst ((pre ++ [ind d ++ lineT (.iff e b1 (.cons s2 c2))] ++ b1.lines (d + 1)).map V.str ++ [.str (ind d ++ ("else" : Str))]))) l = some (.lst ((pre ++ [ind d ++ lineT (.iff e b1 (.cons s2 c2))] ++ b1.lines (d + 1) ++ [ind d ++ ("else" : Str)]).map V.str)) := by
            rw [upd_same, List.map_append (l₂ := [ind d ++ ("else" : Str)])]
            rfl
          have hBF : (upd HE l (.lst ((pre ++ [ind d ++ lineT (.iff e b1 (.cons s2 c2))] ++ b1.lines (d + 1)).map V.str ++ [.str (ind d ++ ("else" : Str))]))) B = some (.lst [.ref qb, .ref rb]) := by
            rw [upd_ne nBl.symm]
            exact hBE
          have kF : Keeps K HE (upd HE l (.lst ((pre ++ [ind d ++ lineT (.iff e b1 (.cons s2 c2))] ++ b1.lines (d + 1)).map V.str ++ [.str (ind d ++ ("else" : Str))]))) := by
            intro z xs hz
            rcases hz with (hz | ⟨o, hz⟩) | hz
            · exact .inl (.inl (by rw [upd_ne (ne_of hz hlE (by intro z; cases z))]; exact hz))
            · exact .inl (.inr ⟨o, by rw [upd_ne (ne_of hz hlE (by intro z; cases z))]; exact hz⟩)
            · exact .inr hz
          generalize (upd HE l (.lst ((pre ++ [ind d ++ lineT (.iff e b1 (.cons s2 c2))] ++ b1.lines (d + 1)).map V.str ++ [.str (ind d ++ ("else" : Str))]))) = HF at smF hlF hBF kF ⊢
          have kBF : Keeps K HB HF := fun z xs hz => kF _ _ (kE _ _ hz)
          refine ⟨_, rfl, .inl ⟨rfl, _, SqL.of hlF⟩, _, rfl, B, _, 1, _, rfl, rfl, SqL.of hBF, rfl, _, rfl, _, _, rfl, rfl, by rw [sizeLine_eq]; show _ + 2 ≤ _; omega, ?_⟩
          refine ⟨rb, _, .cons s2 c2, d + 1, rfl, kBF _ _ (Same.tup smB hrb), BdL.keep kBF (BdL.keep (Keeps.of_same smB) hcb), oc, c12.2.1, by omega, fun D2 HG smG hD20 hD2 => ?_⟩
          refine ⟨l, D2, _, _, rfl, rfl, smG _ _ hlF, hD2, ?_, ?_⟩
          · rw [List.length_map, List.length_map, List.length_append, List.length_append, List.length_append, sizeLine_eq]
            show pre.length + 1 + _ + 1 + _ ≤ _
            omega
          refine ⟨Same.grow hl0 (smF.trans smG), rfl, pre ++ [ind d ++ lineT (.iff e b1 (.cons s2 c2))] ++ b1.lines (d + 1) ++ [ind d ++ ("else" : Str)] ++ (Bd.cons s2 c2).lines (d + 1), ?_, ?_, ?_⟩
          · rw [upd_same, ← List.map_append]
          · rw [List.length_append, List.length_append, List.length_append, List.length_append]
            show pre.length + 1 + _ + 1 + _ ≤ 900
            omega
          · rw [iff_cons]
            simp only [List.append_assoc]
      · rintro σ H5 ⟨sm5, rfl, ls, hl5, len5, els⟩
        refine ⟨_, rfl, .inl ⟨rfl, _, SqL.of hl5⟩, _, rfl, _, _, rfl, rfl, by rw [sizeLine_eq]; show _ + 3 ≤ _; omega, ?_⟩
        refine ⟨l, _, _, rfl, rfl, hl5, ?_, ?_⟩
        · rw [List.length_map]
          exact small1000 (by omega)
        refine fin _ (ls ++ [ind d ++ ("end" : Str)]) _ _ (Same.grow hl0 sm5) ?_ els
        rw [upd_same, List.map_append]
        rfl
  · rintro σ H' ⟨sm, pre, r, v3, v4, rfl, hl, hr1, ro, el, rc⟩
    rw [List.drop_length] at hr1
    have er : r = .nil := by
      cases r with
      | nil => rfl
      | cons s1 r1 => obtain ⟨x, ws, e, _⟩ := hr1; cases e
    subst er
    have el' : b.lines d = pre := by
      rw [el]
      exact List.append_nil _
    exact ⟨_, rfl, q l H' sm hl0 (by rw [el']; exact hl)⟩
theorem ok_body_lines (T : Txt w K mg) : ∀ m : Nat, FnOk P w K mg base CX0 (m + 13) T.a_body_lines T.d_body_lines p_body_lines (spLines K m)
  | 0 => ok_body_lines0 T (fn_vac fun _ _ _ _ h => h)
  | m + 1 => ok_body_lines0 T (ok_body_lines T m)
end
/-! ### comprehensions that make texts -/
theorem lc_tupS {α : Type} {K : PySem.W.Frag} {a D : Addr} {xs : List V} {al : List α} {f : α → Str} {te : TE} {vs : List Nat} {j : Nat} {σ : L2.St} {H1 : Hp} {Qd : Hp → Prop} (hq : SqT K H1 a xs) (hlen : xs.length = al.length) (hsm : xs.length ≤ 1000) (hD : H1 D = none)
    (hw : ∀ x : V, wipe ((wipe σ vs).set j (some x)) vs = wipe σ vs)
    (hs : ∀ (i : Nat) (x : V) (e : α) (H' : Hp) (R : VK), xs[i]? = some x → al[i]? = some e → Same H1 H' → (∀ H'', Same H' H'' → R (.str (f e)) H'') → te ((wipe σ vs).set j (some x)) H' R)
    (hd : ∀ H', Same H1 H' → H' D = some (.lst ((al.map f).map V.str)) → Qd H') :
    ∃ W : Nat → Nat → Hp → Prop, (∃ m, W 0 m (upd H1 D (.lst []))) ∧ ∀ i m H, W i m H →
      ((Itt K a).stop i H ∧ Qd H) ∨ ((Itt K a).go i H ∧ ∃ Nx : Hp → Prop, (∀ H', Nx H' → ∃ m', m' < m ∧ W (i + 1) m' H') ∧ ∀ x H', (Itt K a).yld i H x H' → (gName j) x (wipe σ vs) H' fun σ2 H2 => wipe σ2 vs = wipe σ vs ∧ tYes σ2 H2 fun b H3 =>
        if b = true then te σ2 H3 fun y H4 => ∃ acc, H4 D = some (.lst acc) ∧ acc.length < sizeLine ∧ Nx (upd H4 D (.lst (acc ++ [y]))) else Nx H3) := by
  refine lc_tup (K := K) (a := a) (xs := xs) (fun i H' => Same H1 H' ∧ H' D = some (.lst (((al.take i).map f).map V.str))) ?_ ?_ ?_ ?_
  · exact ⟨Same.new hD _, by rw [upd_same]; rfl⟩
  · rintro i H' _ ⟨sm, _⟩
    exact Same.tup sm hq
  · rintro i x H' hi ⟨sm, hD'⟩
    have hil : i < al.length := hlen ▸ (List.getElem?_eq_some_iff.mp hi).1
    have he := List.getElem?_eq_getElem hil
    have t1 : al.take (i + 1) = al.take i ++ [al[i]] := by
      rw [List.take_add_one, he]
      rfl
    refine ⟨hw x, ?_⟩
    show te ((wipe σ vs).set j (some x)) H' _
    refine hs i x _ H' _ hi he sm fun H'' s2 => ⟨_, s2 _ _ hD', ?_, Same.grow hD (sm.trans s2), ?_⟩
    · rw [List.length_map, List.length_map, List.length_take]
      exact small1000 (by omega)
    · rw [upd_same, t1, List.map_append, List.map_append]
      rfl
  · rintro H' ⟨sm, hD'⟩
    rw [hlen, List.take_length] at hD'
    exact hd H' sm hD'
theorem lc_lstS {α : Type} {K : PySem.W.Frag} {a D : Addr} {xs : List V} {al : List α} {f : α → Str} {te : TE} {vs : List Nat} {j : Nat} {σ : L2.St} {H1 : Hp} {Qd : Hp → Prop} (hq : SqL K H1 a xs) (hlen : xs.length = al.length) (hsm : xs.length ≤ 100000) (hD : H1 D = none)
    (hw : ∀ x : V, wipe ((wipe σ vs).set j (some x)) vs = wipe σ vs)
    (hs : ∀ (i : Nat) (x : V) (e : α) (H' : Hp) (R : VK), xs[i]? = some x → al[i]? = some e → Same H1 H' → (∀ H'', Same H' H'' → R (.str (f e)) H'') → te ((wipe σ vs).set j (some x)) H' R)
    (hd : ∀ H', Same H1 H' → H' D = some (.lst ((al.map f).map V.str)) → Qd H') :
    ∃ W : Nat → Nat → Hp → Prop, (∃ m, W 0 m (upd H1 D (.lst []))) ∧ ∀ i m H, W i m H →
      ((Itl K a).stop i H ∧ Qd H) ∨ ((Itl K a).go i H ∧ ∃ Nx : Hp → Prop, (∀ H', Nx H' → ∃ m', m' < m ∧ W (i + 1) m' H') ∧ ∀ x H', (Itl K a).yld i H x H' → (gName j) x (wipe σ vs) H' fun σ2 H2 => wipe σ2 vs = wipe σ vs ∧ tYes σ2 H2 fun b H3 =>
        if b = true then te σ2 H3 fun y H4 => ∃ acc, H4 D = some (.lst acc) ∧ acc.length < sizeLine ∧ Nx (upd H4 D (.lst (acc ++ [y]))) else Nx H3) := by
  refine lc_list (K := K) (a := a) (xs := xs) (fun i H' => Same H1 H' ∧ H' D = some (.lst (((al.take i).map f).map V.str))) ?_ ?_ ?_ ?_
  · exact ⟨Same.new hD _, by rw [upd_same]; rfl⟩
  · rintro i H' _ ⟨sm, _⟩
    exact sm.seq hq
  · rintro i x H' hi ⟨sm, hD'⟩
    have hil : i < al.length := hlen ▸ (List.getElem?_eq_some_iff.mp hi).1
    have he := List.getElem?_eq_getElem hil
    have t1 : al.take (i + 1) = al.take i ++ [al[i]] := by
      rw [List.take_add_one, he]
      rfl
    refine ⟨hw x, ?_⟩
    show te ((wipe σ vs).set j (some x)) H' _
    refine hs i x _ H' _ hi he sm fun H'' s2 => ⟨_, s2 _ _ hD', ?_, Same.grow hD (sm.trans s2), ?_⟩
    · rw [List.length_map, List.length_map, List.length_take, sizeLine_eq]
      omega
    · rw [upd_same, t1, List.map_append, List.map_append]
      rfl
  · rintro H' ⟨sm, hD'⟩
    rw [hlen, List.take_length] at hD'
    exact hd H' sm hD'
/-! ### declarations, records, arrays, functions, programs -/
def A2 {α : Type} (R : α → V → Prop) : List α → List V → Prop
  | [], [] => True
  | a :: l, v :: vs => R a v ∧ A2 R l vs
  | _, _ => False
theorem A2.len {α : Type} {R : α → V → Prop} : ∀ {l : List α} {vs : List V}, A2 R l vs → vs.length = l.length
  | [], [], _ => rfl
  | _ :: _, _ :: _, h => congrArg (· + 1) (A2.len h.2)
  | [], _ :: _, h => h.elim
  | _ :: _, [], h => h.elim
theorem A2.get {α : Type} {R : α → V → Prop} : ∀ {l : List α} {vs : List V} {i : Nat} {a : α} {v : V}, A2 R l vs → l[i]? = some a → vs[i]? = some v → R a v
  | [], [], _, _, _, _, h, _ => by simp at h
  | _ :: _, _ :: _, 0, _, _, h, h1, h2 => by
    simp at h1 h2
    subst h1 h2
    exact h.1
  | _ :: l, _ :: vs, i + 1, _, _, h, h1, h2 => A2.get (i := i) h.2 (by simpa using h1) (by simpa using h2)
  | [], _ :: _, _, _, _, h, _, _ => h.elim
  | _ :: _, [], _, _, _, h, _, _ => h.elim
theorem A2.imp {α : Type} {R R' : α → V → Prop} (k : ∀ a v, R a v → R' a v) : ∀ {l : List α} {vs : List V}, A2 R l vs → A2 R' l vs
  | [], [], _ => trivial
  | _ :: _, _ :: _, h => ⟨k _ _ h.1, A2.imp k h.2⟩
  | [], _ :: _, h => h.elim
  | _ :: _, [], h => h.elim
theorem A2.snoc {α : Type} {R : α → V → Prop} {a : α} {v : V} (h : R a v) : ∀ {l : List α} {vs : List V}, A2 R l vs → A2 R (l ++ [a]) (vs ++ [v])
  | [], [], _ => ⟨h, trivial⟩
  | _ :: _, _ :: _, q => ⟨q.1, A2.snoc h q.2⟩
  | [], _ :: _, q => q.elim
  | _ :: _, [], q => q.elim
abbrev Dc := Str × Kd
def Dc.ok (x : Dc) : Prop := x.1.length ≤ 20 ∧ x.2.ok
def DcAt (K : PySem.W.Frag) (H : Hp) (x : Dc) (v : V) : Prop := ∃ p kv, v = .ref p ∧ SqT K H p [.str x.1, kv] ∧ KdAt K H kv x.2
theorem KdAt.keep {K : PySem.W.Frag} {H H' : Hp} (k : Keeps K H H') {v : V} {x : Kd} (h : KdAt K H v x) : KdAt K H' v x := by
  obtain ⟨p, e, h⟩ := h
  exact ⟨p, e, k _ _ h⟩
theorem DcAt.keep {K : PySem.W.Frag} {H H' : Hp} (k : Keeps K H H') {x : Dc} {v : V} (h : DcAt K H x v) : DcAt K H' x v := by
  obtain ⟨p, kv, e, h, h2⟩ := h
  exact ⟨p, kv, e, k _ _ h, h2.keep k⟩
structure Rc where
  name : Str
  fields : List Dc
def Rc.ok (r : Rc) : Prop := r.name.length ≤ 20 ∧ r.fields.length ≤ 4 ∧ ∀ f ∈ r.fields, Dc.ok f
def RcAt (K : PySem.W.Frag) (H : Hp) (r : Rc) (v : V) : Prop := ∃ p q vs, v = .ref p ∧ SqT K H p [.str r.name, .ref q] ∧ SqT K H q vs ∧ A2 (DcAt K H) r.fields vs
theorem RcAt.keep {K : PySem.W.Frag} {H H' : Hp} (k : Keeps K H H') {x : Rc} {v : V} (h : RcAt K H x v) : RcAt K H' x v := by
  obtain ⟨p, q, vs, e, h, h2, h3⟩ := h
  exact ⟨p, q, vs, e, k _ _ h, k _ _ h2, A2.imp (fun _ _ z => z.keep k) h3⟩
structure Ar where
  name : Str
  len : Int
  lo : Int
  hi : Int
def inB (i : Int) : Prop := -1000000000 ≤ i ∧ i ≤ 1000000000
def Ar.ok (a : Ar) : Prop := a.name.length ≤ 20 ∧ inB a.len ∧ inB a.lo ∧ inB a.hi
def ArAt (K : PySem.W.Frag) (H : Hp) (a : Ar) (v : V) : Prop := ∃ p, v = .ref p ∧ SqT K H p [.str a.name, .int a.len, .int a.lo, .int a.hi]
theorem ArAt.keep {K : PySem.W.Frag} {H H' : Hp} (k : Keeps K H H') {x : Ar} {v : V} (h : ArAt K H x v) : ArAt K H' x v := by
  obtain ⟨p, e, h⟩ := h
  exact ⟨p, e, k _ _ h⟩
structure Fu where
  name : Str
  params : List Dc
  result : Option Kd
  own : List Dc
  body : Bd
def Fu.ok (f : Fu) : Prop := f.name.length ≤ 20 ∧ (f.params.length ≤ 4 ∧ ∀ x ∈ f.params, Dc.ok x) ∧ (∀ k, f.result = some k → k.ok) ∧ (f.own.length ≤ 4 ∧ ∀ x ∈ f.own, Dc.ok x) ∧ f.body.ok 8 ∧ f.body.cnt ≤ 100
def resAt (K : PySem.W.Frag) (H : Hp) : Option Kd → V → Prop
  | none, v => v = .non
  | some k, v => KdAt K H v k
def FuAt (K : PySem.W.Frag) (H : Hp) (f : Fu) (v : V) : Prop := ∃ p q1 vs1 rv q2 vs2 q3 vs3, v = .ref p ∧ SqT K H p [.str f.name, .ref q1, rv, .ref q2, .ref q3] ∧ SqT K H q1 vs1 ∧ A2 (DcAt K H) f.params vs1 ∧ resAt K H f.result rv ∧
  SqT K H q2 vs2 ∧ A2 (DcAt K H) f.own vs2 ∧ SqT K H q3 vs3 ∧ BdL K H f.body vs3
theorem FuAt.keep {K : PySem.W.Frag} {H H' : Hp} (k : Keeps K H H') {x : Fu} {v : V} (h : FuAt K H x v) : FuAt K H' x v := by
  obtain ⟨p, q1, vs1, rv, q2, vs2, q3, vs3, e, h1, h2, h3, h4, h5, h6, h7, h8⟩ := h
  refine ⟨p, q1, vs1, rv, q2, vs2, q3, vs3, e, k _ _ h1, k _ _ h2, A2.imp (fun _ _ z => z.keep k) h3, ?_, k _ _ h5, A2.imp (fun _ _ z => z.keep k) h6, k _ _ h7, h8.keep k⟩
  cases e : x.result with
  | none => rw [e] at h4; exact h4
  | some y => rw [e] at h4; exact KdAt.keep k h4
structure Pr where
  recs : List Rc
  arrs : List Ar
  globs : List Dc
  funs : List Fu
def PrAt (K : PySem.W.Frag) (H : Hp) (x : Pr) (v : V) : Prop := ∃ p q1 vs1 q2 vs2 q3 vs3 q4 vs4, v = .ref p ∧ SqT K H p [.ref q1, .ref q2, .ref q3, .ref q4] ∧ SqT K H q1 vs1 ∧ A2 (RcAt K H) x.recs vs1 ∧ SqT K H q2 vs2 ∧ A2 (ArAt K H) x.arrs vs2 ∧
  SqT K H q3 vs3 ∧ A2 (DcAt K H) x.globs vs3 ∧ SqT K H q4 vs4 ∧ A2 (FuAt K H) x.funs vs4
theorem PrAt.keep {K : PySem.W.Frag} {H H' : Hp} (k : Keeps K H H') {x : Pr} {v : V} (h : PrAt K H x v) : PrAt K H' x v := by
  obtain ⟨p, q1, vs1, q2, vs2, q3, vs3, q4, vs4, e, h0, h1, h2, h3, h4, h5, h6, h7, h8⟩ := h
  exact ⟨p, q1, vs1, q2, vs2, q3, vs3, q4, vs4, e, k _ _ h0, k _ _ h1, A2.imp (fun _ _ z => z.keep k) h2, k _ _ h3, A2.imp (fun _ _ z => z.keep k) h4, k _ _ h5, A2.imp (fun _ _ z => z.keep k) h6, k _ _ h7, A2.imp (fun _ _ z => z.keep k) h8⟩
def Pr.ok (x : Pr) : Prop := (x.recs.length ≤ 4 ∧ ∀ r ∈ x.recs, r.ok) ∧ (x.arrs.length ≤ 4 ∧ ∀ a ∈ x.arrs, a.ok) ∧ (x.globs.length ≤ 6 ∧ ∀ g ∈ x.globs, Dc.ok g) ∧ (x.funs.length ≤ 9 ∧ ∀ f ∈ x.funs, f.ok)
/-! ### their lines -/
def declT (x : Dc) : Str := x.1 ++ (": " : Str) ++ kdT x.2
def recLines (r : Rc) : List Str := [("record " : Str) ++ r.name] ++ r.fields.map (fun f => ("  " : Str) ++ declT f) ++ (["end"] : List Str)
def arrT (a : Ar) : Str := ("array " : Str) ++ a.name ++ ("[" : Str) ++ numS a.len ++ ("]: " : Str) ++ (numS a.lo ++ (".." : Str) ++ numS a.hi)
def tailT : Option Kd → Str
  | none => ""
  | some k => (": " : Str) ++ kdT k
def fnHead (f : Fu) : Str := ("def " : Str) ++ f.name ++ ("(" : Str) ++ Txt.join ", " (f.params.map declT) ++ (")" : Str) ++ tailT f.result
def fnLines (f : Fu) : List Str := [fnHead f] ++ f.own.map (fun x => ("  var " : Str) ++ declT x) ++ f.body.lines 1 ++ (["end"] : List Str)
def prLines (x : Pr) : List Str := (x.recs.map recLines).flatten ++ x.arrs.map arrT ++ x.globs.map (fun g => ("global " : Str) ++ declT g) ++ (x.funs.map fnLines).flatten
def joinT (ls : List Str) : Str := Txt.join "" (ls.map fun l => l ++ ("\n" : Str))
def spDecl (K : PySem.W.Frag) : Sp := fun vs H Q _ => ∃ (v : V) (x : Dc), vs = [v] ∧ DcAt K H x v ∧ Dc.ok x ∧ Q (.str (declT x)) H
def spRecL (K : PySem.W.Frag) : Sp := fun vs H Q _ => ∃ (v : V) (x : Rc), vs = [v] ∧ RcAt K H x v ∧ x.ok ∧ ∀ (D : Addr) (H' : Hp), Same H H' → H D = none → H' D = some (.lst ((recLines x).map V.str)) → Q (.ref D) H'
def spArrL (K : PySem.W.Frag) : Sp := fun vs H Q _ => ∃ (v : V) (x : Ar), vs = [v] ∧ ArAt K H x v ∧ x.ok ∧ Q (.str (arrT x)) H
def spFnL (K : PySem.W.Frag) : Sp := fun vs H Q _ => ∃ (v : V) (x : Fu), vs = [v] ∧ FuAt K H x v ∧ x.ok ∧ ∀ (D : Addr) (H' : Hp), Same H H' → H D = none → H' D = some (.lst ((fnLines x).map V.str)) → Q (.ref D) H'
def spJoin (K : PySem.W.Frag) : Sp := fun vs H Q _ => ∃ (a : Addr) (ls : List Str), vs = [.ref a] ∧ SqL K H a (ls.map V.str) ∧ ls.length ≤ 8000 ∧ (∀ l ∈ ls, l.length ≤ 2000) ∧ ∀ H', Same H H' → Q (.str (joinT ls)) H'
theorem l_col : (": " : Str).length = 2 := by decide +kernel
theorem l_rec : ("record " : Str).length = 7 := by decide +kernel
theorem l_arr : ("array " : Str).length = 6 := by decide +kernel
theorem l_sq4 : ("]: " : Str).length = 3 := by decide +kernel
theorem l_def : ("def " : Str).length = 4 := by decide +kernel
theorem l_2 : ("  " : Str).length = 2 := by decide +kernel
theorem l_var : ("var " : Str).length = 4 := by decide +kernel
theorem l_2var : ("  var " : Str).length = 6 := by decide +kernel
theorem l_glo : ("global " : Str).length = 7 := by decide +kernel
theorem l_nl : ("\n" : Str).length = 1 := by decide +kernel
theorem kdT_len {k : Kd} (h : k.ok) : (kdT k).length ≤ 24 := by
  cases k with
  | flag => decide +kernel
  | ref z => have h' : z.length ≤ 20 := h; show z.length ≤ 24; omega
  | num lo hi =>
    have a := numS_len h.1
    have b := numS_len h.2
    show (numS lo ++ (".." : Str) ++ numS hi).length ≤ 24
    rw [len_app, len_app, l_dd]
    omega
theorem declT_len {x : Dc} (h : Dc.ok x) : (declT x).length ≤ 46 := by
  have a := h.1
  have b := kdT_len h.2
  unfold declT
  rw [len_app, len_app, l_col]
  omega
section
variable {P : Program} {w : World} {K : PySem.W.Frag} {mg : Str → Option Value} {base : Heap}
theorem ok_declaration_text (T : Txt w K mg) : FnOk P w K mg base CX0 2 T.a_declaration_text T.d_declaration_text p_declaration_text (spDecl K) := by
  have g_kind_text := ok_kind_text (P := P) (w := w) (K := K) (base := base) T
  refine T.F_declaration_text.ok sc_declaration_text (fun vs H Q E h => ?_) (fun cdv A outer s H vs Q E hr h => ?_)
  · obtain ⟨v, x, rfl, _⟩ := h
    rfl
  obtain ⟨v, x, rfl, ⟨p, kv, rfl, hp, hk⟩, ho, q⟩ := h
  refine ⟨_, (pss_one (ps_ret (pe_joinedN (PJ.cons (pe_fmt (pe_ix ix_tup (pv 0) pe_int (fun _ _ => rfl))) (PJ.cons pe_str (PJ.cons (pe_fmt (pe_call g_kind_text (hr.mono (by first | decide | omega)) rfl T.m_kind_text T.F_kind_text.kp T.b_kind_text .nil pass0 (pa_cons (pe_ix ix_tup (pv 0) pe_int (fun _ _ => rfl)) pa_nil))) PJ.nil)))))), ?_⟩
  have h1 := ho.1
  have h2 := kdT_len ho.2
  refine ⟨_, rfl, p, _, 0, _, rfl, rfl, hp, rfl, .inl ⟨_, rfl, (by rw [sizeLine_eq]; (try simp only [len_app, l_eq, l_dot, l_sq1, l_sq2, l_sq3, l_sq4, l_inp, l_new, l_em, l_op, l_cl, l_sp, l_emp, l_col, l_rec, l_arr, l_def, l_2, l_var, l_2var, l_glo, l_nl, l_dd]); omega), _, rfl, (by rw [sizeLine_eq]; (try simp only [len_app, l_eq, l_dot, l_sq1, l_sq2, l_sq3, l_sq4, l_inp, l_new, l_em, l_op, l_cl, l_sp, l_emp, l_col, l_rec, l_arr, l_def, l_2, l_var, l_2var, l_glo, l_nl, l_dd]); omega), _, rfl, (by rw [sizeLine_eq]; (try simp only [len_app, l_eq, l_dot, l_sq1, l_sq2, l_sq3, l_sq4, l_inp, l_new, l_em, l_op, l_cl, l_sp, l_emp, l_col, l_rec, l_arr, l_def, l_2, l_var, l_2var, l_glo, l_nl, l_dd]); omega), _, rfl, p, _, 1, _, rfl, rfl, hp, rfl, kv, x.2, rfl, hk, ho.2, .inl ⟨_, rfl, (by rw [sizeLine_eq]; (try simp only [len_app, l_eq, l_dot, l_sq1, l_sq2, l_sq3, l_sq4, l_inp, l_new, l_em, l_op, l_cl, l_sp, l_emp, l_col, l_rec, l_arr, l_def, l_2, l_var, l_2var, l_glo, l_nl, l_dd]); omega), _, rfl, (by rw [sizeLine_eq]; (try simp only [len_app, l_eq, l_dot, l_sq1, l_sq2, l_sq3, l_sq4, l_inp, l_new, l_em, l_op, l_cl, l_sp, l_emp, l_col, l_rec, l_arr, l_def, l_2, l_var, l_2var, l_glo, l_nl, l_dd]); omega), ?_⟩⟩⟩
  rw [emp_app]
  exact q
theorem join_sum {α : Type} {f : α → Str} {B : Nat} {l : List α} (h : ∀ a ∈ l, (f a).length ≤ B) : ((l.map f).map (·.length)).sum ≤ B * l.length := by
  induction l with
  | nil => exact Nat.le_refl _
  | cons x r ih =>
    have h1 := h x List.mem_cons_self
    have h2 := ih fun e he => h e (List.mem_cons_of_mem _ he)
    simp only [List.map_cons, List.sum_cons, List.length_cons] at h2 ⊢
    rw [Nat.mul_succ]
    omega
theorem ok_record_lines (T : Txt w K mg) : FnOk P w K mg base CX0 3 T.a_record_lines T.d_record_lines p_record_lines (spRecL K) := by
  have g_declaration_text := ok_declaration_text (P := P) (w := w) (K := K) (base := base) T
  obtain ⟨tS, c_STEP_h⟩ := T.c_STEP
  refine T.F_record_lines.ok sc_record_lines (fun vs H Q E h => ?_) (fun cdv A outer s H vs Q E hr h => ?_)
  · obtain ⟨v, x, rfl, _⟩ := h
    rfl
  obtain ⟨v, x, rfl, ⟨p, qf, us, rfl, hp, hq, ha⟩, ho, q⟩ := h
  refine ⟨_, (pss_cons (ps_setLc (i := 1) (own := [("field", 2)]) (g := gName 2) (tt := tYes) rfl sc_record_lines.nd rfl rfl (sw_true rfl rfl rfl (by decide +kernel)) (pi_tup (pe_ix ix_tup (pv 0) pe_int (fun _ _ => rfl))) (blkOk_by (own := [("field", 2)]) (N := n_record_lines) (sc := defScope s_record_lines) (by decide +kernel)) (fun _ _ _ _ _ => (pg_name (i := 2) sc_record_lines.nd rfl (Or.inl rfl))) (fun _ _ _ _ _ => pts_nil) (fun _ _ _ _ _ => (pe_op op_add_str (pe_glob (v := .str "  ") rfl c_STEP_h ⟨_, rfl⟩) (pe_call g_declaration_text (hr.mono (by first | decide | omega)) rfl T.m_declaration_text T.F_declaration_text.kp T.b_declaration_text .nil pass0 (pa_cons (pv 2) pa_nil)))))
      (pss_one (ps_ret (pe_lst (pa_cons (pe_joinedN (PJ.cons pe_str (PJ.cons (pe_fmt (pe_ix ix_tup (pv 0) pe_int (fun _ _ => rfl))) PJ.nil))) (StX.pa_star (pv 1) (pa_cons pe_str pa_nil))))))), ?_⟩
  have hlen := ha.len
  have h4 := ho.2.1
  refine ⟨_, rfl, p, _, 1, _, rfl, rfl, hp, rfl, qf, rfl, ⟨_, hq⟩, fun D hD => ?_⟩
  refine lc_tupS (K := K) (xs := us) (al := x.fields) (f := fun f => ("  " : Str) ++ declT f) hq hlen (by omega) hD (fun _ => rfl) ?_ ?_
  · intro i y e H' R hy he sm k
    have hy' := DcAt.keep (Keeps.of_same sm) (ha.get he hy)
    have oe := ho.2.2 e (List.mem_of_getElem? he)
    have dl := declT_len oe
    exact ⟨_, rfl, y, e, rfl, hy', oe, _, _, rfl, rfl, (by rw [sizeLine_eq]; (try simp only [len_app, l_eq, l_dot, l_sq1, l_sq2, l_sq3, l_sq4, l_inp, l_new, l_em, l_op, l_cl, l_sp, l_emp, l_col, l_rec, l_arr, l_def, l_2, l_var, l_2var, l_glo, l_nl, l_dd]); omega), k _ (Same.refl _)⟩
  · intro H' sm hD'
    have hp' := Same.tup sm hp
    have n20 := ho.1
    refine ⟨_, rfl, (by rw [sizeLine_eq]; (try simp only [len_app, l_eq, l_dot, l_sq1, l_sq2, l_sq3, l_sq4, l_inp, l_new, l_em, l_op, l_cl, l_sp, l_emp, l_col, l_rec, l_arr, l_def, l_2, l_var, l_2var, l_glo, l_nl, l_dd]); omega), _, rfl, p, _, 0, _, rfl, rfl, hp', rfl, .inl ⟨_, rfl, (by rw [sizeLine_eq]; (try simp only [len_app, l_eq, l_dot, l_sq1, l_sq2, l_sq3, l_sq4, l_inp, l_new, l_em, l_op, l_cl, l_sp, l_emp, l_col, l_rec, l_arr, l_def, l_2, l_var, l_2var, l_glo, l_nl, l_dd]); omega), _, rfl, (by rw [sizeLine_eq]; (try simp only [len_app, l_eq, l_dot, l_sq1, l_sq2, l_sq3, l_sq4, l_inp, l_new, l_em, l_op, l_cl, l_sp, l_emp, l_col, l_rec, l_arr, l_def, l_2, l_var, l_2var, l_glo, l_nl, l_dd]); omega), ?_⟩⟩
    refine ⟨_, rfl, D, _, rfl, .inr (SqL.of hD'), ?_, fun z hz => ?_⟩
    · show ((x.fields.map fun f => ("  " : Str) ++ declT f).map V.str ++ [V.str "end"]).length + 1 ≤ sizeLine
      rw [List.length_append, List.length_map, List.length_map, sizeLine_eq]
      show _ + 1 + 1 ≤ _
      omega
    · rw [emp_app]
      refine q z _ (sm.trans (Same.new hz _)) (sm.free hz) ?_
      rw [upd_same]
      unfold recLines
      rw [List.map_append, List.map_append]
      rfl
theorem ok_array_line (T : Txt w K mg) : FnOk P w K mg base CX0 1 T.a_array_line T.d_array_line p_array_line (spArrL K) := by
  refine T.F_array_line.ok sc_array_line (fun vs H Q E h => ?_) (fun cdv A outer s H vs Q E hr h => ?_)
  · obtain ⟨v, x, rfl, _⟩ := h
    rfl
  obtain ⟨v, x, rfl, ⟨p, rfl, hp⟩, ho, q⟩ := h
  refine ⟨_, (pss_one (ps_ret (pe_joinedN (PJ.cons pe_str (PJ.cons (pe_fmt (pe_ix ix_tup (pv 0) pe_int (fun _ _ => rfl))) (PJ.cons pe_str (PJ.cons (pe_fmt (pe_ix ix_tup (pv 0) pe_int (fun _ _ => rfl))) (PJ.cons pe_str (PJ.cons (pe_fmt (pe_ix ix_tup (pv 0) pe_int (fun _ _ => rfl))) (PJ.cons pe_str (PJ.cons (pe_fmt (pe_ix ix_tup (pv 0) pe_int (fun _ _ => rfl))) PJ.nil))))))))))), ?_⟩
  have n20 := ho.1
  have f1 := numS_len ho.2.1
  have f2 := numS_len ho.2.2.1
  have f3 := numS_len ho.2.2.2
  have g1 : (Str.ofString (toString x.len)).length ≤ 11 := f1
  have g2 : (Str.ofString (toString x.lo)).length ≤ 11 := f2
  have g3 : (Str.ofString (toString x.hi)).length ≤ 11 := f3
  refine ⟨_, rfl, (by rw [sizeLine_eq]; (try simp only [len_app, l_eq, l_dot, l_sq1, l_sq2, l_sq3, l_sq4, l_inp, l_new, l_em, l_op, l_cl, l_sp, l_emp, l_col, l_rec, l_arr, l_def, l_2, l_var, l_2var, l_glo, l_nl, l_dd]); omega), _, rfl, p, _, 0, _, rfl, rfl, hp, rfl, .inl ⟨_, rfl, (by rw [sizeLine_eq]; (try simp only [len_app, l_eq, l_dot, l_sq1, l_sq2, l_sq3, l_sq4, l_inp, l_new, l_em, l_op, l_cl, l_sp, l_emp, l_col, l_rec, l_arr, l_def, l_2, l_var, l_2var, l_glo, l_nl, l_dd]); omega), _, rfl, (by rw [sizeLine_eq]; (try simp only [len_app, l_eq, l_dot, l_sq1, l_sq2, l_sq3, l_sq4, l_inp, l_new, l_em, l_op, l_cl, l_sp, l_emp, l_col, l_rec, l_arr, l_def, l_2, l_var, l_2var, l_glo, l_nl, l_dd]); omega), _, rfl, (by rw [sizeLine_eq]; (try simp only [len_app, l_eq, l_dot, l_sq1, l_sq2, l_sq3, l_sq4, l_inp, l_new, l_em, l_op, l_cl, l_sp, l_emp, l_col, l_rec, l_arr, l_def, l_2, l_var, l_2var, l_glo, l_nl, l_dd]); omega), _, rfl, p, _, 1, _, rfl, rfl, hp, rfl, .inr ⟨_, rfl, log_ok ho.2.1, _, rfl, (by rw [sizeLine_eq]; (try simp only [len_app, l_eq, l_dot, l_sq1, l_sq2, l_sq3, l_sq4, l_inp, l_new, l_em, l_op, l_cl, l_sp, l_emp, l_col, l_rec, l_arr, l_def, l_2, l_var, l_2var, l_glo, l_nl, l_dd]); omega), _, rfl, (by rw [sizeLine_eq]; (try simp only [len_app, l_eq, l_dot, l_sq1, l_sq2, l_sq3, l_sq4, l_inp, l_new, l_em, l_op, l_cl, l_sp, l_emp, l_col, l_rec, l_arr, l_def, l_2, l_var, l_2var, l_glo, l_nl, l_dd]); omega), _, rfl, p, _, 2, _, rfl, rfl, hp, rfl, .inr ⟨_, rfl, log_ok ho.2.2.1, _, rfl, (by rw [sizeLine_eq]; (try simp only [len_app, l_eq, l_dot, l_sq1, l_sq2, l_sq3, l_sq4, l_inp, l_new, l_em, l_op, l_cl, l_sp, l_emp, l_col, l_rec, l_arr, l_def, l_2, l_var, l_2var, l_glo, l_nl, l_dd]); omega), _, rfl, (by rw [sizeLine_eq]; (try simp only [len_app, l_eq, l_dot, l_sq1, l_sq2, l_sq3, l_sq4, l_inp, l_new, l_em, l_op, l_cl, l_sp, l_emp, l_col, l_rec, l_arr, l_def, l_2, l_var, l_2var, l_glo, l_nl, l_dd]); omega), _, rfl, p, _, 3, _, rfl, rfl, hp, rfl, .inr ⟨_, rfl, log_ok ho.2.2.2, _, rfl, (by rw [sizeLine_eq]; (try simp only [len_app, l_eq, l_dot, l_sq1, l_sq2, l_sq3, l_sq4, l_inp, l_new, l_em, l_op, l_cl, l_sp, l_emp, l_col, l_rec, l_arr, l_def, l_2, l_var, l_2var, l_glo, l_nl, l_dd]); omega), ?_⟩⟩⟩⟩⟩
  rw [emp_app]
  have e : ("array " : Str) ++ x.name ++ ("[" : Str) ++ Str.ofString (toString x.len) ++ ("]: " : Str) ++ Str.ofString (toString x.lo) ++ (".." : Str) ++ Str.ofString (toString x.hi) = arrT x := by
    unfold arrT numS
    simp only [str_assoc]
  rw [e]
  exact q
theorem joinT_ok (T : Txt w K mg) : FnOk P w K mg base CX0 1 T.a_joined T.d_joined p_joined (spJoin K) := by
  refine T.F_joined.ok sc_joined (fun vs H Q E h => ?_) (fun cdv A outer s H vs Q E hr h => ?_)
  · obtain ⟨a, ls, rfl, _⟩ := h
    rfl
  obtain ⟨a, ls, rfl, ha, h8, hl, q⟩ := h
  refine ⟨_, (pss_one (ps_ret (pe_join pe_str (pe_lc (own := [("line", 1)]) (g := gName 1) (tt := tYes) rfl sc_joined.nd (pi_list (pv 0)) (blkOk_by (own := [("line", 1)]) (N := n_joined) (sc := defScope s_joined) (by decide +kernel)) (fun _ _ _ _ _ => (pg_name (i := 1) sc_joined.nd rfl (Or.inl rfl))) (fun _ _ _ _ _ => pts_nil) (fun _ _ _ _ _ => (pe_op op_add_str (pv 1) pe_str)))))), ?_⟩
  have lm : (ls.map V.str).length = ls.length := List.length_map _
  refine ⟨⟨_, rfl⟩, _, rfl, a, rfl, ⟨_, ha⟩, fun D hD => ?_⟩
  refine lc_lstS (K := K) (xs := ls.map V.str) (al := ls) (f := fun l => l ++ ("\n" : Str)) ha lm (by omega) hD (fun _ => rfl) ?_ ?_
  · intro i y e H' R hy he sm k
    rw [List.getElem?_map, he] at hy
    obtain rfl := Option.some.inj hy
    have := hl e (List.mem_of_getElem? he)
    exact ⟨_, rfl, _, _, rfl, rfl, (by rw [sizeLine_eq]; (try simp only [len_app, l_eq, l_dot, l_sq1, l_sq2, l_sq3, l_sq4, l_inp, l_new, l_em, l_op, l_cl, l_sp, l_emp, l_col, l_rec, l_arr, l_def, l_2, l_var, l_2var, l_glo, l_nl, l_dd]); omega), k _ (Same.refl _)⟩
  · intro H' sm hD'
    refine ⟨_, D, _, rfl, rfl, .inl (SqL.of hD'), ?_, q H' sm⟩
    have b := join_sum (f := fun l : Str => l ++ ("\n" : Str)) (B := 2001) (l := ls) (fun l h => by
      have := hl l h
      show (l ++ ("\n" : Str)).length ≤ 2001
      rw [len_app, l_nl]
      omega)
    rw [List.length_map]
    show _ + ls.length * 0 ≤ 16777216
    omega
end
theorem join4 : ∀ {l : List Str}, l.length ≤ 4 → (∀ x ∈ l, x.length ≤ 46) → (Txt.join ", " l).length ≤ 300
  | [], _, _ => by decide +kernel
  | [a], _, h => by
    have := h a (by simp)
    show a.length ≤ 300
    omega
  | [a, b], _, h => by
    have := h a (by simp)
    have := h b (by simp)
    show (a ++ (", " : Str) ++ b).length ≤ 300
    rw [len_app, len_app]
    show a.length + 2 + b.length ≤ 300
    omega
  | [a, b, c], _, h => by
    have := h a (by simp)
    have := h b (by simp)
    have := h c (by simp)
    show (a ++ (", " : Str) ++ b ++ (", " : Str) ++ c).length ≤ 300
    rw [len_app, len_app, len_app, len_app]
    show a.length + 2 + b.length + 2 + c.length ≤ 300
    omega
  | [a, b, c, d], _, h => by
    have := h a (by simp)
    have := h b (by simp)
    have := h c (by simp)
    have := h d (by simp)
    show (a ++ (", " : Str) ++ b ++ (", " : Str) ++ c ++ (", " : Str) ++ d).length ≤ 300
    rw [len_app, len_app, len_app, len_app, len_app, len_app]
    show a.length + 2 + b.length + 2 + c.length + 2 + d.length ≤ 300
    omega
  | _ :: _ :: _ :: _ :: _ :: _, h, _ => by simp at h
section
variable {P : Program} {w : World} {K : PySem.W.Frag} {mg : Str → Option Value} {base : Heap}
theorem ok_function_lines (T : Txt w K mg) : FnOk P w K mg base CX0 22 T.a_function_lines T.d_function_lines p_function_lines (spFnL K) := by
  have g_declaration_text := ok_declaration_text (P := P) (w := w) (K := K) (base := base) T
  have g_kind_text := ok_kind_text (P := P) (w := w) (K := K) (base := base) T
  have g_body_lines := ok_body_lines (P := P) (w := w) (K := K) (base := base) T 8
  obtain ⟨tS, c_STEP_h⟩ := T.c_STEP
  refine T.F_function_lines.ok sc_function_lines (fun vs H Q E h => ?_) (fun cdv A outer s H vs Q E hr h => ?_)
  · obtain ⟨v, x, rfl, _⟩ := h
    rfl
  obtain ⟨v, x, rfl, ⟨p, q1, vs1, rv, q2, vs2, q3, vs3, rfl, hp, h1, a1, hres, h2, a2, h3, hb⟩, ⟨o1, o2, o3, o4, o5, o6⟩, q⟩ := h
  refine ⟨_, (pss_cons (ps_asg (pv 0) (pg_tup rfl (pgs_cons (pg_name (i := 1) sc_function_lines.nd rfl (Or.inl rfl)) (pgs_cons (pg_name (i := 2) sc_function_lines.nd rfl (Or.inl rfl)) (pgs_cons (pg_name (i := 3) sc_function_lines.nd rfl (Or.inl rfl)) (pgs_cons (pg_name (i := 4) sc_function_lines.nd rfl (Or.inl rfl)) (pgs_cons (pg_name (i := 5) sc_function_lines.nd rfl (Or.inl rfl)) pgs_nil)))))))
      (pss_cons (ps_set (i := 6) sc_function_lines.nd rfl (Or.inl rfl) (pe_join pe_str (pe_lc (own := [("param", 7)]) (g := gName 7) (tt := tYes) rfl sc_function_lines.nd (pi_tup (pv 2)) (blkOk_by (own := [("param", 7)]) (N := n_function_lines) (sc := defScope s_function_lines) (by decide +kernel)) (fun _ _ _ _ _ => (pg_name (i := 7) sc_function_lines.nd rfl (Or.inl rfl))) (fun _ _ _ _ _ => pts_nil) (fun _ _ _ _ _ => (pe_call g_declaration_text (hr.mono (by first | decide | omega)) rfl T.m_declaration_text T.F_declaration_text.kp T.b_declaration_text .nil pass0 (pa_cons (pv 7) pa_nil))))))
      (pss_cons (ps_set (i := 8) sc_function_lines.nd rfl (Or.inl rfl) (pe_ifExp (pt_cmpR op_isN (pv 3) pe_non (nomark _)) pe_str (pe_joinedN (PJ.cons pe_str (PJ.cons (pe_fmt (pe_call g_kind_text (hr.mono (by first | decide | omega)) rfl T.m_kind_text T.F_kind_text.kp T.b_kind_text .nil pass0 (pa_cons (pv 3) pa_nil))) PJ.nil)))))
      (pss_cons (ps_setLc (i := 9) (own := [("variable", 10)]) (g := gName 10) (tt := tYes) rfl sc_function_lines.nd rfl rfl (sw_true rfl rfl rfl (by decide +kernel)) (pi_tup (pv 4)) (blkOk_by (own := [("variable", 10)]) (N := n_function_lines) (sc := defScope s_function_lines) (by decide +kernel)) (fun _ _ _ _ _ => (pg_name (i := 10) sc_function_lines.nd rfl (Or.inl rfl))) (fun _ _ _ _ _ => pts_nil) (fun _ _ _ _ _ => (pe_joinedN (PJ.cons (pe_fmt (pe_glob (v := .str "  ") rfl c_STEP_h ⟨_, rfl⟩)) (PJ.cons pe_str (PJ.cons (pe_fmt (pe_call g_declaration_text (hr.mono (by first | decide | omega)) rfl T.m_declaration_text T.F_declaration_text.kp T.b_declaration_text .nil pass0 (pa_cons (pv 10) pa_nil))) PJ.nil))))))
      (pss_one (ps_ret (pe_lst (pa_cons (pe_joinedN (PJ.cons pe_str (PJ.cons (pe_fmt (pv 1)) (PJ.cons pe_str (PJ.cons (pe_fmt (pv 6)) (PJ.cons pe_str (PJ.cons (pe_fmt (pv 8)) PJ.nil))))))) (StX.pa_star (pv 9) (StX.pa_star (pe_call g_body_lines (hr.mono (by first | decide | omega)) rfl T.m_body_lines T.F_body_lines.kp T.b_body_lines .nil pass0 (pa_cons (pv 5) (pa_cons (pe_glob (v := .str "  ") rfl c_STEP_h ⟨_, rfl⟩) pa_nil))) (pa_cons pe_str pa_nil))))))))))), ?_⟩
  refine ⟨_, rfl, p, _, rfl, hp, rfl, _, _, rfl, _, _, rfl, _, _, rfl, _, _, rfl, _, _, rfl, rfl, ?_⟩
  have len1 := a1.len
  have len2 := a2.len
  have o21 := o2.1
  have o41 := o4.1
  -- told
  refine ⟨⟨_, rfl⟩, _, rfl, q1, rfl, ⟨_, h1⟩, fun D hD => ?_⟩
  refine lc_tupS (K := K) (xs := vs1) (al := x.params) (f := declT) h1 len1 (by omega) hD (fun _ => rfl) ?_ ?_
  · intro i y e H' R hy he sm k
    exact ⟨_, rfl, y, e, rfl, DcAt.keep (Keeps.of_same sm) (a1.get he hy), o2.2 e (List.mem_of_getElem? he), k _ (Same.refl _)⟩
  intro H1 sm1 hD1
  have jb := join_sum (f := declT) (B := 46) (l := x.params) (fun e h => declT_len (o2.2 e h))
  refine ⟨_, D, _, rfl, rfl, .inl (SqL.of hD1), ?_, ?_⟩
  · rw [List.length_map]
    show _ + x.params.length * 2 ≤ 16777216
    omega
  have jl : (Txt.join ", " (x.params.map declT)).length ≤ 300 := join4 (by rw [List.length_map]; exact o21) (fun y hy => by
    obtain ⟨e, he, rfl⟩ := List.mem_map.mp hy
    exact declT_len (o2.2 e he))
  generalize ej : Txt.join ", " (x.params.map declT) = tj at jl
  -- tail
  cases er : x.result with
  | none =>
    rw [er] at hres
    obtain rfl : rv = .non := hres
    refine ⟨_, rfl, rfl, _, rfl, ifT (decide_eq_true rfl) ?_⟩
    have tlen : ("" : Str).length = 0 := l_em

    -- variables
    refine ⟨_, rfl, q2, rfl, ⟨_, Same.tup sm1 h2⟩, fun D2 hD2 => ?_⟩
    refine lc_tupS (K := K) (xs := vs2) (al := x.own) (f := fun x => ("  var " : Str) ++ declT x) (Same.tup sm1 h2) len2 (by omega) hD2 ?_ ?_ ?_
    · exact fun _ => rfl
    · intro i y e H' R hy he sm k
      have oe := o4.2 e (List.mem_of_getElem? he)
      have dl := declT_len oe
      refine .inl ⟨_, rfl, (by rw [sizeLine_eq]; (try simp only [len_app, l_eq, l_dot, l_sq1, l_sq2, l_sq3, l_sq4, l_inp, l_new, l_em, l_op, l_cl, l_sp, l_emp, l_col, l_rec, l_arr, l_def, l_2, l_var, l_2var, l_glo, l_nl, l_dd]); omega), _, rfl, (by rw [sizeLine_eq]; (try simp only [len_app, l_eq, l_dot, l_sq1, l_sq2, l_sq3, l_sq4, l_inp, l_new, l_em, l_op, l_cl, l_sp, l_emp, l_col, l_rec, l_arr, l_def, l_2, l_var, l_2var, l_glo, l_nl, l_dd]); omega), _, rfl, (by rw [sizeLine_eq]; (try simp only [len_app, l_eq, l_dot, l_sq1, l_sq2, l_sq3, l_sq4, l_inp, l_new, l_em, l_op, l_cl, l_sp, l_emp, l_col, l_rec, l_arr, l_def, l_2, l_var, l_2var, l_glo, l_nl, l_dd]); omega), _, rfl, y, e, rfl, DcAt.keep (Keeps.of_same (sm1.trans sm)) (a2.get he hy), oe, .inl ⟨_, rfl, (by rw [sizeLine_eq]; (try simp only [len_app, l_eq, l_dot, l_sq1, l_sq2, l_sq3, l_sq4, l_inp, l_new, l_em, l_op, l_cl, l_sp, l_emp, l_col, l_rec, l_arr, l_def, l_2, l_var, l_2var, l_glo, l_nl, l_dd]); omega), _, rfl, (by rw [sizeLine_eq]; (try simp only [len_app, l_eq, l_dot, l_sq1, l_sq2, l_sq3, l_sq4, l_inp, l_new, l_em, l_op, l_cl, l_sp, l_emp, l_col, l_rec, l_arr, l_def, l_2, l_var, l_2var, l_glo, l_nl, l_dd]); omega), ?_⟩⟩
      have es : Str.empty ++ ("  " : Str) ++ ("var " : Str) = ("  var " : Str) := by decide +kernel
      rw [es]
      exact k _ (Same.refl _)
    intro H2 sm2 hD2'
    have sm12 := sm1.trans sm2
    have lb := Bd.lines_len 1 x.body
    refine ⟨_, rfl, (by rw [sizeLine_eq]; (try simp only [len_app, l_eq, l_dot, l_sq1, l_sq2, l_sq3, l_sq4, l_inp, l_new, l_em, l_op, l_cl, l_sp, l_emp, l_col, l_rec, l_arr, l_def, l_2, l_var, l_2var, l_glo, l_nl, l_dd]); omega), _, rfl, .inl ⟨_, rfl, (by rw [sizeLine_eq]; (try simp only [len_app, l_eq, l_dot, l_sq1, l_sq2, l_sq3, l_sq4, l_inp, l_new, l_em, l_op, l_cl, l_sp, l_emp, l_col, l_rec, l_arr, l_def, l_2, l_var, l_2var, l_glo, l_nl, l_dd]); omega), _, rfl, (by rw [sizeLine_eq]; (try simp only [len_app, l_eq, l_dot, l_sq1, l_sq2, l_sq3, l_sq4, l_inp, l_new, l_em, l_op, l_cl, l_sp, l_emp, l_col, l_rec, l_arr, l_def, l_2, l_var, l_2var, l_glo, l_nl, l_dd]); omega), _, rfl, (by rw [sizeLine_eq]; (try simp only [len_app, l_eq, l_dot, l_sq1, l_sq2, l_sq3, l_sq4, l_inp, l_new, l_em, l_op, l_cl, l_sp, l_emp, l_col, l_rec, l_arr, l_def, l_2, l_var, l_2var, l_glo, l_nl, l_dd]); omega), _, rfl, .inl ⟨_, rfl, (by rw [sizeLine_eq]; (try simp only [len_app, l_eq, l_dot, l_sq1, l_sq2, l_sq3, l_sq4, l_inp, l_new, l_em, l_op, l_cl, l_sp, l_emp, l_col, l_rec, l_arr, l_def, l_2, l_var, l_2var, l_glo, l_nl, l_dd]); omega), _, rfl, (by rw [sizeLine_eq]; (try simp only [len_app, l_eq, l_dot, l_sq1, l_sq2, l_sq3, l_sq4, l_inp, l_new, l_em, l_op, l_cl, l_sp, l_emp, l_col, l_rec, l_arr, l_def, l_2, l_var, l_2var, l_glo, l_nl, l_dd]); omega), _, rfl, (by rw [sizeLine_eq]; (try simp only [len_app, l_eq, l_dot, l_sq1, l_sq2, l_sq3, l_sq4, l_inp, l_new, l_em, l_op, l_cl, l_sp, l_emp, l_col, l_rec, l_arr, l_def, l_2, l_var, l_2var, l_glo, l_nl, l_dd]); omega), _, rfl, .inl ⟨_, rfl, (by rw [sizeLine_eq]; (try simp only [len_app, l_eq, l_dot, l_sq1, l_sq2, l_sq3, l_sq4, l_inp, l_new, l_em, l_op, l_cl, l_sp, l_emp, l_col, l_rec, l_arr, l_def, l_2, l_var, l_2var, l_glo, l_nl, l_dd]); omega), _, rfl, (by rw [sizeLine_eq]; (try simp only [len_app, l_eq, l_dot, l_sq1, l_sq2, l_sq3, l_sq4, l_inp, l_new, l_em, l_op, l_cl, l_sp, l_emp, l_col, l_rec, l_arr, l_def, l_2, l_var, l_2var, l_glo, l_nl, l_dd]); omega), ?_⟩⟩⟩⟩
    refine ⟨_, rfl, D2, _, rfl, .inr (SqL.of hD2'), ?_⟩
    have e1 : ("  " : Str) = ind 1 := by
      show ("  " : Str) = Str.empty ++ ("  " : Str)
      rw [emp_app]
    refine ⟨_, rfl, q3, vs3, x.body, 1, ?_, Same.tup sm12 h3, BdL.keep (Keeps.of_same sm12) hb, o5, o6, by decide, fun D3 H3 sm3 hD30 hD3 => ?_⟩
    · rw [← e1]
      rfl
    refine ⟨D3, _, rfl, .inr (SqL.of hD3), ?_, fun z hz => ?_⟩
    · simp only [List.length_append, List.length_cons, List.length_map, List.length_nil]
      rw [sizeLine_eq]
      omega
    · refine q z _ (sm12.trans (sm3.trans (Same.new hz _))) (sm12.free (sm3.free hz)) ?_
      rw [upd_same]
      rw [emp_app]
      unfold fnLines fnHead
      rw [ej, show tailT x.result = ("" : Str) by rw [er]; rfl]
      simp only [List.map_append, List.map_cons, List.map_nil, List.append_assoc, List.cons_append, List.nil_append]
  | some kd =>
    rw [er] at hres
    obtain ⟨pk, rfl, hk⟩ := hres
    have kl := kdT_len (o3 kd er)
    refine ⟨_, rfl, rfl, _, rfl, ifF (decide_eq_false nnR) ?_⟩
    refine ⟨_, rfl, (by rw [sizeLine_eq]; (try simp only [len_app, l_eq, l_dot, l_sq1, l_sq2, l_sq3, l_sq4, l_inp, l_new, l_em, l_op, l_cl, l_sp, l_emp, l_col, l_rec, l_arr, l_def, l_2, l_var, l_2var, l_glo, l_nl, l_dd]); omega), _, rfl, .ref pk, kd, rfl, ⟨pk, rfl, Same.tup sm1 hk⟩, o3 kd er, .inl ⟨_, rfl, (by rw [sizeLine_eq]; (try simp only [len_app, l_eq, l_dot, l_sq1, l_sq2, l_sq3, l_sq4, l_inp, l_new, l_em, l_op, l_cl, l_sp, l_emp, l_col, l_rec, l_arr, l_def, l_2, l_var, l_2var, l_glo, l_nl, l_dd]); omega), _, rfl, (by rw [sizeLine_eq]; (try simp only [len_app, l_eq, l_dot, l_sq1, l_sq2, l_sq3, l_sq4, l_inp, l_new, l_em, l_op, l_cl, l_sp, l_emp, l_col, l_rec, l_arr, l_def, l_2, l_var, l_2var, l_glo, l_nl, l_dd]); omega), ?_⟩⟩
    rw [emp_app]
    have tlen : ((": " : Str) ++ kdT kd).length = 2 + (kdT kd).length := by rw [len_app, l_col]

    -- variables
    refine ⟨_, rfl, q2, rfl, ⟨_, Same.tup sm1 h2⟩, fun D2 hD2 => ?_⟩
    refine lc_tupS (K := K) (xs := vs2) (al := x.own) (f := fun x => ("  var " : Str) ++ declT x) (Same.tup sm1 h2) len2 (by omega) hD2 ?_ ?_ ?_
    · exact fun _ => rfl
    · intro i y e H' R hy he sm k
      have oe := o4.2 e (List.mem_of_getElem? he)
      have dl := declT_len oe
      refine .inl ⟨_, rfl, (by rw [sizeLine_eq]; (try simp only [len_app, l_eq, l_dot, l_sq1, l_sq2, l_sq3, l_sq4, l_inp, l_new, l_em, l_op, l_cl, l_sp, l_emp, l_col, l_rec, l_arr, l_def, l_2, l_var, l_2var, l_glo, l_nl, l_dd]); omega), _, rfl, (by rw [sizeLine_eq]; (try simp only [len_app, l_eq, l_dot, l_sq1, l_sq2, l_sq3, l_sq4, l_inp, l_new, l_em, l_op, l_cl, l_sp, l_emp, l_col, l_rec, l_arr, l_def, l_2, l_var, l_2var, l_glo, l_nl, l_dd]); omega), _, rfl, (by rw [sizeLine_eq]; (try simp only [len_app, l_eq, l_dot, l_sq1, l_sq2, l_sq3, l_sq4, l_inp, l_new, l_em, l_op, l_cl, l_sp, l_emp, l_col, l_rec, l_arr, l_def, l_2, l_var, l_2var, l_glo, l_nl, l_dd]); omega), _, rfl, y, e, rfl, DcAt.keep (Keeps.of_same (sm1.trans sm)) (a2.get he hy), oe, .inl ⟨_, rfl, (by rw [sizeLine_eq]; (try simp only [len_app, l_eq, l_dot, l_sq1, l_sq2, l_sq3, l_sq4, l_inp, l_new, l_em, l_op, l_cl, l_sp, l_emp, l_col, l_rec, l_arr, l_def, l_2, l_var, l_2var, l_glo, l_nl, l_dd]); omega), _, rfl, (by rw [sizeLine_eq]; (try simp only [len_app, l_eq, l_dot, l_sq1, l_sq2, l_sq3, l_sq4, l_inp, l_new, l_em, l_op, l_cl, l_sp, l_emp, l_col, l_rec, l_arr, l_def, l_2, l_var, l_2var, l_glo, l_nl, l_dd]); omega), ?_⟩⟩
      have es : Str.empty ++ ("  " : Str) ++ ("var " : Str) = ("  var " : Str) := by decide +kernel
      rw [es]
      exact k _ (Same.refl _)
    intro H2 sm2 hD2'
    have sm12 := sm1.trans sm2
    have lb := Bd.lines_len 1 x.body
    refine ⟨_, rfl, (by rw [sizeLine_eq]; (try simp only [len_app, l_eq, l_dot, l_sq1, l_sq2, l_sq3, l_sq4, l_inp, l_new, l_em, l_op, l_cl, l_sp, l_emp, l_col, l_rec, l_arr, l_def, l_2, l_var, l_2var, l_glo, l_nl, l_dd]); omega), _, rfl, .inl ⟨_, rfl, (by rw [sizeLine_eq]; (try simp only [len_app, l_eq, l_dot, l_sq1, l_sq2, l_sq3, l_sq4, l_inp, l_new, l_em, l_op, l_cl, l_sp, l_emp, l_col, l_rec, l_arr, l_def, l_2, l_var, l_2var, l_glo, l_nl, l_dd]); omega), _, rfl, (by rw [sizeLine_eq]; (try simp only [len_app, l_eq, l_dot, l_sq1, l_sq2, l_sq3, l_sq4, l_inp, l_new, l_em, l_op, l_cl, l_sp, l_emp, l_col, l_rec, l_arr, l_def, l_2, l_var, l_2var, l_glo, l_nl, l_dd]); omega), _, rfl, (by rw [sizeLine_eq]; (try simp only [len_app, l_eq, l_dot, l_sq1, l_sq2, l_sq3, l_sq4, l_inp, l_new, l_em, l_op, l_cl, l_sp, l_emp, l_col, l_rec, l_arr, l_def, l_2, l_var, l_2var, l_glo, l_nl, l_dd]); omega), _, rfl, .inl ⟨_, rfl, (by rw [sizeLine_eq]; (try simp only [len_app, l_eq, l_dot, l_sq1, l_sq2, l_sq3, l_sq4, l_inp, l_new, l_em, l_op, l_cl, l_sp, l_emp, l_col, l_rec, l_arr, l_def, l_2, l_var, l_2var, l_glo, l_nl, l_dd]); omega), _, rfl, (by rw [sizeLine_eq]; (try simp only [len_app, l_eq, l_dot, l_sq1, l_sq2, l_sq3, l_sq4, l_inp, l_new, l_em, l_op, l_cl, l_sp, l_emp, l_col, l_rec, l_arr, l_def, l_2, l_var, l_2var, l_glo, l_nl, l_dd]); omega), _, rfl, (by rw [sizeLine_eq]; (try simp only [len_app, l_eq, l_dot, l_sq1, l_sq2, l_sq3, l_sq4, l_inp, l_new, l_em, l_op, l_cl, l_sp, l_emp, l_col, l_rec, l_arr, l_def, l_2, l_var, l_2var, l_glo, l_nl, l_dd]); omega), _, rfl, .inl ⟨_, rfl, (by rw [sizeLine_eq]; (try simp only [len_app, l_eq, l_dot, l_sq1, l_sq2, l_sq3, l_sq4, l_inp, l_new, l_em, l_op, l_cl, l_sp, l_emp, l_col, l_rec, l_arr, l_def, l_2, l_var, l_2var, l_glo, l_nl, l_dd]); omega), _, rfl, (by rw [sizeLine_eq]; (try simp only [len_app, l_eq, l_dot, l_sq1, l_sq2, l_sq3, l_sq4, l_inp, l_new, l_em, l_op, l_cl, l_sp, l_emp, l_col, l_rec, l_arr, l_def, l_2, l_var, l_2var, l_glo, l_nl, l_dd]); omega), ?_⟩⟩⟩⟩
    refine ⟨_, rfl, D2, _, rfl, .inr (SqL.of hD2'), ?_⟩
    have e1 : ("  " : Str) = ind 1 := by
      show ("  " : Str) = Str.empty ++ ("  " : Str)
      rw [emp_app]
    refine ⟨_, rfl, q3, vs3, x.body, 1, ?_, Same.tup sm12 h3, BdL.keep (Keeps.of_same sm12) hb, o5, o6, by decide, fun D3 H3 sm3 hD30 hD3 => ?_⟩
    · rw [← e1]
      rfl
    refine ⟨D3, _, rfl, .inr (SqL.of hD3), ?_, fun z hz => ?_⟩
    · simp only [List.length_append, List.length_cons, List.length_map, List.length_nil]
      rw [sizeLine_eq]
      omega
    · refine q z _ (sm12.trans (sm3.trans (Same.new hz _))) (sm12.free (sm3.free hz)) ?_
      rw [upd_same]
      rw [emp_app]
      unfold fnLines fnHead
      rw [ej, show tailT x.result = ((": " : Str) ++ kdT kd) by rw [er]; rfl]
      simp only [List.map_append, List.map_cons, List.map_nil, List.append_assoc, List.cons_append, List.nil_append]
def spFnT (K : PySem.W.Frag) : Sp := fun vs H Q _ => ∃ (v : V) (x : Fu), vs = [v] ∧ FuAt K H x v ∧ x.ok ∧ ∀ H', Same H H' → Q (.str (joinT (fnLines x))) H'
def spPrT (K : PySem.W.Frag) : Sp := fun vs H Q _ => ∃ (v : V) (x : Pr), vs = [v] ∧ PrAt K H x v ∧ x.ok ∧ ∀ H', Same H H' → Q (.str (joinT (prLines x))) H'
end
/-! ### "  " * depth; a tuple against the empty one -/
def rRepS : R2 := fun x y H Q => ∃ d : Nat, x = .str "  " ∧ y = .int (d : Int) ∧ 1 ≤ d ∧ d ≤ 100 ∧ Q (.str (ind d)) H
theorem ind_rep : ∀ d : Nat, (⟨(List.replicate d ("  " : Str).cps).foldl (· ++ ·) #[]⟩ : Str) = ind d
  | 0 => rfl
  | d + 1 => by
    have ih := ind_rep d
    have e : List.replicate (d + 1) ("  " : Str).cps = List.replicate d ("  " : Str).cps ++ [("  " : Str).cps] := List.replicate_succ'
    rw [e, List.foldl_append]
    show (⟨(List.replicate d ("  " : Str).cps).foldl (· ++ ·) #[]⟩ : Str) ++ ("  " : Str) = ind d ++ ("  " : Str)
    rw [ih]
theorem op_repS {X : Cx} : OpR X (binaryOp .Mult) rRepS := by
  intro pins s σ H x y v u Q I rx ry h
  obtain ⟨d, rfl, rfl, h1, h2, q⟩ := h
  obtain ⟨t, rfl⟩ := rx
  obtain ⟨t2, rfl⟩ := ry
  have ln : ("  " : Str).length = 2 := by decide +kernel
  refine P.mul_str ?_ (fun _ _ => ?_) (fun _ _ => ?_) ?_
  · rw [decide_eq_false (by omega), decide_eq_false (by omega)]
    rfl
  · rw [ln]
    have : (2 : Int) ≤ (2 ^ 63 - 1) / (d : Int) := by
      refine Int.le_ediv_of_mul_le (by omega) ?_
      omega
    omega
  · rw [ln]
    unfold Builtin.Str.tooLong
    rw [decide_eq_false]
    rw [sizeLine_eq]
    omega
  · rw [if_neg (by omega)]
    by_cases e : d = 1
    · subst e
      have e2 : (((1 : Nat) : Int) == 1 || ("  " : Str).length == 0) = true := rfl
      rw [if_pos e2]
      refine ⟨.str (ind 1), H, I, ?_, q⟩
      refine ⟨t, ?_⟩
      rw [show ind 1 = ("  " : Str) from emp_app _]
    · have e2 : (((d : Nat) : Int) == 1 || ("  " : Str).length == 0) = false := by
        rw [ln]
        have : ¬ ((d : Int) = 1) := by omega
        simp [this]
      rw [if_neg (by rw [e2]; exact Bool.false_ne_true)]
      have e3 : ((d : Nat) : Int).toNat = d := Int.toNat_natCast d
      rw [e3, ind_rep]
      refine ⟨?_, ⟨.str (ind d), H, I.tok _, ⟨_, rfl⟩, q⟩⟩
      rw [ind_len, sizeLine_eq]
      omega
def rNeT0 (K : PySem.W.Frag) : R2 := fun x y H Q => ∃ (a b : Addr) (xs : List V), x = .ref a ∧ y = .ref b ∧ SqT K H a xs ∧ SqT K H b [] ∧ Q (.bl (!xs.isEmpty)) H
theorem op_neT0 {X : Cx} (hu : X.A.units < cLine) : OpR X (compareOp .NotEq) (rNeT0 X.K) := by
  intro pins s σ H x y v u Q I rx ry h
  obtain ⟨a, b, xs, rfl, rfl, ha, hb, q⟩ := h
  obtain rfl : v = Value.ref a := rx
  obtain rfl : u = Value.ref b := ry
  obtain ⟨its, r1, t1, _⟩ := I.tuple ha
  obtain ⟨its2, r2, t2, _⟩ := I.tuple hb
  cases r2
  refine SeqAt.RcNeAt.tuples (e := fun _ => true) t1 t2 hu (fun j h1 h2 => absurd h2 (by simp)) _ _ _ _ ?_
  refine ⟨.bl (!xs.isEmpty), H, I, ?_, q⟩
  have e : xs.isEmpty = its.isEmpty := by cases r1 <;> rfl
  rw [e]
  cases its <;> rfl
/-! ### lengths of lines -/
mutual
theorem Sm.line_len : ∀ {m d : Nat} {s : Sm}, s.ok m → d + m ≤ 20 → ∀ l ∈ s.lines d, l.length ≤ 2000
  | m, d, .iff e b .nil, o, hd, l, hl => by
    have lt := lineT_len o
    obtain ⟨k, rfl, ob, oc⟩ := Sm.ok_inner_iff o
    have hi := ind_len d
    have le : ("end" : Str).length = 3 := by decide +kernel
    rw [iff_nil] at hl
    rcases List.mem_append.mp hl with hl | hl
    · rcases List.mem_append.mp hl with hl | hl
      · obtain rfl := List.mem_singleton.mp hl
        rw [len_app]; omega
      · exact Bd.line_len ob (by omega) l hl
    · obtain rfl := List.mem_singleton.mp hl
      rw [len_app]; omega
  | m, d, .iff e b (.cons s c), o, hd, l, hl => by
    have lt := lineT_len o
    obtain ⟨k, rfl, ob, oc⟩ := Sm.ok_inner_iff o
    have hi := ind_len d
    have le : ("end" : Str).length = 3 := by decide +kernel
    have lel : ("else" : Str).length = 4 := by decide +kernel
    simp only [Sm.lines] at hl
    rcases List.mem_append.mp hl with hl | hl
    · rcases List.mem_append.mp hl with hl | hl
      · rcases List.mem_append.mp hl with hl | hl
        · obtain rfl := List.mem_singleton.mp hl
          rw [len_app]; omega
        · exact Bd.line_len ob (by omega) l hl
      · rcases List.mem_append.mp hl with hl | hl
        · obtain rfl := List.mem_singleton.mp hl
          rw [len_app]; omega
        · rcases List.mem_append.mp hl with hl | hl
          · exact Sm.line_len oc.1 (by omega) l hl
          · exact Bd.line_len oc.2 (by omega) l hl
    · obtain rfl := List.mem_singleton.mp hl
      rw [len_app]; omega
  | m, d, .loop e b, o, hd, l, hl => by
    have lt := lineT_len o
    obtain ⟨k, rfl, ob⟩ := Sm.ok_inner_loop o
    have hi := ind_len d
    have le : ("end" : Str).length = 3 := by decide +kernel
    rw [loop_ln] at hl
    rcases List.mem_append.mp hl with hl | hl
    · rcases List.mem_append.mp hl with hl | hl
      · obtain rfl := List.mem_singleton.mp hl
        rw [len_app]; omega
      · exact Bd.line_len ob (by omega) l hl
    · obtain rfl := List.mem_singleton.mp hl
      rw [len_app]; omega
  | m, d, .set x e, o, hd, l, hl => by
    have lt := lineT_len o; have hi := ind_len d
    simp only [Sm.lines, List.mem_singleton] at hl; rw [hl, len_app]; omega
  | m, d, .input x, o, hd, l, hl => by
    have lt := lineT_len o; have hi := ind_len d
    simp only [Sm.lines, List.mem_singleton] at hl; rw [hl, len_app]; omega
  | m, d, .new x, o, hd, l, hl => by
    have lt := lineT_len o; have hi := ind_len d
    simp only [Sm.lines, List.mem_singleton] at hl; rw [hl, len_app]; omega
  | m, d, .free x, o, hd, l, hl => by
    have lt := lineT_len o; have hi := ind_len d
    simp only [Sm.lines, List.mem_singleton] at hl; rw [hl, len_app]; omega
  | m, d, .load x y f, o, hd, l, hl => by
    have lt := lineT_len o; have hi := ind_len d
    simp only [Sm.lines, List.mem_singleton] at hl; rw [hl, len_app]; omega
  | m, d, .store y f e, o, hd, l, hl => by
    have lt := lineT_len o; have hi := ind_len d
    simp only [Sm.lines, List.mem_singleton] at hl; rw [hl, len_app]; omega
  | m, d, .get x y e, o, hd, l, hl => by
    have lt := lineT_len o; have hi := ind_len d
    simp only [Sm.lines, List.mem_singleton] at hl; rw [hl, len_app]; omega
  | m, d, .put y e1 e2, o, hd, l, hl => by
    have lt := lineT_len o; have hi := ind_len d
    simp only [Sm.lines, List.mem_singleton] at hl; rw [hl, len_app]; omega
  | m, d, .call x g es, o, hd, l, hl => by
    have lt := lineT_len o; have hi := ind_len d
    simp only [Sm.lines, List.mem_singleton] at hl; rw [hl, len_app]; omega
  | m, d, .ret e, o, hd, l, hl => by
    have lt := lineT_len o; have hi := ind_len d
    simp only [Sm.lines, List.mem_singleton] at hl; rw [hl, len_app]; omega
  | m, d, .brk, o, hd, l, hl => by
    have lt := lineT_len o; have hi := ind_len d
    simp only [Sm.lines, List.mem_singleton] at hl; rw [hl, len_app]; omega
  | m, d, .asrt e, o, hd, l, hl => by
    have lt := lineT_len o; have hi := ind_len d
    simp only [Sm.lines, List.mem_singleton] at hl; rw [hl, len_app]; omega
theorem Bd.line_len : ∀ {m d : Nat} {b : Bd}, b.ok m → d + m ≤ 20 → ∀ l ∈ b.lines d, l.length ≤ 2000
  | _, _, .nil, _, _, _, hl => nomatch hl
  | m, d, .cons s b, o, hd, l, hl => by
    have hl' : l ∈ s.lines d ++ b.lines d := hl
    rcases List.mem_append.mp hl' with hl | hl
    · exact Sm.line_len o.1 hd l hl
    · exact Bd.line_len o.2 hd l hl
end
theorem recLines_ok {r : Rc} (o : r.ok) : (recLines r).length ≤ 6 ∧ ∀ l ∈ recLines r, l.length ≤ 2000 := by
  obtain ⟨o1, o2, o3⟩ := o
  refine ⟨?_, fun l hl => ?_⟩
  · unfold recLines
    simp only [List.length_append, List.length_cons, List.length_nil, List.length_map]
    omega
  · unfold recLines at hl
    have le : ("end" : Str).length = 3 := by decide +kernel
    rcases List.mem_append.mp hl with hl | hl
    · rcases List.mem_append.mp hl with hl | hl
      · obtain rfl := List.mem_singleton.mp hl
        rw [len_app, l_rec]; omega
      · obtain ⟨f, hf, rfl⟩ := List.mem_map.mp hl
        have := declT_len (o3 f hf)
        rw [len_app, l_2]; omega
    · obtain rfl := List.mem_singleton.mp hl
      omega
theorem arrT_len {a : Ar} (o : a.ok) : (arrT a).length ≤ 2000 := by
  obtain ⟨o1, o2, o3, o4⟩ := o
  have f1 := numS_len o2
  have f2 := numS_len o3
  have f3 := numS_len o4
  unfold arrT
  simp only [len_app, l_arr, l_sq1, l_sq4, l_dd]
  omega
theorem fnLines_ok {f : Fu} (o : f.ok) : (fnLines f).length ≤ 406 ∧ ∀ l ∈ fnLines f, l.length ≤ 2000 := by
  obtain ⟨o1, o2, o3, o4, o5, o6⟩ := o
  have ll := Bd.lines_len 1 f.body
  refine ⟨?_, fun l hl => ?_⟩
  · unfold fnLines
    have := o4.1
    simp only [List.length_append, List.length_cons, List.length_nil, List.length_map]
    omega
  · unfold fnLines at hl
    have le : ("end" : Str).length = 3 := by decide +kernel
    rcases List.mem_append.mp hl with hl | hl
    · rcases List.mem_append.mp hl with hl | hl
      · rcases List.mem_append.mp hl with hl | hl
        · obtain rfl := List.mem_singleton.mp hl
          have jl : (Txt.join ", " (f.params.map declT)).length ≤ 300 := join4 (by rw [List.length_map]; exact o2.1) (fun y hy => by
            obtain ⟨e, he, rfl⟩ := List.mem_map.mp hy
            exact declT_len (o2.2 e he))
          have tl : (tailT f.result).length ≤ 26 := by
            cases e : f.result with
            | none => decide +kernel
            | some y =>
              have := kdT_len (o3 y e)
              show ((": " : Str) ++ kdT y).length ≤ 26
              rw [len_app, l_col]
              omega
          unfold fnHead
          simp only [len_app, l_def, l_op, l_cl]
          omega
        · obtain ⟨x, hx, rfl⟩ := List.mem_map.mp hl
          have := declT_len (o4.2 x hx)
          rw [len_app, l_2var]; omega
      · exact Bd.line_len o5 (by decide) l hl
    · obtain rfl := List.mem_singleton.mp hl
      omega
theorem flat_len {α : Type} {f : α → List Str} {B : Nat} {l : List α} (h : ∀ a ∈ l, (f a).length ≤ B) : (l.map f).flatten.length ≤ B * l.length := by
  induction l with
  | nil => exact Nat.zero_le _
  | cons x r ih =>
    have h1 := h x List.mem_cons_self
    have h2 := ih fun e he => h e (List.mem_cons_of_mem _ he)
    simp only [List.map_cons, List.flatten_cons, List.length_append, List.length_cons] at h2 ⊢
    rw [Nat.mul_succ]
    omega
theorem prLines_ok {x : Pr} (o : x.ok) : (prLines x).length ≤ 4000 ∧ ∀ l ∈ prLines x, l.length ≤ 2000 := by
  obtain ⟨o1, o2, o3, o4⟩ := o
  have a1 := flat_len (f := recLines) (B := 6) (l := x.recs) fun r hr => (recLines_ok (o1.2 r hr)).1
  have a4 := flat_len (f := fnLines) (B := 406) (l := x.funs) fun r hr => (fnLines_ok (o4.2 r hr)).1
  have b1 := o1.1
  have b2 := o2.1
  have b3 := o3.1
  have b4 := o4.1
  refine ⟨?_, fun l hl => ?_⟩
  · unfold prLines
    simp only [List.length_append, List.length_map]
    omega
  · unfold prLines at hl
    rcases List.mem_append.mp hl with hl | hl
    · rcases List.mem_append.mp hl with hl | hl
      · rcases List.mem_append.mp hl with hl | hl
        · obtain ⟨ls, hls, hl⟩ := List.mem_flatten.mp hl
          obtain ⟨r, hr, rfl⟩ := List.mem_map.mp hls
          exact (recLines_ok (o1.2 r hr)).2 l hl
        · obtain ⟨r, hr, rfl⟩ := List.mem_map.mp hl
          exact arrT_len (o2.2 r hr)
      · obtain ⟨r, hr, rfl⟩ := List.mem_map.mp hl
        have := declT_len (o3.2 r hr)
        rw [len_app, l_glo]
        omega
    · obtain ⟨ls, hls, hl⟩ := List.mem_flatten.mp hl
      obtain ⟨r, hr, rfl⟩ := List.mem_map.mp hls
      exact (fnLines_ok (o4.2 r hr)).2 l hl
section
variable {P : Program} {w : World} {K : PySem.W.Frag} {mg : Str → Option Value} {base : Heap}
theorem ok_function_text (T : Txt w K mg) : FnOk P w K mg base CX0 23 T.a_function_text T.d_function_text p_function_text (spFnT K) := by
  have g_function_lines := ok_function_lines (P := P) (w := w) (K := K) (base := base) T
  have g_joined := joinT_ok (P := P) (w := w) (K := K) (base := base) T
  refine T.F_function_text.ok sc_function_text (fun vs H Q E h => ?_) (fun cdv A outer s H vs Q E hr h => ?_)
  · obtain ⟨v, x, rfl, _⟩ := h
    rfl
  obtain ⟨v, x, rfl, hx, ho, q⟩ := h
  refine ⟨_, (pss_one (ps_ret (pe_call g_joined (hr.mono (by first | decide | omega)) rfl T.m_joined T.F_joined.kp T.b_joined .nil pass0 (pa_cons (pe_call g_function_lines (hr.mono (by first | decide | omega)) rfl T.m_function_lines T.F_function_lines.kp T.b_function_lines .nil pass0 (pa_cons (pv 0) pa_nil)) pa_nil)))), ?_⟩
  have fo := fnLines_ok ho
  exact ⟨_, rfl, v, x, rfl, hx, ho, fun D H1 s1 _ hD => ⟨D, _, rfl, SqL.of hD, by omega, fo.2, fun H2 s2 => q H2 (s1.trans s2)⟩⟩
theorem take_flat {α : Type} {f : α → List Str} {al : List α} {i : Nat} {a : α} (h : al[i]? = some a) : ((al.take (i + 1)).map f).flatten = ((al.take i).map f).flatten ++ f a := by
  rw [List.take_add_one, h, List.map_append, List.flatten_append]
  simp
theorem take_map {α : Type} {f : α → Str} {al : List α} {i : Nat} {a : α} (h : al[i]? = some a) : (al.take (i + 1)).map f = (al.take i).map f ++ [f a] := by
  rw [List.take_add_one, h, List.map_append]
  rfl
theorem flat_part {α : Type} {f : α → List Str} {l : List α} {i : Nat} : ((l.take i).map f).flatten.length ≤ (l.map f).flatten.length := by
  have e : (l.map f).flatten = ((l.take i).map f).flatten ++ ((l.drop i).map f).flatten := by
    rw [← List.flatten_append, ← List.map_append, List.take_append_drop]
  rw [e, List.length_append]
  omega
theorem ok_program_text (T : Txt w K mg) : FnOk P w K mg base CX0 23 T.a_program_text T.d_program_text p_program_text (spPrT K) := by
  have g_record_lines := ok_record_lines (P := P) (w := w) (K := K) (base := base) T
  have g_array_line := ok_array_line (P := P) (w := w) (K := K) (base := base) T
  have g_declaration_text := ok_declaration_text (P := P) (w := w) (K := K) (base := base) T
  have g_function_lines := ok_function_lines (P := P) (w := w) (K := K) (base := base) T
  have g_joined := joinT_ok (P := P) (w := w) (K := K) (base := base) T
  refine T.F_program_text.ok sc_program_text (fun vs H Q E h => ?_) (fun cdv A outer s H vs Q E hr h => ?_)
  · obtain ⟨v, x, rfl, _⟩ := h
    rfl
  obtain ⟨v, x, rfl, ⟨p, q1, vs1, q2, vs2, q3, vs3, q4, vs4, rfl, hp, h1, a1, h2, a2, h3, a3, h4, a4⟩, ho, q⟩ := h
  refine ⟨_, (pss_cons (ps_set (i := 1) sc_program_text.nd rfl (Or.inl rfl) (pe_lst pa_nil))
      (pss_cons (ps_for PassesOwn.never rfl (pi_tup (pe_ix ix_tup (pv 0) pe_int (fun _ _ => rfl))) (pg_name (i := 2) sc_program_text.nd rfl (Or.inl rfl))
        (pss_one (ps_expr (pe_bm PySem.F.plainAttrs_list PySem.F.slot_list_extend PySem.F.type_list_extend mt_extend (pv 1) (pa_cons (pe_call g_record_lines (hr.mono (by first | decide | omega)) rfl T.m_record_lines T.F_record_lines.kp T.b_record_lines .nil pass0 (pa_cons (pv 2) pa_nil)) pa_nil)))))
      (pss_cons (ps_for PassesOwn.never rfl (pi_tup (pe_ix ix_tup (pv 0) pe_int (fun _ _ => rfl))) (pg_name (i := 3) sc_program_text.nd rfl (Or.inl rfl))
        (pss_one (ps_expr (pe_bm PySem.F.plainAttrs_list PySem.F.slot_list_append PySem.F.type_list_append mt_append (pv 1) (pa_cons (pe_call g_array_line (hr.mono (by first | decide | omega)) rfl T.m_array_line T.F_array_line.kp T.b_array_line .nil pass0 (pa_cons (pv 3) pa_nil)) pa_nil)))))
      (pss_cons (ps_for PassesOwn.never rfl (pi_tup (pe_ix ix_tup (pv 0) pe_int (fun _ _ => rfl))) (pg_name (i := 4) sc_program_text.nd rfl (Or.inl rfl))
        (pss_one (ps_expr (pe_bm PySem.F.plainAttrs_list PySem.F.slot_list_append PySem.F.type_list_append mt_append (pv 1) (pa_cons (pe_joinedN (PJ.cons pe_str (PJ.cons (pe_fmt (pe_call g_declaration_text (hr.mono (by first | decide | omega)) rfl T.m_declaration_text T.F_declaration_text.kp T.b_declaration_text .nil pass0 (pa_cons (pv 4) pa_nil))) PJ.nil))) pa_nil)))))
      (pss_cons (ps_for PassesOwn.never rfl (pi_tup (pe_ix ix_tup (pv 0) pe_int (fun _ _ => rfl))) (pg_name (i := 5) sc_program_text.nd rfl (Or.inl rfl))
        (pss_one (ps_expr (pe_bm PySem.F.plainAttrs_list PySem.F.slot_list_extend PySem.F.type_list_extend mt_extend (pv 1) (pa_cons (pe_call g_function_lines (hr.mono (by first | decide | omega)) rfl T.m_function_lines T.F_function_lines.kp T.b_function_lines .nil pass0 (pa_cons (pv 5) pa_nil)) pa_nil)))))
      (pss_one (ps_ret (pe_call g_joined (hr.mono (by first | decide | omega)) rfl T.m_joined T.F_joined.kp T.b_joined .nil pass0 (pa_cons (pv 1) pa_nil))))))))), ?_⟩
  have pl := prLines_ok ho
  obtain ⟨o1, o2, o3, o4⟩ := ho
  have n1 := a1.len
  have n2 := a2.len
  have n3 := a3.len
  have n4 := a4.len
  have ll : (x.recs.map recLines).flatten.length + x.arrs.length + x.globs.length + (x.funs.map fnLines).flatten.length ≤ 4000 := by
    have := pl.1
    unfold prLines at this
    simp only [List.length_append, List.length_map] at this
    omega
  refine ⟨by show 0 ≤ sizeLine; decide, fun l hl0 => ?_⟩
  have hp1 := Same.tup (Same.new hl0 (.lst [])) hp
  refine ⟨_, rfl, p, _, 0, _, rfl, rfl, hp1, rfl, q1, rfl, ⟨_, Same.tup (Same.new hl0 _) h1⟩, for_tup (K := K) (a := q1) (xs := vs1) (fun i σ H' => Same H H' ∧ H' l = some (.lst ((((x.recs.take i).map recLines).flatten).map V.str)) ∧ ∃ v0 v1 v2 v3 : Option V, σ = [some (.ref p), some (.ref l), v0, v1, v2, v3])
    ⟨Same.new hl0 _, by rw [upd_same]; rfl, none, none, none, none, rfl⟩ (fun i σ H' _ ⟨h, _⟩ => Same.tup h h1) ?_ ?_⟩
  · rintro i y σ H' hi ⟨sm, hlk, v0, v1, v2, v3, rfl⟩
    have hil : i < x.recs.length := n1 ▸ (List.getElem?_eq_some_iff.mp hi).1
    have he := List.getElem?_eq_getElem hil
    have hy := RcAt.keep (Keeps.of_same sm) (a1.get he hi)
    have oe := o1.2 _ (List.mem_of_getElem? he)
    have lo := (recLines_ok oe).1
    have fp := flat_part (f := recLines) (l := x.recs) (i := i)
    refine ⟨_, rfl, .inl ⟨rfl, _, SqL.of hlk⟩, _, rfl, y, _, rfl, hy, oe, fun D H1 s1 hD0 hD => ⟨l, D, _, _, rfl, rfl, s1 _ _ hlk, hD, ?_, Same.grow hl0 (sm.trans s1), ?_, _, _, _, _, rfl⟩⟩
    · simp only [List.length_map, List.length_append]
      rw [sizeLine_eq]
      omega
    · rw [upd_same, take_flat he]
      simp
  rintro σ H' ⟨sm, hlk, v0, v1, v2, v3, rfl⟩
  rw [n1, List.take_length] at hlk
  have hpk := Same.tup sm hp
  refine ⟨_, rfl, p, _, 1, _, rfl, rfl, hpk, rfl, q2, rfl, ⟨_, Same.tup sm h2⟩, for_tup (K := K) (a := q2) (xs := vs2) (fun i σ H' => Same H H' ∧ H' l = some (.lst (((x.recs.map recLines).flatten ++ (x.arrs.take i).map arrT).map V.str)) ∧ ∃ v0 v1 v2 v3 : Option V, σ = [some (.ref p), some (.ref l), v0, v1, v2, v3])
    ⟨sm, by rw [hlk]; simp, v0, v1, v2, v3, rfl⟩ (fun i σ H' _ ⟨h, _⟩ => Same.tup h h2) ?_ ?_⟩
  · rintro i y σ H' hi ⟨sm, hlk, v0, v1, v2, v3, rfl⟩
    have hil : i < x.arrs.length := n2 ▸ (List.getElem?_eq_some_iff.mp hi).1
    have he := List.getElem?_eq_getElem hil
    have hy := ArAt.keep (Keeps.of_same sm) (a2.get he hi)
    have oe := o2.2 _ (List.mem_of_getElem? he)
    have tl : (x.arrs.take i).length ≤ x.arrs.length := List.length_take_le' _ _
    refine ⟨_, rfl, .inl ⟨rfl, _, SqL.of hlk⟩, _, rfl, y, _, rfl, hy, oe, l, _, _, rfl, rfl, hlk, ?_, Same.grow hl0 sm, ?_, _, _, _, _, rfl⟩
    · simp only [List.length_map, List.length_append]
      rw [sizeLine_eq]
      omega
    · rw [upd_same, take_map he]
      simp
  rintro σ H' ⟨sm, hlk, v0, v1, v2, v3, rfl⟩
  rw [n2, List.take_length] at hlk
  have hpk := Same.tup sm hp
  refine ⟨_, rfl, p, _, 2, _, rfl, rfl, hpk, rfl, q3, rfl, ⟨_, Same.tup sm h3⟩, for_tup (K := K) (a := q3) (xs := vs3) (fun i σ H' => Same H H' ∧ H' l = some (.lst (((x.recs.map recLines).flatten ++ x.arrs.map arrT ++ (x.globs.take i).map (fun g : Dc => ("global " : Str) ++ declT g)).map V.str)) ∧ ∃ v0 v1 v2 v3 : Option V, σ = [some (.ref p), some (.ref l), v0, v1, v2, v3])
    ⟨sm, by rw [hlk]; simp, v0, v1, v2, v3, rfl⟩ (fun i σ H' _ ⟨h, _⟩ => Same.tup h h3) ?_ ?_⟩
  · rintro i y σ H' hi ⟨sm, hlk, v0, v1, v2, v3, rfl⟩
    have hil : i < x.globs.length := n3 ▸ (List.getElem?_eq_some_iff.mp hi).1
    have he := List.getElem?_eq_getElem hil
    have hy := DcAt.keep (Keeps.of_same sm) (a3.get he hi)
    have oe := o3.2 _ (List.mem_of_getElem? he)
    have tl : (x.globs.take i).length ≤ x.globs.length := List.length_take_le' _ _
    have dl := declT_len oe
    refine ⟨_, rfl, .inl ⟨rfl, _, SqL.of hlk⟩, _, rfl, (by rw [sizeLine_eq]; (try simp only [len_app, l_eq, l_dot, l_sq1, l_sq2, l_sq3, l_sq4, l_inp, l_new, l_em, l_op, l_cl, l_sp, l_emp, l_col, l_rec, l_arr, l_def, l_2, l_var, l_2var, l_glo, l_nl, l_dd]); omega), _, rfl, y, _, rfl, hy, oe, .inl ⟨_, rfl, (by rw [sizeLine_eq]; (try simp only [len_app, l_eq, l_dot, l_sq1, l_sq2, l_sq3, l_sq4, l_inp, l_new, l_em, l_op, l_cl, l_sp, l_emp, l_col, l_rec, l_arr, l_def, l_2, l_var, l_2var, l_glo, l_nl, l_dd]); omega), _, rfl, (by rw [sizeLine_eq]; (try simp only [len_app, l_eq, l_dot, l_sq1, l_sq2, l_sq3, l_sq4, l_inp, l_new, l_em, l_op, l_cl, l_sp, l_emp, l_col, l_rec, l_arr, l_def, l_2, l_var, l_2var, l_glo, l_nl, l_dd]); omega), l, _, _, rfl, rfl, hlk, ?_, Same.grow hl0 sm, ?_, _, _, _, _, rfl⟩⟩
    · simp only [List.length_map, List.length_append]
      rw [sizeLine_eq]
      omega
    · rw [upd_same, take_map he, emp_app]
      simp
  rintro σ H' ⟨sm, hlk, v0, v1, v2, v3, rfl⟩
  rw [n3, List.take_length] at hlk
  have hpk := Same.tup sm hp
  refine ⟨_, rfl, p, _, 3, _, rfl, rfl, hpk, rfl, q4, rfl, ⟨_, Same.tup sm h4⟩, for_tup (K := K) (a := q4) (xs := vs4) (fun i σ H' => Same H H' ∧ H' l = some (.lst (((x.recs.map recLines).flatten ++ x.arrs.map arrT ++ x.globs.map (fun g : Dc => ("global " : Str) ++ declT g) ++ ((x.funs.take i).map fnLines).flatten).map V.str)) ∧ ∃ v0 v1 v2 v3 : Option V, σ = [some (.ref p), some (.ref l), v0, v1, v2, v3])
    ⟨sm, by rw [hlk]; simp, v0, v1, v2, v3, rfl⟩ (fun i σ H' _ ⟨h, _⟩ => Same.tup h h4) ?_ ?_⟩
  · rintro i y σ H' hi ⟨sm, hlk, v0, v1, v2, v3, rfl⟩
    have hil : i < x.funs.length := n4 ▸ (List.getElem?_eq_some_iff.mp hi).1
    have he := List.getElem?_eq_getElem hil
    have hy := FuAt.keep (Keeps.of_same sm) (a4.get he hi)
    have oe := o4.2 _ (List.mem_of_getElem? he)
    have lo := (fnLines_ok oe).1
    have fp := flat_part (f := fnLines) (l := x.funs) (i := i)
    refine ⟨_, rfl, .inl ⟨rfl, _, SqL.of hlk⟩, _, rfl, y, _, rfl, hy, oe, fun D H1 s1 hD0 hD => ⟨l, D, _, _, rfl, rfl, s1 _ _ hlk, hD, ?_, Same.grow hl0 (sm.trans s1), ?_, _, _, _, _, rfl⟩⟩
    · simp only [List.length_map, List.length_append]
      rw [sizeLine_eq]
      omega
    · rw [upd_same, take_flat he]
      simp
  rintro σ H' ⟨sm, hlk, v0, v1, v2, v3, rfl⟩
  rw [n4, List.take_length] at hlk
  have hpk := Same.tup sm hp
  exact ⟨_, rfl, l, prLines x, rfl, SqL.of hlk, by have := pl.1; omega, pl.2, fun H2 s2 => q H2 (sm.trans s2)⟩
end
/-! ### the law's lines -/
def spLine (K : PySem.W.Frag) : Sp := fun vs H Q _ => ∃ (v : V) (s : Sm) (d : Nat), vs = [v] ∧ SmAt K H s v ∧ s.ok d ∧ ∀ H', Same H H' → Q (.str (lineT s)) H'
theorem l_free : ("free " : Str).length = 5 := by decide +kernel
theorem l_ret : ("return" : Str).length = 6 := by decide +kernel
theorem l_if : ("if" : Str).length = 2 := by decide +kernel
theorem l_wh : ("while" : Str).length = 5 := by decide +kernel
theorem l_as : ("assert" : Str).length = 6 := by decide +kernel
section
variable {P : Program} {w : World} {K : PySem.W.Frag} {mg : Str → Option Value} {base : Heap}
theorem ok_l_line (T : Txt w K mg) : FnOk P w K mg base CX0 9 T.a_l_line T.d_l_line p_l_line (spLine K) := by
  have g_l_text := ok_l_text (P := P) (w := w) (K := K) (base := base) T 4 (by decide)
  refine T.F_l_line.ok sc_l_line (fun vs H Q E h => ?_) (fun cdv A outer s H vs Q E hr h => ?_)
  · obtain ⟨v, s1, d, rfl, _⟩ := h
    rfl
  obtain ⟨v, s1, d, rfl, hs, ho, q⟩ := h
  refine ⟨_, (pss_cons (ps_set (i := 1) sc_l_line.nd rfl (Or.inl rfl) (pe_ix ix_tup (pv 0) pe_int (fun _ _ => rfl)))
      (pss_cons (ps_if (pt_cmpR op_eq (pv 1) pe_str (nomark _)) (pss_one (ps_ret (pe_op op_add_str (pe_op op_add_str (pe_ix ix_tup (pv 0) pe_int (fun _ _ => rfl)) pe_str) (pe_call g_l_text (hr.mono (by first | decide | omega)) rfl T.m_l_text T.F_l_text.kp T.b_l_text .nil pass0 (pa_cons (pe_ix ix_tup (pv 0) pe_int (fun _ _ => rfl)) pa_nil))))) pss_nil)
      (pss_cons (ps_if (PW.pt (pw_or (pt_cmpR op_eq (pv 1) pe_str (nomark _)) (pw_or1 (pt_cmpR op_eq (pv 1) pe_str (nomark _))))) (pss_one (ps_ret (pe_op op_add_str (pe_op op_add_str (pe_ix ix_tup (pv 0) pe_int (fun _ _ => rfl)) pe_str) (pv 1)))) pss_nil)
      (pss_cons (ps_if (pt_cmpR op_eq (pv 1) pe_str (nomark _)) (pss_one (ps_ret (pe_op op_add_str (pe_op op_add_str (pe_op op_add_str (pe_op op_add_str (pe_ix ix_tup (pv 0) pe_int (fun _ _ => rfl)) pe_str) (pe_ix ix_tup (pv 0) pe_int (fun _ _ => rfl))) pe_str) (pe_ix ix_tup (pv 0) pe_int (fun _ _ => rfl))))) pss_nil)
      (pss_cons (ps_if (pt_cmpR op_eq (pv 1) pe_str (nomark _)) (pss_one (ps_ret (pe_op op_add_str (pe_op op_add_str (pe_op op_add_str (pe_op op_add_str (pe_ix ix_tup (pv 0) pe_int (fun _ _ => rfl)) pe_str) (pe_ix ix_tup (pv 0) pe_int (fun _ _ => rfl))) pe_str) (pe_call g_l_text (hr.mono (by first | decide | omega)) rfl T.m_l_text T.F_l_text.kp T.b_l_text .nil pass0 (pa_cons (pe_ix ix_tup (pv 0) pe_int (fun _ _ => rfl)) pa_nil))))) pss_nil)
      (pss_cons (ps_if (pt_cmpR op_eq (pv 1) pe_str (nomark _)) (pss_one (ps_ret (pe_op op_add_str (pe_op op_add_str (pe_op op_add_str (pe_op op_add_str (pe_op op_add_str (pe_ix ix_tup (pv 0) pe_int (fun _ _ => rfl)) pe_str) (pe_ix ix_tup (pv 0) pe_int (fun _ _ => rfl))) pe_str) (pe_call g_l_text (hr.mono (by first | decide | omega)) rfl T.m_l_text T.F_l_text.kp T.b_l_text .nil pass0 (pa_cons (pe_ix ix_tup (pv 0) pe_int (fun _ _ => rfl)) pa_nil))) pe_str))) pss_nil)
      (pss_cons (ps_if (pt_cmpR op_eq (pv 1) pe_str (nomark _)) (pss_one (ps_ret (pe_op op_add_str (pe_op op_add_str (pe_op op_add_str (pe_op op_add_str (pe_ix ix_tup (pv 0) pe_int (fun _ _ => rfl)) pe_str) (pe_call g_l_text (hr.mono (by first | decide | omega)) rfl T.m_l_text T.F_l_text.kp T.b_l_text .nil pass0 (pa_cons (pe_ix ix_tup (pv 0) pe_int (fun _ _ => rfl)) pa_nil))) pe_str) (pe_call g_l_text (hr.mono (by first | decide | omega)) rfl T.m_l_text T.F_l_text.kp T.b_l_text .nil pass0 (pa_cons (pe_ix ix_tup (pv 0) pe_int (fun _ _ => rfl)) pa_nil))))) pss_nil)
      (pss_cons (ps_if (pt_cmpR op_eq (pv 1) pe_str (nomark _)) (pss_cons (ps_set (i := 2) sc_l_line.nd rfl (Or.inl rfl) (pe_op op_add_str (pe_op op_add_str (pe_op op_add_str (pe_ix ix_tup (pv 0) pe_int (fun _ _ => rfl)) pe_str) (pe_join pe_str (pe_lc (own := [("_law_one_here", 3)]) (g := gName 3) (tt := tYes) rfl sc_l_line.nd (pi_tup (pe_ix ix_tup (pv 0) pe_int (fun _ _ => rfl))) (blkOk_by (own := [("_law_one_here", 3)]) (N := n_l_line) (sc := defScope s_l_line) (by decide +kernel)) (fun _ _ _ _ _ => (pg_name (i := 3) sc_l_line.nd rfl (Or.inl rfl))) (fun _ _ _ _ _ => pts_nil) (fun _ _ _ _ _ => (pe_call g_l_text (hr.mono (by first | decide | omega)) rfl T.m_l_text T.F_l_text.kp T.b_l_text .nil pass0 (pa_cons (pv 3) pa_nil)))))) pe_str))
      (pss_cons (ps_if (pt_cmpR op_isN (pe_ix ix_tup (pv 0) pe_int (fun _ _ => rfl)) pe_non (nomark _)) (pss_one (ps_ret (pv 2))) pss_nil)
      (pss_one (ps_ret (pe_op op_add_str (pe_op op_add_str (pe_ix ix_tup (pv 0) pe_int (fun _ _ => rfl)) pe_str) (pv 2)))))) pss_nil)
      (pss_cons (ps_if (pt_cmpR op_eq (pv 1) pe_str (nomark _)) (pss_one (ps_ret (pv 1))) pss_nil)
      (pss_cons (ps_if (pt_cmpR op_eq (pv 1) pe_str (nomark _)) (pss_one (ps_ret (pe_op op_add_str pe_str (pe_ix ix_tup (pv 0) pe_int (fun _ _ => rfl))))) pss_nil)
      (pss_cons (ps_if (pt_cmpR op_isN (pe_ix ix_tup (pv 0) pe_int (fun _ _ => rfl)) pe_non (nomark _)) (pss_one (ps_ret (pv 1))) pss_nil)
      (pss_one (ps_ret (pe_op op_add_str (pe_op op_add_str (pv 1) pe_str) (pe_call g_l_text (hr.mono (by first | decide | omega)) rfl T.m_l_text T.F_l_text.kp T.b_l_text .nil pass0 (pa_cons (pe_ix ix_tup (pv 0) pe_int (fun _ _ => rfl)) pa_nil)))))))))))))))), ?_⟩
  cases s1 with
  | set x e =>
    obtain ⟨p, a, rfl, hp, hx⟩ := hs
    have o : x.length ≤ 20 ∧ e.ok 4 := by cases d <;> exact ho
    have t4 := txt4 o.2
    exact ⟨_, rfl, p, _, 0, _, rfl, rfl, hp, rfl, _, rfl, rfl, _, rfl, ifT (by decide +kernel) ⟨_, rfl, p, _, 1, _, rfl, rfl, hp, rfl, _, _, rfl, rfl, (by rw [sizeLine_eq]; (try simp only [len_app, l_eq, l_dot, l_sq1, l_sq2, l_sq3, l_inp, l_new, l_em, l_op, l_cl, l_sp, l_emp, l_free, l_ret, l_if, l_wh, l_as]); omega), _, rfl, p, _, 2, _, rfl, rfl, hp, rfl, a, e, rfl, hx, o.2, fun H1 s1 => ⟨_, _, rfl, rfl, (by rw [sizeLine_eq]; (try simp only [len_app, l_eq, l_dot, l_sq1, l_sq2, l_sq3, l_inp, l_new, l_em, l_op, l_cl, l_sp, l_emp, l_free, l_ret, l_if, l_wh, l_as]); omega), q _ s1⟩⟩⟩
  | input x =>
    obtain ⟨p, rfl, hp⟩ := hs
    have o : x.length ≤ 20 := by cases d <;> exact ho
    exact ⟨_, rfl, p, _, 0, _, rfl, rfl, hp, rfl, _, rfl, rfl, _, rfl, ifF (by decide +kernel) ⟨_, rfl, rfl, _, rfl, ifT (by decide +kernel) (iteT ⟨_, rfl, p, _, 1, _, rfl, rfl, hp, rfl, _, _, rfl, rfl, (by rw [sizeLine_eq]; (try simp only [len_app, l_eq, l_dot, l_sq1, l_sq2, l_sq3, l_inp, l_new, l_em, l_op, l_cl, l_sp, l_emp, l_free, l_ret, l_if, l_wh, l_as]); omega), _, rfl, _, _, rfl, rfl, (by rw [sizeLine_eq]; (try simp only [len_app, l_eq, l_dot, l_sq1, l_sq2, l_sq3, l_inp, l_new, l_em, l_op, l_cl, l_sp, l_emp, l_free, l_ret, l_if, l_wh, l_as]); omega), q _ (Same.refl H)⟩)⟩⟩
  | new x =>
    obtain ⟨p, rfl, hp⟩ := hs
    have o : x.length ≤ 20 := by cases d <;> exact ho
    exact ⟨_, rfl, p, _, 0, _, rfl, rfl, hp, rfl, _, rfl, rfl, _, rfl, ifF (by decide +kernel) ⟨_, rfl, rfl, _, rfl, ifF (by decide +kernel) ⟨_, rfl, rfl, _, rfl, ifT (by decide +kernel) ⟨_, rfl, p, _, 1, _, rfl, rfl, hp, rfl, _, _, rfl, rfl, (by rw [sizeLine_eq]; (try simp only [len_app, l_eq, l_dot, l_sq1, l_sq2, l_sq3, l_inp, l_new, l_em, l_op, l_cl, l_sp, l_emp, l_free, l_ret, l_if, l_wh, l_as]); omega), _, rfl, _, _, rfl, rfl, (by rw [sizeLine_eq]; (try simp only [len_app, l_eq, l_dot, l_sq1, l_sq2, l_sq3, l_inp, l_new, l_em, l_op, l_cl, l_sp, l_emp, l_free, l_ret, l_if, l_wh, l_as]); omega), q _ (Same.refl H)⟩⟩⟩⟩
  | load x y f =>
    obtain ⟨p, rfl, hp⟩ := hs
    have o : x.length ≤ 20 ∧ y.length ≤ 20 ∧ f.length ≤ 20 := by cases d <;> exact ho
    exact ⟨_, rfl, p, _, 0, _, rfl, rfl, hp, rfl, _, rfl, rfl, _, rfl, ifF (by decide +kernel) ⟨_, rfl, rfl, _, rfl, ifF (by decide +kernel) ⟨_, rfl, rfl, _, rfl, ifF (by decide +kernel) ⟨_, rfl, rfl, _, rfl, ifT (by decide +kernel) ⟨_, rfl, p, _, 1, _, rfl, rfl, hp, rfl, _, _, rfl, rfl, (by rw [sizeLine_eq]; (try simp only [len_app, l_eq, l_dot, l_sq1, l_sq2, l_sq3, l_inp, l_new, l_em, l_op, l_cl, l_sp, l_emp, l_free, l_ret, l_if, l_wh, l_as]); omega), _, rfl, p, _, 2, _, rfl, rfl, hp, rfl, _, _, rfl, rfl, (by rw [sizeLine_eq]; (try simp only [len_app, l_eq, l_dot, l_sq1, l_sq2, l_sq3, l_inp, l_new, l_em, l_op, l_cl, l_sp, l_emp, l_free, l_ret, l_if, l_wh, l_as]); omega), _, _, rfl, rfl, (by rw [sizeLine_eq]; (try simp only [len_app, l_eq, l_dot, l_sq1, l_sq2, l_sq3, l_inp, l_new, l_em, l_op, l_cl, l_sp, l_emp, l_free, l_ret, l_if, l_wh, l_as]); omega), _, rfl, p, _, 3, _, rfl, rfl, hp, rfl, _, _, rfl, rfl, (by rw [sizeLine_eq]; (try simp only [len_app, l_eq, l_dot, l_sq1, l_sq2, l_sq3, l_inp, l_new, l_em, l_op, l_cl, l_sp, l_emp, l_free, l_ret, l_if, l_wh, l_as]); omega), q _ (Same.refl H)⟩⟩⟩⟩⟩
  | store y f e =>
    obtain ⟨p, a, rfl, hp, hx⟩ := hs
    have o : y.length ≤ 20 ∧ f.length ≤ 20 ∧ e.ok 4 := by cases d <;> exact ho
    have t4 := txt4 o.2.2
    exact ⟨_, rfl, p, _, 0, _, rfl, rfl, hp, rfl, _, rfl, rfl, _, rfl, ifF (by decide +kernel) ⟨_, rfl, rfl, _, rfl, ifF (by decide +kernel) ⟨_, rfl, rfl, _, rfl, ifF (by decide +kernel) ⟨_, rfl, rfl, _, rfl, ifF (by decide +kernel) ⟨_, rfl, rfl, _, rfl, ifT (by decide +kernel) ⟨_, rfl, p, _, 1, _, rfl, rfl, hp, rfl, _, _, rfl, rfl, (by rw [sizeLine_eq]; (try simp only [len_app, l_eq, l_dot, l_sq1, l_sq2, l_sq3, l_inp, l_new, l_em, l_op, l_cl, l_sp, l_emp, l_free, l_ret, l_if, l_wh, l_as]); omega), _, rfl, p, _, 2, _, rfl, rfl, hp, rfl, _, _, rfl, rfl, (by rw [sizeLine_eq]; (try simp only [len_app, l_eq, l_dot, l_sq1, l_sq2, l_sq3, l_inp, l_new, l_em, l_op, l_cl, l_sp, l_emp, l_free, l_ret, l_if, l_wh, l_as]); omega), _, _, rfl, rfl, (by rw [sizeLine_eq]; (try simp only [len_app, l_eq, l_dot, l_sq1, l_sq2, l_sq3, l_inp, l_new, l_em, l_op, l_cl, l_sp, l_emp, l_free, l_ret, l_if, l_wh, l_as]); omega), _, rfl, p, _, 3, _, rfl, rfl, hp, rfl, a, e, rfl, hx, o.2.2, fun H1 s1 => ⟨_, _, rfl, rfl, (by rw [sizeLine_eq]; (try simp only [len_app, l_eq, l_dot, l_sq1, l_sq2, l_sq3, l_inp, l_new, l_em, l_op, l_cl, l_sp, l_emp, l_free, l_ret, l_if, l_wh, l_as]); omega), q _ s1⟩⟩⟩⟩⟩⟩⟩
  | get x y e =>
    obtain ⟨p, a, rfl, hp, hx⟩ := hs
    have o : x.length ≤ 20 ∧ y.length ≤ 20 ∧ e.ok 4 := by cases d <;> exact ho
    have t4 := txt4 o.2.2
    exact ⟨_, rfl, p, _, 0, _, rfl, rfl, hp, rfl, _, rfl, rfl, _, rfl, ifF (by decide +kernel) ⟨_, rfl, rfl, _, rfl, ifF (by decide +kernel) ⟨_, rfl, rfl, _, rfl, ifF (by decide +kernel) ⟨_, rfl, rfl, _, rfl, ifF (by decide +kernel) ⟨_, rfl, rfl, _, rfl, ifF (by decide +kernel) ⟨_, rfl, rfl, _, rfl, ifT (by decide +kernel) ⟨_, rfl, p, _, 1, _, rfl, rfl, hp, rfl, _, _, rfl, rfl, (by rw [sizeLine_eq]; (try simp only [len_app, l_eq, l_dot, l_sq1, l_sq2, l_sq3, l_inp, l_new, l_em, l_op, l_cl, l_sp, l_emp, l_free, l_ret, l_if, l_wh, l_as]); omega), _, rfl, p, _, 2, _, rfl, rfl, hp, rfl, _, _, rfl, rfl, (by rw [sizeLine_eq]; (try simp only [len_app, l_eq, l_dot, l_sq1, l_sq2, l_sq3, l_inp, l_new, l_em, l_op, l_cl, l_sp, l_emp, l_free, l_ret, l_if, l_wh, l_as]); omega), _, _, rfl, rfl, (by rw [sizeLine_eq]; (try simp only [len_app, l_eq, l_dot, l_sq1, l_sq2, l_sq3, l_inp, l_new, l_em, l_op, l_cl, l_sp, l_emp, l_free, l_ret, l_if, l_wh, l_as]); omega), _, rfl, p, _, 3, _, rfl, rfl, hp, rfl, a, e, rfl, hx, o.2.2, fun H1 s1 => ⟨_, _, rfl, rfl, (by rw [sizeLine_eq]; (try simp only [len_app, l_eq, l_dot, l_sq1, l_sq2, l_sq3, l_inp, l_new, l_em, l_op, l_cl, l_sp, l_emp, l_free, l_ret, l_if, l_wh, l_as]); omega), _, _, rfl, rfl, (by rw [sizeLine_eq]; (try simp only [len_app, l_eq, l_dot, l_sq1, l_sq2, l_sq3, l_inp, l_new, l_em, l_op, l_cl, l_sp, l_emp, l_free, l_ret, l_if, l_wh, l_as]); omega), q _ s1⟩⟩⟩⟩⟩⟩⟩⟩
  | put y e1 e2 =>
    obtain ⟨p, a, b, rfl, hp, hx, hy⟩ := hs
    have o : y.length ≤ 20 ∧ e1.ok 4 ∧ e2.ok 4 := by cases d <;> exact ho
    have t4 := txt4 o.2.1
    have t5 := txt4 o.2.2
    refine ⟨_, rfl, p, _, 0, _, rfl, rfl, hp, rfl, _, rfl, rfl, _, rfl, ifF (by decide +kernel) ⟨_, rfl, rfl, _, rfl, ifF (by decide +kernel) ⟨_, rfl, rfl, _, rfl, ifF (by decide +kernel) ⟨_, rfl, rfl, _, rfl, ifF (by decide +kernel) ⟨_, rfl, rfl, _, rfl, ifF (by decide +kernel) ⟨_, rfl, rfl, _, rfl, ifF (by decide +kernel) ⟨_, rfl, rfl, _, rfl, ifT (by decide +kernel) ⟨_, rfl, p, _, 1, _, rfl, rfl, hp, rfl, _, _, rfl, rfl, (by rw [sizeLine_eq]; (try simp only [len_app, l_eq, l_dot, l_sq1, l_sq2, l_sq3, l_inp, l_new, l_em, l_op, l_cl, l_sp, l_emp, l_free, l_ret, l_if, l_wh, l_as]); omega), _, rfl, p, _, 2, _, rfl, rfl, hp, rfl, a, e1, rfl, hx, o.2.1, fun H1 s1 => ?_⟩⟩⟩⟩⟩⟩⟩⟩
    have hp1 := Same.tup s1 hp
    exact ⟨_, _, rfl, rfl, (by rw [sizeLine_eq]; (try simp only [len_app, l_eq, l_dot, l_sq1, l_sq2, l_sq3, l_inp, l_new, l_em, l_op, l_cl, l_sp, l_emp, l_free, l_ret, l_if, l_wh, l_as]); omega), _, _, rfl, rfl, (by rw [sizeLine_eq]; (try simp only [len_app, l_eq, l_dot, l_sq1, l_sq2, l_sq3, l_inp, l_new, l_em, l_op, l_cl, l_sp, l_emp, l_free, l_ret, l_if, l_wh, l_as]); omega), _, rfl, p, _, 3, _, rfl, rfl, hp1, rfl, b, e2, rfl, ExAt.keep (Keeps.of_same s1) hy, o.2.2, fun H2 s2 => ⟨_, _, rfl, rfl, (by rw [sizeLine_eq]; (try simp only [len_app, l_eq, l_dot, l_sq1, l_sq2, l_sq3, l_inp, l_new, l_em, l_op, l_cl, l_sp, l_emp, l_free, l_ret, l_if, l_wh, l_as]); omega), q _ (s1.trans s2)⟩⟩
  | call x g es =>
    obtain ⟨p, qa, us, rfl, hp, hqa, hx⟩ := hs
    have o : (∀ z, x = some z → z.length ≤ 20) ∧ g.length ≤ 20 ∧ es.length ≤ 3 ∧ ∀ e ∈ es, e.ok 4 := by cases d <;> exact ho
    have la := argsT_len o.2.2.1 o.2.2.2
    have hlen := ExL.len hx
    have o3 := o.2.2.1
    refine ⟨_, rfl, p, _, 0, _, rfl, rfl, hp, rfl, _, rfl, rfl, _, rfl, ifF (by decide +kernel) ⟨_, rfl, rfl, _, rfl, ifF (by decide +kernel) ⟨_, rfl, rfl, _, rfl, ifF (by decide +kernel) ⟨_, rfl, rfl, _, rfl, ifF (by decide +kernel) ⟨_, rfl, rfl, _, rfl, ifF (by decide +kernel) ⟨_, rfl, rfl, _, rfl, ifF (by decide +kernel) ⟨_, rfl, rfl, _, rfl, ifF (by decide +kernel) ⟨_, rfl, rfl, _, rfl, ifT (by decide +kernel) ?_⟩⟩⟩⟩⟩⟩⟩⟩
    refine ⟨_, rfl, p, _, 2, _, rfl, rfl, hp, rfl, _, _, rfl, rfl, (by rw [sizeLine_eq]; (try simp only [len_app, l_eq, l_dot, l_sq1, l_sq2, l_sq3, l_inp, l_new, l_em, l_op, l_cl, l_sp, l_emp, l_free, l_ret, l_if, l_wh, l_as]); omega), ⟨_, rfl⟩, _, rfl, p, _, 3, _, rfl, rfl, hp, rfl, qa, rfl, ⟨_, hqa⟩, fun D hD => ?_⟩
    refine lc_tupS (K := K) (xs := us) (al := es) (f := txt) hqa hlen (by omega) hD (fun _ => rfl) ?_ ?_
    · intro i y e H' R hy he sm k
      obtain ⟨e', he', hv⟩ := ExL.get hx hy
      rw [he] at he'
      obtain rfl := Option.some.inj he'
      exact ⟨_, rfl, y, e, rfl, ExAt.keep (Keeps.of_same sm) hv, o.2.2.2 e (List.mem_of_getElem? he), fun H2 s2 => k _ s2⟩
    intro H1 sm1 hD1
    have jb := join_sum (f := txt) (B := 500) (l := es) (fun e h => txt4 (o.2.2.2 e h))
    refine ⟨_, D, _, rfl, rfl, .inl (SqL.of hD1), ?_, ?_⟩
    · rw [List.length_map]
      show _ + es.length * 2 ≤ 16777216
      omega
    have ea : Txt.join ", " (es.map txt) = argsT es := rfl
    rw [ea]
    have hp1 := Same.tup sm1 hp
    refine ⟨_, _, rfl, rfl, (by rw [sizeLine_eq]; (try simp only [len_app, l_eq, l_dot, l_sq1, l_sq2, l_sq3, l_inp, l_new, l_em, l_op, l_cl, l_sp, l_emp, l_free, l_ret, l_if, l_wh, l_as]); omega), _, _, rfl, rfl, (by rw [sizeLine_eq]; (try simp only [len_app, l_eq, l_dot, l_sq1, l_sq2, l_sq3, l_inp, l_new, l_em, l_op, l_cl, l_sp, l_emp, l_free, l_ret, l_if, l_wh, l_as]); omega), ?_⟩
    cases x with
    | none =>
      exact ⟨_, rfl, p, _, 1, _, rfl, rfl, hp1, rfl, rfl, _, rfl, ifT (decide_eq_true rfl) ⟨_, rfl, q _ sm1⟩⟩
    | some x =>
      have ox := o.1 x rfl
      exact ⟨_, rfl, p, _, 1, _, rfl, rfl, hp1, rfl, rfl, _, rfl, ifF (decide_eq_false nnS) ⟨_, rfl, p, _, 1, _, rfl, rfl, hp1, rfl, _, _, rfl, rfl, (by rw [sizeLine_eq]; (try simp only [len_app, l_eq, l_dot, l_sq1, l_sq2, l_sq3, l_inp, l_new, l_em, l_op, l_cl, l_sp, l_emp, l_free, l_ret, l_if, l_wh, l_as]); omega), _, rfl, _, _, rfl, rfl, (by rw [sizeLine_eq]; (try simp only [len_app, l_eq, l_dot, l_sq1, l_sq2, l_sq3, l_inp, l_new, l_em, l_op, l_cl, l_sp, l_emp, l_free, l_ret, l_if, l_wh, l_as]); omega), q _ sm1⟩⟩
  | ret e =>
    cases e with
    | none =>
      obtain ⟨p, rfl, hp⟩ := hs
      exact ⟨_, rfl, p, _, 0, _, rfl, rfl, hp, rfl, _, rfl, rfl, _, rfl, ifF (by decide +kernel) ⟨_, rfl, rfl, _, rfl, ifF (by decide +kernel) ⟨_, rfl, rfl, _, rfl, ifF (by decide +kernel) ⟨_, rfl, rfl, _, rfl, ifF (by decide +kernel) ⟨_, rfl, rfl, _, rfl, ifF (by decide +kernel) ⟨_, rfl, rfl, _, rfl, ifF (by decide +kernel) ⟨_, rfl, rfl, _, rfl, ifF (by decide +kernel) ⟨_, rfl, rfl, _, rfl, ifF (by decide +kernel) ⟨_, rfl, rfl, _, rfl, ifF (by decide +kernel) ⟨_, rfl, rfl, _, rfl, ifF (by decide +kernel) ⟨_, rfl, p, _, 1, _, rfl, rfl, hp, rfl, rfl, _, rfl, ifT (decide_eq_true rfl) ⟨_, rfl, q _ (Same.refl H)⟩⟩⟩⟩⟩⟩⟩⟩⟩⟩⟩⟩
    | some e =>
      obtain ⟨p, a, rfl, hp, hx⟩ := hs
      have o : e.ok 4 := by cases d <;> exact ho e rfl
      have t4 := txt4 o
      exact ⟨_, rfl, p, _, 0, _, rfl, rfl, hp, rfl, _, rfl, rfl, _, rfl, ifF (by decide +kernel) ⟨_, rfl, rfl, _, rfl, ifF (by decide +kernel) ⟨_, rfl, rfl, _, rfl, ifF (by decide +kernel) ⟨_, rfl, rfl, _, rfl, ifF (by decide +kernel) ⟨_, rfl, rfl, _, rfl, ifF (by decide +kernel) ⟨_, rfl, rfl, _, rfl, ifF (by decide +kernel) ⟨_, rfl, rfl, _, rfl, ifF (by decide +kernel) ⟨_, rfl, rfl, _, rfl, ifF (by decide +kernel) ⟨_, rfl, rfl, _, rfl, ifF (by decide +kernel) ⟨_, rfl, rfl, _, rfl, ifF (by decide +kernel) ⟨_, rfl, p, _, 1, _, rfl, rfl, hp, rfl, rfl, _, rfl, ifF (decide_eq_false hx.nn) ⟨_, rfl, _, _, rfl, rfl, (by rw [sizeLine_eq]; (try simp only [len_app, l_eq, l_dot, l_sq1, l_sq2, l_sq3, l_inp, l_new, l_em, l_op, l_cl, l_sp, l_emp, l_free, l_ret, l_if, l_wh, l_as]); omega), _, rfl, p, _, 1, _, rfl, rfl, hp, rfl, a, e, rfl, hx, o, fun H1 s1 => ⟨_, _, rfl, rfl, (by rw [sizeLine_eq]; (try simp only [len_app, l_eq, l_dot, l_sq1, l_sq2, l_sq3, l_inp, l_new, l_em, l_op, l_cl, l_sp, l_emp, l_free, l_ret, l_if, l_wh, l_as]); omega), q _ s1⟩⟩⟩⟩⟩⟩⟩⟩⟩⟩⟩⟩⟩
  | iff e b c =>
    obtain ⟨p, a, q1, r1, vs1, ws1, rfl, hp, hx, _⟩ := hs
    obtain ⟨k, rfl, _⟩ := Sm.ok_inner_iff ho
    have o : e.ok 4 := ho.1
    have t4 := txt4 o
    exact ⟨_, rfl, p, _, 0, _, rfl, rfl, hp, rfl, _, rfl, rfl, _, rfl, ifF (by decide +kernel) ⟨_, rfl, rfl, _, rfl, ifF (by decide +kernel) ⟨_, rfl, rfl, _, rfl, ifF (by decide +kernel) ⟨_, rfl, rfl, _, rfl, ifF (by decide +kernel) ⟨_, rfl, rfl, _, rfl, ifF (by decide +kernel) ⟨_, rfl, rfl, _, rfl, ifF (by decide +kernel) ⟨_, rfl, rfl, _, rfl, ifF (by decide +kernel) ⟨_, rfl, rfl, _, rfl, ifF (by decide +kernel) ⟨_, rfl, rfl, _, rfl, ifF (by decide +kernel) ⟨_, rfl, rfl, _, rfl, ifF (by decide +kernel) ⟨_, rfl, p, _, 1, _, rfl, rfl, hp, rfl, rfl, _, rfl, ifF (decide_eq_false hx.nn) ⟨_, rfl, _, _, rfl, rfl, (by rw [sizeLine_eq]; (try simp only [len_app, l_eq, l_dot, l_sq1, l_sq2, l_sq3, l_inp, l_new, l_em, l_op, l_cl, l_sp, l_emp, l_free, l_ret, l_if, l_wh, l_as]); omega), _, rfl, p, _, 1, _, rfl, rfl, hp, rfl, a, e, rfl, hx, o, fun H1 s1 => ⟨_, _, rfl, rfl, (by rw [sizeLine_eq]; (try simp only [len_app, l_eq, l_dot, l_sq1, l_sq2, l_sq3, l_inp, l_new, l_em, l_op, l_cl, l_sp, l_emp, l_free, l_ret, l_if, l_wh, l_as]); omega), q _ s1⟩⟩⟩⟩⟩⟩⟩⟩⟩⟩⟩⟩⟩
  | loop e b =>
    obtain ⟨p, a, q1, vs1, rfl, hp, hx, _⟩ := hs
    obtain ⟨k, rfl, _⟩ := Sm.ok_inner_loop ho
    have o : e.ok 4 := ho.1
    have t4 := txt4 o
    exact ⟨_, rfl, p, _, 0, _, rfl, rfl, hp, rfl, _, rfl, rfl, _, rfl, ifF (by decide +kernel) ⟨_, rfl, rfl, _, rfl, ifF (by decide +kernel) ⟨_, rfl, rfl, _, rfl, ifF (by decide +kernel) ⟨_, rfl, rfl, _, rfl, ifF (by decide +kernel) ⟨_, rfl, rfl, _, rfl, ifF (by decide +kernel) ⟨_, rfl, rfl, _, rfl, ifF (by decide +kernel) ⟨_, rfl, rfl, _, rfl, ifF (by decide +kernel) ⟨_, rfl, rfl, _, rfl, ifF (by decide +kernel) ⟨_, rfl, rfl, _, rfl, ifF (by decide +kernel) ⟨_, rfl, rfl, _, rfl, ifF (by decide +kernel) ⟨_, rfl, p, _, 1, _, rfl, rfl, hp, rfl, rfl, _, rfl, ifF (decide_eq_false hx.nn) ⟨_, rfl, _, _, rfl, rfl, (by rw [sizeLine_eq]; (try simp only [len_app, l_eq, l_dot, l_sq1, l_sq2, l_sq3, l_inp, l_new, l_em, l_op, l_cl, l_sp, l_emp, l_free, l_ret, l_if, l_wh, l_as]); omega), _, rfl, p, _, 1, _, rfl, rfl, hp, rfl, a, e, rfl, hx, o, fun H1 s1 => ⟨_, _, rfl, rfl, (by rw [sizeLine_eq]; (try simp only [len_app, l_eq, l_dot, l_sq1, l_sq2, l_sq3, l_inp, l_new, l_em, l_op, l_cl, l_sp, l_emp, l_free, l_ret, l_if, l_wh, l_as]); omega), q _ s1⟩⟩⟩⟩⟩⟩⟩⟩⟩⟩⟩⟩⟩
  | brk =>
    obtain ⟨p, rfl, hp⟩ := hs
    exact ⟨_, rfl, p, _, 0, _, rfl, rfl, hp, rfl, _, rfl, rfl, _, rfl, ifF (by decide +kernel) ⟨_, rfl, rfl, _, rfl, ifF (by decide +kernel) ⟨_, rfl, rfl, _, rfl, ifF (by decide +kernel) ⟨_, rfl, rfl, _, rfl, ifF (by decide +kernel) ⟨_, rfl, rfl, _, rfl, ifF (by decide +kernel) ⟨_, rfl, rfl, _, rfl, ifF (by decide +kernel) ⟨_, rfl, rfl, _, rfl, ifF (by decide +kernel) ⟨_, rfl, rfl, _, rfl, ifF (by decide +kernel) ⟨_, rfl, rfl, _, rfl, ifT (by decide +kernel) ⟨_, rfl, q _ (Same.refl H)⟩⟩⟩⟩⟩⟩⟩⟩⟩⟩
  | free x =>
    obtain ⟨p, rfl, hp⟩ := hs
    have o : x.length ≤ 20 := by cases d <;> exact ho
    refine ⟨_, rfl, p, _, 0, _, rfl, rfl, hp, rfl, _, rfl, rfl, _, rfl, ifF (by decide +kernel) ⟨_, rfl, rfl, _, rfl, ifF (by decide +kernel) ⟨_, rfl, rfl, _, rfl, ifF (by decide +kernel) ⟨_, rfl, rfl, _, rfl, ifF (by decide +kernel) ⟨_, rfl, rfl, _, rfl, ifF (by decide +kernel) ⟨_, rfl, rfl, _, rfl, ifF (by decide +kernel) ⟨_, rfl, rfl, _, rfl, ifF (by decide +kernel) ⟨_, rfl, rfl, _, rfl, ifF (by decide +kernel) ⟨_, rfl, rfl, _, rfl, ifF (by decide +kernel) ⟨_, rfl, rfl, _, rfl, ifT (by decide +kernel) ⟨_, rfl, p, _, 1, _, rfl, rfl, hp, rfl, _, _, rfl, rfl, (by rw [sizeLine_eq]; (try simp only [len_app, l_eq, l_dot, l_sq1, l_sq2, l_sq3, l_inp, l_new, l_em, l_op, l_cl, l_sp, l_emp, l_free, l_ret, l_if, l_wh, l_as]); omega), ?_⟩⟩⟩⟩⟩⟩⟩⟩⟩⟩⟩
    have ef : ("free " : Str) = ("free" : Str) ++ (" " : Str) := by decide +kernel
    rw [ef]
    exact q _ (Same.refl H)
  | asrt e =>
    obtain ⟨p, a, rfl, hp, hx⟩ := hs
    have o : e.ok 4 := by cases d <;> exact ho
    have t4 := txt4 o
    exact ⟨_, rfl, p, _, 0, _, rfl, rfl, hp, rfl, _, rfl, rfl, _, rfl, ifF (by decide +kernel) ⟨_, rfl, rfl, _, rfl, ifF (by decide +kernel) ⟨_, rfl, rfl, _, rfl, ifF (by decide +kernel) ⟨_, rfl, rfl, _, rfl, ifF (by decide +kernel) ⟨_, rfl, rfl, _, rfl, ifF (by decide +kernel) ⟨_, rfl, rfl, _, rfl, ifF (by decide +kernel) ⟨_, rfl, rfl, _, rfl, ifF (by decide +kernel) ⟨_, rfl, rfl, _, rfl, ifF (by decide +kernel) ⟨_, rfl, rfl, _, rfl, ifF (by decide +kernel) ⟨_, rfl, rfl, _, rfl, ifF (by decide +kernel) ⟨_, rfl, p, _, 1, _, rfl, rfl, hp, rfl, rfl, _, rfl, ifF (decide_eq_false hx.nn) ⟨_, rfl, _, _, rfl, rfl, (by rw [sizeLine_eq]; (try simp only [len_app, l_eq, l_dot, l_sq1, l_sq2, l_sq3, l_inp, l_new, l_em, l_op, l_cl, l_sp, l_emp, l_free, l_ret, l_if, l_wh, l_as]); omega), _, rfl, p, _, 1, _, rfl, rfl, hp, rfl, a, e, rfl, hx, o, fun H1 s1 => ⟨_, _, rfl, rfl, (by rw [sizeLine_eq]; (try simp only [len_app, l_eq, l_dot, l_sq1, l_sq2, l_sq3, l_inp, l_new, l_em, l_op, l_cl, l_sp, l_emp, l_free, l_ret, l_if, l_wh, l_as]); omega), q _ s1⟩⟩⟩⟩⟩⟩⟩⟩⟩⟩⟩⟩⟩
end
/-- a statement's shape, for what follows its line -/
inductive Shp (K : PySem.W.Frag) (H : Hp) : Sm → V → Prop where
  | leaf (s : Sm) (p : Addr) (wd : Str) (rest : List V) (hp : SqT K H p (.str wd :: rest)) (n1 : ¬ V.str wd = V.str "if") (n2 : ¬ V.str wd = V.str "while") (h : ∀ d, s.lines d = [ind d ++ lineT s]) : Shp K H s (.ref p)
  | loop (e : Ex) (b : Bd) (p : Addr) (a : V) (q : Addr) (vs : List V) (hp : SqT K H p [.str "while", a, .ref q]) (h : SqT K H q vs) (hb : BdL K H b vs) : Shp K H (.loop e b) (.ref p)
  | iff (e : Ex) (b c : Bd) (p : Addr) (a : V) (q r : Addr) (vs ws : List V) (hp : SqT K H p [.str "if", a, .ref q, .ref r]) (h : SqT K H q vs) (hb : BdL K H b vs) (h2 : SqT K H r ws) (hc : BdL K H c ws) : Shp K H (.iff e b c) (.ref p)
theorem SmAt.shp {K : PySem.W.Frag} {H : Hp} {s : Sm} {v : V} (h : SmAt K H s v) : Shp K H s v := by
  cases s with
  | set x e => obtain ⟨p, a, rfl, hp, hx⟩ := h; exact .leaf _ p _ _ hp (by decide +kernel) (by decide +kernel) (fun _ => rfl)
  | input x => obtain ⟨p, rfl, hp⟩ := h; exact .leaf _ p _ _ hp (by decide +kernel) (by decide +kernel) (fun _ => rfl)
  | new x => obtain ⟨p, rfl, hp⟩ := h; exact .leaf _ p _ _ hp (by decide +kernel) (by decide +kernel) (fun _ => rfl)
  | free x => obtain ⟨p, rfl, hp⟩ := h; exact .leaf _ p _ _ hp (by decide +kernel) (by decide +kernel) (fun _ => rfl)
  | load x y f => obtain ⟨p, rfl, hp⟩ := h; exact .leaf _ p _ _ hp (by decide +kernel) (by decide +kernel) (fun _ => rfl)
  | store y f e => obtain ⟨p, a, rfl, hp, hx⟩ := h; exact .leaf _ p _ _ hp (by decide +kernel) (by decide +kernel) (fun _ => rfl)
  | get x y e => obtain ⟨p, a, rfl, hp, hx⟩ := h; exact .leaf _ p _ _ hp (by decide +kernel) (by decide +kernel) (fun _ => rfl)
  | put y e1 e2 => obtain ⟨p, a, b, rfl, hp, hx, hy⟩ := h; exact .leaf _ p _ _ hp (by decide +kernel) (by decide +kernel) (fun _ => rfl)
  | call x g es => obtain ⟨p, q, vs, rfl, hp, hq, hx⟩ := h; exact .leaf _ p _ _ hp (by decide +kernel) (by decide +kernel) (fun _ => rfl)
  | ret e =>
    cases e with
    | none => obtain ⟨p, rfl, hp⟩ := h; exact .leaf _ p _ _ hp (by decide +kernel) (by decide +kernel) (fun _ => rfl)
    | some e => obtain ⟨p, a, rfl, hp, hx⟩ := h; exact .leaf _ p _ _ hp (by decide +kernel) (by decide +kernel) (fun _ => rfl)
  | iff e b c => obtain ⟨p, a, q, r, vs, ws, rfl, hp, hx, h1, h2, h3, h4⟩ := h; exact .iff e b c p a q r vs ws hp h1 h2 h3 h4
  | loop e b => obtain ⟨p, a, q, vs, rfl, hp, hx, h1, h2⟩ := h; exact .loop e b p a q vs hp h1 h2
  | brk => obtain ⟨p, rfl, hp⟩ := h; exact .leaf _ p _ _ hp (by decide +kernel) (by decide +kernel) (fun _ => rfl)
  | asrt e => obtain ⟨p, a, rfl, hp, hx⟩ := h; exact .leaf _ p _ _ hp (by decide +kernel) (by decide +kernel) (fun _ => rfl)
def spLl (K : PySem.W.Frag) (m : Nat) : Sp := fun vs H Q _ => ∃ (q : Addr) (us : List V) (b : Bd) (d : Nat), vs = [.ref q, .int (d : Int)] ∧ SqT K H q us ∧ BdL K H b us ∧ b.ok m ∧ b.cnt ≤ 100 ∧ 1 ≤ d ∧ d + m ≤ 20 ∧
  ∀ (D : Addr) (H' : Hp), Same H H' → H D = none → H' D = some (.lst ((b.lines d).map V.str)) → Q (.ref D) H'
theorem keep_lst {K : PySem.W.Frag} {H : Hp} {l : Addr} {xs : List V} {o : HO} (h : H l = some (.lst xs)) : Keeps K H (upd H l o) := by
  intro z ys hz
  rcases hz with (hz | ⟨u, hz⟩) | hz
  · exact .inl (.inl (by rw [upd_ne (ne_of hz h (by intro z; cases z))]; exact hz))
  · exact .inl (.inr ⟨u, by rw [upd_ne (ne_of hz h (by intro z; cases z))]; exact hz⟩)
  · exact .inr hz
theorem Keeps.trans {K : PySem.W.Frag} {H H1 H2 : Hp} (a : Keeps K H H1) (b : Keeps K H1 H2) : Keeps K H H2 := fun p xs h => b p xs (a p xs h)
section
variable {P : Program} {w : World} {K : PySem.W.Frag} {mg : Str → Option Value} {base : Heap}
theorem ok_l_lines0 (T : Txt w K mg) {m : Nat} (g_l_lines : FnOk P w K mg base CX0 (m + 12) T.a_l_lines T.d_l_lines p_l_lines (match m with | 0 => fun _ _ _ _ => False | k + 1 => spLl K k)) :
    FnOk P w K mg base CX0 (m + 13) T.a_l_lines T.d_l_lines p_l_lines (spLl K m) := by
  have g_l_line := ok_l_line (P := P) (w := w) (K := K) (base := base) T
  refine T.F_l_lines.ok sc_l_lines (fun vs H Q E h => ?_) (fun cdv A outer s H vs Q E hr h => ?_)
  · obtain ⟨q, us, b, d, rfl, _⟩ := h
    rfl
  obtain ⟨qa, us, b, d, rfl, hq, hb, ho, hc, hd1, hd, q⟩ := h
  refine ⟨_, (pss_cons (ps_set (i := 2) sc_l_lines.nd rfl (Or.inl rfl) (pe_lst pa_nil))
      (pss_cons (ps_for PassesOwn.never rfl (pi_tup (pv 0)) (pg_name (i := 3) sc_l_lines.nd rfl (Or.inl rfl))
        (pss_cons (ps_expr (pe_bm PySem.F.plainAttrs_list PySem.F.slot_list_append PySem.F.type_list_append mt_append (pv 2) (pa_cons (pe_op op_add_str (pe_op op_repS pe_str (pv 1)) (pe_call g_l_line (hr.mono (by first | decide | omega)) rfl T.m_l_line T.F_l_line.kp T.b_l_line .nil pass0 (pa_cons (pv 3) pa_nil))) pa_nil)))
      (pss_one (ps_if (PW.pt (pw_or (pt_cmpR op_eq (pe_ix ix_tup (pv 3) pe_int (fun _ _ => rfl)) pe_str (nomark _)) (pw_or1 (pt_cmpR op_eq (pe_ix ix_tup (pv 3) pe_int (fun _ _ => rfl)) pe_str (nomark _))))) (pss_cons (ps_set (i := 2) sc_l_lines.nd rfl (Or.inl rfl) (pe_op op_cat (pv 2) (pe_call g_l_lines (hr.mono (by first | decide | omega)) rfl T.m_l_lines T.F_l_lines.kp T.b_l_lines .nil pass0 (pa_cons (pe_ix ix_tup (pv 3) pe_int (fun _ _ => rfl)) (pa_cons (pe_op op_add (pv 1) pe_int) pa_nil)))))
      (C8.pss_cut (ps_if (PW.pt (pw_and (pt_cmpR op_eq (pe_ix ix_tup (pv 3) pe_int (fun _ _ => rfl)) pe_str (nomark _)) (pw_and1 (pt_cmpR (op_neT0 hr.units0) (pe_ix ix_tup (pv 3) pe_int (fun _ _ => rfl)) (pe_tup pa_nil) (nomark _))))) (pss_one (ps_set (i := 2) sc_l_lines.nd rfl (Or.inl rfl) (pe_op op_cat (pe_op op_cat (pv 2) (pe_lst (pa_cons (pe_op op_add_str (pe_op op_repS pe_str (pv 1)) pe_str) pa_nil))) (pe_call g_l_lines (hr.mono (by first | decide | omega)) rfl T.m_l_lines T.F_l_lines.kp T.b_l_lines .nil pass0 (pa_cons (pe_ix ix_tup (pv 3) pe_int (fun _ _ => rfl)) (pa_cons (pe_op op_add (pv 1) pe_int) pa_nil)))))) pss_nil)
      (pss_one (ps_expr (pe_bm PySem.F.plainAttrs_list PySem.F.slot_list_append PySem.F.type_list_append mt_append (pv 2) (pa_cons (pe_op op_add_str (pe_op op_repS pe_str (pv 1)) pe_str) pa_nil)))))) pss_nil))))
      (pss_one (ps_ret (pv 2))))), ?_⟩
  have hll := Bd.lines_len d b
  have hind := ind_len d
  refine ⟨by show 0 ≤ sizeLine; decide, fun l0 hl0 => ?_⟩
  have s0 := Same.new hl0 (.lst [])
  refine ⟨_, rfl, qa, rfl, ⟨_, Same.tup s0 hq⟩, for_tup (K := K) (a := qa) (xs := us) (fun i σ H' => Same H H' ∧ ∃ (l : Addr) (pre : List Str) (r : Bd) (v3 : Option V), σ = [some (.ref qa), some (.int (d : Int)), some (.ref l), v3] ∧ H l = none ∧ H' l = some (.lst (pre.map V.str)) ∧ BdL K H r (us.drop i) ∧ r.ok m ∧ b.lines d = pre ++ r.lines d ∧ r.cnt ≤ 100)
    ⟨s0, l0, [], b, none, rfl, hl0, upd_same, hb, ho, rfl, hc⟩ (fun i σ H' _ ⟨h, _⟩ => Same.tup h hq) ?_ ?_⟩
  · rintro i v σ H' hi ⟨sm, l, pre, r, v3, rfl, hl0, hl, hr1, ro, el, rc⟩
    have hil : i < us.length := (List.getElem?_eq_some_iff.mp hi).1
    have dr : us.drop i = v :: us.drop (i + 1) := by
      rw [List.drop_eq_getElem_cons hil]
      congr 1
      exact (List.getElem?_eq_some_iff.mp hi).2
    rw [dr] at hr1
    obtain ⟨s1, r1, rfl⟩ : ∃ s1 r1, r = .cons s1 r1 := by
      cases r with
      | nil => cases hr1
      | cons s1 r1 => exact ⟨s1, r1, rfl⟩
    obtain ⟨v', ws, ev, hs1, hr2⟩ := hr1
    obtain ⟨rfl, rfl⟩ := List.cons.inj ev
    have os1 : s1.ok m := ro.1
    have plen : pre.length ≤ 400 := by
      have := congrArg List.length el
      rw [List.length_append] at this
      omega
    have lt := lineT_len os1
    have hsm := SmAt.keep (Keeps.of_same sm) hs1
    refine ⟨_, rfl, .inl ⟨rfl, _, SqL.of hl⟩, _, rfl, d, rfl, rfl, hd1, by omega, _, rfl, v, s1, m, rfl, hsm, os1, fun H1 sm1 => ⟨_, _, rfl, rfl, by rw [sizeLine_eq]; omega, ?_⟩⟩
    refine ⟨l, _, _, rfl, rfl, sm1 _ _ hl, ?_, ?_⟩
    · rw [List.length_map]
      exact small1000 (by omega)
    have smA : Same H (upd H1 l (.lst (pre.map V.str ++ [.str (ind d ++ lineT s1)]))) := Same.grow hl0 (sm.trans sm1)
    have hlA : (upd H1 l (.lst (pre.map V.str ++ [.str (ind d ++ lineT s1)]))) l = some (.lst ((pre ++ [ind d ++ lineT s1]).map V.str)) := by
      rw [upd_same, List.map_append]
      rfl
    generalize (upd H1 l (.lst (pre.map V.str ++ [.str (ind d ++ lineT s1)]))) = HA at smA hlA ⊢
    have fin : ∀ (H5 : Hp) (l5 : Addr) (ls : List Str), Same H H5 → H l5 = none → H5 l5 = some (.lst (ls.map V.str)) → ls = pre ++ s1.lines d →
        Same H H5 ∧ ∃ (l : Addr) (pre : List Str) (r : Bd) (v5 : Option V), ([some (.ref qa), some (.int (d : Int)), some (.ref l5), some v] : List (Option V)) = [some (.ref qa), some (.int (d : Int)), some (.ref l), v5] ∧ H l = none ∧ H5 l = some (.lst (pre.map V.str)) ∧ BdL K H r (us.drop (i + 1)) ∧ r.ok m ∧ b.lines d = pre ++ r.lines d ∧ r.cnt ≤ 100 := by
      intro H5 l5 ls a1 a0 a2 a3
      refine ⟨a1, l5, ls, r1, _, rfl, a0, a2, hr2, ro.2, ?_, ?_⟩
      · rw [a3, el, List.append_assoc]
        rfl
      · have : s1.cnt + r1.cnt ≤ 100 := rc
        omega
    have hsA := SmAt.keep (Keeps.of_same smA) hs1
    cases SmAt.shp hsA with
    | leaf _ p wd rest hp n1 n2 hleaf =>
      refine ⟨_, rfl, p, _, 0, _, rfl, rfl, hp, at0, rfl, _, rfl, ifF (decide_eq_false n1) ⟨_, rfl, p, _, 0, _, rfl, rfl, hp, at0, rfl, _, rfl, ifF (decide_eq_false n2) ?_⟩⟩
      exact fin HA l _ smA hl0 hlA (by rw [hleaf])
    | loop e b1 p a qb vb hp hqb hbb =>
      obtain ⟨k, rfl, ob⟩ := Sm.ok_inner_loop os1
      have c1 : b1.cnt ≤ 100 := by
        have : (1 + b1.cnt) + r1.cnt ≤ 100 := rc
        omega
      have l1 := Bd.lines_len (d + 1) b1
      refine ⟨_, rfl, p, _, 0, _, rfl, rfl, hp, rfl, rfl, _, rfl, ifF (by decide +kernel) ⟨_, rfl, p, _, 0, _, rfl, rfl, hp, rfl, rfl, _, rfl, ifT (by decide +kernel) ?_⟩⟩
      refine ⟨_, rfl, _, rfl, p, _, 2, _, rfl, rfl, hp, rfl, _, rfl, _, _, rfl, rfl, qb, vb, b1, d + 1, rfl, hqb, hbb, ob, c1, by omega, by omega, fun D HD smD hD0 hD => ?_⟩
      have hlD := smD _ _ hlA
      refine ⟨l, D, _, _, rfl, rfl, hlD, hD, ?_, fun e1 he1 => ?_⟩
      · rw [List.length_map, List.length_map, List.length_append, sizeLine_eq]
        show pre.length + 1 + _ ≤ _
        omega
      have smE : Same H (upd HD e1 (.lst ((pre ++ [ind d ++ lineT (.loop e b1)]).map V.str ++ (b1.lines (d + 1)).map V.str))) := (smA.trans smD).trans (Same.new he1 _)
      have he0 : H e1 = none := (smA.trans smD).free he1
      have hlE : (upd HD e1 (.lst ((pre ++ [ind d ++ lineT (.loop e b1)]).map V.str ++ (b1.lines (d + 1)).map V.str))) e1 = some (.lst ((pre ++ [ind d ++ lineT (.loop e b1)] ++ b1.lines (d + 1)).map V.str)) := by
        rw [upd_same, ← List.map_append]
      have hpE : SqT K (upd HD e1 (.lst ((pre ++ [ind d ++ lineT (.loop e b1)]).map V.str ++ (b1.lines (d + 1)).map V.str))) p [.str "while", a, .ref qb] := Same.tup (Same.new he1 _) (Same.tup smD hp)
      generalize (upd HD e1 (.lst ((pre ++ [ind d ++ lineT (.loop e b1)]).map V.str ++ (b1.lines (d + 1)).map V.str))) = HE at smE hlE hpE ⊢
      refine ⟨fun σ H5 => H5 = HE ∧ σ = [some (.ref qa), some (.int (d : Int)), some (.ref e1), some (.ref p)], ⟨_, rfl, p, _, 0, _, rfl, rfl, hpE, rfl, rfl, _, rfl, ifF (by decide +kernel) (iteF ⟨rfl, rfl⟩)⟩, ?_⟩
      rintro σ H5 ⟨rfl, rfl⟩
      refine ⟨_, rfl, .inl ⟨rfl, _, SqL.of hlE⟩, _, rfl, d, rfl, rfl, hd1, by omega, _, _, rfl, rfl, by rw [sizeLine_eq]; show _ + 3 ≤ _; omega, ?_⟩
      refine ⟨e1, _, _, rfl, rfl, hlE, ?_, ?_⟩
      · rw [List.length_map, List.length_append, List.length_append]
        exact small1000 (by show pre.length + 1 + _ ≤ 1000; omega)
      refine fin _ e1 (pre ++ [ind d ++ lineT (.loop e b1)] ++ b1.lines (d + 1) ++ [ind d ++ ("end" : Str)]) (Same.grow he0 smE) he0 ?_ ?_
      · rw [upd_same, List.map_append (l₂ := [ind d ++ ("end" : Str)])]
        rfl
      · rw [loop_ln]
        simp only [List.append_assoc]
    | iff e b1 b2 p a qb rb vb wb hp hqb hbb hrb hcb =>
      obtain ⟨k, rfl, ob, oc⟩ := Sm.ok_inner_iff os1
      have c12 : b1.cnt ≤ 100 ∧ b2.cnt ≤ 100 ∧ b1.cnt + b2.cnt ≤ 100 := by
        have : (1 + b1.cnt + b2.cnt) + r1.cnt ≤ 100 := rc
        omega
      have l1 := Bd.lines_len (d + 1) b1
      have l2 := Bd.lines_len (d + 1) b2
      refine ⟨_, rfl, p, _, 0, _, rfl, rfl, hp, rfl, rfl, _, rfl, ifT (by decide +kernel) (iteT ?_)⟩
      refine ⟨_, rfl, _, rfl, p, _, 2, _, rfl, rfl, hp, rfl, _, rfl, _, _, rfl, rfl, qb, vb, b1, d + 1, rfl, hqb, hbb, ob, c12.1, by omega, by omega, fun D HD smD hD0 hD => ?_⟩
      have hlD := smD _ _ hlA
      refine ⟨l, D, _, _, rfl, rfl, hlD, hD, ?_, fun e1 he1 => ?_⟩
      · rw [List.length_map, List.length_map, List.length_append, sizeLine_eq]
        show pre.length + 1 + _ ≤ _
        omega
      have smE' : Same HA (upd HD e1 (.lst ((pre ++ [ind d ++ lineT (.iff e b1 b2)]).map V.str ++ (b1.lines (d + 1)).map V.str))) := smD.trans (Same.new he1 _)
      have smE := smA.trans smE'
      have he0 : H e1 = none := (smA.trans smD).free he1
      have hlE : (upd HD e1 (.lst ((pre ++ [ind d ++ lineT (.iff e b1 b2)]).map V.str ++ (b1.lines (d + 1)).map V.str))) e1 = some (.lst ((pre ++ [ind d ++ lineT (.iff e b1 b2)] ++ b1.lines (d + 1)).map V.str)) := by
        rw [upd_same, ← List.map_append]
      have hpE := Same.tup smE' hp
      have hrE := Same.tup smE' hrb
      have hcE := BdL.keep (Keeps.of_same smE') hcb
      generalize (upd HD e1 (.lst ((pre ++ [ind d ++ lineT (.iff e b1 b2)]).map V.str ++ (b1.lines (d + 1)).map V.str))) = HE at smE smE' hlE hpE hrE hcE ⊢
      refine ⟨fun σ H5 => Same H H5 ∧ ∃ (l5 : Addr) (ls : List Str), σ = [some (.ref qa), some (.int (d : Int)), some (.ref l5), some (.ref p)] ∧ H l5 = none ∧ H5 l5 = some (.lst (ls.map V.str)) ∧ ls.length ≤ 900 ∧ ls ++ [ind d ++ ("end" : Str)] = pre ++ (Sm.iff e b1 b2).lines d, ⟨_, rfl, p, _, 0, _, rfl, rfl, hpE, rfl, rfl, _, rfl, ifT (by decide +kernel) ⟨_, rfl, p, _, 3, _, rfl, rfl, hpE, rfl, by show 0 ≤ sizeLine; decide, fun z hz => ?_⟩⟩, ?_⟩
      · have sz := Same.new hz (.tup [])
        refine ⟨rb, z, wb, rfl, rfl, Same.tup sz hrE, SqT.of upd_same, _, rfl, ?_⟩
        cases b2 with
        | nil =>
          obtain rfl : wb = [] := hcE
          refine iteF ⟨smE.trans sz, e1, _, rfl, he0, sz _ _ hlE, ?_, ?_⟩
          · rw [List.length_append, List.length_append]
            show pre.length + 1 + _ ≤ 900
            omega
          · rw [iff_nil]
            simp only [List.append_assoc]
        | cons s2 c2 =>
          obtain ⟨x2, w2, rfl, hx2, hc2⟩ := id hcE
          refine iteT ⟨_, rfl, _, rfl, d, rfl, rfl, hd1, by omega, _, _, rfl, rfl, by rw [sizeLine_eq]; show _ + 4 ≤ _; omega, by show 1 ≤ sizeLine; decide, fun y hy => ?_⟩
          have szy := sz.trans (Same.new hy (.lst [.str (ind d ++ ("else" : Str))]))
          refine ⟨e1, y, _, _, rfl, rfl, szy _ _ hlE, upd_same, ?_, fun e2 he2 => ?_⟩
          · simp only [List.length_map, List.length_append, List.length_cons, List.length_nil]
            rw [sizeLine_eq]
            omega
          have s2e := szy.trans (Same.new he2 (.lst ((pre ++ [ind d ++ lineT (.iff e b1 (.cons s2 c2))] ++ b1.lines (d + 1)).map V.str ++ [.str (ind d ++ ("else" : Str))])))
          have hpF := Same.tup s2e hpE
          refine ⟨_, rfl, p, _, 3, _, rfl, rfl, hpF, rfl, _, rfl, _, _, rfl, rfl, rb, _, .cons s2 c2, d + 1, rfl, Same.tup s2e hrE, BdL.keep (Keeps.of_same s2e) hcE, oc, c12.2.1, by omega, by omega, fun D2 HG smG hD20 hD2 => ?_⟩
          have hl2 : (upd (upd (upd HE z (.tup [])) y (.lst [.str (ind d ++ ("else" : Str))])) e2 (.lst ((pre ++ [ind d ++ lineT (.iff e b1 (.cons s2 c2))] ++ b1.lines (d + 1)).map V.str ++ [.str (ind d ++ ("else" : Str))]))) e2 = some (.lst ((pre ++ [ind d ++ lineT (.iff e b1 (.cons s2 c2))] ++ b1.lines (d + 1) ++ [ind d ++ ("else" : Str)]).map V.str)) := by
            rw [upd_same, List.map_append (l₂ := [ind d ++ ("else" : Str)])]
            rfl
          refine ⟨e2, D2, _, _, rfl, rfl, smG _ _ hl2, hD2, ?_, fun e3 he3 => ?_⟩
          · simp only [List.length_map, List.length_append, List.length_cons, List.length_nil]
            rw [sizeLine_eq]
            omega
          have sall := (smE.trans s2e).trans smG
          refine ⟨sall.trans (Same.new he3 _), e3, pre ++ [ind d ++ lineT (.iff e b1 (.cons s2 c2))] ++ b1.lines (d + 1) ++ [ind d ++ ("else" : Str)] ++ (Bd.cons s2 c2).lines (d + 1), rfl, sall.free he3, ?_, ?_, ?_⟩
          · rw [upd_same, ← List.map_append]
          · simp only [List.length_append, List.length_cons, List.length_nil]
            omega
          · rw [iff_cons]
            simp only [List.append_assoc]
      · rintro σ H5 ⟨sm5, l5, ls, rfl, hl50, hl5, len5, els⟩
        refine ⟨_, rfl, .inl ⟨rfl, _, SqL.of hl5⟩, _, rfl, d, rfl, rfl, hd1, by omega, _, _, rfl, rfl, by rw [sizeLine_eq]; show _ + 3 ≤ _; omega, ?_⟩
        refine ⟨l5, _, _, rfl, rfl, hl5, ?_, ?_⟩
        · rw [List.length_map]
          exact small1000 (by omega)
        refine fin _ l5 (ls ++ [ind d ++ ("end" : Str)]) (Same.grow hl50 sm5) hl50 ?_ els
        rw [upd_same, List.map_append]
        rfl
  · rintro σ H' ⟨sm, l, pre, r, v3, rfl, hl0, hl, hr1, ro, el, rc⟩
    rw [List.drop_length] at hr1
    have er : r = .nil := by
      cases r with
      | nil => rfl
      | cons s1 r1 => obtain ⟨x, ws, e, _⟩ := hr1; cases e
    subst er
    have el' : b.lines d = pre := by
      rw [el]
      exact List.append_nil _
    exact ⟨_, rfl, q l H' sm hl0 (by rw [el']; exact hl)⟩
theorem ok_l_lines (T : Txt w K mg) : ∀ m : Nat, FnOk P w K mg base CX0 (m + 13) T.a_l_lines T.d_l_lines p_l_lines (spLl K m)
  | 0 => ok_l_lines0 T (fn_vac fun _ _ _ _ h => h)
  | m + 1 => ok_l_lines0 T (ok_l_lines T m)
end
/-! ### the law's lines of functions and programs -/
def spPrL (K : PySem.W.Frag) : Sp := fun vs H Q _ => ∃ (v : V) (x : Pr), vs = [v] ∧ PrAt K H x v ∧ x.ok ∧ ∀ (D : Addr) (H' : Hp), Same H H' → H D = none → H' D = some (.lst ((prLines x).map V.str)) → Q (.ref D) H'
section
variable {P : Program} {w : World} {K : PySem.W.Frag} {mg : Str → Option Value} {base : Heap}
theorem ok_l_joined (T : Txt w K mg) : FnOk P w K mg base CX0 1 T.a_l_joined T.d_l_joined p_l_joined (spJoin K) := by
  refine T.F_l_joined.ok sc_l_joined (fun vs H Q E h => ?_) (fun cdv A outer s H vs Q E hr h => ?_)
  · obtain ⟨a, ls, rfl, _⟩ := h
    rfl
  obtain ⟨a, ls, rfl, ha, h8, hl, q⟩ := h
  refine ⟨_, (pss_one (ps_ret (pe_join pe_str (pe_lc (own := [("_law_row", 1)]) (g := gName 1) (tt := tYes) rfl sc_l_joined.nd (pi_list (pv 0)) (blkOk_by (own := [("_law_row", 1)]) (N := n_l_joined) (sc := defScope s_l_joined) (by decide +kernel)) (fun _ _ _ _ _ => (pg_name (i := 1) sc_l_joined.nd rfl (Or.inl rfl))) (fun _ _ _ _ _ => pts_nil) (fun _ _ _ _ _ => (pe_op op_add_str (pv 1) pe_str)))))), ?_⟩
  have lm : (ls.map V.str).length = ls.length := List.length_map _
  refine ⟨⟨_, rfl⟩, _, rfl, a, rfl, ⟨_, ha⟩, fun D hD => ?_⟩
  refine lc_lstS (K := K) (xs := ls.map V.str) (al := ls) (f := fun l => l ++ ("\n" : Str)) ha lm (by omega) hD (fun _ => rfl) ?_ ?_
  · intro i y e H' R hy he sm k
    rw [List.getElem?_map, he] at hy
    obtain rfl := Option.some.inj hy
    have := hl e (List.mem_of_getElem? he)
    exact ⟨_, rfl, _, _, rfl, rfl, (by rw [sizeLine_eq]; (try simp only [len_app, l_eq, l_dot, l_sq1, l_sq2, l_sq3, l_sq4, l_inp, l_new, l_em, l_op, l_cl, l_sp, l_emp, l_col, l_rec, l_arr, l_def, l_2, l_var, l_2var, l_glo, l_nl, l_dd]); omega), k _ (Same.refl _)⟩
  · intro H' sm hD'
    refine ⟨_, D, _, rfl, rfl, .inl (SqL.of hD'), ?_, q H' sm⟩
    have b := join_sum (f := fun l : Str => l ++ ("\n" : Str)) (B := 2001) (l := ls) (fun l h => by
      have := hl l h
      show (l ++ ("\n" : Str)).length ≤ 2001
      rw [len_app, l_nl]
      omega)
    rw [List.length_map]
    show _ + ls.length * 0 ≤ 16777216
    omega
theorem app_emp (x : Str) : x ++ ("" : Str) = x := congrArg Str.mk (Array.append_empty)
theorem ok_l_function_lines (T : Txt w K mg) : FnOk P w K mg base CX0 22 T.a_l_function_lines T.d_l_function_lines p_l_function_lines (spFnL K) := by
  have g_l_kind_text := ok_l_kind_text (P := P) (w := w) (K := K) (base := base) T
  have g_l_lines := ok_l_lines (P := P) (w := w) (K := K) (base := base) T 8
  refine T.F_l_function_lines.ok sc_l_function_lines (fun vs H Q E h => ?_) (fun cdv A outer s H vs Q E hr h => ?_)
  · obtain ⟨v, x, rfl, _⟩ := h
    rfl
  obtain ⟨v, x, rfl, ⟨p, q1, vs1, rv, q2, vs2, q3, vs3, rfl, hp, h1, a1, hres, h2, a2, h3, hb⟩, ⟨o1, o2, o3, o4, o5, o6⟩, q⟩ := h
  refine ⟨_, (pss_cons (ps_set (i := 1) sc_l_function_lines.nd rfl (Or.inl rfl) (pe_join pe_str (pe_lc (own := [("_law_pair", 2)]) (g := gName 2) (tt := tYes) rfl sc_l_function_lines.nd (pi_tup (pe_ix (show IxR _ (rIxT K) from ix_tup) (pv 0) pe_int (fun _ _ => rfl))) (blkOk_by (own := [("_law_pair", 2)]) (N := n_l_function_lines) (sc := defScope s_l_function_lines) (by decide +kernel)) (fun _ _ _ _ _ => (pg_name (i := 2) sc_l_function_lines.nd rfl (Or.inl rfl))) (fun _ _ _ _ _ => pts_nil) (fun _ _ _ _ _ => (pe_op op_add_str (pe_op op_add_str (pe_ix (show IxR _ (rIxT K) from ix_tup) (pv 2) pe_int (fun _ _ => rfl)) pe_str) (pe_call g_l_kind_text (hr.mono (by first | decide | omega)) rfl T.m_l_kind_text T.F_l_kind_text.kp T.b_l_kind_text .nil pass0 (pa_cons (pe_ix (show IxR _ (rIxT K) from ix_tup) (pv 2) pe_int (fun _ _ => rfl)) pa_nil)))))))
      (pss_cons (ps_set (i := 3) sc_l_function_lines.nd rfl (Or.inl rfl) (pe_op op_add_str (pe_op op_add_str (pe_op op_add_str (pe_op op_add_str pe_str (pe_ix (show IxR _ (rIxT K) from ix_tup) (pv 0) pe_int (fun _ _ => rfl))) pe_str) (pv 1)) pe_str))
      (C8.pss_cut (ps_if (pt_cmpR op_notN (pe_ix (show IxR _ (rIxT K) from ix_tup) (pv 0) pe_int (fun _ _ => rfl)) pe_non (nomark _)) (pss_one (ps_set (i := 3) sc_l_function_lines.nd rfl (Or.inl rfl) (pe_op op_add_str (pe_op op_add_str (pv 3) pe_str) (pe_call g_l_kind_text (hr.mono (by first | decide | omega)) rfl T.m_l_kind_text T.F_l_kind_text.kp T.b_l_kind_text .nil pass0 (pa_cons (pe_ix (show IxR _ (rIxT K) from ix_tup) (pv 0) pe_int (fun _ _ => rfl)) pa_nil))))) pss_nil)
      (pss_cons (ps_setLc (i := 4) (own := [("_law_pair", 2)]) (g := gName 2) (tt := tYes) rfl sc_l_function_lines.nd rfl rfl (sw_true rfl rfl rfl (by decide +kernel)) (pi_tup (pe_ix (show IxR _ (rIxT K) from ix_tup) (pv 0) pe_int (fun _ _ => rfl))) (blkOk_by (own := [("_law_pair", 2)]) (N := n_l_function_lines) (sc := defScope s_l_function_lines) (by decide +kernel)) (fun _ _ _ _ _ => (pg_name (i := 2) sc_l_function_lines.nd rfl (Or.inl rfl))) (fun _ _ _ _ _ => pts_nil) (fun _ _ _ _ _ => (pe_op op_add_str (pe_op op_add_str (pe_op op_add_str pe_str (pe_ix (show IxR _ (rIxT K) from ix_tup) (pv 2) pe_int (fun _ _ => rfl))) pe_str) (pe_call g_l_kind_text (hr.mono (by first | decide | omega)) rfl T.m_l_kind_text T.F_l_kind_text.kp T.b_l_kind_text .nil pass0 (pa_cons (pe_ix (show IxR _ (rIxT K) from ix_tup) (pv 2) pe_int (fun _ _ => rfl)) pa_nil)))))
      (pss_one (ps_ret (pe_op op_cat (pe_op op_cat (pe_op op_cat (pe_lst (pa_cons (pv 3) pa_nil)) (pv 4)) (pe_call g_l_lines (hr.mono (by first | decide | omega)) rfl T.m_l_lines T.F_l_lines.kp T.b_l_lines .nil pass0 (pa_cons (pe_ix (show IxR _ (rIxT K) from ix_tup) (pv 0) pe_int (fun _ _ => rfl)) (pa_cons pe_int pa_nil)))) (pe_lst (pa_cons pe_str pa_nil))))))))), ?_⟩
  have len1 := a1.len
  have len2 := a2.len
  have o21 := o2.1
  have o41 := o4.1
  refine ⟨⟨_, rfl⟩, _, rfl, p, _, 1, _, rfl, rfl, hp, rfl, q1, rfl, ⟨_, h1⟩, fun D hD => ?_⟩
  refine lc_tupS (K := K) (xs := vs1) (al := x.params) (f := declT) h1 len1 (by omega) hD (fun _ => rfl) ?_ ?_
  · intro i y e H' R hy he sm k
    obtain ⟨pp, kv, rfl, hpp, hk⟩ := DcAt.keep (Keeps.of_same sm) (a1.get he hy)
    have oe := o2.2 e (List.mem_of_getElem? he)
    have n20 := oe.1
    have kl := kdT_len oe.2
    exact ⟨_, rfl, pp, _, 0, _, rfl, rfl, hpp, rfl, _, _, rfl, rfl, (by rw [sizeLine_eq]; (try simp only [len_app, l_eq, l_dot, l_sq1, l_sq2, l_sq3, l_sq4, l_inp, l_new, l_em, l_op, l_cl, l_sp, l_emp, l_col, l_rec, l_arr, l_def, l_2, l_var, l_2var, l_glo, l_nl, l_dd]); omega), _, rfl, pp, _, 1, _, rfl, rfl, hpp, rfl, kv, e.2, rfl, hk, oe.2, _, _, rfl, rfl, (by rw [sizeLine_eq]; (try simp only [len_app, l_eq, l_dot, l_sq1, l_sq2, l_sq3, l_sq4, l_inp, l_new, l_em, l_op, l_cl, l_sp, l_emp, l_col, l_rec, l_arr, l_def, l_2, l_var, l_2var, l_glo, l_nl, l_dd]); omega), k _ (Same.refl _)⟩
  intro H1 sm1 hD1
  have jb := join_sum (f := declT) (B := 46) (l := x.params) (fun e h => declT_len (o2.2 e h))
  refine ⟨_, D, _, rfl, rfl, .inl (SqL.of hD1), ?_, ?_⟩
  · rw [List.length_map]
    show _ + x.params.length * 2 ≤ 16777216
    omega
  have jl : (Txt.join ", " (x.params.map declT)).length ≤ 300 := join4 (by rw [List.length_map]; exact o21) (fun y hy => by
    obtain ⟨e, he, rfl⟩ := List.mem_map.mp hy
    exact declT_len (o2.2 e he))
  generalize ej : Txt.join ", " (x.params.map declT) = tj at jl
  have hp1 := Same.tup sm1 hp
  refine ⟨_, rfl, p, _, 0, _, rfl, rfl, hp1, rfl, _, _, rfl, rfl, (by rw [sizeLine_eq]; (try simp only [len_app, l_eq, l_dot, l_sq1, l_sq2, l_sq3, l_sq4, l_inp, l_new, l_em, l_op, l_cl, l_sp, l_emp, l_col, l_rec, l_arr, l_def, l_2, l_var, l_2var, l_glo, l_nl, l_dd]); omega), _, _, rfl, rfl, (by rw [sizeLine_eq]; (try simp only [len_app, l_eq, l_dot, l_sq1, l_sq2, l_sq3, l_sq4, l_inp, l_new, l_em, l_op, l_cl, l_sp, l_emp, l_col, l_rec, l_arr, l_def, l_2, l_var, l_2var, l_glo, l_nl, l_dd]); omega), _, rfl, _, _, rfl, rfl, (by rw [sizeLine_eq]; (try simp only [len_app, l_eq, l_dot, l_sq1, l_sq2, l_sq3, l_sq4, l_inp, l_new, l_em, l_op, l_cl, l_sp, l_emp, l_col, l_rec, l_arr, l_def, l_2, l_var, l_2var, l_glo, l_nl, l_dd]); omega), _, _, rfl, rfl, (by rw [sizeLine_eq]; (try simp only [len_app, l_eq, l_dot, l_sq1, l_sq2, l_sq3, l_sq4, l_inp, l_new, l_em, l_op, l_cl, l_sp, l_emp, l_col, l_rec, l_arr, l_def, l_2, l_var, l_2var, l_glo, l_nl, l_dd]); omega), ?_⟩
  -- the result
  have hd1 : (fnHead x).length ≤ 380 := by
    have kl : (tailT x.result).length ≤ 26 := by
      cases er : x.result with
      | none => decide +kernel
      | some kd =>
        have := kdT_len (o3 kd er)
        show ((": " : Str) ++ kdT kd).length ≤ 26
        rw [len_app, l_col]
        omega
    unfold fnHead
    rw [ej]
    simp only [len_app, l_def, l_op, l_cl]
    omega
  refine ⟨fun σ H5 => H5 = H1 ∧ σ = [some (.ref p), some (.str tj), none, some (.str (fnHead x)), none], ?_, ?_⟩
  · cases er : x.result with
    | none =>
      rw [er] at hres
      obtain rfl : rv = .non := hres
      refine ⟨_, rfl, p, _, 2, _, rfl, rfl, hp1, rfl, rfl, _, rfl, ifF (by decide) ⟨rfl, ?_⟩⟩
      have ef : fnHead x = ("def " : Str) ++ x.name ++ ("(" : Str) ++ tj ++ (")" : Str) := by
        unfold fnHead
        rw [er, ej]
        exact app_emp _
      rw [ef]
      rfl
    | some kd =>
      rw [er] at hres
      obtain ⟨pk, rfl, hk⟩ := hres
      have kl := kdT_len (o3 kd er)
      refine ⟨_, rfl, p, _, 2, _, rfl, rfl, hp1, rfl, rfl, _, rfl, ifT (by rw [decide_eq_false nnR]; rfl) ⟨_, rfl, _, _, rfl, rfl, (by rw [sizeLine_eq]; (try simp only [len_app, l_eq, l_dot, l_sq1, l_sq2, l_sq3, l_sq4, l_inp, l_new, l_em, l_op, l_cl, l_sp, l_emp, l_col, l_rec, l_arr, l_def, l_2, l_var, l_2var, l_glo, l_nl, l_dd]); omega), _, rfl, p, _, 2, _, rfl, rfl, hp1, rfl, .ref pk, kd, rfl, ⟨pk, rfl, Same.tup sm1 hk⟩, o3 kd er, _, _, rfl, rfl, (by rw [sizeLine_eq]; (try simp only [len_app, l_eq, l_dot, l_sq1, l_sq2, l_sq3, l_sq4, l_inp, l_new, l_em, l_op, l_cl, l_sp, l_emp, l_col, l_rec, l_arr, l_def, l_2, l_var, l_2var, l_glo, l_nl, l_dd]); omega), rfl, ?_⟩⟩
      have ef : fnHead x = ("def " : Str) ++ x.name ++ ("(" : Str) ++ tj ++ (")" : Str) ++ (": " : Str) ++ kdT kd := by
        unfold fnHead
        rw [er, ej]
        exact (str_assoc _ _ _).symm
      rw [ef]
      rfl
  rintro σ H5 ⟨rfl, rfl⟩
  -- variables
  refine ⟨_, rfl, p, _, 3, _, rfl, rfl, hp1, rfl, q2, rfl, ⟨_, Same.tup sm1 h2⟩, fun D2 hD2 => ?_⟩
  refine lc_tupS (K := K) (xs := vs2) (al := x.own) (f := fun x => ("  var " : Str) ++ declT x) (Same.tup sm1 h2) len2 (by omega) hD2 (fun _ => rfl) ?_ ?_
  · intro i y e H' R hy he sm k
    obtain ⟨pp, kv, rfl, hpp, hk⟩ := DcAt.keep (Keeps.of_same (sm1.trans sm)) (a2.get he hy)
    have oe := o4.2 e (List.mem_of_getElem? he)
    have n20 := oe.1
    have kl := kdT_len oe.2
    refine ⟨_, rfl, pp, _, 0, _, rfl, rfl, hpp, rfl, _, _, rfl, rfl, (by rw [sizeLine_eq]; (try simp only [len_app, l_eq, l_dot, l_sq1, l_sq2, l_sq3, l_sq4, l_inp, l_new, l_em, l_op, l_cl, l_sp, l_emp, l_col, l_rec, l_arr, l_def, l_2, l_var, l_2var, l_glo, l_nl, l_dd]); omega), _, _, rfl, rfl, (by rw [sizeLine_eq]; (try simp only [len_app, l_eq, l_dot, l_sq1, l_sq2, l_sq3, l_sq4, l_inp, l_new, l_em, l_op, l_cl, l_sp, l_emp, l_col, l_rec, l_arr, l_def, l_2, l_var, l_2var, l_glo, l_nl, l_dd]); omega), _, rfl, pp, _, 1, _, rfl, rfl, hpp, rfl, kv, e.2, rfl, hk, oe.2, _, _, rfl, rfl, (by rw [sizeLine_eq]; (try simp only [len_app, l_eq, l_dot, l_sq1, l_sq2, l_sq3, l_sq4, l_inp, l_new, l_em, l_op, l_cl, l_sp, l_emp, l_col, l_rec, l_arr, l_def, l_2, l_var, l_2var, l_glo, l_nl, l_dd]); omega), ?_⟩
    have es : ("  var " : Str) ++ e.1 ++ (": " : Str) ++ kdT e.2 = ("  var " : Str) ++ declT e := by
      unfold declT
      simp only [str_assoc]
    rw [es]
    exact k _ (Same.refl _)
  intro H2 sm2 hD2'
  have sm12 := sm1.trans sm2
  have lb := Bd.lines_len 1 x.body
  have hp2 := Same.tup sm12 hp
  refine ⟨_, rfl, by show 1 ≤ sizeLine; decide, fun z hz => ⟨_, rfl, ?_⟩⟩
  have sz := Same.new hz (.lst [.str (fnHead x)])
  refine ⟨z, D2, _, _, rfl, rfl, upd_same, sz _ _ hD2', ?_, fun e1 he1 => ?_⟩
  · simp only [List.length_map, List.length_cons, List.length_nil]
    rw [sizeLine_eq]
    omega
  have s1 := sz.trans (Same.new he1 (.lst ([V.str (fnHead x)] ++ (x.own.map (fun x => ("  var " : Str) ++ declT x)).map V.str)))
  have hp3 := Same.tup s1 hp2
  refine ⟨_, rfl, p, _, 4, _, rfl, rfl, hp3, rfl, q3, vs3, x.body, 1, rfl, Same.tup (sm12.trans s1) h3, BdL.keep (Keeps.of_same (sm12.trans s1)) hb, o5, o6, by decide, by decide, fun D3 H3 sm3 hD30 hD3 => ?_⟩
  refine ⟨e1, D3, _, _, rfl, rfl, sm3 _ _ upd_same, hD3, ?_, fun e2 he2 => ?_⟩
  · simp only [List.length_append, List.length_cons, List.length_map, List.length_nil]
    rw [sizeLine_eq]
    omega
  refine ⟨by show 1 ≤ sizeLine; decide, fun y hy => ?_⟩
  have ne2 : e2 ≠ y := by
    intro z
    rw [← z, upd_same] at hy
    cases hy
  refine ⟨e2, y, _, _, rfl, rfl, Same.new hy _ _ _ upd_same, upd_same, ?_, fun e3 he3 => ?_⟩
  · simp only [List.length_append, List.length_cons, List.length_map, List.length_nil]
    rw [sizeLine_eq]
    omega
  have sA := (sm12.trans s1).trans (sm3.trans ((Same.new he2 (.lst ([V.str (fnHead x)] ++ (x.own.map (fun x => ("  var " : Str) ++ declT x)).map V.str ++ (x.body.lines 1).map V.str))).trans (Same.new hy (.lst [.str "end"]))))
  refine q e3 _ (sA.trans (Same.new he3 _)) (sA.free he3) ?_
  rw [upd_same]
  unfold fnLines
  simp only [List.map_append, List.map_cons, List.map_nil]

theorem ok_l_program_lines (T : Txt w K mg) : FnOk P w K mg base CX0 23 T.a_l_program_lines T.d_l_program_lines p_l_program_lines (spPrL K) := by
  have g_l_kind_text := ok_l_kind_text (P := P) (w := w) (K := K) (base := base) T
  have g_l_function_lines := ok_l_function_lines (P := P) (w := w) (K := K) (base := base) T
  refine T.F_l_program_lines.ok sc_l_program_lines (fun vs H Q E h => ?_) (fun cdv A outer s H vs Q E hr h => ?_)
  · obtain ⟨v, x, rfl, _⟩ := h
    rfl
  obtain ⟨v, x, rfl, ⟨p, q1, vs1, q2, vs2, q3, vs3, q4, vs4, rfl, hp, h1, a1, h2, a2, h3, a3, h4, a4⟩, ho, q⟩ := h
  refine ⟨_, (pss_cons (ps_set (i := 1) sc_l_program_lines.nd rfl (Or.inl rfl) (pe_lst pa_nil))
      (pss_cons (ps_for PassesOwn.never rfl (pi_tup (pe_ix ix_tup (pv 0) pe_int (fun _ _ => rfl))) (pg_name (i := 2) sc_l_program_lines.nd rfl (Or.inl rfl))
        (pss_cons (ps_expr (pe_bm PySem.F.plainAttrs_list PySem.F.slot_list_append PySem.F.type_list_append mt_append (pv 1) (pa_cons (pe_op op_add_str pe_str (pe_ix ix_tup (pv 2) pe_int (fun _ _ => rfl))) pa_nil)))
      (pss_cons (ps_for PassesOwn.never rfl (pi_tup (pe_ix ix_tup (pv 2) pe_int (fun _ _ => rfl))) (pg_name (i := 3) sc_l_program_lines.nd rfl (Or.inl rfl))
        (pss_one (ps_expr (pe_bm PySem.F.plainAttrs_list PySem.F.slot_list_append PySem.F.type_list_append mt_append (pv 1) (pa_cons (pe_op op_add_str (pe_op op_add_str (pe_op op_add_str pe_str (pe_ix ix_tup (pv 3) pe_int (fun _ _ => rfl))) pe_str) (pe_call g_l_kind_text (hr.mono (by first | decide | omega)) rfl T.m_l_kind_text T.F_l_kind_text.kp T.b_l_kind_text .nil pass0 (pa_cons (pe_ix ix_tup (pv 3) pe_int (fun _ _ => rfl)) pa_nil))) pa_nil)))))
      (pss_one (ps_expr (pe_bm PySem.F.plainAttrs_list PySem.F.slot_list_append PySem.F.type_list_append mt_append (pv 1) (pa_cons pe_str pa_nil)))))))
      (pss_cons (ps_for PassesOwn.never rfl (pi_tup (pe_ix ix_tup (pv 0) pe_int (fun _ _ => rfl))) (pg_name (i := 4) sc_l_program_lines.nd rfl (Or.inl rfl))
        (pss_one (ps_expr (pe_bm PySem.F.plainAttrs_list PySem.F.slot_list_append PySem.F.type_list_append mt_append (pv 1) (pa_cons (pe_op op_add_str (pe_op op_add_str (pe_op op_add_str (pe_op op_add_str (pe_op op_add_str pe_str (pe_ix ix_tup (pv 4) pe_int (fun _ _ => rfl))) pe_str) (pe_callTy call_str_int rfl T.z_str bt_str (pa_cons (pe_ix ix_tup (pv 4) pe_int (fun _ _ => rfl)) pa_nil))) pe_str) (pe_call g_l_kind_text (hr.mono (by first | decide | omega)) rfl T.m_l_kind_text T.F_l_kind_text.kp T.b_l_kind_text .nil pass0 (pa_cons (pe_tup (pa_cons pe_str (pa_cons (pe_ix ix_tup (pv 4) pe_int (fun _ _ => rfl)) (pa_cons (pe_ix ix_tup (pv 4) pe_int (fun _ _ => rfl)) pa_nil)))) pa_nil))) pa_nil)))))
      (pss_cons (ps_for PassesOwn.never rfl (pi_tup (pe_ix ix_tup (pv 0) pe_int (fun _ _ => rfl))) (pg_name (i := 5) sc_l_program_lines.nd rfl (Or.inl rfl))
        (pss_one (ps_expr (pe_bm PySem.F.plainAttrs_list PySem.F.slot_list_append PySem.F.type_list_append mt_append (pv 1) (pa_cons (pe_op op_add_str (pe_op op_add_str (pe_op op_add_str pe_str (pe_ix ix_tup (pv 5) pe_int (fun _ _ => rfl))) pe_str) (pe_call g_l_kind_text (hr.mono (by first | decide | omega)) rfl T.m_l_kind_text T.F_l_kind_text.kp T.b_l_kind_text .nil pass0 (pa_cons (pe_ix ix_tup (pv 5) pe_int (fun _ _ => rfl)) pa_nil))) pa_nil)))))
      (pss_cons (ps_for PassesOwn.never rfl (pi_tup (pe_ix ix_tup (pv 0) pe_int (fun _ _ => rfl))) (pg_name (i := 6) sc_l_program_lines.nd rfl (Or.inl rfl))
        (pss_one (ps_set (i := 1) sc_l_program_lines.nd rfl (Or.inl rfl) (pe_op op_cat (pv 1) (pe_call g_l_function_lines (hr.mono (by first | decide | omega)) rfl T.m_l_function_lines T.F_l_function_lines.kp T.b_l_function_lines .nil pass0 (pa_cons (pv 6) pa_nil))))))
      (pss_one (ps_ret (pv 1)))))))), ?_⟩
  have pl := prLines_ok ho
  obtain ⟨o1, o2, o3, o4⟩ := ho
  have n1 := a1.len
  have n2 := a2.len
  have n3 := a3.len
  have n4 := a4.len
  have ll : (x.recs.map recLines).flatten.length + x.arrs.length + x.globs.length + (x.funs.map fnLines).flatten.length ≤ 4000 := by
    have := pl.1
    unfold prLines at this
    simp only [List.length_append, List.length_map] at this
    omega
  refine ⟨by show 0 ≤ sizeLine; decide, fun l hl0 => ?_⟩
  have hp1 := Same.tup (Same.new hl0 (.lst [])) hp
  refine ⟨_, rfl, p, _, 0, _, rfl, rfl, hp1, rfl, q1, rfl, ⟨_, Same.tup (Same.new hl0 _) h1⟩, for_tup (K := K) (a := q1) (xs := vs1) (fun i σ H' => Same H H' ∧ H' l = some (.lst ((((x.recs.take i).map recLines).flatten).map V.str)) ∧ ∃ v0 v1 v2 v3 v4 : Option V, σ = [some (.ref p), some (.ref l), v0, v1, v2, v3, v4])
    ⟨Same.new hl0 _, by rw [upd_same]; rfl, none, none, none, none, none, rfl⟩ (fun i σ H' _ ⟨h, _⟩ => Same.tup h h1) ?_ ?_⟩
  · rintro i y σ H' hi ⟨sm, hlk, v0, v1, v2, v3, v4, rfl⟩
    have hil : i < x.recs.length := n1 ▸ (List.getElem?_eq_some_iff.mp hi).1
    have he := List.getElem?_eq_getElem hil
    obtain ⟨pr, qf, us, rfl, hpr, hq, ha⟩ := RcAt.keep (Keeps.of_same sm) (a1.get he hi)
    have oe := o1.2 _ (List.mem_of_getElem? he)
    have n20 := oe.1
    have nf := oe.2.1
    have lo := (recLines_ok oe).1
    have fp := flat_part (f := recLines) (l := x.recs) (i := i)
    generalize hrc : x.recs[i] = r at he hpr ha oe n20 nf lo
    refine ⟨_, rfl, .inl ⟨rfl, _, SqL.of hlk⟩, _, rfl, pr, _, 0, _, rfl, rfl, hpr, rfl, _, _, rfl, rfl, (by rw [sizeLine_eq]; (try simp only [len_app, l_eq, l_dot, l_sq1, l_sq2, l_sq3, l_sq4, l_inp, l_new, l_em, l_op, l_cl, l_sp, l_emp, l_col, l_rec, l_arr, l_def, l_2, l_var, l_2var, l_glo, l_nl, l_dd]); omega), l, _, _, rfl, rfl, hlk, ?_, ?_⟩
    · simp only [List.length_map, List.length_append]
      rw [sizeLine_eq]
      omega
    have smA : Same H (upd H' l (.lst ((((x.recs.take i).map recLines).flatten).map V.str ++ [.str (("record " : Str) ++ r.name)]))) := Same.grow hl0 sm
    have kA := keep_lst (K := K) (o := .lst ((((x.recs.take i).map recLines).flatten).map V.str ++ [.str (("record " : Str) ++ r.name)])) hlk
    have hlA : (upd H' l (.lst ((((x.recs.take i).map recLines).flatten).map V.str ++ [.str (("record " : Str) ++ r.name)]))) l = some (.lst ((((x.recs.take i).map recLines).flatten ++ [("record " : Str) ++ r.name]).map V.str)) := by
      rw [upd_same, List.map_append]
      rfl
    have hprA := kA _ _ hpr
    have hqA := kA _ _ hq
    have haA := A2.imp (fun _ _ z => DcAt.keep kA z) ha
    generalize (upd H' l (.lst ((((x.recs.take i).map recLines).flatten).map V.str ++ [.str (("record " : Str) ++ r.name)]))) = HA at smA kA hlA hprA hqA haA ⊢
    have hf := haA.len
    refine ⟨_, rfl, pr, _, 1, _, rfl, rfl, hprA, rfl, qf, rfl, ⟨_, hqA⟩, for_tup (K := K) (a := qf) (xs := us) (fun j σ H2 => Same H H2 ∧ Keeps K HA H2 ∧ H2 l = some (.lst ((((x.recs.take i).map recLines).flatten ++ [("record " : Str) ++ r.name] ++ (r.fields.take j).map (fun f => ("  " : Str) ++ declT f)).map V.str)) ∧ ∃ v1 : Option V, σ = [some (.ref p), some (.ref l), some (.ref pr), v1, v2, v3, v4])
      ⟨smA, fun _ _ z => z, by rw [hlA]; simp, v1, rfl⟩ (fun j σ H2 _ ⟨_, h, _⟩ => h _ _ hqA) ?_ ?_⟩
    · rintro j y σ H2 hj ⟨sm2, k2, hl2, v1, rfl⟩
      have hjl : j < r.fields.length := hf ▸ (List.getElem?_eq_some_iff.mp hj).1
      have hje := List.getElem?_eq_getElem hjl
      obtain ⟨pp, kv, rfl, hpp, hk⟩ := DcAt.keep k2 (haA.get hje hj)
      have of := oe.2.2 _ (List.mem_of_getElem? hje)
      have nn := of.1
      have kl := kdT_len of.2
      have tl : (r.fields.take j).length ≤ r.fields.length := List.length_take_le' _ _
      refine ⟨_, rfl, .inl ⟨rfl, _, SqL.of hl2⟩, _, rfl, pp, _, 0, _, rfl, rfl, hpp, rfl, _, _, rfl, rfl, (by rw [sizeLine_eq]; (try simp only [len_app, l_eq, l_dot, l_sq1, l_sq2, l_sq3, l_sq4, l_inp, l_new, l_em, l_op, l_cl, l_sp, l_emp, l_col, l_rec, l_arr, l_def, l_2, l_var, l_2var, l_glo, l_nl, l_dd]); omega), _, _, rfl, rfl, (by rw [sizeLine_eq]; (try simp only [len_app, l_eq, l_dot, l_sq1, l_sq2, l_sq3, l_sq4, l_inp, l_new, l_em, l_op, l_cl, l_sp, l_emp, l_col, l_rec, l_arr, l_def, l_2, l_var, l_2var, l_glo, l_nl, l_dd]); omega), _, rfl, pp, _, 1, _, rfl, rfl, hpp, rfl, kv, _, rfl, hk, of.2, _, _, rfl, rfl, (by rw [sizeLine_eq]; (try simp only [len_app, l_eq, l_dot, l_sq1, l_sq2, l_sq3, l_sq4, l_inp, l_new, l_em, l_op, l_cl, l_sp, l_emp, l_col, l_rec, l_arr, l_def, l_2, l_var, l_2var, l_glo, l_nl, l_dd]); omega), l, _, _, rfl, rfl, hl2, ?_, Same.grow hl0 sm2, fun z ys hz => keep_lst hl2 _ _ (k2 _ _ hz), ?_, _, rfl⟩
      · simp only [List.length_map, List.length_append, List.length_cons, List.length_nil]
        rw [sizeLine_eq]
        omega
      · rw [upd_same, take_map hje, ← List.append_assoc, List.map_append (l₂ := [_])]
        have es : ("  " : Str) ++ r.fields[j].1 ++ (": " : Str) ++ kdT r.fields[j].2 = ("  " : Str) ++ declT r.fields[j] := by
          unfold declT
          simp only [str_assoc]
        rw [es]
        rfl
    · rintro σ H2 ⟨sm2, k2, hl2, v1, rfl⟩
      rw [hf, List.take_length] at hl2
      refine ⟨_, rfl, .inl ⟨rfl, _, SqL.of hl2⟩, l, _, _, rfl, rfl, hl2, ?_, Same.grow hl0 sm2, ?_, _, _, _, _, _, rfl⟩
      · simp only [List.length_map, List.length_append, List.length_cons, List.length_nil]
        rw [sizeLine_eq]
        omega
      · rw [upd_same, take_flat he]
        unfold recLines
        simp
  rintro σ H' ⟨sm, hlk, v0, v1, v2, v3, v4, rfl⟩
  rw [n1, List.take_length] at hlk
  have hpk := Same.tup sm hp
  refine ⟨_, rfl, p, _, 1, _, rfl, rfl, hpk, rfl, q2, rfl, ⟨_, Same.tup sm h2⟩, for_tup (K := K) (a := q2) (xs := vs2) (fun i σ H' => Same H H' ∧ H' l = some (.lst (((x.recs.map recLines).flatten ++ (x.arrs.take i).map arrT).map V.str)) ∧ ∃ v0 v1 v2 v3 v4 : Option V, σ = [some (.ref p), some (.ref l), v0, v1, v2, v3, v4])
    ⟨sm, by rw [hlk]; simp, v0, v1, v2, v3, v4, rfl⟩ (fun i σ H' _ ⟨h, _⟩ => Same.tup h h2) ?_ ?_⟩
  · rintro i y σ H' hi ⟨sm, hlk, v0, v1, v2, v3, v4, rfl⟩
    have hil : i < x.arrs.length := n2 ▸ (List.getElem?_eq_some_iff.mp hi).1
    have he := List.getElem?_eq_getElem hil
    obtain ⟨pa, rfl, hpa⟩ := ArAt.keep (Keeps.of_same sm) (a2.get he hi)
    have oe := o2.2 _ (List.mem_of_getElem? he)
    have tl : (x.arrs.take i).length ≤ x.arrs.length := List.length_take_le' _ _
    generalize x.arrs[i] = ar at he hpa oe
    have n20 := oe.1
    have f1 := numS_len oe.2.1
    have f2 := numS_len oe.2.2.1
    have f3 := numS_len oe.2.2.2
    have g1 : (Str.ofString (toString ar.len)).length ≤ 11 := f1
    refine ⟨_, rfl, .inl ⟨rfl, _, SqL.of hlk⟩, _, rfl, pa, _, 0, _, rfl, rfl, hpa, rfl, _, _, rfl, rfl, (by rw [sizeLine_eq]; (try simp only [len_app, l_eq, l_dot, l_sq1, l_sq2, l_sq3, l_sq4, l_inp, l_new, l_em, l_op, l_cl, l_sp, l_emp, l_col, l_rec, l_arr, l_def, l_2, l_var, l_2var, l_glo, l_nl, l_dd]); omega), _, _, rfl, rfl, (by rw [sizeLine_eq]; (try simp only [len_app, l_eq, l_dot, l_sq1, l_sq2, l_sq3, l_sq4, l_inp, l_new, l_em, l_op, l_cl, l_sp, l_emp, l_col, l_rec, l_arr, l_def, l_2, l_var, l_2var, l_glo, l_nl, l_dd]); omega), _, rfl, pa, _, 1, _, rfl, rfl, hpa, rfl, _, rfl, log_ok oe.2.1, _, _, rfl, rfl, (by rw [sizeLine_eq]; (try simp only [len_app, l_eq, l_dot, l_sq1, l_sq2, l_sq3, l_sq4, l_inp, l_new, l_em, l_op, l_cl, l_sp, l_emp, l_col, l_rec, l_arr, l_def, l_2, l_var, l_2var, l_glo, l_nl, l_dd]); omega), _, _, rfl, rfl, (by rw [sizeLine_eq]; (try simp only [len_app, l_eq, l_dot, l_sq1, l_sq2, l_sq3, l_sq4, l_inp, l_new, l_em, l_op, l_cl, l_sp, l_emp, l_col, l_rec, l_arr, l_def, l_2, l_var, l_2var, l_glo, l_nl, l_dd]); omega), _, rfl, pa, _, 2, _, rfl, rfl, hpa, rfl, _, rfl, pa, _, 3, _, rfl, rfl, hpa, rfl, by show 3 ≤ sizeLine; decide, fun u hu => ?_⟩
    have su := Same.new hu (.tup [.str "num", .int ar.lo, .int ar.hi])
    have kl := kdT_len (k := .num ar.lo ar.hi) ⟨oe.2.2.1, oe.2.2.2⟩
    refine ⟨.ref u, .num ar.lo ar.hi, rfl, ⟨u, rfl, SqT.of upd_same⟩, ⟨oe.2.2.1, oe.2.2.2⟩, _, _, rfl, rfl, (by rw [sizeLine_eq]; (try simp only [len_app, l_eq, l_dot, l_sq1, l_sq2, l_sq3, l_sq4, l_inp, l_new, l_em, l_op, l_cl, l_sp, l_emp, l_col, l_rec, l_arr, l_def, l_2, l_var, l_2var, l_glo, l_nl, l_dd]); omega), l, _, _, rfl, rfl, su _ _ hlk, ?_, Same.grow hl0 (sm.trans su), ?_, _, _, _, _, _, rfl⟩
    · simp only [List.length_map, List.length_append]
      rw [sizeLine_eq]
      omega
    · rw [upd_same, take_map he, ← List.append_assoc, List.map_append (l₂ := [_])]
      rfl
  rintro σ H' ⟨sm, hlk, v0, v1, v2, v3, v4, rfl⟩
  rw [n2, List.take_length] at hlk
  have hpk := Same.tup sm hp
  refine ⟨_, rfl, p, _, 2, _, rfl, rfl, hpk, rfl, q3, rfl, ⟨_, Same.tup sm h3⟩, for_tup (K := K) (a := q3) (xs := vs3) (fun i σ H' => Same H H' ∧ H' l = some (.lst (((x.recs.map recLines).flatten ++ x.arrs.map arrT ++ (x.globs.take i).map (fun g : Dc => ("global " : Str) ++ declT g)).map V.str)) ∧ ∃ v0 v1 v2 v3 v4 : Option V, σ = [some (.ref p), some (.ref l), v0, v1, v2, v3, v4])
    ⟨sm, by rw [hlk]; simp, v0, v1, v2, v3, v4, rfl⟩ (fun i σ H' _ ⟨h, _⟩ => Same.tup h h3) ?_ ?_⟩
  · rintro i y σ H' hi ⟨sm, hlk, v0, v1, v2, v3, v4, rfl⟩
    have hil : i < x.globs.length := n3 ▸ (List.getElem?_eq_some_iff.mp hi).1
    have he := List.getElem?_eq_getElem hil
    obtain ⟨pp, kv, rfl, hpp, hk⟩ := DcAt.keep (Keeps.of_same sm) (a3.get he hi)
    have oe := o3.2 _ (List.mem_of_getElem? he)
    have tl : (x.globs.take i).length ≤ x.globs.length := List.length_take_le' _ _
    generalize x.globs[i] = g at he hpp hk oe
    have n20 := oe.1
    have kl := kdT_len oe.2
    refine ⟨_, rfl, .inl ⟨rfl, _, SqL.of hlk⟩, _, rfl, pp, _, 0, _, rfl, rfl, hpp, rfl, _, _, rfl, rfl, (by rw [sizeLine_eq]; (try simp only [len_app, l_eq, l_dot, l_sq1, l_sq2, l_sq3, l_sq4, l_inp, l_new, l_em, l_op, l_cl, l_sp, l_emp, l_col, l_rec, l_arr, l_def, l_2, l_var, l_2var, l_glo, l_nl, l_dd]); omega), _, _, rfl, rfl, (by rw [sizeLine_eq]; (try simp only [len_app, l_eq, l_dot, l_sq1, l_sq2, l_sq3, l_sq4, l_inp, l_new, l_em, l_op, l_cl, l_sp, l_emp, l_col, l_rec, l_arr, l_def, l_2, l_var, l_2var, l_glo, l_nl, l_dd]); omega), _, rfl, pp, _, 1, _, rfl, rfl, hpp, rfl, kv, _, rfl, hk, oe.2, _, _, rfl, rfl, (by rw [sizeLine_eq]; (try simp only [len_app, l_eq, l_dot, l_sq1, l_sq2, l_sq3, l_sq4, l_inp, l_new, l_em, l_op, l_cl, l_sp, l_emp, l_col, l_rec, l_arr, l_def, l_2, l_var, l_2var, l_glo, l_nl, l_dd]); omega), l, _, _, rfl, rfl, hlk, ?_, Same.grow hl0 sm, ?_, _, _, _, _, _, rfl⟩
    · simp only [List.length_map, List.length_append]
      rw [sizeLine_eq]
      omega
    · have es : ("global " : Str) ++ g.1 ++ (": " : Str) ++ kdT g.2 = ("global " : Str) ++ declT g := by
        unfold declT
        simp only [str_assoc]
      rw [upd_same, take_map he, es, ← List.append_assoc, List.map_append (l₂ := [_])]
      rfl
  rintro σ H' ⟨sm, hlk, v0, v1, v2, v3, v4, rfl⟩
  rw [n3, List.take_length] at hlk
  have hpk := Same.tup sm hp
  refine ⟨_, rfl, p, _, 3, _, rfl, rfl, hpk, rfl, q4, rfl, ⟨_, Same.tup sm h4⟩, for_tup (K := K) (a := q4) (xs := vs4) (fun i σ H' => Same H H' ∧ ∃ l' : Addr, H l' = none ∧ H' l' = some (.lst (((x.recs.map recLines).flatten ++ x.arrs.map arrT ++ x.globs.map (fun g : Dc => ("global " : Str) ++ declT g) ++ ((x.funs.take i).map fnLines).flatten).map V.str)) ∧ ∃ v0 v1 v2 v3 v4 : Option V, σ = [some (.ref p), some (.ref l'), v0, v1, v2, v3, v4])
    ⟨sm, l, hl0, by rw [hlk]; simp, v0, v1, v2, v3, v4, rfl⟩ (fun i σ H' _ ⟨h, _⟩ => Same.tup h h4) ?_ ?_⟩
  · rintro i y σ H' hi ⟨sm, l', hl0', hlk, v0, v1, v2, v3, v4, rfl⟩
    have hil : i < x.funs.length := n4 ▸ (List.getElem?_eq_some_iff.mp hi).1
    have he := List.getElem?_eq_getElem hil
    have hy := FuAt.keep (Keeps.of_same sm) (a4.get he hi)
    have oe := o4.2 _ (List.mem_of_getElem? he)
    have lo := (fnLines_ok oe).1
    have fp := flat_part (f := fnLines) (l := x.funs) (i := i)
    refine ⟨_, rfl, _, rfl, y, _, rfl, hy, oe, fun D H1 s1 hD0 hD => ⟨l', D, _, _, rfl, rfl, s1 _ _ hlk, hD, ?_, fun e1 he1 => ⟨(sm.trans s1).trans (Same.new he1 _), e1, (sm.trans s1).free he1, ?_, _, _, _, _, _, rfl⟩⟩⟩
    · simp only [List.length_map, List.length_append]
      rw [sizeLine_eq]
      omega
    · rw [upd_same, take_flat he]
      simp
  rintro σ H' ⟨sm, l', hl0', hlk, v0, v1, v2, v3, v4, rfl⟩
  rw [n4, List.take_length] at hlk
  exact ⟨_, rfl, q l' H' sm hl0' hlk⟩
end
/-! ### the draws of programs -/
def spKind (K : PySem.W.Frag) : Sp := fun vs H Q _ => ∃ (a d : Addr) (wd : Bool), vs = [.ref a, .ref d, .bl wd] ∧ Src H a ∧ Wd H d ∧ ∀ (v : V) (k : Kd) (H' : Hp), Stp a H H' → k.ok → KdAt K H' v k → Q v H'
def spCount : Sp := fun vs H Q _ => ∃ (a : Addr) (n : Int), vs = [.ref a, .int n] ∧ Src H a ∧ 0 ≤ n ∧ n ≤ 1000 ∧ ∀ (r : Int) (H' : Hp), Stp a H H' → 0 ≤ r → (r ≤ n ∨ r ≤ 2) → Q (.int r) H'
def spPairs (K : PySem.W.Frag) : Sp := fun vs H Q _ => ∃ (a d : Addr) (n wd : Int), vs = [.ref a, .ref d, .int n, .int wd] ∧ Src H a ∧ Wd H d ∧ 0 ≤ n ∧ n ≤ 100 ∧
  ∀ (p : Addr) (us : List V) (xs : List Dc) (H' : Hp), Stp a H H' → H' p = some (.tup us) → A2 (DcAt K H') xs us → ((xs.length : Int) ≤ n ∨ xs.length ≤ 2) → (∀ x ∈ xs, Dc.ok x) → Q (.ref p) H'
theorem keeps_new {K : PySem.W.Frag} {H : Hp} {p : Addr} {o : HO} (h : H p = none) : Keeps K H (upd H p o) := Keeps.of_same (Same.new h o)
section
variable {P : Program} {w : World} {K : PySem.W.Frag} {mg : Str → Option Value} {base : Heap}
theorem ok_l_kind (T : Txt w K mg) : FnOk P w K mg base CX0 4 T.a_l_kind T.d_l_kind p_l_kind (spKind K) := by
  have g_l_pick := ok_l_pick (P := P) (w := w) (base := base) T
  have g_l_word := ok_l_word (P := P) (w := w) (K := K) (base := base) T
  have g_l_number := ok_l_number (P := P) (w := w) (K := K) (base := base) T
  refine T.F_l_kind.ok sc_l_kind (fun vs H Q E h => ?_) (fun cdv A outer s H vs Q E hr h => ?_)
  · obtain ⟨a, d, wd, rfl, _⟩ := h
    rfl
  obtain ⟨a, d, wd, rfl, hS, hW, q⟩ := h
  refine ⟨_, (pss_cons (ps_set (i := 3) sc_l_kind.nd rfl (Or.inl rfl) (pe_call g_l_pick (hr.mono (by first | decide | omega)) rfl T.m_l_pick T.F_l_pick.kp T.b_l_pick .nil pass0 (pa_cons (pv 0) (pa_cons pe_int pa_nil))))
      (pss_cons (ps_if (pt_cmpR op_eq (pv 3) pe_int (nomark _)) (pss_one (ps_ret (pe_tup (pa_cons pe_str pa_nil)))) pss_nil)
      (pss_cons (ps_if (pt_cmpR op_eq (pv 3) pe_int (nomark _)) (pss_one (ps_ret (pe_tup (pa_cons pe_str (pa_cons (pe_call g_l_word (hr.mono (by first | decide | omega)) rfl T.m_l_word T.F_l_word.kp T.b_l_word .nil pass0 (pa_cons (pv 0) (pa_cons (pv 1) pa_nil))) pa_nil))))) pss_nil)
      (pss_cons (ps_set (i := 4) sc_l_kind.nd rfl (Or.inl rfl) (pe_call g_l_number (hr.mono (by first | decide | omega)) rfl T.m_l_number T.F_l_number.kp T.b_l_number .nil pass0 (pa_cons (pv 0) (pa_cons (pv 1) pa_nil))))
      (pss_cons (ps_if (PW.pt (pw_and (pt_val (pv 2)) (pw_and1 (pt_cmpR op_eq (pv 3) pe_int (nomark _))))) (pss_one (ps_ret (pe_tup (pa_cons pe_str (pa_cons (pv 4) (pa_cons (pe_call g_l_number (hr.mono (by first | decide | omega)) rfl T.m_l_number T.F_l_number.kp T.b_l_number .nil pass0 (pa_cons (pv 0) (pa_cons (pv 1) pa_nil))) pa_nil)))))) pss_nil)
      (pss_one (ps_ret (pe_tup (pa_cons pe_str (pa_cons (pv 4) (pa_cons (pe_callB (call_max2 rfl) rfl T.z_max bb_max (pa_cons (pe_callB (call_min2 rfl) rfl T.z_min bb_min (pa_cons (pe_op op_sub (pe_op op_add (pv 4) (pe_call g_l_pick (hr.mono (by first | decide | omega)) rfl T.m_l_pick T.F_l_pick.kp T.b_l_pick .nil pass0 (pa_cons (pv 0) (pa_cons pe_int pa_nil)))) pe_int) (pa_cons (pe_op op_pow pe_int pe_int) pa_nil))) (pa_cons (pe_un un_neg (pe_op op_pow pe_int pe_int)) pa_nil))) pa_nil))))))))))), ?_⟩
  refine ⟨_, rfl, a, 4, rfl, hS, by decide, fun c H1 st1 c0 c1 => ?_⟩
  refine ⟨_, rfl, rfl, _, rfl, ite2 (fun _ => ?_) (fun _ => ?_)⟩
  · refine ⟨by show 1 ≤ sizeLine; decide, fun p hp => ?_⟩
    exact q _ .flag _ (st1.new hp) trivial ⟨p, rfl, SqT.of upd_same⟩
  refine ⟨_, rfl, rfl, _, rfl, ite2 (fun _ => ?_) (fun _ => ?_)⟩
  · refine ⟨_, rfl, _, rfl, a, d, rfl, st1.s, hW.stp hS st1, fun z H2 st2 hz => ⟨by show 2 ≤ sizeLine; decide, fun p hp => ?_⟩⟩
    exact q _ (.ref z) _ ((st1.trans st2).new hp) hz ⟨p, rfl, SqT.of upd_same⟩
  refine ⟨_, rfl, _, rfl, a, d, rfl, st1.s, hW.stp hS st1, fun lo H2 st2 b2 => ?_⟩
  have st12 := st1.trans st2
  have hW2 := hW.stp hS st12
  refine ⟨_, rfl, _, rfl, ite2 (fun _ => ⟨_, rfl, rfl, _, rfl, ite2 (fun _ => ?A) (fun _ => ?B)⟩) (fun _ => iteF ?C)⟩
  case A =>
    refine ⟨_, rfl, _, rfl, _, rfl, a, d, rfl, st2.s, hW2, fun hi H3 st3 b3 => ⟨by show 3 ≤ sizeLine; decide, fun p hp => ?_⟩⟩
    exact q _ (.num lo hi) _ ((st12.trans st3).new hp) ⟨b2, b3⟩ ⟨p, rfl, SqT.of upd_same⟩
  all_goals
    refine ⟨_, rfl, _, rfl, _, rfl, a, 12, rfl, st2.s, by decide, fun r H3 st3 r0 r1 => ?_⟩
    refine ⟨_, _, rfl, rfl, _, _, rfl, rfl, 10, 9, rfl, rfl, ⟨by decide, by decide, by decide⟩, _, _, rfl, ?_⟩
    refine ⟨10, 9, rfl, rfl, ⟨by decide, by decide, by decide⟩, _, rfl, _, _, rfl, by show 3 ≤ sizeLine; decide, fun p hp => ?_⟩
    have e9 : (10 ^ (9 : Int).toNat : Int) = 1000000000 := by decide
    refine q _ (.num lo _) _ ((st12.trans st3).new hp) ⟨b2, ?_⟩ ⟨p, rfl, SqT.of upd_same⟩
    rw [e9]
    constructor
    all_goals
      repeat' split
      all_goals omega
theorem ok_l_count (T : Txt w K mg) : FnOk P w K mg base CX0 2 T.a_l_count T.d_l_count p_l_count spCount := by
  have g_l_pick := ok_l_pick (P := P) (w := w) (base := base) T
  refine T.F_l_count.ok sc_l_count (fun vs H Q E h => ?_) (fun cdv A outer s H vs Q E hr h => ?_)
  · obtain ⟨a, n, rfl, _⟩ := h
    rfl
  obtain ⟨a, n, rfl, hS, n0, n1, q⟩ := h
  refine ⟨_, (pss_cons (ps_if (pt_cmpR op_eq (pe_call g_l_pick (hr.mono (by first | decide | omega)) rfl T.m_l_pick T.F_l_pick.kp T.b_l_pick .nil pass0 (pa_cons (pv 0) (pa_cons pe_int pa_nil))) pe_int (nomark _)) (pss_one (ps_ret (pe_call g_l_pick (hr.mono (by first | decide | omega)) rfl T.m_l_pick T.F_l_pick.kp T.b_l_pick .nil pass0 (pa_cons (pv 0) (pa_cons (pe_op op_add (pv 1) pe_int) pa_nil))))) pss_nil)
      (pss_one (ps_ret (pe_call g_l_pick (hr.mono (by first | decide | omega)) rfl T.m_l_pick T.F_l_pick.kp T.b_l_pick .nil pass0 (pa_cons (pv 0) (pa_cons pe_int pa_nil)))))), ?_⟩
  refine ⟨_, rfl, a, 6, rfl, hS, by decide, fun c H1 st1 c0 c1 => ?_⟩
  refine ⟨rfl, _, rfl, ite2 (fun _ => ?_) (fun _ => ?_)⟩
  · exact ⟨_, rfl, _, rfl, _, _, rfl, rfl, a, _, rfl, st1.s, by omega, fun r H2 st2 r0 r1 => q _ _ (st1.trans st2) r0 (by omega)⟩
  · exact ⟨_, rfl, a, 3, rfl, st1.s, by decide, fun r H2 st2 r0 r1 => q _ _ (st1.trans st2) r0 (by omega)⟩
theorem ok_l_pairs (T : Txt w K mg) : FnOk P w K mg base CX0 5 T.a_l_pairs T.d_l_pairs p_l_pairs (spPairs K) := by
  have g_l_count := ok_l_count (P := P) (w := w) (base := base) T
  have g_l_word := ok_l_word (P := P) (w := w) (K := K) (base := base) T
  have g_l_kind := ok_l_kind (P := P) (w := w) (K := K) (base := base) T
  refine T.F_l_pairs.ok sc_l_pairs (fun vs H Q E h => ?_) (fun cdv A outer s H vs Q E hr h => ?_)
  · obtain ⟨a, d, n, wd, rfl, _⟩ := h
    rfl
  obtain ⟨a, d, n, wd, rfl, hS, hW, n0, n1, q⟩ := h
  refine ⟨_, (pss_cons (ps_set (i := 4) sc_l_pairs.nd rfl (Or.inl rfl) (pe_lst pa_nil))
      (pss_cons (ps_for PassesOwn.never rfl (pi_range1 rfl T.z_range (pa_cons (pe_call g_l_count (hr.mono (by first | decide | omega)) rfl T.m_l_count T.F_l_count.kp T.b_l_count .nil pass0 (pa_cons (pv 0) (pa_cons (pv 2) pa_nil))) pa_nil)) (pg_name (i := 5) sc_l_pairs.nd rfl (Or.inl rfl))
        (pss_one (ps_expr (pe_bm PySem.F.plainAttrs_list PySem.F.slot_list_append PySem.F.type_list_append mt_append (pv 4) (pa_cons (pe_tup (pa_cons (pe_call g_l_word (hr.mono (by first | decide | omega)) rfl T.m_l_word T.F_l_word.kp T.b_l_word .nil pass0 (pa_cons (pv 0) (pa_cons (pv 1) pa_nil))) (pa_cons (pe_call g_l_kind (hr.mono (by first | decide | omega)) rfl T.m_l_kind T.F_l_kind.kp T.b_l_kind .nil pass0 (pa_cons (pv 0) (pa_cons (pv 1) (pa_cons (pe_cmpR op_lt (pv 5) (pv 3) (nomark _)) pa_nil)))) pa_nil))) pa_nil)))))
      (pss_one (ps_ret (pe_callTy call_tuple_of rfl T.z_tuple bt_tuple (pa_cons (pv 4) pa_nil)))))), ?_⟩
  refine ⟨by show 0 ≤ sizeLine; decide, fun l hl0 => ?_⟩
  have s0 := (Stp.refl hS).new (o := .lst []) hl0
  have nla : l ≠ a := (hS.ne hl0).symm
  refine ⟨_, rfl, _, rfl, a, n, rfl, s0.s, n0, by omega, fun r H1 st1 r0 r1 => ?_⟩
  have hl1 : H1 l = some (.lst []) := st1.k _ _ nla upd_same
  refine ⟨r, rfl, by omega, by omega, for_range (lo := 0) (fun i σ H' => Stp a H H' ∧ ∃ (us : List V) (xs : List Dc) (v : Option V), H' l = some (.lst us) ∧ A2 (DcAt K H') xs us ∧ xs.length = i ∧ (∀ x ∈ xs, Dc.ok x) ∧ σ = [some (.ref a), some (.ref d), some (.int n), some (.int wd), some (.ref l), v]) ⟨s0.trans st1, [], [], none, hl1, trivial, rfl, fun _ z => (List.not_mem_nil z).elim, rfl⟩ ?_ ?_⟩
  · rintro i σ H' hi ⟨st, us, xs, v, hlk, ha, hx, ho, rfl⟩
    have hu := ha.len
    have hWi := hW.stp hS st
    refine ⟨_, rfl, .inl ⟨rfl, _, SqL.of hlk⟩, _, rfl, _, rfl, a, d, rfl, st.s, hWi, fun z H2 st2 hz => ?_⟩
    refine ⟨_, rfl, _, rfl, _, rfl, _, rfl, _, _, rfl, rfl, a, d, _, rfl, st2.s, hWi.stp st.s st2, fun kv k H3 st3 hk hkv => ?_⟩
    refine ⟨by show 2 ≤ sizeLine; decide, fun p hp => ?_⟩
    have st23 := st2.trans st3
    have hl3 := st23.k _ _ nla hlk
    have nlp : l ≠ p := ne_of_none hl3 hp
    refine ⟨l, _, _, rfl, rfl, by rw [upd_ne nlp]; exact hl3, small1000 (by omega), ?_⟩
    have stA := (st.trans st23).new (o := .tup [.str z, kv]) hp
    have kA : Keeps K H' (upd H3 p (.tup [.str z, kv])) := fun y ys h => Same.tup (Same.new hp _) (st23.rd h st.s)
    have hlA : upd H3 p (.tup [.str z, kv]) l = some (.lst us) := by rw [upd_ne nlp]; exact hl3
    have kB := keep_lst (K := K) (o := .lst (us ++ [.ref p])) hlA
    refine ⟨?_, us ++ [.ref p], xs ++ [(z, k)], _, upd_same, A2.snoc ⟨p, kv, rfl, kB _ _ (SqT.of upd_same), KdAt.keep kB (KdAt.keep (keeps_new hp) hkv)⟩ (A2.imp (fun _ _ h => DcAt.keep kB (DcAt.keep kA h)) ha), by rw [List.length_append, hx]; rfl, ?_, rfl⟩
    · refine ⟨?_, fun b o hb e => ?_⟩
      · obtain ⟨c, m, k, h⟩ := stA.s
        exact ⟨c, m, k, by rw [upd_ne nla.symm]; exact h⟩
      · rw [upd_ne (ne_of_none e hl0)]
        exact stA.k b o hb e
    · intro x hm
      rcases List.mem_append.mp hm with hm | hm
      · exact ho x hm
      · obtain rfl := List.mem_singleton.mp hm
        exact ⟨hz, hk⟩
  · rintro σ H' ⟨st, us, xs, v, hlk, ha, hx, ho, rfl⟩
    refine ⟨_, rfl, l, us, rfl, .inl ⟨SqL.of hlk, fun p hp => ?_⟩⟩
    exact q p us xs _ (st.new hp) upd_same (A2.imp (fun _ _ h => DcAt.keep (keeps_new hp) h) ha) (by omega) ho
end
/-! ### the draws of statements -/
def kD : Key := Sum.inr "deep"
def kLf : Key := Sum.inr "left"
/-- the world's bounds: how deep, how many statements are left -/
structure Wx (H : Hp) (d : Addr) (n : Int) : Prop where
  wd : Wd H d
  ex : ∃ (kvs : List (Key × V)) (deep : Int), H d = some (.dK kvs) ∧ valV kvs kD = some (.int deep) ∧ valV kvs kLf = some (.int n) ∧ deep ≤ 3 ∧ kvs.length ≤ 10
theorem Wx.same {H H' : Hp} {d : Addr} {n : Int} (s : Same H H') (h : Wx H d n) : Wx H' d n := by
  obtain ⟨kvs, deep, h1, h2⟩ := h.ex
  exact ⟨h.wd.same s, kvs, deep, s _ _ h1, h2⟩
theorem Wx.stp {H H' : Hp} {a d : Addr} {n : Int} (h : Wx H d n) (hs : Src H a) (s : Stp a H H') : Wx H' d n := by
  obtain ⟨kvs, deep, h1, h2⟩ := h.ex
  have h0 := hs
  obtain ⟨c, m, k, hs⟩ := hs
  have n1 : d ≠ a := ne_of h1 hs (by intro z; cases z)
  exact ⟨h.wd.stp h0 s, kvs, deep, s.k _ _ n1 h1, h2⟩
def signsL : List Str := ["set", "input", "new", "free", "load", "store", "get", "put", "call", "return", "break", "assert"]
theorem signs_mem {v : V} (h : v ∈ signsL.map V.str) : ∃ s ∈ signsL, v = .str s := by
  obtain ⟨s, h1, h2⟩ := List.mem_map.mp h
  exact ⟨s, h1, h2.symm⟩
/-- a leaf: a statement without bodies, and its count -/
def spLeaf (K : PySem.W.Frag) : Sp := fun vs H Q _ => ∃ (a d : Addr) (n : Int), vs = [.ref a, .ref d] ∧ Src H a ∧ Wx H d n ∧ ∀ (v : V) (s : Sm) (H' : Hp), Stp a H H' → SmAt K H' s v → (∀ m, s.ok m) → s.cnt = 1 → Q v H'
theorem ExL.snoc {K : PySem.W.Frag} {H : Hp} {e : Ex} {v : V} (h : ExAt K H e v) : ∀ {es : List Ex} {vs : List V}, ExL K H es vs → ExL K H (es ++ [e]) (vs ++ [v])
  | [], [], _ => ⟨h, trivial⟩
  | _ :: _, _ :: _, q => ⟨q.1, ExL.snoc h q.2⟩
  | [], _ :: _, q => q.elim
  | _ :: _, [], q => q.elim
theorem in3 {x a b c : Str} : inV (V.str x) [.str a, .str b, .str c] = true ↔ (x = a ∨ x = b ∨ x = c) := by
  have e : ∀ z : Str, eqV (V.str z) (V.str x) = true ↔ x = z := fun z => by
    show (z == x) = true ↔ x = z
    rw [beq_iff_eq]
    exact ⟨fun h => h.symm, fun h => h.symm⟩
  unfold inV
  simp [e]
theorem mem3 {v x : V} (h : v ∈ [V.non, x, x]) : v = .non ∨ v = x := by
  simp at h
  exact h
theorem mem2 {v x : V} (h : v ∈ [V.non, x]) : v = .non ∨ v = x := by
  simp at h
  exact h
section
variable {P : Program} {w : World} {K : PySem.W.Frag} {mg : Str → Option Value} {base : Heap}
theorem ok_l_leaf (T : Txt w K mg) : FnOk P w K mg base CX0 13 T.a_l_leaf T.d_l_leaf p_l_leaf (spLeaf K) := by
  have g_l_pick := ok_l_pick (P := P) (w := w) (base := base) T
  have g_l_one := ok_l_one (P := P) (w := w) (K := K) (base := base) T
  have g_l_word := ok_l_word (P := P) (w := w) (K := K) (base := base) T
  have g_l_expression := (ok_draws (P := P) (w := w) (K := K) (base := base) T 4).1
  refine T.F_l_leaf.ok sc_l_leaf (fun vs H Q E h => ?_) (fun cdv A outer s H vs Q E hr h => ?_)
  · obtain ⟨a, d, n, rfl, _⟩ := h
    rfl
  obtain ⟨a, d, n, rfl, hS, hW, q⟩ := h
  refine ⟨_, (pss_cons (ps_set (i := 2) sc_l_leaf.nd rfl (Or.inl rfl) (pe_lst (pa_cons pe_str (pa_cons pe_str (pa_cons pe_str (pa_cons pe_str (pa_cons pe_str (pa_cons pe_str (pa_cons pe_str (pa_cons pe_str (pa_cons pe_str (pa_cons pe_str (pa_cons pe_str (pa_cons pe_str pa_nil))))))))))))))
      (pss_cons (ps_set (i := 3) sc_l_leaf.nd rfl (Or.inl rfl) (pe_call g_l_one (hr.mono (by first | decide | omega)) rfl T.m_l_one T.F_l_one.kp T.b_l_one .nil pass0 (pa_cons (pv 0) (pa_cons (pv 2) pa_nil))))
      (pss_cons (ps_set (i := 4) sc_l_leaf.nd rfl (Or.inl rfl) (pe_call g_l_word (hr.mono (by first | decide | omega)) rfl T.m_l_word T.F_l_word.kp T.b_l_word .nil pass0 (pa_cons (pv 0) (pa_cons (pv 1) pa_nil))))
      (pss_cons (ps_if (pt_cmpR op_eq (pv 3) pe_str (nomark _)) (pss_one (ps_ret (pe_tup (pa_cons pe_str pa_nil)))) pss_nil)
      (pss_cons (ps_if (pt_cmpR op_in_seq (pv 3) (pe_lst (pa_cons pe_str (pa_cons pe_str (pa_cons pe_str pa_nil)))) (by rfl)) (pss_one (ps_ret (pe_tup (pa_cons (pv 3) (pa_cons (pv 4) pa_nil))))) pss_nil)
      (pss_cons (ps_set (i := 5) sc_l_leaf.nd rfl (Or.inl rfl) (pe_call g_l_word (hr.mono (by first | decide | omega)) rfl T.m_l_word T.F_l_word.kp T.b_l_word .nil pass0 (pa_cons (pv 0) (pa_cons (pv 1) pa_nil))))
      (pss_cons (ps_if (pt_cmpR op_eq (pv 3) pe_str (nomark _)) (pss_one (ps_ret (pe_tup (pa_cons (pv 3) (pa_cons (pv 4) (pa_cons (pv 5) (pa_cons (pe_call g_l_word (hr.mono (by first | decide | omega)) rfl T.m_l_word T.F_l_word.kp T.b_l_word .nil pass0 (pa_cons (pv 0) (pa_cons (pv 1) pa_nil))) pa_nil))))))) pss_nil)
      (pss_cons (ps_set (i := 6) sc_l_leaf.nd rfl (Or.inl rfl) (pe_call g_l_expression (hr.mono (by first | decide | omega)) rfl T.m_l_expression T.F_l_expression.kp T.b_l_expression .nil pass0 (pa_cons (pv 0) (pa_cons (pv 1) (pa_cons (pe_dget (hu_of hr) (pv 1) pe_str (fun _ _ => rfl)) pa_nil)))))
      (pss_cons (ps_if (pt_cmpR op_eq (pv 3) pe_str (nomark _)) (pss_one (ps_ret (pe_tup (pa_cons (pv 3) (pa_cons (pv 4) (pa_cons (pv 6) pa_nil)))))) pss_nil)
      (pss_cons (ps_if (pt_cmpR op_eq (pv 3) pe_str (nomark _)) (pss_one (ps_ret (pe_tup (pa_cons (pv 3) (pa_cons (pv 6) pa_nil))))) pss_nil)
      (pss_cons (ps_if (pt_cmpR op_eq (pv 3) pe_str (nomark _)) (pss_one (ps_ret (pe_tup (pa_cons (pv 3) (pa_cons (pe_call g_l_one (hr.mono (by first | decide | omega)) rfl T.m_l_one T.F_l_one.kp T.b_l_one .nil pass0 (pa_cons (pv 0) (pa_cons (pe_lst (pa_cons pe_non (pa_cons (pv 6) (pa_cons (pv 6) pa_nil)))) pa_nil))) pa_nil))))) pss_nil)
      (pss_cons (ps_if (pt_cmpR op_eq (pv 3) pe_str (nomark _)) (pss_one (ps_ret (pe_tup (pa_cons (pv 3) (pa_cons (pv 4) (pa_cons (pv 6) (pa_cons (pe_call g_l_expression (hr.mono (by first | decide | omega)) rfl T.m_l_expression T.F_l_expression.kp T.b_l_expression .nil pass0 (pa_cons (pv 0) (pa_cons (pv 1) (pa_cons (pe_dget (hu_of hr) (pv 1) pe_str (fun _ _ => rfl)) pa_nil)))) pa_nil))))))) pss_nil)
      (pss_cons (ps_if (pt_cmpR op_eq (pv 3) pe_str (nomark _)) (pss_cons (ps_setLc (i := 7) (own := [("_law_k", 8)]) (g := gName 8) (tt := tYes) rfl sc_l_leaf.nd rfl rfl (sw_true rfl rfl rfl (by decide +kernel)) (pi_range1 rfl T.z_range (pa_cons (pe_call g_l_pick (hr.mono (by first | decide | omega)) rfl T.m_l_pick T.F_l_pick.kp T.b_l_pick .nil pass0 (pa_cons (pv 0) (pa_cons pe_int pa_nil))) pa_nil)) (blkOk_by (own := [("_law_k", 8)]) (N := n_l_leaf) (sc := defScope s_l_leaf) (by decide +kernel)) (fun _ _ _ _ _ => (pg_name (i := 8) sc_l_leaf.nd rfl (Or.inl rfl))) (fun _ _ _ _ _ => pts_nil) (fun _ _ _ _ _ => (pe_call g_l_expression (hr.mono (by first | decide | omega)) rfl T.m_l_expression T.F_l_expression.kp T.b_l_expression .nil pass0 (pa_cons (pv 0) (pa_cons (pv 1) (pa_cons pe_int pa_nil))))))
      (pss_one (ps_ret (pe_tup (pa_cons (pv 3) (pa_cons (pe_call g_l_one (hr.mono (by first | decide | omega)) rfl T.m_l_one T.F_l_one.kp T.b_l_one .nil pass0 (pa_cons (pv 0) (pa_cons (pe_lst (pa_cons pe_non (pa_cons (pv 4) pa_nil))) pa_nil))) (pa_cons (pv 5) (pa_cons (pe_callTy call_tuple_of rfl T.z_tuple bt_tuple (pa_cons (pv 7) pa_nil)) pa_nil)))))))) pss_nil)
      (pss_one (ps_ret (pe_tup (pa_cons (pv 3) (pa_cons (pv 4) (pa_cons (pv 5) (pa_cons (pv 6) pa_nil)))))))))))))))))))), ?_⟩
  refine ⟨by show 12 ≤ sizeLine; decide, fun l hl => ?_⟩
  have s0 := (Stp.refl hS).new (o := .lst (signsL.map V.str)) hl
  have nla : l ≠ a := (hS.ne hl).symm
  refine ⟨_, rfl, _, rfl, a, _, rfl, s0.s, .inl ⟨l, signsL.map V.str, rfl, nla, SqL.of upd_same, by decide, by decide, fun v H1 hv st1 => ?_⟩⟩
  obtain ⟨sg, hsg, rfl⟩ := signs_mem hv
  have sA := s0.trans st1
  have hWA := hW.stp hS sA
  refine ⟨_, rfl, _, rfl, a, d, rfl, sA.s, hWA.wd, fun x H2 st2 hx => ?_⟩
  have sB := sA.trans st2
  have hWB := hW.stp hS sB
  have T1 : ∀ {z : Str}, ¬ (decide (V.str sg = V.str z) = true) → sg ≠ z := fun h e => h (decide_eq_true (congrArg V.str e))
  have T2 : ∀ {z : Str}, decide (V.str sg = V.str z) = true → sg = z := fun h => V.str.inj (of_decide_eq_true h)
  -- break
  refine ⟨_, rfl, rfl, _, rfl, ite2 (fun _ => ?_) (fun c1 => ?_)⟩
  · refine ⟨by show 1 ≤ sizeLine; decide, fun p hp => ?_⟩
    exact q _ .brk _ (sB.new hp) ⟨p, rfl, SqT.of upd_same⟩ (fun m => by cases m <;> trivial) rfl
  -- input, new, free
  refine ⟨_, rfl, by show 3 ≤ sizeLine; decide, fun r hr => ⟨r, [.str "input", .str "new", .str "free"], rfl, .inl (SqL.of upd_same), rfl, rfl, _, rfl, ?_⟩⟩
  have sC := sB.new (o := .lst [.str "input", .str "new", .str "free"]) hr
  have hWC := hW.stp hS sC
  refine ite2 (fun c2 => ?_) (fun c2 => ?_)
  · have e2 : sg = "input" ∨ sg = "new" ∨ sg = "free" := in3.mp c2
    refine ⟨_, rfl, _, rfl, by show 2 ≤ sizeLine; decide, fun p hp => ?_⟩
    rcases e2 with rfl | rfl | rfl
    · exact q _ (.input x) _ (sC.new hp) ⟨p, rfl, SqT.of upd_same⟩ (fun m => by cases m <;> exact hx) rfl
    · exact q _ (.new x) _ (sC.new hp) ⟨p, rfl, SqT.of upd_same⟩ (fun m => by cases m <;> exact hx) rfl
    · exact q _ (.free x) _ (sC.new hp) ⟨p, rfl, SqT.of upd_same⟩ (fun m => by cases m <;> exact hx) rfl
  have n2 : ¬ (sg = "input" ∨ sg = "new" ∨ sg = "free") := fun h => c2 (in3.mpr h)
  refine ⟨_, rfl, _, rfl, a, d, rfl, sC.s, hWC.wd, fun y H3 st3 hy => ?_⟩
  have sD := sC.trans st3
  have hWD := hW.stp hS sD
  -- load
  refine ⟨_, rfl, rfl, _, rfl, ite2 (fun c3 => ?_) (fun c3 => ?_)⟩
  · obtain rfl := T2 c3
    refine ⟨_, rfl, _, rfl, _, rfl, _, rfl, _, rfl, a, d, rfl, sD.s, hWD.wd, fun f H4 st4 hf => ⟨by show 4 ≤ sizeLine; decide, fun p hp => ?_⟩⟩
    exact q _ (.load x y f) _ ((sD.trans st4).new hp) ⟨p, rfl, SqT.of upd_same⟩ (fun m => by cases m <;> exact ⟨hx, hy, hf⟩) rfl
  obtain ⟨kvs, deep, hd1, hd2, hd3, hd4, _⟩ := hWD.ex
  refine ⟨_, rfl, _, rfl, _, rfl, d, _, rfl, DGet.at hd1 hd2, a, d, deep, rfl, sD.s, hWD.wd, by omega, by decide, fun u e H5 st5 oe he => ?_⟩
  have sE := sD.trans st5
  have hWE := hW.stp hS sE
  -- set
  refine ⟨_, rfl, rfl, _, rfl, ite2 (fun c4 => ?_) (fun c4 => ?_)⟩
  · obtain rfl := T2 c4
    refine ⟨_, rfl, _, rfl, _, rfl, by show 3 ≤ sizeLine; decide, fun p hp => ?_⟩
    exact q _ (.set x e) _ (sE.new hp) ⟨p, u, rfl, SqT.of upd_same, ExAt.keep (keeps_new hp) he⟩ (fun m => by cases m <;> exact ⟨hx, oe⟩) rfl
  -- assert
  refine ⟨_, rfl, rfl, _, rfl, ite2 (fun c5 => ?_) (fun c5 => ?_)⟩
  · obtain rfl := T2 c5
    refine ⟨_, rfl, _, rfl, by show 2 ≤ sizeLine; decide, fun p hp => ?_⟩
    exact q _ (.asrt e) _ (sE.new hp) ⟨p, u, rfl, SqT.of upd_same, ExAt.keep (keeps_new hp) he⟩ (fun m => by cases m <;> exact oe) rfl
  -- return
  refine ⟨_, rfl, rfl, _, rfl, ite2 (fun c6 => ?_) (fun c6 => ?_)⟩
  · obtain rfl := T2 c6
    refine ⟨_, rfl, _, rfl, _, rfl, _, rfl, by show 3 ≤ sizeLine; decide, fun t ht => ?_⟩
    have sF := sE.new (o := .lst [.non, u, u]) ht
    refine ⟨a, _, rfl, sF.s, .inl ⟨t, [.non, u, u], rfl, (sE.s.ne ht).symm, SqL.of upd_same, by show 0 < 3; decide, by show 3 < 1000; decide, fun v H6 hv st6 => ?_⟩⟩
    have he6 : ExAt K H6 e u := ExAt.keep (Keeps.of_stp st6 sF.s) (ExAt.keep (keeps_new ht) he)
    refine ⟨by show 2 ≤ sizeLine; decide, fun p hp => ?_⟩
    rcases mem3 hv with rfl | rfl
    · exact q _ (.ret none) _ ((sF.trans st6).new hp) ⟨p, rfl, SqT.of upd_same⟩ (fun m => by cases m <;> exact fun z hz => nomatch hz) rfl
    · exact q _ (.ret (some e)) _ ((sF.trans st6).new hp) ⟨p, _, rfl, SqT.of upd_same, ExAt.keep (keeps_new hp) he6⟩ (fun m => by cases m <;> exact fun z hz => by cases hz; exact oe) rfl
  -- put
  refine ⟨_, rfl, rfl, _, rfl, ite2 (fun c7 => ?_) (fun c7 => ?_)⟩
  · obtain rfl := T2 c7
    obtain ⟨kvs', deep', ge1, ge2, ge3, ge4, _⟩ := hWE.ex
    refine ⟨_, rfl, _, rfl, _, rfl, _, rfl, _, rfl, _, rfl, d, _, rfl, DGet.at ge1 ge2, a, d, deep', rfl, sE.s, hWE.wd, by omega, by decide, fun u2 e2 H6 st6 oe2 he2 => ⟨by show 4 ≤ sizeLine; decide, fun p hp => ?_⟩⟩
    exact q _ (.put x e e2) _ ((sE.trans st6).new hp) ⟨p, u, u2, rfl, SqT.of upd_same, ExAt.keep (keeps_new hp) (ExAt.keep (Keeps.of_stp st6 sE.s) he), ExAt.keep (keeps_new hp) he2⟩ (fun m => by cases m <;> exact ⟨hx, oe, oe2⟩) rfl
  -- call
  refine ⟨_, rfl, rfl, _, rfl, ite2 (fun c8 => ?_) (fun c8 => ?_)⟩
  · obtain rfl := T2 c8
    refine ⟨_, rfl, a, 4, rfl, sE.s, by decide, fun m H6 st6 m0 m1 => ?_⟩
    have sF := sE.trans st6
    refine ⟨m, rfl, by omega, by omega, fun D hD => ?_⟩
    have nDa : D ≠ a := (sF.s.ne hD).symm
    refine lc_range (lo := 0) (n := m.toNat) (fun i H' => Stp a H H' ∧ ∃ (us : List V) (es : List Ex), H' D = some (.lst us) ∧ ExL K H' es us ∧ es.length = i ∧ ∀ e ∈ es, e.ok 4) ?_ ?_ ?_
    · exact ⟨sF.new hD, [], [], upd_same, trivial, rfl, fun _ z => (List.not_mem_nil z).elim⟩
    · rintro i H' hi ⟨st, us, es, hDk, hu, hle, ho⟩
      have hul := ExL.len hu
      refine ⟨rfl, _, rfl, _, rfl, a, d, 1, rfl, st.s, (hW.stp hS st).wd, by decide, by decide, fun v e1 H7 st7 o7 x7 => ?_⟩
      have hD7 := st7.k _ _ nDa hDk
      have hDH : H D = none := sF.free hD
      refine ⟨us, hD7, small1000 (by omega), ⟨?_, fun b o hb ee => ?_⟩, us ++ [v], es ++ [e1], upd_same, ?_, by rw [List.length_append, hle]; rfl, ?_⟩
      · obtain ⟨c, mm, k, h⟩ := st7.s
        exact ⟨c, mm, k, by rw [upd_ne nDa.symm]; exact h⟩
      · rw [upd_ne (ne_of_none ee hDH)]
        exact st7.k b o hb (st.k b o hb ee)
      · have kB := keep_lst (K := K) (o := .lst (us ++ [v])) hD7
        exact ExL.snoc (ExAt.keep kB x7) (ExL.keep kB (ExL.keep (Keeps.of_stp st7 st.s) hu))
      · intro z hm
        rcases List.mem_append.mp hm with hm | hm
        · exact ho z hm
        · obtain rfl := List.mem_singleton.mp hm
          exact o7
    · rintro H' ⟨st, us, es, hDk, hu, hle, ho⟩
      refine ⟨_, rfl, _, rfl, _, rfl, by show 2 ≤ sizeLine; decide, fun t ht => ?_⟩
      have sG := st.new (o := .lst [.non, .str x]) ht
      have nta : t ≠ a := (st.s.ne ht).symm
      have nDt : D ≠ t := ne_of_none hDk ht
      refine ⟨a, _, rfl, sG.s, .inl ⟨t, [.non, .str x], rfl, nta, SqL.of upd_same, by show 0 < 2; decide, by show 2 < 1000; decide, fun v H8 hv st8 => ?_⟩⟩
      have hD8 : H8 D = some (.lst us) := st8.k _ _ nDa (by rw [upd_ne nDt]; exact hDk)
      have hu8 : ExL K H8 es us := ExL.keep (Keeps.of_stp st8 sG.s) (ExL.keep (keeps_new ht) hu)
      refine ⟨_, rfl, _, rfl, D, us, rfl, .inl ⟨SqL.of hD8, fun t2 ht2 => ⟨by show 4 ≤ sizeLine; decide, fun p hp => ?_⟩⟩⟩
      have sI := ((sG.trans st8).new (o := .tup us) ht2)
      have hp2 : SqT K (upd (upd H8 t2 (.tup us)) p (.tup [.str "call", v, .str y, .ref t2])) t2 us := Same.tup (Same.new hp _) (SqT.of upd_same)
      have hu9 := ExL.keep (keeps_new (K := K) (o := .tup [.str "call", v, .str y, .ref t2]) hp) (ExL.keep (keeps_new (o := .tup us) ht2) hu8)
      have ok : ∀ z : Option Str, (∀ y, z = some y → y.length ≤ 20) → ∀ m, Sm.ok m (.call z y es) := fun z hz m => by
        cases m <;> exact ⟨hz, hy, by omega, ho⟩
      rcases mem2 hv with rfl | rfl
      · exact q _ (.call none y es) _ (sI.new hp) ⟨p, t2, us, rfl, SqT.of upd_same, hp2, hu9⟩ (ok _ fun _ hz => nomatch hz) rfl
      · exact q _ (.call (some x) y es) _ (sI.new hp) ⟨p, t2, us, rfl, SqT.of upd_same, hp2, hu9⟩ (ok _ fun _ hz => by cases hz; exact hx) rfl
  -- store, get
  refine ⟨_, rfl, _, rfl, _, rfl, _, rfl, by show 4 ≤ sizeLine; decide, fun p hp => ?_⟩
  have e9 : sg = "store" ∨ sg = "get" := by
    simp only [signsL, List.mem_cons, List.not_mem_nil, or_false] at hsg
    rcases hsg with h | h | h | h | h | h | h | h | h | h | h | h
    · exact absurd h (T1 c4)
    · exact absurd (.inl h) n2
    · exact absurd (.inr (.inl h)) n2
    · exact absurd (.inr (.inr h)) n2
    · exact absurd h (T1 c3)
    · exact .inl h
    · exact .inr h
    · exact absurd h (T1 c7)
    · exact absurd h (T1 c8)
    · exact absurd h (T1 c6)
    · exact absurd h (T1 c1)
    · exact absurd h (T1 c5)
  rcases e9 with rfl | rfl
  · exact q _ (.store x y e) _ (sE.new hp) ⟨p, u, rfl, SqT.of upd_same, ExAt.keep (keeps_new hp) he⟩ (fun m => by cases m <;> exact ⟨hx, hy, oe⟩) rfl
  · exact q _ (.get x y e) _ (sE.new hp) ⟨p, u, rfl, SqT.of upd_same, ExAt.keep (keeps_new hp) he⟩ (fun m => by cases m <;> exact ⟨hx, hy, oe⟩) rfl
end
/-! ### the draws of bodies -/
theorem putK_len {kvs : List (Key × V)} {k : Key} {v y : V} (h : valV kvs k = some v) : (putK kvs k y).length = kvs.length := by
  have e : (kvs.any fun kv => decide (kv.1 = k)) = true := by rw [valV_any, h]; rfl
  unfold putK
  rw [if_pos e, List.length_map]
/-- a source and the world's count of statements may have changed, nothing else -/
structure Stq (a d : Addr) (n : Int) (H H' : Hp) : Prop where
  s : Src H' a
  k : ∀ b o, b ≠ a → b ≠ d → H b = some o → H' b = some o
  w : ∀ kvs m, H d = some (.dK kvs) → valV kvs kLf = some (.int m) → ∃ kvs', H' d = some (.dK kvs') ∧ kvs'.length = kvs.length ∧ (∀ j, j ≠ kLf → valV kvs' j = valV kvs j) ∧ valV kvs' kLf = some (.int n)
theorem Wx.ne {H : Hp} {a d : Addr} {n : Int} (h : Wx H d n) (hs : Src H a) : d ≠ a := by
  obtain ⟨kvs, deep, h1, _⟩ := h.ex
  obtain ⟨c, m, k, hs⟩ := hs
  exact ne_of h1 hs (by intro z; cases z)
theorem Wx.stq {H H' : Hp} {a d : Addr} {n m : Int} (h : Wx H d m) (hs : Src H a) (s : Stq a d n H H') : Wx H' d n := by
  obtain ⟨kvs, deep, h1, h2, h3, h4, h5⟩ := h.ex
  obtain ⟨kvs0, ln, nz, lng, side, g1, g2, g3, g4, g5, g6⟩ := h.wd.ex
  rw [h1] at g1
  have e0 : kvs = kvs0 := by
    have := Option.some.inj g1
    cases this
    rfl
  subst e0
  obtain ⟨kvs', k1, k2, k3, k4⟩ := s.w _ _ h1 h3
  obtain ⟨c, mm, kk, hs⟩ := hs
  have n2 : ln ≠ a := ne_of g5 hs (by
    intro z
    have z' := HO.lst.inj z
    cases nz with
    | nil => cases z'
    | cons x r =>
      have z2 := (List.cons.inj z').1
      cases z2)
  have n3 : ln ≠ d := ne_of g5 h1 (by intro z; cases z)
  refine ⟨⟨kvs', ln, nz, lng, side, k1, ?_, ?_, ?_, s.k _ _ n2 n3 g5, g6⟩, kvs', deep, k1, ?_, k4, h4, by omega⟩
  · rw [k3 _ (by decide +kernel)]; exact g2
  · rw [k3 _ (by decide +kernel)]; exact g3
  · rw [k3 _ (by decide +kernel)]; exact g4
  · rw [k3 _ (by decide +kernel)]; exact h2
theorem Stq.refl {H : Hp} {a d : Addr} {n : Int} (hs : Src H a) (h : Wx H d n) : Stq a d n H H := ⟨hs, fun _ _ _ _ e => e, fun kvs m e1 e2 => ⟨kvs, e1, rfl, fun _ _ => rfl, by
  obtain ⟨kvs', deep, h1, h2, h3, _⟩ := h.ex
  rw [h1] at e1
  have := Option.some.inj e1
  cases this
  exact h3⟩⟩
theorem Stq.stp {H H' H2 : Hp} {a d : Addr} {n : Int} (nd : d ≠ a) (x : Stq a d n H H') (y : Stp a H' H2) : Stq a d n H H2 := ⟨y.s, fun b o h1 h2 e => y.k b o h1 (x.k b o h1 h2 e), fun kvs m e1 e2 => by
  obtain ⟨kvs', k1, k2⟩ := x.w kvs m e1 e2
  exact ⟨kvs', y.k _ _ nd k1, k2⟩⟩
theorem Stq.trans {H H' H2 : Hp} {a d : Addr} {n m : Int} (x : Stq a d n H H') (y : Stq a d m H' H2) : Stq a d m H H2 := ⟨y.s, fun b o h1 h2 e => y.k b o h1 h2 (x.k b o h1 h2 e), fun kvs m e1 e2 => by
  obtain ⟨kvs', k1, k2, k3, k4⟩ := x.w kvs m e1 e2
  obtain ⟨kvs2, j1, j2, j3, j4⟩ := y.w kvs' _ k1 k4
  exact ⟨kvs2, j1, j2.trans k2, fun j hj => (j3 j hj).trans (k3 j hj), j4⟩⟩
theorem Stq.new {H H' : Hp} {a d p : Addr} {n : Int} {o : HO} (x : Stq a d n H H') (h : H' p = none) : Stq a d n H (upd H' p o) := ⟨(Stp.of_same x.s (Same.new h o)).s, fun b u h1 h2 e => Same.new h o _ _ (x.k b u h1 h2 e), fun kvs m e1 e2 => by
  obtain ⟨kvs', k1, k2⟩ := x.w kvs m e1 e2
  exact ⟨kvs', Same.new h o _ _ k1, k2⟩⟩
theorem Stq.grow {H H' : Hp} {a d l : Addr} {n : Int} {o : HO} (hl : H l = none) (na : l ≠ a) (nd : l ≠ d) (x : Stq a d n H H') : Stq a d n H (upd H' l o) := ⟨by
  obtain ⟨c, m, k, h⟩ := x.s
  exact ⟨c, m, k, by rw [upd_ne na.symm]; exact h⟩, fun b u h1 h2 e => by
  rw [upd_ne (ne_of_none e hl)]
  exact x.k b u h1 h2 e, fun kvs m e1 e2 => by
  obtain ⟨kvs', k1, k2⟩ := x.w kvs m e1 e2
  exact ⟨kvs', by rw [upd_ne nd.symm]; exact k1, k2⟩⟩
theorem Stq.put {H H' : Hp} {a d : Addr} {n m : Int} {kvs : List (Key × V)} (nd : d ≠ a) (x : Stq a d n H H') (h : H' d = some (.dK kvs)) (hv : valV kvs kLf = some (.int n)) : Stq a d m H (upd H' d (.dK (putK kvs kLf (.int m)))) := ⟨by
  obtain ⟨c, m, k, h⟩ := x.s
  exact ⟨c, m, k, by rw [upd_ne nd.symm]; exact h⟩, fun b u h1 h2 e => by
  rw [upd_ne h2]
  exact x.k b u h1 h2 e, fun kv0 m0 e1 e2 => by
  obtain ⟨kvs', k1, k2, k3, k4⟩ := x.w kv0 m0 e1 e2
  rw [h] at k1
  have := Option.some.inj k1
  cases this
  refine ⟨_, upd_same, (putK_len hv).trans k2, fun j hj => ?_, ?_⟩
  · rw [valV_put, if_neg hj]
    exact k3 j hj
  · rw [valV_put, if_pos rfl]⟩
theorem Stq.free {H H' : Hp} {a d p : Addr} {n m : Int} (hw : Wx H d m) (x : Stq a d n H H') (h : H' p = none) : H p = none := by
  cases q : H p with
  | none => rfl
  | some o =>
    have na : p ≠ a := fun z => by
      obtain ⟨c, m, k, e⟩ := x.s
      rw [z, e] at h
      cases h
    have nd : p ≠ d := fun z => by
      obtain ⟨kvs, deep, h1, h2, h3, _⟩ := hw.ex
      obtain ⟨kvs', k1, _⟩ := x.w _ _ h1 h3
      rw [z, k1] at h
      cases h
    rw [x.k p o na nd q] at h
    cases h
theorem Stq.keeps {K : PySem.W.Frag} {H H' : Hp} {a d : Addr} {n m : Int} (hs : Src H a) (hw : Wx H d m) (x : Stq a d n H H') : Keeps K H H' := fun p xs h => by
  obtain ⟨c, mm, kk, hs⟩ := hs
  obtain ⟨kvs, deep, h1, _⟩ := hw.ex
  rcases h with (h | ⟨o, h⟩) | h
  · exact .inl (.inl (x.k _ _ (ne_of h hs (by intro z; cases z)) (ne_of h h1 (by intro z; cases z)) h))
  · exact .inl (.inr ⟨o, x.k _ _ (ne_of h hs (by intro z; cases z)) (ne_of h h1 (by intro z; cases z)) h⟩)
  · exact .inr h
def spBody (K : PySem.W.Frag) (m : Nat) : Sp := fun vs H Q _ => ∃ (a d : Addr) (u : Int) (D : Nat) (n : Int), vs = [.ref a, .ref d, .int u, .int (D : Int)] ∧ Src H a ∧ Wx H d n ∧ 0 ≤ u ∧ u ≤ 20 ∧ D < m ∧ 0 ≤ n ∧
  ∀ (p : Addr) (us : List V) (b : Bd) (n' : Int) (H' : Hp), Stq a d n' H H' → H' p = some (.tup us) → BdL K H' b us → b.ok D → 0 ≤ n' → (b.cnt : Int) + n' ≤ n → Q (.ref p) H'
section
variable {P : Program} {w : World} {K : PySem.W.Frag} {mg : Str → Option Value} {base : Heap}
theorem ok_l_body0 (T : Txt w K mg) {m : Nat} (g_l_body : FnOk P w K mg base CX0 (m + 14) T.a_l_body T.d_l_body p_l_body (spBody K m)) :
    FnOk P w K mg base CX0 (m + 15) T.a_l_body T.d_l_body p_l_body (spBody K (m + 1)) := by
  have g_l_pick := ok_l_pick (P := P) (w := w) (base := base) T
  have g_l_leaf := ok_l_leaf (P := P) (w := w) (K := K) (base := base) T
  have g_l_expression := (ok_draws (P := P) (w := w) (K := K) (base := base) T 4).1
  refine T.F_l_body.ok sc_l_body (fun vs H Q E h => ?_) (fun cdv A outer s H vs Q E hr h => ?_)
  · obtain ⟨a, d, u, D, n, rfl, _⟩ := h
    rfl
  obtain ⟨a, d, u, D, n, rfl, hS, hW, u0, u1, hD, hn, q⟩ := h
  have nd := hW.ne hS
  refine ⟨_, (pss_cons (ps_set (i := 4) sc_l_body.nd rfl (Or.inl rfl) (pe_lst pa_nil))
      (pss_cons (ps_for PassesOwn.never rfl (pi_range1 rfl T.z_range (pa_cons (pe_call g_l_pick (hr.mono (by first | decide | omega)) rfl T.m_l_pick T.F_l_pick.kp T.b_l_pick .nil pass0 (pa_cons (pv 0) (pa_cons (pe_op op_add (pv 2) pe_int) pa_nil))) pa_nil)) (pg_name (i := 5) sc_l_body.nd rfl (Or.inl rfl))
        (pss_one (ps_if (pt_cmpR op_gt (pe_dget (hu_of hr) (pv 1) pe_str (fun _ _ => rfl)) pe_int (nomark _)) (pss_cons (ps_dput (hu_of hr) (pv 1) pe_str (pe_op op_sub (pe_dget (hu_of hr) (pv 1) pe_str (fun _ _ => rfl)) pe_int) rfl)
      (pss_cons (ps_set (i := 6) sc_l_body.nd rfl (Or.inl rfl) (pe_call g_l_pick (hr.mono (by first | decide | omega)) rfl T.m_l_pick T.F_l_pick.kp T.b_l_pick .nil pass0 (pa_cons (pv 0) (pa_cons pe_int pa_nil))))
      (pss_one (ps_if (PW.pt (pw_or (pt_cmpR op_eq (pv 3) pe_int (nomark _)) (pw_or1 (pt_cmpR op_gt (pv 6) pe_int (nomark _))))) (pss_one (ps_expr (pe_bm PySem.F.plainAttrs_list PySem.F.slot_list_append PySem.F.type_list_append mt_append (pv 4) (pa_cons (pe_call g_l_leaf (hr.mono (by first | decide | omega)) rfl T.m_l_leaf T.F_l_leaf.kp T.b_l_leaf .nil pass0 (pa_cons (pv 0) (pa_cons (pv 1) pa_nil))) pa_nil)))) (pss_cons (ps_set (i := 7) sc_l_body.nd rfl (Or.inl rfl) (pe_call g_l_expression (hr.mono (by first | decide | omega)) rfl T.m_l_expression T.F_l_expression.kp T.b_l_expression .nil pass0 (pa_cons (pv 0) (pa_cons (pv 1) (pa_cons (pe_dget (hu_of hr) (pv 1) pe_str (fun _ _ => rfl)) pa_nil)))))
      (pss_cons (ps_set (i := 8) sc_l_body.nd rfl (Or.inl rfl) (pe_call g_l_body (hr.mono (by first | decide | omega)) rfl T.m_l_body T.F_l_body.kp T.b_l_body .nil pass0 (pa_cons (pv 0) (pa_cons (pv 1) (pa_cons pe_int (pa_cons (pe_op op_sub (pv 3) pe_int) pa_nil))))))
      (pss_one (ps_if (pt_cmpR op_eq (pv 6) pe_int (nomark _)) (pss_one (ps_expr (pe_bm PySem.F.plainAttrs_list PySem.F.slot_list_append PySem.F.type_list_append mt_append (pv 4) (pa_cons (pe_tup (pa_cons pe_str (pa_cons (pv 7) (pa_cons (pv 8) pa_nil)))) pa_nil)))) (pss_one (ps_if (pt_cmpR op_eq (pv 6) pe_int (nomark _)) (pss_one (ps_expr (pe_bm PySem.F.plainAttrs_list PySem.F.slot_list_append PySem.F.type_list_append mt_append (pv 4) (pa_cons (pe_tup (pa_cons pe_str (pa_cons (pv 7) (pa_cons (pv 8) (pa_cons (pe_tup pa_nil) pa_nil))))) pa_nil)))) (pss_one (ps_expr (pe_bm PySem.F.plainAttrs_list PySem.F.slot_list_append PySem.F.type_list_append mt_append (pv 4) (pa_cons (pe_tup (pa_cons pe_str (pa_cons (pv 7) (pa_cons (pv 8) (pa_cons (pe_call g_l_body (hr.mono (by first | decide | omega)) rfl T.m_l_body T.F_l_body.kp T.b_l_body .nil pass0 (pa_cons (pv 0) (pa_cons (pv 1) (pa_cons pe_int (pa_cons (pe_op op_sub (pv 3) pe_int) pa_nil))))) pa_nil))))) pa_nil)))))))))))))) pss_nil)))
      (pss_one (ps_ret (pe_callTy call_tuple_of rfl T.z_tuple bt_tuple (pa_cons (pv 4) pa_nil)))))), ?_⟩
  refine ⟨by show 0 ≤ sizeLine; decide, fun l hl0 => ?_⟩
  have s0 := (Stq.refl hS hW).new (o := .lst []) hl0
  have nla : l ≠ a := (hS.ne hl0).symm
  have nld : l ≠ d := fun z => by
    obtain ⟨kvs, deep, h1, _⟩ := hW.ex
    rw [z, h1] at hl0
    cases hl0
  refine ⟨_, rfl, _, rfl, _, _, rfl, rfl, a, _, rfl, s0.s, by omega, fun r H1 st1 r0 r1 => ?_⟩
  have s1 := s0.stp nd st1
  have hl1 : H1 l = some (.lst []) := st1.k _ _ nla upd_same
  refine ⟨r, rfl, by omega, by omega, for_range (lo := 0) (fun i σ H' => ∃ (n' : Int) (us : List V) (b : Bd) (v5 v6 v7 v8 : Option V), Stq a d n' H H' ∧ H' l = some (.lst us) ∧ BdL K H' b us ∧ us.length ≤ i ∧ b.ok D ∧ 0 ≤ n' ∧ (b.cnt : Int) + n' ≤ n ∧ σ = [some (.ref a), some (.ref d), some (.int u), some (.int (D : Int)), some (.ref l), v5, v6, v7, v8])
    ⟨n, [], .nil, none, none, none, none, s1, hl1, rfl, Nat.le_refl _, trivial, hn, by show ((0 : Nat) : Int) + n ≤ n; omega, rfl⟩ ?_ ?_⟩
  · rintro i σ H' hi ⟨n', us, b, v5, v6, v7, v8, st, hlk, hb, hui, ob, hn', hc, rfl⟩
    have hWi := hW.stq hS st
    obtain ⟨kvs, deep, hd1, hd2, hd3, hd4, hd5⟩ := hWi.ex
    refine ⟨_, rfl, d, _, rfl, DGet.at hd1 hd3, _, _, rfl, rfl, _, rfl, ite2 (fun c => ?_) (fun c => ?_)⟩
    · have c' : 0 < n' := of_decide_eq_true c
      refine ⟨_, rfl, d, _, rfl, DGet.at hd1 hd3, _, _, rfl, rfl, _, rfl, d, _, rfl, DPut.k (k := kLf) hd1 (small1000 (by omega)), ?_⟩
      have sA := Stq.put (m := n' - 1) nd st hd1 hd3
      have sB := Stq.put (m := n' - 1) nd (Stq.refl st.s hWi) hd1 hd3
      have hlA : (upd H' d (.dK (putK kvs kLf (.int (n' - 1))))) l = some (.lst us) := by rw [upd_ne nld]; exact hlk
      have hbA := BdL.keep (Stq.keeps st.s hWi sB) hb
      generalize (upd H' d (.dK (putK kvs kLf (.int (n' - 1))))) = HA at sA sB hlA hbA ⊢
      -- the end of a turn
      have fin : ∀ (H5 : Hp) (v : V) (s1 : Sm) (n5 : Int) (v5 v6 v7 v8 : Option V), Stq a d n5 HA H5 → SmAt K H5 s1 v → s1.ok D → 0 ≤ n5 → (s1.cnt : Int) + n5 ≤ n' →
          ∃ acc, H5 l = some (.lst acc) ∧ acc.length < sizeLine ∧ ∃ (n' : Int) (us : List V) (b : Bd) (w5 w6 w7 w8 : Option V), Stq a d n' H (upd H5 l (.lst (acc ++ [v]))) ∧ (upd H5 l (.lst (acc ++ [v]))) l = some (.lst us) ∧ BdL K (upd H5 l (.lst (acc ++ [v]))) b us ∧ us.length ≤ i + 1 ∧ b.ok D ∧ 0 ≤ n' ∧ (b.cnt : Int) + n' ≤ n ∧ ([some (.ref a), some (.ref d), some (.int u), some (.int (D : Int)), some (.ref l), v5, v6, v7, v8] : List (Option V)) = [some (.ref a), some (.ref d), some (.int u), some (.int (D : Int)), some (.ref l), w5, w6, w7, w8] := by
        intro H5 v s1 n5 v5 v6 v7 v8 a1 a2 a3 a4 a5
        have hl5 := a1.k _ _ nla nld hlA
        have kB := keep_lst (K := K) (o := .lst (us ++ [v])) hl5
        refine ⟨us, hl5, small1000 (by omega), n5, us ++ [v], b.snoc s1, v5, v6, v7, v8, Stq.grow hl0 nla nld (sA.trans a1), upd_same, BdL.snoc (SmAt.keep kB a2) (BdL.keep kB (BdL.keep (Stq.keeps sA.s (hW.stq hS sA) a1) hbA)), ?_, Bd.ok_snoc a3 ob, a4, ?_, rfl⟩
        · rw [List.length_append]
          exact Nat.succ_le_succ hui
        · rw [Bd.cnt_snoc]
          omega
      have hWA := hW.stq hS sA
      refine ⟨_, rfl, a, 5, rfl, sA.s, by decide, fun ch H2 st2 ch0 ch1 => ?_⟩
      have hW2 := hWA.stp sA.s st2
      have s2 := (Stq.refl sA.s hWA).stp nd st2
      have hl2 := s2.k _ _ nla nld hlA
      refine ⟨_, rfl, rfl, _, rfl, ite2 (fun _ => iteT ?leaf1) (fun c2 => ⟨_, rfl, _, _, rfl, rfl, _, rfl, ite2 (fun _ => ?leaf2) (fun c3 => ?deep)⟩)⟩
      case leaf1 =>
        refine ⟨_, rfl, .inl ⟨rfl, _, SqL.of hl2⟩, _, rfl, _, rfl, a, d, _, rfl, s2.s, hW2, fun v s1 H5 st5 x5 o5 e5 => ?_⟩
        obtain ⟨acc, e1, e2, e3⟩ := fin H5 v s1 (n' - 1) (some (.int (0 + (i : Int)))) (some (.int ch)) v7 v8 (s2.stp nd st5) x5 (o5 D) (by omega) (by rw [e5]; omega)
        exact ⟨l, _, _, rfl, rfl, e1, e2, e3⟩
      case leaf2 =>
        refine ⟨_, rfl, .inl ⟨rfl, _, SqL.of hl2⟩, _, rfl, _, rfl, a, d, _, rfl, s2.s, hW2, fun v s1 H5 st5 x5 o5 e5 => ?_⟩
        obtain ⟨acc, e1, e2, e3⟩ := fin H5 v s1 (n' - 1) (some (.int (0 + (i : Int)))) (some (.int ch)) v7 v8 (s2.stp nd st5) x5 (o5 D) (by omega) (by rw [e5]; omega)
        exact ⟨l, _, _, rfl, rfl, e1, e2, e3⟩
      case deep =>
        have hD0 : D ≠ 0 := fun z => c2 (decide_eq_true (congrArg V.int (by rw [z]; rfl)))
        obtain ⟨D1, rfl⟩ : ∃ D1, D = D1 + 1 := ⟨D - 1, by omega⟩
        have eD : ((D1 + 1 : Nat) : Int) - 1 = (D1 : Int) := by omega
        obtain ⟨kv2, dp2, g1, g2, g3, g4, g5⟩ := hW2.ex
        refine ⟨_, rfl, _, rfl, _, rfl, d, _, rfl, DGet.at g1 g2, a, d, dp2, rfl, s2.s, hW2.wd, by omega, by decide, fun t e H3 st3 oe he => ?_⟩
        have s3 := s2.stp nd st3
        have hW3 := hWA.stq sA.s s3
        refine ⟨_, rfl, _, rfl, _, rfl, _, _, rfl, rfl, a, d, 3, D1, n' - 1, by show [V.ref a, V.ref d, V.int 3, V.int (((D1 + 1 : Nat) : Int) - 1)] = _; rw [eD], s3.s, hW3, by decide, by decide, by omega, by omega, fun p1 us1 b1 n1 H4 st4 hp1 hb1 ob1 n10 c1 => ?_⟩
        have s4 := s3.trans st4
        have hW4 := hWA.stq sA.s s4
        have he4 := ExAt.keep (Stq.keeps s3.s hW3 st4) he
        have hl4 := s4.k _ _ nla nld hlA
        refine ⟨_, rfl, rfl, _, rfl, ite2 (fun _ => ?_) (fun _ => ⟨_, rfl, rfl, _, rfl, ite2 (fun _ => ?_) (fun _ => ?_)⟩)⟩
        · refine ⟨_, rfl, .inl ⟨rfl, _, SqL.of hl4⟩, _, rfl, _, rfl, by show 3 ≤ sizeLine; decide, fun p hp => ?_⟩
          have kp := keeps_new (K := K) (o := .tup [.str "while", t, .ref p1]) hp
          obtain ⟨acc, e1, e2, e3⟩ := fin _ (.ref p) (.loop e b1) n1 (some (.int (0 + (i : Int)))) (some (.int ch)) (some t) (some (.ref p1)) (s4.new hp) ⟨p, t, p1, us1, rfl, SqT.of upd_same, ExAt.keep kp he4, kp _ _ (SqT.of hp1), BdL.keep kp hb1⟩ ⟨oe, ob1⟩ n10 (by show ((1 + b1.cnt : Nat) : Int) + n1 ≤ n'; omega)
          exact ⟨l, _, _, rfl, rfl, e1, e2, e3⟩
        · refine ⟨_, rfl, .inl ⟨rfl, _, SqL.of hl4⟩, _, rfl, _, rfl, by show 0 ≤ sizeLine; decide, fun z hz => ⟨by show 4 ≤ sizeLine; decide, fun p hp => ?_⟩⟩
          have kz := keeps_new (K := K) (o := .tup []) hz
          have kp := keeps_new (K := K) (o := .tup [.str "if", t, .ref p1, .ref z]) hp
          obtain ⟨acc, e1, e2, e3⟩ := fin _ (.ref p) (.iff e b1 .nil) n1 (some (.int (0 + (i : Int)))) (some (.int ch)) (some t) (some (.ref p1)) ((s4.new hz).new hp) ⟨p, t, p1, z, us1, [], rfl, SqT.of upd_same, ExAt.keep kp (ExAt.keep kz he4), kp _ _ (kz _ _ (SqT.of hp1)), BdL.keep kp (BdL.keep kz hb1), kp _ _ (SqT.of upd_same), rfl⟩ ⟨oe, ob1, trivial⟩ n10 (by show ((1 + b1.cnt + 0 : Nat) : Int) + n1 ≤ n'; omega)
          exact ⟨l, _, _, rfl, rfl, e1, e2, e3⟩
        · refine ⟨_, rfl, .inl ⟨rfl, _, SqL.of hl4⟩, _, rfl, _, rfl, _, rfl, _, rfl, _, rfl, _, _, rfl, rfl, a, d, 2, D1, n1, by show [V.ref a, V.ref d, V.int 2, V.int (((D1 + 1 : Nat) : Int) - 1)] = _; rw [eD], s4.s, hW4, by decide, by decide, by omega, n10, fun p2 us2 b2 n2 H5 st5 hp2 hb2 ob2 n20 c2 => ⟨by show 4 ≤ sizeLine; decide, fun p hp => ?_⟩⟩
          have k5 := Stq.keeps (K := K) s4.s hW4 st5
          have kp := keeps_new (K := K) (o := .tup [.str "if", t, .ref p1, .ref p2]) hp
          obtain ⟨acc, e1, e2, e3⟩ := fin _ (.ref p) (.iff e b1 b2) n2 (some (.int (0 + (i : Int)))) (some (.int ch)) (some t) (some (.ref p1)) ((s4.trans st5).new hp) ⟨p, t, p1, p2, us1, us2, rfl, SqT.of upd_same, ExAt.keep kp (ExAt.keep k5 he4), kp _ _ (k5 _ _ (SqT.of hp1)), BdL.keep kp (BdL.keep k5 hb1), kp _ _ (SqT.of hp2), BdL.keep kp hb2⟩ ⟨oe, ob1, ob2⟩ n20 (by show ((1 + b1.cnt + b2.cnt : Nat) : Int) + n2 ≤ n'; omega)
          exact ⟨l, _, _, rfl, rfl, e1, e2, e3⟩
    · exact ⟨n', us, b, _, v6, v7, v8, st, hlk, hb, by omega, ob, hn', hc, rfl⟩
  · rintro σ H' ⟨n', us, b, v5, v6, v7, v8, st, hlk, hb, hui, ob, hn', hc, rfl⟩
    refine ⟨_, rfl, l, us, rfl, .inl ⟨SqL.of hlk, fun p hp => ?_⟩⟩
    exact q p us b n' _ (st.new hp) upd_same (BdL.keep (keeps_new hp) hb) ob hn' hc
theorem ok_l_body (T : Txt w K mg) : ∀ m : Nat, FnOk P w K mg base CX0 (m + 14) T.a_l_body T.d_l_body p_l_body (spBody K m)
  | 0 => fn_vac fun vs H Q E h => by obtain ⟨a, d, u, D, n, _, _, _, _, _, h, _⟩ := h; omega
  | m + 1 => ok_l_body0 T (ok_l_body T m)
end
/-! ### the draws of programs -/
theorem two {sp : Int} (h : sp = 0 ∨ sp = 1) (x y : Int) : ∃ k : Int, atI [V.int x, V.int y] sp = some (.int k) ∧ (k = x ∨ k = y) := by
  rcases h with rfl | rfl
  · exact ⟨x, rfl, .inl rfl⟩
  · exact ⟨y, rfl, .inr rfl⟩
/-- the world while its names are drawn: at most i of them -/
def Wi (H : Hp) (d : Addr) (n : Int) (i : Nat) : Prop :=
  ∃ (kvs : List (Key × V)) (ln : Addr) (nz : List Str) (lng side deep : Int), H d = some (.dK kvs) ∧ valV kvs kN = some (.ref ln) ∧ valV kvs kL = some (.int lng) ∧ valV kvs kS = some (.int side) ∧ valV kvs kD = some (.int deep) ∧ valV kvs kLf = some (.int n) ∧
    H ln = some (.lst (nz.map V.str)) ∧ nz.length ≤ i ∧ (∀ z ∈ nz, z.length ≤ 20) ∧ (1 ≤ lng ∧ lng ≤ 12 ∧ 1 ≤ side ∧ side ≤ 40000) ∧ deep ≤ 3 ∧ kvs.length ≤ 10
theorem Wi.wx {H : Hp} {d : Addr} {n : Int} {i : Nat} (h : Wi H d n i) (hi : i ≤ 900) : Wx H d n := by
  obtain ⟨kvs, ln, nz, lng, side, deep, h1, h2, h3, h4, h5, h6, h7, h8, h9, h10, h11, h12⟩ := h
  exact ⟨⟨kvs, ln, nz, lng, side, h1, h2, h3, h4, h7, by omega, h9, h10⟩, kvs, deep, h1, h5, h6, h11, h12⟩
theorem Wi.stp {H H' : Hp} {a d : Addr} {n : Int} {i : Nat} (h : Wi H d n i) (hs : Src H a) (s : Stp a H H') : Wi H' d n i := by
  obtain ⟨kvs, ln, nz, lng, side, deep, h1, h2, h3, h4, h5, h6, h7, h8⟩ := h
  obtain ⟨c, m, k, hs⟩ := hs
  have n1 : d ≠ a := ne_of h1 hs (by intro z; cases z)
  have n2 : ln ≠ a := ne_of h7 hs (by
    intro z
    have z' := HO.lst.inj z
    cases nz with
    | nil => cases z'
    | cons x r =>
      have z2 := (List.cons.inj z').1
      cases z2)
  exact ⟨kvs, ln, nz, lng, side, deep, s.k _ _ n1 h1, h2, h3, h4, h5, h6, s.k _ _ n2 h7, h8⟩
def wKv5 (l : Addr) (lng side deep left : Int) : List (Key × V) := [(kN, .ref l), (kL, .int lng), (kS, .int side), (kD, .int deep), (kLf, .int left)]
theorem v1 (l : Addr) (a b c e : Int) : valV (mergeK [] (wKv5 l a b c e)) kN = some (.ref l) := by kernel_rfl
theorem v2 (l : Addr) (a b c e : Int) : valV (mergeK [] (wKv5 l a b c e)) kL = some (.int a) := by kernel_rfl
theorem v3 (l : Addr) (a b c e : Int) : valV (mergeK [] (wKv5 l a b c e)) kS = some (.int b) := by kernel_rfl
theorem v4 (l : Addr) (a b c e : Int) : valV (mergeK [] (wKv5 l a b c e)) kD = some (.int c) := by kernel_rfl
theorem v5 (l : Addr) (a b c e : Int) : valV (mergeK [] (wKv5 l a b c e)) kLf = some (.int e) := by kernel_rfl
theorem wi_at {H : Hp} {d l : Addr} {a b c e : Int} (h1 : H d = some (.dK (mergeK [] (wKv5 l a b c e)))) (h2 : H l = some (.lst [])) (ha : 1 ≤ a ∧ a ≤ 12 ∧ 1 ≤ b ∧ b ≤ 40000) (hc : c ≤ 3) : Wi H d e 0 :=
  ⟨_, l, [], a, b, c, h1, v1 .., v2 .., v3 .., v4 .., v5 .., h2, Nat.le_refl _, fun _ z => (List.not_mem_nil z).elim, ha, hc, by show 5 ≤ 10; decide⟩
def spProg (K : PySem.W.Frag) : Sp := fun vs H Q _ => ∃ (a : Addr) (sp : Int), vs = [.ref a, .int sp] ∧ (sp = 0 ∨ sp = 1) ∧ Src H a ∧ ∀ (v : V) (x : Pr) (H' : Hp), Stp a H H' → PrAt K H' x v → x.ok → Q v H'
theorem Stp.stq {H H' H2 : Hp} {a d : Addr} {n : Int} (hd : H d = none) (x : Stp a H H') (y : Stq a d n H' H2) : Stp a H H2 := ⟨y.s, fun b o hb e => y.k b o hb (ne_of_none e hd) (x.k b o hb e)⟩
theorem Stq.ndk {H H' : Hp} {a d l : Addr} {n m : Int} (hw : Wx H d m) (x : Stq a d n H H') (h : H' l = none) : l ≠ d := fun z => by
  obtain ⟨kvs, deep, h1, h2, h3, _⟩ := hw.ex
  obtain ⟨kvs', k1, _⟩ := x.w _ _ h1 h3
  rw [z, k1] at h
  cases h
theorem mem5 {v : V} (h : v ∈ [V.int 2, .int 4, .int 4, .int 6, .int 20]) : ∃ z : Int, v = .int z ∧ 0 ≤ z ∧ z ≤ 20 := by
  simp at h
  rcases h with rfl | rfl | rfl | rfl <;> exact ⟨_, rfl, by decide, by decide⟩
theorem mem4 {v : V} {sp : Int} (hs : sp = 0 ∨ sp = 1) (h : v ∈ [V.int 1, .int 2, .int 3, .int (7 - 3 * sp)]) : ∃ z : Nat, v = .int (z : Int) ∧ z < 8 := by
  simp at h
  rcases h with rfl | rfl | rfl | rfl
  · exact ⟨1, rfl, by decide⟩
  · exact ⟨2, rfl, by decide⟩
  · exact ⟨3, rfl, by decide⟩
  · rcases hs with rfl | rfl
    · exact ⟨7, rfl, by decide⟩
    · exact ⟨4, rfl, by decide⟩
theorem mem7 {v : V} {r : Int} (h0 : 0 ≤ r) (h9 : r ≤ 8) (h : v ∈ [V.int 1, .int 2, .int 1, .int 2, .int 3, .int 0, .int r]) : ∃ z : Int, v = .int z ∧ 0 ≤ z ∧ z ≤ 8 := by
  simp only [List.mem_cons, List.not_mem_nil, or_false] at h
  rcases h with rfl | rfl | rfl | rfl | rfl | rfl | rfl
  · exact ⟨1, rfl, by decide, by decide⟩
  · exact ⟨2, rfl, by decide, by decide⟩
  · exact ⟨1, rfl, by decide, by decide⟩
  · exact ⟨2, rfl, by decide, by decide⟩
  · exact ⟨3, rfl, by decide, by decide⟩
  · exact ⟨0, rfl, by decide, by decide⟩
  · exact ⟨_, rfl, h0, h9⟩
theorem all_snoc {α : Type} {p : α → Prop} {xs : List α} {x : α} (h : ∀ y ∈ xs, p y) (hx : p x) : ∀ y ∈ xs ++ [x], p y := fun y hy => by
  rcases List.mem_append.mp hy with hy | hy
  · exact h y hy
  · obtain rfl := List.mem_singleton.mp hy
    exact hx
theorem Stp.grow {H H' : Hp} {a l : Addr} {o : HO} (hl : H l = none) (na : l ≠ a) (x : Stp a H H') : Stp a H (upd H' l o) := ⟨by
  obtain ⟨c, m, k, h⟩ := x.s
  exact ⟨c, m, k, by rw [upd_ne na.symm]; exact h⟩, fun b u hb e => by
  rw [upd_ne (ne_of_none e hl)]
  exact x.k b u hb e⟩
theorem Wi.ne {H : Hp} {a d : Addr} {n : Int} {i : Nat} (h : Wi H d n i) (hs : Src H a) : d ≠ a := by
  obtain ⟨kvs, ln, nz, lng, side, deep, h1, _⟩ := h
  obtain ⟨c, m, k, hs⟩ := hs
  exact ne_of h1 hs (by intro z; cases z)
theorem lst_ne {H : Hp} {a ln : Addr} {nz : List Str} (hs : Src H a) (h : H ln = some (.lst (nz.map V.str))) : ln ≠ a := by
  obtain ⟨c, m, k, hs⟩ := hs
  exact ne_of h hs (by
    intro z
    have z' := HO.lst.inj z
    cases nz with
    | nil => cases z'
    | cons x r =>
      have z2 := (List.cons.inj z').1
      cases z2)
/-- a list of things at l -/
def Lst {α : Type} (R : Hp → α → V → Prop) (H : Hp) (l : Addr) (xs : List α) : Prop := ∃ us, H l = some (.lst us) ∧ A2 (R H) xs us
theorem Lst.keep {α : Type} {R : Hp → α → V → Prop} {H H' : Hp} {l : Addr} {xs : List α} (k : ∀ x v, R H x v → R H' x v) (e : ∀ o, H l = some o → H' l = some o) (h : Lst R H l xs) : Lst R H' l xs := by
  obtain ⟨us, h1, h2⟩ := h
  exact ⟨us, e _ h1, A2.imp k h2⟩
theorem Lst.push {α : Type} {R : Hp → α → V → Prop} {H : Hp} {l : Addr} {us : List V} {xs : List α} {x : α} {v : V} (k : ∀ y u, R H y u → R (upd H l (.lst (us ++ [v]))) y u) (h2 : A2 (R H) xs us) (hx : R H x v) : Lst R (upd H l (.lst (us ++ [v]))) l (xs ++ [x]) :=
  ⟨us ++ [v], upd_same, A2.snoc (k _ _ hx) (A2.imp k h2)⟩
mutual
theorem Sm.ok_up {d k : Nat} (h : d ≤ k) : ∀ {s : Sm}, s.ok d → s.ok k
  | .iff _ _ _, q => by
    cases d with
    | zero => exact q.elim
    | succ d =>
      cases k with
      | zero => omega
      | succ k => exact ⟨q.1, Bd.ok_up (by omega) q.2.1, Bd.ok_up (by omega) q.2.2⟩
  | .loop _ _, q => by
    cases d with
    | zero => exact q.elim
    | succ d =>
      cases k with
      | zero => omega
      | succ k => exact ⟨q.1, Bd.ok_up (by omega) q.2⟩
  | .set _ _, q => by cases d <;> cases k <;> exact q
  | .input _, q => by cases d <;> cases k <;> exact q
  | .new _, q => by cases d <;> cases k <;> exact q
  | .free _, q => by cases d <;> cases k <;> exact q
  | .load _ _ _, q => by cases d <;> cases k <;> exact q
  | .store _ _ _, q => by cases d <;> cases k <;> exact q
  | .get _ _ _, q => by cases d <;> cases k <;> exact q
  | .put _ _ _, q => by cases d <;> cases k <;> exact q
  | .call _ _ _, q => by cases d <;> cases k <;> exact q
  | .ret _, q => by cases d <;> cases k <;> exact q
  | .brk, q => by cases d <;> cases k <;> exact q
  | .asrt _, q => by cases d <;> cases k <;> exact q
theorem Bd.ok_up {d k : Nat} (h : d ≤ k) : ∀ {b : Bd}, b.ok d → b.ok k
  | .nil, _ => trivial
  | .cons _ _, q => ⟨Sm.ok_up h q.1, Bd.ok_up h q.2⟩
end
section
variable {P : Program} {w : World} {K : PySem.W.Frag} {mg : Str → Option Value} {base : Heap}
theorem ok_l_program (T : Txt w K mg) : FnOk P w K mg base CX0 23 T.a_l_program T.d_l_program p_l_program (spProg K) := by
  have g_l_pick := ok_l_pick (P := P) (w := w) (base := base) T
  have g_l_one := ok_l_one (P := P) (w := w) (K := K) (base := base) T
  have g_l_count := ok_l_count (P := P) (w := w) (base := base) T
  have g_l_name := ok_l_name (P := P) (w := w) (K := K) (base := base) T
  have g_l_word := ok_l_word (P := P) (w := w) (K := K) (base := base) T
  have g_l_number := ok_l_number (P := P) (w := w) (K := K) (base := base) T
  have g_l_kind := ok_l_kind (P := P) (w := w) (K := K) (base := base) T
  have g_l_pairs := ok_l_pairs (P := P) (w := w) (K := K) (base := base) T
  have g_l_body := ok_l_body (P := P) (w := w) (K := K) (base := base) T 8
  refine T.F_l_program.ok sc_l_program (fun vs H Q E h => ?_) (fun cdv A outer s H vs Q E hr h => ?_)
  · obtain ⟨a, sp, rfl, _⟩ := h
    rfl
  obtain ⟨a, sp, rfl, hsp, hS, q⟩ := h
  have h01 : 0 ≤ sp ∧ sp ≤ 1 := by omega
  refine ⟨_, (pss_cons (ps_set (i := 2) sc_l_program.nd rfl (Or.inl rfl) (pe_disp (pps_cons pe_str (pe_lst pa_nil) (pps_cons pe_str (pe_ix ix_list (pe_lst (pa_cons pe_int (pa_cons pe_int pa_nil))) (pv 1) (fun _ _ => rfl)) (pps_cons pe_str (pe_ix ix_list (pe_lst (pa_cons pe_int (pa_cons pe_int pa_nil))) (pv 1) (fun _ _ => rfl)) (pps_cons pe_str (pe_op op_sub pe_int (pv 1)) (pps_cons pe_str (pe_op op_sub pe_int (pe_op op_mul pe_int (pv 1))) pps_nil))))) (by rfl) (by rfl) (fun z => by cases z) (by decide)))
      (pss_cons (ps_for PassesOwn.never rfl (pi_range1 rfl T.z_range (pa_cons (pe_op op_add pe_int (pe_call g_l_pick (hr.mono (by first | decide | omega)) rfl T.m_l_pick T.F_l_pick.kp T.b_l_pick .nil pass0 (pa_cons (pv 0) (pa_cons pe_int pa_nil)))) pa_nil)) (pg_name (i := 3) sc_l_program.nd rfl (Or.inl rfl))
        (pss_one (ps_dput (hu_of hr) (pv 2) pe_str (pe_op op_cat (pe_dget (hu_of hr) (pv 2) pe_str (fun _ _ => rfl)) (pe_lst (pa_cons (pe_call g_l_name (hr.mono (by first | decide | omega)) rfl T.m_l_name T.F_l_name.kp T.b_l_name .nil pass0 (pa_cons (pv 0) (pa_cons (pv 2) pa_nil))) pa_nil))) rfl)))
      (pss_cons (ps_set (i := 4) sc_l_program.nd rfl (Or.inl rfl) (pe_lst pa_nil))
      (pss_cons (ps_for PassesOwn.never rfl (pi_range1 rfl T.z_range (pa_cons (pe_call g_l_count (hr.mono (by first | decide | omega)) rfl T.m_l_count T.F_l_count.kp T.b_l_count .nil pass0 (pa_cons (pv 0) (pa_cons (pe_ix ix_list (pe_lst (pa_cons pe_int (pa_cons pe_int pa_nil))) (pv 1) (fun _ _ => rfl)) pa_nil))) pa_nil)) (pg_name (i := 3) sc_l_program.nd rfl (Or.inl rfl))
        (pss_one (ps_expr (pe_bm PySem.F.plainAttrs_list PySem.F.slot_list_append PySem.F.type_list_append mt_append (pv 4) (pa_cons (pe_tup (pa_cons (pe_call g_l_word (hr.mono (by first | decide | omega)) rfl T.m_l_word T.F_l_word.kp T.b_l_word .nil pass0 (pa_cons (pv 0) (pa_cons (pv 2) pa_nil))) (pa_cons (pe_call g_l_pairs (hr.mono (by first | decide | omega)) rfl T.m_l_pairs T.F_l_pairs.kp T.b_l_pairs .nil pass0 (pa_cons (pv 0) (pa_cons (pv 2) (pa_cons (pe_ix ix_list (pe_lst (pa_cons pe_int (pa_cons pe_int pa_nil))) (pv 1) (fun _ _ => rfl)) (pa_cons pe_int pa_nil))))) pa_nil))) pa_nil)))))
      (pss_cons (ps_set (i := 5) sc_l_program.nd rfl (Or.inl rfl) (pe_lst pa_nil))
      (pss_cons (ps_for PassesOwn.never rfl (pi_range1 rfl T.z_range (pa_cons (pe_call g_l_count (hr.mono (by first | decide | omega)) rfl T.m_l_count T.F_l_count.kp T.b_l_count .nil pass0 (pa_cons (pv 0) (pa_cons (pe_ix ix_list (pe_lst (pa_cons pe_int (pa_cons pe_int pa_nil))) (pv 1) (fun _ _ => rfl)) pa_nil))) pa_nil)) (pg_name (i := 3) sc_l_program.nd rfl (Or.inl rfl))
        (pss_cons (ps_set (i := 6) sc_l_program.nd rfl (Or.inl rfl) (pe_op op_sub (pe_call g_l_pick (hr.mono (by first | decide | omega)) rfl T.m_l_pick T.F_l_pick.kp T.b_l_pick .nil pass0 (pa_cons (pv 0) (pa_cons (pe_ix ix_list (pe_lst (pa_cons pe_int (pa_cons pe_int pa_nil))) (pv 1) (fun _ _ => rfl)) pa_nil))) pe_int))
      (pss_one (ps_expr (pe_bm PySem.F.plainAttrs_list PySem.F.slot_list_append PySem.F.type_list_append mt_append (pv 5) (pa_cons (pe_tup (pa_cons (pe_call g_l_word (hr.mono (by first | decide | omega)) rfl T.m_l_word T.F_l_word.kp T.b_l_word .nil pass0 (pa_cons (pv 0) (pa_cons (pv 2) pa_nil))) (pa_cons (pv 6) (pa_cons (pe_call g_l_number (hr.mono (by first | decide | omega)) rfl T.m_l_number T.F_l_number.kp T.b_l_number .nil pass0 (pa_cons (pv 0) (pa_cons (pv 2) pa_nil))) (pa_cons (pe_call g_l_number (hr.mono (by first | decide | omega)) rfl T.m_l_number T.F_l_number.kp T.b_l_number .nil pass0 (pa_cons (pv 0) (pa_cons (pv 2) pa_nil))) pa_nil))))) pa_nil))))))
      (pss_cons (ps_set (i := 7) sc_l_program.nd rfl (Or.inl rfl) (pe_call g_l_pairs (hr.mono (by first | decide | omega)) rfl T.m_l_pairs T.F_l_pairs.kp T.b_l_pairs .nil pass0 (pa_cons (pv 0) (pa_cons (pv 2) (pa_cons (pe_op op_sub pe_int (pe_op op_mul pe_int (pv 1))) (pa_cons (pe_op op_sub pe_int (pv 1)) pa_nil))))))
      (pss_cons (ps_set (i := 8) sc_l_program.nd rfl (Or.inl rfl) (pe_lst pa_nil))
      (pss_cons (ps_for PassesOwn.never rfl (pi_range1 rfl T.z_range (pa_cons (pe_call g_l_one (hr.mono (by first | decide | omega)) rfl T.m_l_one T.F_l_one.kp T.b_l_one .nil pass0 (pa_cons (pv 0) (pa_cons (pe_lst (pa_cons pe_int (pa_cons pe_int (pa_cons pe_int (pa_cons pe_int (pa_cons pe_int (pa_cons pe_int (pa_cons (pe_call g_l_pick (hr.mono (by first | decide | omega)) rfl T.m_l_pick T.F_l_pick.kp T.b_l_pick .nil pass0 (pa_cons (pv 0) (pa_cons (pe_ix ix_list (pe_lst (pa_cons pe_int (pa_cons pe_int pa_nil))) (pv 1) (fun _ _ => rfl)) pa_nil))) pa_nil)))))))) pa_nil))) pa_nil)) (pg_name (i := 3) sc_l_program.nd rfl (Or.inl rfl))
        (pss_cons (ps_set (i := 9) sc_l_program.nd rfl (Or.inl rfl) (pe_call g_l_word (hr.mono (by first | decide | omega)) rfl T.m_l_word T.F_l_word.kp T.b_l_word .nil pass0 (pa_cons (pv 0) (pa_cons (pv 2) pa_nil))))
      (pss_cons (ps_set (i := 10) sc_l_program.nd rfl (Or.inl rfl) (pe_call g_l_pairs (hr.mono (by first | decide | omega)) rfl T.m_l_pairs T.F_l_pairs.kp T.b_l_pairs .nil pass0 (pa_cons (pv 0) (pa_cons (pv 2) (pa_cons pe_int (pa_cons pe_int pa_nil))))))
      (pss_cons (ps_set (i := 11) sc_l_program.nd rfl (Or.inl rfl) pe_non)
      (C8.pss_cut (ps_if (pt_cmpR op_eq (pe_call g_l_pick (hr.mono (by first | decide | omega)) rfl T.m_l_pick T.F_l_pick.kp T.b_l_pick .nil pass0 (pa_cons (pv 0) (pa_cons pe_int pa_nil))) pe_int (nomark _)) (pss_one (ps_set (i := 11) sc_l_program.nd rfl (Or.inl rfl) (pe_call g_l_kind (hr.mono (by first | decide | omega)) rfl T.m_l_kind T.F_l_kind.kp T.b_l_kind .nil pass0 (pa_cons (pv 0) (pa_cons (pv 2) (pa_cons pe_bl pa_nil)))))) pss_nil)
      (pss_cons (ps_set (i := 12) sc_l_program.nd rfl (Or.inl rfl) (pe_call g_l_pairs (hr.mono (by first | decide | omega)) rfl T.m_l_pairs T.F_l_pairs.kp T.b_l_pairs .nil pass0 (pa_cons (pv 0) (pa_cons (pv 2) (pa_cons (pe_op op_sub pe_int (pv 1)) (pa_cons (pe_op op_sub pe_int (pv 1)) pa_nil))))))
      (pss_cons (ps_set (i := 13) sc_l_program.nd rfl (Or.inl rfl) (pe_call g_l_one (hr.mono (by first | decide | omega)) rfl T.m_l_one T.F_l_one.kp T.b_l_one .nil pass0 (pa_cons (pv 0) (pa_cons (pe_lst (pa_cons pe_int (pa_cons pe_int (pa_cons pe_int (pa_cons pe_int (pa_cons pe_int pa_nil)))))) pa_nil))))
      (pss_cons (ps_set (i := 14) sc_l_program.nd rfl (Or.inl rfl) (pe_call g_l_body (hr.mono (by first | decide | omega)) rfl T.m_l_body T.F_l_body.kp T.b_l_body .nil pass0 (pa_cons (pv 0) (pa_cons (pv 2) (pa_cons (pv 13) (pa_cons (pe_call g_l_one (hr.mono (by first | decide | omega)) rfl T.m_l_one T.F_l_one.kp T.b_l_one .nil pass0 (pa_cons (pv 0) (pa_cons (pe_lst (pa_cons pe_int (pa_cons pe_int (pa_cons pe_int (pa_cons (pe_op op_sub pe_int (pe_op op_mul pe_int (pv 1))) pa_nil))))) pa_nil))) pa_nil))))))
      (pss_one (ps_expr (pe_bm PySem.F.plainAttrs_list PySem.F.slot_list_append PySem.F.type_list_append mt_append (pv 8) (pa_cons (pe_tup (pa_cons (pv 9) (pa_cons (pv 10) (pa_cons (pv 11) (pa_cons (pv 12) (pa_cons (pv 14) pa_nil)))))) pa_nil))))))))))))
      (pss_one (ps_ret (pe_tup (pa_cons (pe_callTy call_tuple_of rfl T.z_tuple bt_tuple (pa_cons (pv 4) pa_nil)) (pa_cons (pe_callTy call_tuple_of rfl T.z_tuple bt_tuple (pa_cons (pv 5) pa_nil)) (pa_cons (pv 7) (pa_cons (pe_callTy call_tuple_of rfl T.z_tuple bt_tuple (pa_cons (pv 8) pa_nil)) pa_nil)))))))))))))))), ?_⟩
  -- the world
  refine fun d hd => ⟨by show 0 ≤ sizeLine; decide, fun l hl => ⟨by show 2 ≤ sizeLine; decide, fun t1 ht1 => ?_⟩⟩
  obtain ⟨k1, e1, b1⟩ := two hsp 12 10
  refine ⟨_, rfl, t1, _, sp, _, rfl, rfl, SqL.of upd_same, e1, by show 2 ≤ sizeLine; decide, fun t2 ht2 => ?_⟩
  obtain ⟨k2, e2, b2⟩ := two hsp 31623 3162
  refine ⟨_, rfl, t2, _, sp, _, rfl, rfl, SqL.of upd_same, e2, _, rfl, _, _, rfl, rfl, _, rfl, _, _, rfl, rfl, .inl ⟨by decide, by decide⟩, _, _, rfl, rfl, ?_⟩
  have sW := (Same.new hl (.lst [])).trans ((Same.new ht1 (.lst [.int 12, .int 10])).trans (Same.new ht2 (.lst [.int 31623, .int 3162])))
  refine ⟨sW _ _ upd_same, wKv5 l k1 k2 (3 - sp) (36 - 6 * sp), rfl, by show 5 ≤ 15; decide, ?_⟩
  have nda : d ≠ a := (hS.ne hd).symm
  have nld : l ≠ d := fun z => by
    rw [z, upd_same] at hl
    cases hl
  have stW := Stp.grow (o := .dK (mergeK [] (wKv5 l k1 k2 (3 - sp) (36 - 6 * sp)))) hd nda (((((Stp.refl hS).new (o := .dK []) hd).new (o := .lst []) hl).new (o := .lst [.int 12, .int 10]) ht1).new (o := .lst [.int 31623, .int 3162]) ht2)
  have hWW : Wi (upd (upd (upd (upd (upd H d (.dK [])) l (.lst [])) t1 (.lst [.int 12, .int 10])) t2 (.lst [.int 31623, .int 3162])) d (.dK (mergeK [] (wKv5 l k1 k2 (3 - sp) (36 - 6 * sp))))) d (36 - 6 * sp) 0 :=
    wi_at (l := l) (a := k1) (b := k2) (c := 3 - sp) upd_same (by rw [upd_ne nld]; exact ((Same.new ht1 _).trans (Same.new ht2 _)) _ _ upd_same) (by omega) (by omega)
  generalize hn : (36 - 6 * sp : Int) = n at stW hWW ⊢
  have hn0 : 0 ≤ n ∧ n ≤ 36 := by omega
  generalize (upd (upd (upd (upd (upd H d (.dK [])) l (.lst [])) t1 (.lst [.int 12, .int 10])) t2 (.lst [.int 31623, .int 3162])) d (.dK (mergeK [] (wKv5 l k1 k2 (3 - sp) n)))) = HW at stW hWW ⊢
  -- its names
  refine ⟨_, rfl, a, 5, rfl, stW.s, by decide, fun r H1 st1 r0 r1 => ⟨_, _, rfl, rfl, 1 + r, rfl, by omega, by omega, for_range (lo := 0) (fun i σ H' => Stp a H H' ∧ Wi H' d n i ∧ ∃ v3 : Option V, σ = [some (.ref a), some (.int sp), some (.ref d), v3, none, none, none, none, none, none, none, none, none, none, none]) ⟨stW.trans st1, hWW.stp stW.s st1, none, rfl⟩ ?_ ?_⟩⟩
  · rintro i σ H' hi ⟨st, hWi, v3, rfl⟩
    obtain ⟨kvs, ln, nz, lng, side, deep, g1, g2, g3, g4, g5, g6, g7, g8, g9, g10, g11, g12⟩ := id hWi
    refine ⟨_, rfl, d, _, rfl, DGet.at g1 g2, _, rfl, _, rfl, a, d, rfl, st.s, (hWi.wx (by omega)).wd, fun z H2 st2 hz => ⟨by show 1 ≤ sizeLine; decide, fun p hp => ?_⟩⟩
    have na := lst_ne st.s g7
    have hln := st2.k _ _ na g7
    have hdd := st2.k _ _ (hWi.ne st.s) g1
    refine ⟨ln, p, _, _, rfl, rfl, Same.new hp _ _ _ hln, upd_same, ?_, fun p2 hp2 => ?_⟩
    · rw [List.length_map]
      exact Nat.le_of_lt (small1000 (by show nz.length + 1 ≤ 1000; omega))
    have s2 := (Same.new hp (.lst [.str z])).trans (Same.new hp2 (.lst (nz.map V.str ++ [.str z])))
    refine ⟨_, rfl, d, _, rfl, DPut.k (k := kN) (s2 _ _ hdd) (small1000 (by omega)), ?_, ?_, _, rfl⟩
    · exact Stp.grow hd nda ((st.trans st2).same s2)
    · have np : p2 ≠ d := (ne_of_none ((Same.new hp (.lst [.str z])) _ _ hdd) hp2).symm
      refine ⟨putK kvs kN (.ref p2), p2, nz ++ [z], lng, side, deep, upd_same, ?_, ?_, ?_, ?_, ?_, ?_, ?_, all_snoc g9 hz, g10, g11, by rw [putK_len g2]; exact g12⟩
      · rw [valV_put, if_pos rfl]
      · rw [valV_put, if_neg (by decide +kernel)]; exact g3
      · rw [valV_put, if_neg (by decide +kernel)]; exact g4
      · rw [valV_put, if_neg (by decide +kernel)]; exact g5
      · rw [valV_put, if_neg (by decide +kernel)]; exact g6
      · rw [upd_ne np, upd_same, List.map_append]; rfl
      · rw [List.length_append]; exact Nat.succ_le_succ g8
  rintro σ Hw ⟨stw, hWi, v3, rfl⟩
  have hW : Wx Hw d n := hWi.wx (by omega)
  clear hWi hWW
  -- records
  refine ⟨by show 0 ≤ sizeLine; decide, fun l1 hl1 => ⟨_, rfl, by show 2 ≤ sizeLine; decide, fun t ht => ?_⟩⟩
  obtain ⟨k3, e3, b3⟩ := two hsp 4 2
  have nl1a : l1 ≠ a := (stw.s.ne hl1).symm
  have s1 := ((Stq.refl stw.s hW).new (o := .lst []) hl1).new (o := .lst [.int 4, .int 2]) ht
  refine ⟨_, rfl, t, _, sp, _, rfl, rfl, SqL.of upd_same, e3, a, k3, rfl, s1.s, by omega, by omega, fun r1 H1 st1 r0 r2 => ?_⟩
  have nl1d := Stq.ndk hW (Stq.refl stw.s hW) hl1
  have hL10 : Lst (fun H => RcAt K H) H1 l1 [] := ⟨[], st1.k _ _ nl1a (Same.new ht _ _ _ upd_same), trivial⟩
  refine ⟨r1, rfl, by omega, by omega, for_range (lo := 0) (fun i σ H' => Stq a d n Hw H' ∧ ∃ (xs : List Rc) (v3 : Option V), Lst (fun H => RcAt K H) H' l1 xs ∧ xs.length = i ∧ (∀ x ∈ xs, x.ok) ∧ σ = [some (.ref a), some (.int sp), some (.ref d), v3, some (.ref l1), none, none, none, none, none, none, none, none, none, none]) ⟨s1.stp nda st1, [], v3, hL10, rfl, fun _ z => (List.not_mem_nil z).elim, rfl⟩ ?_ ?_⟩
  · rintro i σ H' hi ⟨st, xs, v3, ⟨us, hlk, hA⟩, hx, ho, rfl⟩
    have hul := hA.len
    have hW' := hW.stq stw.s st
    refine ⟨_, rfl, .inl ⟨rfl, _, SqL.of hlk⟩, _, rfl, _, rfl, a, d, rfl, st.s, hW'.wd, fun z H2 st2 hz => ⟨_, rfl, _, rfl, by show 2 ≤ sizeLine; decide, fun t2 ht2 => ?_⟩⟩
    have st2' := st2.new (o := .lst [.int 4, .int 2]) ht2
    refine ⟨_, rfl, t2, _, sp, _, rfl, rfl, SqL.of upd_same, e3, a, d, k3, 4, rfl, st2'.s, (hW'.stp st.s st2').wd, by omega, by omega, fun p us2 xs2 H3 st3 hp hA2 hlen hok => ⟨by show 2 ≤ sizeLine; decide, fun p2 hp2 => ?_⟩⟩
    have stA := (st2'.trans st3).new (o := .tup [.str z, .ref p]) hp2
    have hl3 := stA.k _ _ nl1a hlk
    have kp := keeps_new (K := K) (o := .tup [.str z, .ref p]) hp2
    refine ⟨l1, _, _, rfl, rfl, hl3, small1000 (by omega), Stq.grow hl1 nl1a nl1d (st.stp nda stA), xs ++ [⟨z, xs2⟩], _, Lst.push (fun y u h => RcAt.keep (keep_lst hl3) h) (A2.imp (fun y u h => RcAt.keep (Keeps.of_stp stA st.s) h) hA) ⟨p2, p, us2, rfl, SqT.of upd_same, kp _ _ (SqT.of hp), A2.imp (fun _ _ h => DcAt.keep kp h) hA2⟩, by rw [List.length_append, hx]; rfl, all_snoc ho ⟨hz, ?_, hok⟩, rfl⟩
    show xs2.length ≤ 4
    omega
  rintro σ Hr ⟨str, recs, v3, hL1, hlr, hor, rfl⟩
  have hWr := hW.stq stw.s str
  -- arrays
  refine ⟨by show 0 ≤ sizeLine; decide, fun l2 hl2 => ⟨_, rfl, by show 2 ≤ sizeLine; decide, fun t ht => ?_⟩⟩
  have nl2a : l2 ≠ a := (str.s.ne hl2).symm
  have s2 := ((Stq.refl str.s hWr).new (o := .lst []) hl2).new (o := .lst [.int 4, .int 2]) ht
  refine ⟨_, rfl, t, _, sp, _, rfl, rfl, SqL.of upd_same, e3, a, k3, rfl, s2.s, by omega, by omega, fun r1 H1 st1 r0 r2 => ?_⟩
  have nl2d := Stq.ndk hWr (Stq.refl str.s hWr) hl2
  have hL20 : Lst (fun H => ArAt K H) H1 l2 [] := ⟨[], st1.k _ _ nl2a (Same.new ht _ _ _ upd_same), trivial⟩
  refine ⟨r1, rfl, by omega, by omega, for_range (lo := 0) (fun i σ H' => Stq a d n Hr H' ∧ ∃ (xs : List Ar) (v3 v6 : Option V), Lst (fun H => ArAt K H) H' l2 xs ∧ xs.length = i ∧ (∀ x ∈ xs, x.ok) ∧ σ = [some (.ref a), some (.int sp), some (.ref d), v3, some (.ref l1), some (.ref l2), v6, none, none, none, none, none, none, none, none]) ⟨s2.stp nda st1, [], v3, none, hL20, rfl, fun _ z => (List.not_mem_nil z).elim, rfl⟩ ?_ ?_⟩
  · rintro i σ H' hi ⟨st, xs, v3, v6, ⟨us, hlk, hA⟩, hx, ho, rfl⟩
    have hul := hA.len
    have hW' := hWr.stq str.s st
    refine ⟨_, rfl, by show 2 ≤ sizeLine; decide, fun t2 ht2 => ?_⟩
    obtain ⟨k4, e4, b4⟩ := two hsp 67 9
    have stt := (Stp.refl st.s).new (o := .lst [.int 67, .int 9]) ht2
    refine ⟨_, rfl, t2, _, sp, _, rfl, rfl, SqL.of upd_same, e4, a, k4, rfl, stt.s, by omega, fun ln H2 st2 ln0 ln1 => ⟨_, _, rfl, rfl, ?_⟩⟩
    have stA := stt.trans st2
    have hWA := hW'.stp st.s stA
    refine ⟨_, rfl, .inl ⟨rfl, _, SqL.of (stA.k _ _ nl2a hlk)⟩, _, rfl, _, rfl, a, d, rfl, stA.s, hWA.wd, fun z H3 st3 hz => ?_⟩
    have hWB := hWA.stp stA.s st3
    refine ⟨_, rfl, _, rfl, _, rfl, a, d, rfl, st3.s, hWB.wd, fun lo H4 st4 blo => ?_⟩
    have hWC := hWB.stp st3.s st4
    refine ⟨_, rfl, _, rfl, a, d, rfl, st4.s, hWC.wd, fun hi_ H5 st5 bhi => ⟨by show 4 ≤ sizeLine; decide, fun p hp => ?_⟩⟩
    have stB := (((stA.trans st3).trans st4).trans st5).new (o := .tup [.str z, .int (ln - 2), .int lo, .int hi_]) hp
    have hl5 := stB.k _ _ nl2a hlk
    refine ⟨l2, _, _, rfl, rfl, hl5, small1000 (by omega), Stq.grow hl2 nl2a nl2d (st.stp nda stB), xs ++ [⟨z, ln - 2, lo, hi_⟩], _, _, Lst.push (fun y u h => ArAt.keep (keep_lst hl5) h) (A2.imp (fun y u h => ArAt.keep (Keeps.of_stp stB st.s) h) hA) ⟨p, rfl, SqT.of upd_same⟩, by rw [List.length_append, hx]; rfl, all_snoc ho (show Ar.ok ⟨z, ln - 2, lo, hi_⟩ from ⟨hz, by unfold inB; show -1000000000 ≤ ln - 2 ∧ ln - 2 ≤ 1000000000; omega, blo, bhi⟩), rfl⟩
  rintro σ Ha ⟨sta, arrs, v3, v6, hL2, hla, hoa, rfl⟩
  have hWa := hWr.stq str.s sta
  -- globals
  refine ⟨_, rfl, _, rfl, _, rfl, _, _, rfl, rfl, .inl ⟨by decide, by decide⟩, _, _, rfl, rfl, _, rfl, _, _, rfl, rfl, a, d, 5 - 2 * sp, 2 - sp, rfl, sta.s, hWa.wd, by omega, by omega, fun pg usg globs Hg stg hpg hAg hlg hog => ?_⟩
  have hWg := hWa.stp sta.s stg
  -- functions
  refine ⟨by show 0 ≤ sizeLine; decide, fun l4 hl4 => ?_⟩
  have nl4a : l4 ≠ a := (stg.s.ne hl4).symm
  have nl4d := Stq.ndk hWg (Stq.refl stg.s hWg) hl4
  have s4 := (Stq.refl stg.s hWg).new (o := .lst []) hl4
  refine ⟨_, rfl, _, rfl, by show 2 ≤ sizeLine; decide, fun t ht => ?_⟩
  obtain ⟨k5, e5, b5⟩ := two hsp 9 4
  have s5 := s4.new (o := .lst [.int 9, .int 4]) ht
  refine ⟨_, rfl, t, _, sp, _, rfl, rfl, SqL.of upd_same, e5, a, k5, rfl, s5.s, by omega, fun rr H1 st1 rr0 rr1 => ⟨by show 7 ≤ sizeLine; decide, fun t2 ht2 => ?_⟩⟩
  have s6 := (s5.stp nda st1).new (o := .lst [.int 1, .int 2, .int 1, .int 2, .int 3, .int 0, .int rr]) ht2
  refine ⟨a, _, rfl, s6.s, .inl ⟨t2, _, rfl, ((s5.stp nda st1).s.ne ht2).symm, SqL.of upd_same, by show 0 < 7; decide, by show 7 < 1000; decide, fun v H2 hv st2 => ?_⟩⟩
  obtain ⟨nf, rfl, nf0, nf1⟩ := mem7 rr0 (by omega) hv
  have hL40 : Lst (fun H => FuAt K H) H2 l4 [] := ⟨[], st2.k _ _ nl4a (Same.new ht2 _ _ _ (st1.k _ _ nl4a (Same.new ht _ _ _ upd_same))), trivial⟩
  refine ⟨nf, rfl, by omega, by omega, for_range (lo := 0) (fun i σ H' => ∃ (n' : Int) (xs : List Fu) (v3 v9 v10 v11 v12 v13 v14 : Option V), Stq a d n' Hg H' ∧ 0 ≤ n' ∧ n' ≤ n ∧ Lst (fun H => FuAt K H) H' l4 xs ∧ xs.length = i ∧ (∀ x ∈ xs, x.ok) ∧ σ = [some (.ref a), some (.int sp), some (.ref d), v3, some (.ref l1), some (.ref l2), v6, some (.ref pg), some (.ref l4), v9, v10, v11, v12, v13, v14]) ⟨n, [], v3, none, none, none, none, none, none, s6.stp nda st2, hn0.1, Int.le_refl _, hL40, rfl, fun _ z => (List.not_mem_nil z).elim, rfl⟩ ?_ ?_⟩
  · rintro i σ H' hi ⟨n', xs, v3, v9, v10, v11, v12, v13, v14, st, hn', hn'', ⟨us, hlk, hA⟩, hx, ho, rfl⟩
    have hul := hA.len
    have hW' := hWg.stq stg.s st
    refine ⟨_, rfl, _, rfl, a, d, rfl, st.s, hW'.wd, fun z H2 st2 hz => ?_⟩
    have hW2 := hW'.stp st.s st2
    refine ⟨_, rfl, _, rfl, a, d, 3, 1, rfl, st2.s, hW2.wd, by decide, by decide, fun q1 us1 xs1 H3 st3 hq1 hA1 hl1 ho1 => ?_⟩
    have st23 := st2.trans st3
    have hW3 := hW'.stp st.s st23
    refine ⟨fun σ H4 => Stp a H3 H4 ∧ ∃ (rv : V) (rk : Option Kd), resAt K H4 rk rv ∧ (∀ k, rk = some k → k.ok) ∧ σ = [some (.ref a), some (.int sp), some (.ref d), some (.int (0 + (i : Int))), some (.ref l1), some (.ref l2), v6, some (.ref pg), some (.ref l4), some (.str z), some (.ref q1), some rv, v12, v13, v14], ⟨_, rfl, a, 2, rfl, st3.s, by decide, fun r H4 st4 r0 r1 => ⟨rfl, _, rfl, ?_⟩⟩, ?_⟩
    · refine ite2 (fun _ => ?_) (fun _ => ?_)
      · refine ⟨_, rfl, _, rfl, a, d, true, rfl, st4.s, (hW3.stp st3.s st4).wd, fun v k H5 st5 ok hk => ⟨st4.trans st5, v, some k, hk, fun k' e => by cases e; exact ok, rfl⟩⟩
      · exact ⟨st4, .non, none, rfl, (fun k' e => by cases e), rfl⟩
    rintro σ H4 ⟨st4, rv, rk, hrv, hrk, rfl⟩
    have hW4 := hW3.stp st3.s st4
    refine ⟨_, rfl, _, rfl, _, rfl, _, _, rfl, rfl, _, rfl, _, _, rfl, rfl, a, d, 4 - sp, 1 - sp, rfl, st4.s, hW4.wd, by omega, by omega, fun q2 us2 xs2 H5 st5 hq2 hA2 hl2' ho2 => ?_⟩
    have st45 := st4.trans st5
    have hW5 := hW3.stp st3.s st45
    refine ⟨_, rfl, by show 5 ≤ sizeLine; decide, fun t3 ht3 => ?_⟩
    have s3t := (Stp.refl st5.s).new (o := .lst [.int 2, .int 4, .int 4, .int 6, .int 20]) ht3
    refine ⟨a, _, rfl, s3t.s, .inl ⟨t3, _, rfl, (st5.s.ne ht3).symm, SqL.of upd_same, by show 0 < 5; decide, by show 5 < 1000; decide, fun v H6 hv st6 => ?_⟩⟩
    obtain ⟨up, rfl, up0, up1⟩ := mem5 hv
    refine ⟨_, rfl, _, rfl, _, rfl, _, rfl, _, rfl, _, _, rfl, rfl, .inl ⟨by decide, by decide⟩, _, _, rfl, rfl, by show 4 ≤ sizeLine; decide, fun t4 ht4 => ?_⟩
    have st56 := s3t.trans st6
    have s4t := st56.new (o := .lst [.int 1, .int 2, .int 3, .int (7 - 3 * sp)]) ht4
    refine ⟨a, _, rfl, s4t.s, .inl ⟨t4, _, rfl, (st56.s.ne ht4).symm, SqL.of upd_same, by show 0 < 4; decide, by show 4 < 1000; decide, fun v H7 hv st7 => ?_⟩⟩
    obtain ⟨dp, rfl, dp1⟩ := mem4 hsp hv
    have st57 := s4t.trans st7
    have hW7 := hW5.stp st5.s st57
    refine ⟨a, d, up, dp, n', rfl, st57.s, hW7, up0, up1, dp1, hn', fun q3 us3 b n2 H8 st8 hq3 hb ob n20 hc => ?_⟩
    have k8 := Stq.keeps (K := K) st57.s hW7 st8
    have k57 := Keeps.of_stp (K := K) st57 st5.s
    have k58 : Keeps K H5 H8 := fun _ _ h => k8 _ _ (k57 _ _ h)
    have k45 := Keeps.of_stp (K := K) st5 st4.s
    have k48 : Keeps K H4 H8 := fun _ _ h => k58 _ _ (k45 _ _ h)
    have k38 : Keeps K H3 H8 := fun _ _ h => k48 _ _ (Keeps.of_stp (K := K) st4 st3.s _ _ h)
    have k08 : Keeps K H' H8 := fun _ _ h => k38 _ _ (Keeps.of_stp (K := K) st23 st.s _ _ h)
    have st08 := ((st.stp nda st23).stp nda (st45.trans st57)).trans st8
    have hl8 : H8 l4 = some (.lst us) := st8.k _ _ nl4a nl4d ((st45.trans st57).k _ _ nl4a (st23.k _ _ nl4a hlk))
    refine ⟨_, rfl, .inl ⟨rfl, _, SqL.of hl8⟩, _, rfl, _, rfl, _, rfl, _, rfl, _, rfl, by show 5 ≤ sizeLine; decide, fun p hp => ?_⟩
    have kp := keeps_new (K := K) (o := .tup [.str z, .ref q1, rv, .ref q2, .ref q3]) hp
    have hl9 := Same.new hp (.tup [.str z, .ref q1, rv, .ref q2, .ref q3]) _ _ hl8
    have hrv8 : resAt K (upd H8 p (.tup [.str z, .ref q1, rv, .ref q2, .ref q3])) rk rv := by
      cases rk with
      | none => exact hrv
      | some k => exact KdAt.keep kp (KdAt.keep k48 hrv)
    refine ⟨l4, _, _, rfl, rfl, hl9, small1000 (by omega), n2, xs ++ [⟨z, xs1, rk, xs2, b⟩], _, _, _, _, _, _, _, Stq.grow hl4 nl4a nl4d (st08.new hp), n20, by omega,
      Lst.push (fun y u h => FuAt.keep (keep_lst hl9) h) (A2.imp (fun y u h => FuAt.keep kp (FuAt.keep k08 h)) hA)
        ⟨p, q1, us1, rv, q2, us2, q3, us3, rfl, SqT.of upd_same, kp _ _ (k38 _ _ (SqT.of hq1)), A2.imp (fun _ _ h => DcAt.keep kp (DcAt.keep k38 h)) hA1, hrv8, kp _ _ (k58 _ _ (SqT.of hq2)), A2.imp (fun _ _ h => DcAt.keep kp (DcAt.keep k58 h)) hA2, kp _ _ (SqT.of hq3), BdL.keep kp hb⟩,
      by rw [List.length_append, hx]; rfl, all_snoc ho ⟨hz, ⟨?_, ho1⟩, hrk, ⟨?_, ho2⟩, ?_, ?_⟩, rfl⟩
    · show xs1.length ≤ 4
      omega
    · show xs2.length ≤ 4
      omega
    · exact Bd.ok_up (by omega) ob
    · show b.cnt ≤ 100
      omega
  rintro σ Hf ⟨n', funs, v3, v9, v10, v11, v12, v13, v14, stf, hn', hn'', ⟨us4, h4, hA4⟩, hlf, hof, rfl⟩
  -- the tuple
  have kgf := Stq.keeps (K := K) stg.s hWg stf
  have kag := Keeps.of_stp (K := K) stg sta.s
  have kra := Stq.keeps (K := K) str.s hWr sta
  have kaf : Keeps K Ha Hf := fun _ _ h => kgf _ _ (kag _ _ h)
  have krf : Keeps K Hr Hf := fun _ _ h => kaf _ _ (kra _ _ h)
  obtain ⟨us1, h1, hA1⟩ := hL1
  obtain ⟨us2, h2, hA2⟩ := hL2
  have h1f : Hf l1 = some (.lst us1) := stf.k _ _ nl1a nl1d (stg.k _ _ nl1a (sta.k _ _ nl1a nl1d h1))
  have h2f : Hf l2 = some (.lst us2) := stf.k _ _ nl2a nl2d (stg.k _ _ nl2a h2)
  refine ⟨_, rfl, l1, us1, rfl, .inl ⟨SqL.of h1f, fun p1 hp1 => ?_⟩⟩
  have z1 := Same.new hp1 (.tup us1)
  refine ⟨_, rfl, l2, us2, rfl, .inl ⟨SqL.of (z1 _ _ h2f), fun p2 hp2 => ?_⟩⟩
  have z2 := z1.trans (Same.new hp2 (.tup us2))
  refine ⟨_, rfl, _, rfl, l4, us4, rfl, .inl ⟨SqL.of (z2 _ _ h4), fun p4 hp4 => ⟨by show 4 ≤ sizeLine; decide, fun p hp => ?_⟩⟩⟩
  have z4 := Same.new hp4 (.tup us4)
  have z5 := Same.new hp (.tup [.ref p1, .ref p2, .ref pg, .ref p4])
  have zz := (z2.trans z4).trans z5
  have kz := Keeps.of_same (K := K) zz
  have sAll := (stw.stq hd str)
  have sAll2 := (Stp.stq hd sAll sta)
  refine q _ ⟨recs, arrs, globs, funs⟩ _ ((Stp.stq hd (sAll2.trans stg) stf).same zz) ⟨p, p1, us1, p2, us2, pg, usg, p4, us4, rfl, SqT.of upd_same, Same.tup ((Same.new hp2 (.tup us2)).trans (z4.trans z5)) (SqT.of upd_same), A2.imp (fun _ _ h => RcAt.keep kz (RcAt.keep krf h)) hA1, Same.tup (z4.trans z5) (SqT.of upd_same), A2.imp (fun _ _ h => ArAt.keep kz (ArAt.keep kaf h)) hA2, kz _ _ (kgf _ _ (SqT.of hpg)), A2.imp (fun _ _ h => DcAt.keep kz (DcAt.keep kgf h)) hAg, Same.tup z5 (SqT.of upd_same), A2.imp (fun _ _ h => FuAt.keep kz h) hA4⟩ ⟨⟨?_, hor⟩, ⟨?_, hoa⟩, ⟨?_, hog⟩, ⟨?_, hof⟩⟩
  · show recs.length ≤ 4
    omega
  · show arrs.length ≤ 4
    omega
  · show globs.length ≤ 6
    omega
  · show funs.length ≤ 9
    omega
end
/-! ### the law -/
def spLaw (K : PySem.W.Frag) : Sp := fun vs H Q _ => ∃ (a : Addr) (ns : List Int), vs = [.ref a] ∧ SqL K H a (ns.map V.int) ∧ ns.length ≤ 63 ∧ ∀ H', Q (.bl true) H'
section
variable {P : Program} {w : World} {K : PySem.W.Frag} {mg : Str → Option Value} {base : Heap}
theorem ok_law (T : Txt w K mg) : FnOk P w K mg base CX0 24 T.a_law T.d_law p_law (spLaw K) := by
  have g_l_cell := ok_l_cell (P := P) (w := w) (K := K) (base := base) T
  have g_l_source := ok_l_source (P := P) (w := w) (base := base) T
  have g_l_program := ok_l_program (P := P) (w := w) (K := K) (base := base) T
  have g_l_same := ok_l_same (P := P) (w := w) (K := K) (base := base) T 1
  have g_program_text := ok_program_text (P := P) (w := w) (K := K) (base := base) T
  have g_function_text := ok_function_text (P := P) (w := w) (K := K) (base := base) T
  have g_l_joined := ok_l_joined (P := P) (w := w) (K := K) (base := base) T
  have g_l_program_lines := ok_l_program_lines (P := P) (w := w) (K := K) (base := base) T
  have g_l_function_lines := ok_l_function_lines (P := P) (w := w) (K := K) (base := base) T
  refine T.F_law.ok sc_law (fun vs H Q E h => ?_) (fun cdv A outer s H vs Q E hr h => ?_)
  · obtain ⟨a, ns, rfl, _⟩ := h
    rfl
  obtain ⟨a, ns, rfl, hS, h63, q⟩ := h
  refine ⟨_, (pss_cons (ps_set (i := 1) sc_law.nd rfl (Or.inl rfl) (pe_call g_l_program (hr.mono (by first | decide | omega)) rfl T.m_l_program T.F_l_program.kp T.b_l_program .nil pass0 (pa_cons (pe_call g_l_source (hr.mono (by first | decide | omega)) rfl T.m_l_source T.F_l_source.kp T.b_l_source .nil pass0 (pa_cons (pe_call g_l_cell (hr.mono (by first | decide | omega)) rfl T.m_l_cell T.F_l_cell.kp T.b_l_cell .nil pass0 (pa_cons (pv 0) (pa_cons pe_int pa_nil))) pa_nil)) (pa_cons pe_int pa_nil))))
      (pss_cons (ps_set (i := 2) sc_law.nd rfl (Or.inl rfl) (pe_call g_l_program (hr.mono (by first | decide | omega)) rfl T.m_l_program T.F_l_program.kp T.b_l_program .nil pass0 (pa_cons (pe_call g_l_source (hr.mono (by first | decide | omega)) rfl T.m_l_source T.F_l_source.kp T.b_l_source .nil pass0 (pa_cons (pe_op op_add (pe_call g_l_cell (hr.mono (by first | decide | omega)) rfl T.m_l_cell T.F_l_cell.kp T.b_l_cell .nil pass0 (pa_cons (pv 0) (pa_cons pe_int pa_nil))) pe_int) pa_nil)) (pa_cons pe_int pa_nil))))
      (pss_cons (ps_for PassesOwn.never rfl (pi_list (pe_lst (pa_cons (pv 1) (pa_cons (pv 2) (pa_cons (pv 1) (pa_cons (pe_tup (pa_cons (pe_tup pa_nil) (pa_cons (pe_tup pa_nil) (pa_cons (pe_tup pa_nil) (pa_cons (pe_tup pa_nil) pa_nil))))) pa_nil)))))) (pg_name (i := 3) sc_law.nd rfl (Or.inl rfl))
        (pss_cons (ps_if (pt_not (pt_val (pe_call g_l_same (hr.mono (by first | decide | omega)) rfl T.m_l_same T.F_l_same.kp T.b_l_same .nil pass0 (pa_cons (pe_call g_program_text (hr.mono (by first | decide | omega)) rfl T.m_program_text T.F_program_text.kp T.b_program_text .nil pass0 (pa_cons (pv 3) pa_nil)) (pa_cons (pe_call g_l_joined (hr.mono (by first | decide | omega)) rfl T.m_l_joined T.F_l_joined.kp T.b_l_joined .nil pass0 (pa_cons (pe_call g_l_program_lines (hr.mono (by first | decide | omega)) rfl T.m_l_program_lines T.F_l_program_lines.kp T.b_l_program_lines .nil pass0 (pa_cons (pv 3) pa_nil)) pa_nil)) pa_nil))))) (pss_one (ps_ret pe_bl)) pss_nil)
      (pss_one (ps_for PassesOwn.never rfl (pi_tup (pe_ix ix_tup (pv 3) pe_int (fun _ _ => rfl))) (pg_name (i := 4) sc_law.nd rfl (Or.inl rfl))
        (pss_one (ps_if (pt_not (pt_val (pe_call g_l_same (hr.mono (by first | decide | omega)) rfl T.m_l_same T.F_l_same.kp T.b_l_same .nil pass0 (pa_cons (pe_call g_function_text (hr.mono (by first | decide | omega)) rfl T.m_function_text T.F_function_text.kp T.b_function_text .nil pass0 (pa_cons (pv 4) pa_nil)) (pa_cons (pe_call g_l_joined (hr.mono (by first | decide | omega)) rfl T.m_l_joined T.F_l_joined.kp T.b_l_joined .nil pass0 (pa_cons (pe_call g_l_function_lines (hr.mono (by first | decide | omega)) rfl T.m_l_function_lines T.F_l_function_lines.kp T.b_l_function_lines .nil pass0 (pa_cons (pv 4) pa_nil)) pa_nil)) pa_nil))))) (pss_one (ps_ret pe_bl)) pss_nil))))))
      (pss_one (ps_ret pe_bl))))), ?_⟩
  -- the first program
  refine ⟨_, rfl, a, ns, 0, rfl, hS, by decide, fun c => ⟨c, rfl, fun b H1 hb s1 S1 => ?_⟩⟩
  refine ⟨b, 0, rfl, .inl rfl, S1, fun x1 e1 H2 st2 y1 o1 => ?_⟩
  have sA : Same H H2 := Stp.fresh s1 hb st2
  -- the second one
  refine ⟨_, rfl, a, ns, 1, rfl, sA.seq hS, by decide, fun c => ⟨_, _, rfl, rfl, _, rfl, fun b2 H3 hb2 s3 S3 => ?_⟩⟩
  refine ⟨b2, 0, rfl, .inl rfl, S3, fun x2 e2 H4 st4 y2 o2 => ?_⟩
  have sB : Same H2 H4 := Stp.fresh s3 hb2 st4
  -- the list of them
  refine ⟨_, rfl, _, rfl, _, rfl, by show 0 ≤ sizeLine; decide, fun p1 hp1 => ⟨by show 0 ≤ sizeLine; decide, fun p2 hp2 => ⟨by show 0 ≤ sizeLine; decide, fun p3 hp3 => ⟨by show 0 ≤ sizeLine; decide, fun p4 hp4 => ⟨by show 4 ≤ sizeLine; decide, fun p hp => ⟨by show 4 ≤ sizeLine; decide, fun t ht => ?_⟩⟩⟩⟩⟩⟩
  have z1 := Same.new hp1 (.tup [])
  have z2 := Same.new hp2 (.tup [])
  have z3 := Same.new hp3 (.tup [])
  have z4 := Same.new hp4 (.tup [])
  have z5 := Same.new hp (.tup [.ref p1, .ref p2, .ref p3, .ref p4])
  have y3 : PrAt K (upd (upd (upd (upd (upd H4 p1 (.tup [])) p2 (.tup [])) p3 (.tup [])) p4 (.tup [])) p (.tup [.ref p1, .ref p2, .ref p3, .ref p4])) ⟨[], [], [], []⟩ (.ref p) :=
    ⟨p, p1, [], p2, [], p3, [], p4, [], rfl, SqT.of upd_same, Same.tup (z2.trans (z3.trans (z4.trans z5))) (SqT.of upd_same), trivial, Same.tup (z3.trans (z4.trans z5)) (SqT.of upd_same), trivial, Same.tup (z4.trans z5) (SqT.of upd_same), trivial, Same.tup z5 (SqT.of upd_same), trivial⟩
  have z := (((z1.trans z2).trans z3).trans z4).trans z5
  have o3 : Pr.ok ⟨[], [], [], []⟩ := ⟨⟨by decide, fun _ h => (List.not_mem_nil h).elim⟩, ⟨by decide, fun _ h => (List.not_mem_nil h).elim⟩, ⟨by decide, fun _ h => (List.not_mem_nil h).elim⟩, ⟨by decide, fun _ h => (List.not_mem_nil h).elim⟩⟩
  have y1' := PrAt.keep (Keeps.of_same (sB.trans z)) y1
  have y2' := PrAt.keep (Keeps.of_same z) y2
  generalize (upd (upd (upd (upd (upd H4 p1 (.tup [])) p2 (.tup [])) p3 (.tup [])) p4 (.tup [])) p (.tup [.ref p1, .ref p2, .ref p3, .ref p4])) = H5 at ht y3 y1' y2' ⊢
  refine ⟨t, rfl, ⟨_, SqL.of upd_same⟩, for_list (K := K) (a := t) (xs := [x1, x2, x1, .ref p]) (fun i σ H' => Same (upd H5 t (.lst [x1, x2, x1, .ref p])) H' ∧ ∃ v3 v4 : Option V, σ = [some (.ref a), some x1, some x2, v3, v4]) ⟨Same.refl _, none, none, rfl⟩ (fun i σ H' _ ⟨s2, _⟩ => s2.seq (SqL.of upd_same)) ?_ ?_⟩
  · rintro i y σ H' hi ⟨sm, v3, v4, rfl⟩
    have smA := (Same.new ht (.lst [x1, x2, x1, .ref p])).trans sm
    obtain ⟨e, oe, ye⟩ : ∃ e : Pr, e.ok ∧ PrAt K H' e y := by
      have hm := List.mem_of_getElem? hi
      simp at hm
      rcases hm with rfl | rfl | rfl | rfl
      · exact ⟨e1, o1, PrAt.keep (Keeps.of_same smA) y1'⟩
      · exact ⟨e2, o2, PrAt.keep (Keeps.of_same smA) y2'⟩
      · exact ⟨e1, o1, PrAt.keep (Keeps.of_same smA) y1'⟩
      · exact ⟨_, o3, PrAt.keep (Keeps.of_same smA) y3⟩
    have lo := prLines_ok oe
    refine ⟨_, rfl, y, e, rfl, ye, oe, fun H6 s6 => ?_⟩
    refine ⟨_, rfl, y, e, rfl, PrAt.keep (Keeps.of_same s6) ye, oe, fun D H7 s7 hD0 hD => ?_⟩
    refine ⟨D, prLines e, rfl, SqL.of hD, by omega, fun l hl => Nat.le_trans (lo.2 l hl) (by decide), fun H8 s8 => ?_⟩
    refine ⟨_, _, .str (joinT (prLines e)), rfl, .str _, .str _, trivial, _, rfl, iteF ?_⟩
    have s68 := (s6.trans s7).trans s8
    -- its functions
    obtain ⟨pp, q1, vs1, q2, vs2, q3, vs3, q4, vs4, rfl, hp0, h1, a1, h2, a2, h3, a3, h4, a4⟩ := PrAt.keep (Keeps.of_same s68) ye
    have n4 := a4.len
    refine ⟨_, rfl, pp, _, 3, _, rfl, rfl, hp0, rfl, q4, rfl, ⟨_, h4⟩, for_tup (K := K) (a := q4) (xs := vs4) (fun j σ H9 => Same H8 H9 ∧ ∃ v4 : Option V, σ = [some (.ref a), some x1, some x2, some (.ref pp), v4]) ⟨Same.refl _, v4, rfl⟩ (fun j σ H9 _ ⟨s2, _⟩ => Same.tup s2 h4) ?_ ?_⟩
    · rintro j y σ H9 hj ⟨s9, v4, rfl⟩
      have hjl : j < e.funs.length := n4 ▸ (List.getElem?_eq_some_iff.mp hj).1
      have he := List.getElem?_eq_getElem hjl
      have hy := FuAt.keep (Keeps.of_same s9) (a4.get he hj)
      have of := oe.2.2.2.2 _ (List.mem_of_getElem? he)
      have lf := fnLines_ok of
      generalize e.funs[j] = f at he hy of lf
      refine ⟨_, rfl, y, f, rfl, hy, of, fun G1 g1 => ?_⟩
      refine ⟨_, rfl, y, f, rfl, FuAt.keep (Keeps.of_same g1) hy, of, fun D2 G2 g2 hD20 hD2 => ?_⟩
      refine ⟨D2, fnLines f, rfl, SqL.of hD2, by omega, fun l hl => Nat.le_trans (lf.2 l hl) (by decide), fun G3 g3 => ?_⟩
      exact ⟨_, _, .str (joinT (fnLines f)), rfl, .str _, .str _, trivial, _, rfl, iteF ⟨s9.trans ((g1.trans g2).trans g3), _, rfl⟩⟩
    · rintro σ H9 ⟨s9, v4, rfl⟩
      exact ⟨sm.trans (s68.trans s9), _, _, rfl⟩
  · rintro σ H' ⟨sm, v3, v4, rfl⟩
    exact q H'
end
theorem all_mk {l : PySem.W.OpenLaw} {w : World} {K : PySem.W.Frag} {h : Heap} {mg : Str → Option Value} {fa : Addr} (X : K.In h) (G : h.Ns mainGlobals mg) (hfa : mg "law" = some (.ref fa))
    {f_parts_of : Addr} {od_parts_of an_parts_of : Option Addr} {sl_parts_of : Array (Option Value)} {oc_parts_of kV_parts_of dc_parts_of pm_parts_of cd_parts_of ct_parts_of : Value}
    (A_parts_of : PySem.W.nsIn K mainGlobals "parts_of" = some (some (.ref f_parts_of))) (L_parts_of : K.lookup f_parts_of = some ⟨oc_parts_of, od_parts_of, .func (PySem.W.fnOf "parts_of" "parts_of" (defArgs s_parts_of) (defBody s_parts_of) (defScope s_parts_of) .none kV_parts_of dc_parts_of pm_parts_of an_parts_of cd_parts_of ct_parts_of), sl_parts_of⟩) (C_parts_of : PySem.W.codeIn K cd_parts_of "parts_of" = true) (K_parts_of : PySem.W.keepIn K (.ref f_parts_of) = true)
    {f_bodies_of : Addr} {od_bodies_of an_bodies_of : Option Addr} {sl_bodies_of : Array (Option Value)} {oc_bodies_of kV_bodies_of dc_bodies_of pm_bodies_of cd_bodies_of ct_bodies_of : Value}
    (A_bodies_of : PySem.W.nsIn K mainGlobals "bodies_of" = some (some (.ref f_bodies_of))) (L_bodies_of : K.lookup f_bodies_of = some ⟨oc_bodies_of, od_bodies_of, .func (PySem.W.fnOf "bodies_of" "bodies_of" (defArgs s_bodies_of) (defBody s_bodies_of) (defScope s_bodies_of) .none kV_bodies_of dc_bodies_of pm_bodies_of an_bodies_of cd_bodies_of ct_bodies_of), sl_bodies_of⟩) (C_bodies_of : PySem.W.codeIn K cd_bodies_of "bodies_of" = true) (K_bodies_of : PySem.W.keepIn K (.ref f_bodies_of) = true)
    {f_expression_text : Addr} {od_expression_text an_expression_text : Option Addr} {sl_expression_text : Array (Option Value)} {oc_expression_text kV_expression_text dc_expression_text pm_expression_text cd_expression_text ct_expression_text : Value}
    (A_expression_text : PySem.W.nsIn K mainGlobals "expression_text" = some (some (.ref f_expression_text))) (L_expression_text : K.lookup f_expression_text = some ⟨oc_expression_text, od_expression_text, .func (PySem.W.fnOf "expression_text" "expression_text" (defArgs s_expression_text) (defBody s_expression_text) (defScope s_expression_text) .none kV_expression_text dc_expression_text pm_expression_text an_expression_text cd_expression_text ct_expression_text), sl_expression_text⟩) (C_expression_text : PySem.W.codeIn K cd_expression_text "expression_text" = true) (K_expression_text : PySem.W.keepIn K (.ref f_expression_text) = true)
    {f_kind_text : Addr} {od_kind_text an_kind_text : Option Addr} {sl_kind_text : Array (Option Value)} {oc_kind_text kV_kind_text dc_kind_text pm_kind_text cd_kind_text ct_kind_text : Value}
    (A_kind_text : PySem.W.nsIn K mainGlobals "kind_text" = some (some (.ref f_kind_text))) (L_kind_text : K.lookup f_kind_text = some ⟨oc_kind_text, od_kind_text, .func (PySem.W.fnOf "kind_text" "kind_text" (defArgs s_kind_text) (defBody s_kind_text) (defScope s_kind_text) .none kV_kind_text dc_kind_text pm_kind_text an_kind_text cd_kind_text ct_kind_text), sl_kind_text⟩) (C_kind_text : PySem.W.codeIn K cd_kind_text "kind_text" = true) (K_kind_text : PySem.W.keepIn K (.ref f_kind_text) = true)
    {f_declaration_text : Addr} {od_declaration_text an_declaration_text : Option Addr} {sl_declaration_text : Array (Option Value)} {oc_declaration_text kV_declaration_text dc_declaration_text pm_declaration_text cd_declaration_text ct_declaration_text : Value}
    (A_declaration_text : PySem.W.nsIn K mainGlobals "declaration_text" = some (some (.ref f_declaration_text))) (L_declaration_text : K.lookup f_declaration_text = some ⟨oc_declaration_text, od_declaration_text, .func (PySem.W.fnOf "declaration_text" "declaration_text" (defArgs s_declaration_text) (defBody s_declaration_text) (defScope s_declaration_text) .none kV_declaration_text dc_declaration_text pm_declaration_text an_declaration_text cd_declaration_text ct_declaration_text), sl_declaration_text⟩) (C_declaration_text : PySem.W.codeIn K cd_declaration_text "declaration_text" = true) (K_declaration_text : PySem.W.keepIn K (.ref f_declaration_text) = true)
    {f_arguments_text : Addr} {od_arguments_text an_arguments_text : Option Addr} {sl_arguments_text : Array (Option Value)} {oc_arguments_text kV_arguments_text dc_arguments_text pm_arguments_text cd_arguments_text ct_arguments_text : Value}
    (A_arguments_text : PySem.W.nsIn K mainGlobals "arguments_text" = some (some (.ref f_arguments_text))) (L_arguments_text : K.lookup f_arguments_text = some ⟨oc_arguments_text, od_arguments_text, .func (PySem.W.fnOf "arguments_text" "arguments_text" (defArgs s_arguments_text) (defBody s_arguments_text) (defScope s_arguments_text) .none kV_arguments_text dc_arguments_text pm_arguments_text an_arguments_text cd_arguments_text ct_arguments_text), sl_arguments_text⟩) (C_arguments_text : PySem.W.codeIn K cd_arguments_text "arguments_text" = true) (K_arguments_text : PySem.W.keepIn K (.ref f_arguments_text) = true)
    {f_part_text : Addr} {od_part_text an_part_text : Option Addr} {sl_part_text : Array (Option Value)} {oc_part_text kV_part_text dc_part_text pm_part_text cd_part_text ct_part_text : Value}
    (A_part_text : PySem.W.nsIn K mainGlobals "part_text" = some (some (.ref f_part_text))) (L_part_text : K.lookup f_part_text = some ⟨oc_part_text, od_part_text, .func (PySem.W.fnOf "part_text" "part_text" (defArgs s_part_text) (defBody s_part_text) (defScope s_part_text) .none kV_part_text dc_part_text pm_part_text an_part_text cd_part_text ct_part_text), sl_part_text⟩) (C_part_text : PySem.W.codeIn K cd_part_text "part_text" = true) (K_part_text : PySem.W.keepIn K (.ref f_part_text) = true)
    {f_statement_text : Addr} {od_statement_text an_statement_text : Option Addr} {sl_statement_text : Array (Option Value)} {oc_statement_text kV_statement_text dc_statement_text pm_statement_text cd_statement_text ct_statement_text : Value}
    (A_statement_text : PySem.W.nsIn K mainGlobals "statement_text" = some (some (.ref f_statement_text))) (L_statement_text : K.lookup f_statement_text = some ⟨oc_statement_text, od_statement_text, .func (PySem.W.fnOf "statement_text" "statement_text" (defArgs s_statement_text) (defBody s_statement_text) (defScope s_statement_text) .none kV_statement_text dc_statement_text pm_statement_text an_statement_text cd_statement_text ct_statement_text), sl_statement_text⟩) (C_statement_text : PySem.W.codeIn K cd_statement_text "statement_text" = true) (K_statement_text : PySem.W.keepIn K (.ref f_statement_text) = true)
    {f_body_lines : Addr} {od_body_lines an_body_lines : Option Addr} {sl_body_lines : Array (Option Value)} {oc_body_lines kV_body_lines dc_body_lines pm_body_lines cd_body_lines ct_body_lines : Value}
    (A_body_lines : PySem.W.nsIn K mainGlobals "body_lines" = some (some (.ref f_body_lines))) (L_body_lines : K.lookup f_body_lines = some ⟨oc_body_lines, od_body_lines, .func (PySem.W.fnOf "body_lines" "body_lines" (defArgs s_body_lines) (defBody s_body_lines) (defScope s_body_lines) .none kV_body_lines dc_body_lines pm_body_lines an_body_lines cd_body_lines ct_body_lines), sl_body_lines⟩) (C_body_lines : PySem.W.codeIn K cd_body_lines "body_lines" = true) (K_body_lines : PySem.W.keepIn K (.ref f_body_lines) = true)
    {f_record_lines : Addr} {od_record_lines an_record_lines : Option Addr} {sl_record_lines : Array (Option Value)} {oc_record_lines kV_record_lines dc_record_lines pm_record_lines cd_record_lines ct_record_lines : Value}
    (A_record_lines : PySem.W.nsIn K mainGlobals "record_lines" = some (some (.ref f_record_lines))) (L_record_lines : K.lookup f_record_lines = some ⟨oc_record_lines, od_record_lines, .func (PySem.W.fnOf "record_lines" "record_lines" (defArgs s_record_lines) (defBody s_record_lines) (defScope s_record_lines) .none kV_record_lines dc_record_lines pm_record_lines an_record_lines cd_record_lines ct_record_lines), sl_record_lines⟩) (C_record_lines : PySem.W.codeIn K cd_record_lines "record_lines" = true) (K_record_lines : PySem.W.keepIn K (.ref f_record_lines) = true)
    {f_array_line : Addr} {od_array_line an_array_line : Option Addr} {sl_array_line : Array (Option Value)} {oc_array_line kV_array_line dc_array_line pm_array_line cd_array_line ct_array_line : Value}
    (A_array_line : PySem.W.nsIn K mainGlobals "array_line" = some (some (.ref f_array_line))) (L_array_line : K.lookup f_array_line = some ⟨oc_array_line, od_array_line, .func (PySem.W.fnOf "array_line" "array_line" (defArgs s_array_line) (defBody s_array_line) (defScope s_array_line) .none kV_array_line dc_array_line pm_array_line an_array_line cd_array_line ct_array_line), sl_array_line⟩) (C_array_line : PySem.W.codeIn K cd_array_line "array_line" = true) (K_array_line : PySem.W.keepIn K (.ref f_array_line) = true)
    {f_function_lines : Addr} {od_function_lines an_function_lines : Option Addr} {sl_function_lines : Array (Option Value)} {oc_function_lines kV_function_lines dc_function_lines pm_function_lines cd_function_lines ct_function_lines : Value}
    (A_function_lines : PySem.W.nsIn K mainGlobals "function_lines" = some (some (.ref f_function_lines))) (L_function_lines : K.lookup f_function_lines = some ⟨oc_function_lines, od_function_lines, .func (PySem.W.fnOf "function_lines" "function_lines" (defArgs s_function_lines) (defBody s_function_lines) (defScope s_function_lines) .none kV_function_lines dc_function_lines pm_function_lines an_function_lines cd_function_lines ct_function_lines), sl_function_lines⟩) (C_function_lines : PySem.W.codeIn K cd_function_lines "function_lines" = true) (K_function_lines : PySem.W.keepIn K (.ref f_function_lines) = true)
    {f_joined : Addr} {od_joined an_joined : Option Addr} {sl_joined : Array (Option Value)} {oc_joined kV_joined dc_joined pm_joined cd_joined ct_joined : Value}
    (A_joined : PySem.W.nsIn K mainGlobals "joined" = some (some (.ref f_joined))) (L_joined : K.lookup f_joined = some ⟨oc_joined, od_joined, .func (PySem.W.fnOf "joined" "joined" (defArgs s_joined) (defBody s_joined) (defScope s_joined) .none kV_joined dc_joined pm_joined an_joined cd_joined ct_joined), sl_joined⟩) (C_joined : PySem.W.codeIn K cd_joined "joined" = true) (K_joined : PySem.W.keepIn K (.ref f_joined) = true)
    {f_function_text : Addr} {od_function_text an_function_text : Option Addr} {sl_function_text : Array (Option Value)} {oc_function_text kV_function_text dc_function_text pm_function_text cd_function_text ct_function_text : Value}
    (A_function_text : PySem.W.nsIn K mainGlobals "function_text" = some (some (.ref f_function_text))) (L_function_text : K.lookup f_function_text = some ⟨oc_function_text, od_function_text, .func (PySem.W.fnOf "function_text" "function_text" (defArgs s_function_text) (defBody s_function_text) (defScope s_function_text) .none kV_function_text dc_function_text pm_function_text an_function_text cd_function_text ct_function_text), sl_function_text⟩) (C_function_text : PySem.W.codeIn K cd_function_text "function_text" = true) (K_function_text : PySem.W.keepIn K (.ref f_function_text) = true)
    {f_program_text : Addr} {od_program_text an_program_text : Option Addr} {sl_program_text : Array (Option Value)} {oc_program_text kV_program_text dc_program_text pm_program_text cd_program_text ct_program_text : Value}
    (A_program_text : PySem.W.nsIn K mainGlobals "program_text" = some (some (.ref f_program_text))) (L_program_text : K.lookup f_program_text = some ⟨oc_program_text, od_program_text, .func (PySem.W.fnOf "program_text" "program_text" (defArgs s_program_text) (defBody s_program_text) (defScope s_program_text) .none kV_program_text dc_program_text pm_program_text an_program_text cd_program_text ct_program_text), sl_program_text⟩) (C_program_text : PySem.W.codeIn K cd_program_text "program_text" = true) (K_program_text : PySem.W.keepIn K (.ref f_program_text) = true)
    {f_l_cell : Addr} {od_l_cell an_l_cell : Option Addr} {sl_l_cell : Array (Option Value)} {oc_l_cell kV_l_cell dc_l_cell pm_l_cell cd_l_cell ct_l_cell : Value}
    (A_l_cell : PySem.W.nsIn K mainGlobals "_law_cell" = some (some (.ref f_l_cell))) (L_l_cell : K.lookup f_l_cell = some ⟨oc_l_cell, od_l_cell, .func (PySem.W.fnOf "_law_cell" "_law_cell" (defArgs s_l_cell) (defBody s_l_cell) (defScope s_l_cell) .none kV_l_cell dc_l_cell pm_l_cell an_l_cell cd_l_cell ct_l_cell), sl_l_cell⟩) (C_l_cell : PySem.W.codeIn K cd_l_cell "_law_cell" = true) (K_l_cell : PySem.W.keepIn K (.ref f_l_cell) = true)
    {f_l_source : Addr} {od_l_source an_l_source : Option Addr} {sl_l_source : Array (Option Value)} {oc_l_source kV_l_source dc_l_source pm_l_source cd_l_source ct_l_source : Value}
    (A_l_source : PySem.W.nsIn K mainGlobals "_law_source" = some (some (.ref f_l_source))) (L_l_source : K.lookup f_l_source = some ⟨oc_l_source, od_l_source, .func (PySem.W.fnOf "_law_source" "_law_source" (defArgs s_l_source) (defBody s_l_source) (defScope s_l_source) .none kV_l_source dc_l_source pm_l_source an_l_source cd_l_source ct_l_source), sl_l_source⟩) (C_l_source : PySem.W.codeIn K cd_l_source "_law_source" = true) (K_l_source : PySem.W.keepIn K (.ref f_l_source) = true)
    {f_l_pick : Addr} {od_l_pick an_l_pick : Option Addr} {sl_l_pick : Array (Option Value)} {oc_l_pick kV_l_pick dc_l_pick pm_l_pick cd_l_pick ct_l_pick : Value}
    (A_l_pick : PySem.W.nsIn K mainGlobals "_law_pick" = some (some (.ref f_l_pick))) (L_l_pick : K.lookup f_l_pick = some ⟨oc_l_pick, od_l_pick, .func (PySem.W.fnOf "_law_pick" "_law_pick" (defArgs s_l_pick) (defBody s_l_pick) (defScope s_l_pick) .none kV_l_pick dc_l_pick pm_l_pick an_l_pick cd_l_pick ct_l_pick), sl_l_pick⟩) (C_l_pick : PySem.W.codeIn K cd_l_pick "_law_pick" = true) (K_l_pick : PySem.W.keepIn K (.ref f_l_pick) = true)
    {f_l_one : Addr} {od_l_one an_l_one : Option Addr} {sl_l_one : Array (Option Value)} {oc_l_one kV_l_one dc_l_one pm_l_one cd_l_one ct_l_one : Value}
    (A_l_one : PySem.W.nsIn K mainGlobals "_law_one" = some (some (.ref f_l_one))) (L_l_one : K.lookup f_l_one = some ⟨oc_l_one, od_l_one, .func (PySem.W.fnOf "_law_one" "_law_one" (defArgs s_l_one) (defBody s_l_one) (defScope s_l_one) .none kV_l_one dc_l_one pm_l_one an_l_one cd_l_one ct_l_one), sl_l_one⟩) (C_l_one : PySem.W.codeIn K cd_l_one "_law_one" = true) (K_l_one : PySem.W.keepIn K (.ref f_l_one) = true)
    {f_l_reserved : Addr} {od_l_reserved an_l_reserved : Option Addr} {sl_l_reserved : Array (Option Value)} {oc_l_reserved kV_l_reserved dc_l_reserved pm_l_reserved cd_l_reserved ct_l_reserved : Value}
    (A_l_reserved : PySem.W.nsIn K mainGlobals "_law_reserved" = some (some (.ref f_l_reserved))) (L_l_reserved : K.lookup f_l_reserved = some ⟨oc_l_reserved, od_l_reserved, .func (PySem.W.fnOf "_law_reserved" "_law_reserved" (defArgs s_l_reserved) (defBody s_l_reserved) (defScope s_l_reserved) .none kV_l_reserved dc_l_reserved pm_l_reserved an_l_reserved cd_l_reserved ct_l_reserved), sl_l_reserved⟩) (C_l_reserved : PySem.W.codeIn K cd_l_reserved "_law_reserved" = true) (K_l_reserved : PySem.W.keepIn K (.ref f_l_reserved) = true)
    {f_l_name : Addr} {od_l_name an_l_name : Option Addr} {sl_l_name : Array (Option Value)} {oc_l_name kV_l_name dc_l_name pm_l_name cd_l_name ct_l_name : Value}
    (A_l_name : PySem.W.nsIn K mainGlobals "_law_name" = some (some (.ref f_l_name))) (L_l_name : K.lookup f_l_name = some ⟨oc_l_name, od_l_name, .func (PySem.W.fnOf "_law_name" "_law_name" (defArgs s_l_name) (defBody s_l_name) (defScope s_l_name) .none kV_l_name dc_l_name pm_l_name an_l_name cd_l_name ct_l_name), sl_l_name⟩) (C_l_name : PySem.W.codeIn K cd_l_name "_law_name" = true) (K_l_name : PySem.W.keepIn K (.ref f_l_name) = true)
    {f_l_word : Addr} {od_l_word an_l_word : Option Addr} {sl_l_word : Array (Option Value)} {oc_l_word kV_l_word dc_l_word pm_l_word cd_l_word ct_l_word : Value}
    (A_l_word : PySem.W.nsIn K mainGlobals "_law_word" = some (some (.ref f_l_word))) (L_l_word : K.lookup f_l_word = some ⟨oc_l_word, od_l_word, .func (PySem.W.fnOf "_law_word" "_law_word" (defArgs s_l_word) (defBody s_l_word) (defScope s_l_word) .none kV_l_word dc_l_word pm_l_word an_l_word cd_l_word ct_l_word), sl_l_word⟩) (C_l_word : PySem.W.codeIn K cd_l_word "_law_word" = true) (K_l_word : PySem.W.keepIn K (.ref f_l_word) = true)
    {f_l_number : Addr} {od_l_number an_l_number : Option Addr} {sl_l_number : Array (Option Value)} {oc_l_number kV_l_number dc_l_number pm_l_number cd_l_number ct_l_number : Value}
    (A_l_number : PySem.W.nsIn K mainGlobals "_law_number" = some (some (.ref f_l_number))) (L_l_number : K.lookup f_l_number = some ⟨oc_l_number, od_l_number, .func (PySem.W.fnOf "_law_number" "_law_number" (defArgs s_l_number) (defBody s_l_number) (defScope s_l_number) .none kV_l_number dc_l_number pm_l_number an_l_number cd_l_number ct_l_number), sl_l_number⟩) (C_l_number : PySem.W.codeIn K cd_l_number "_law_number" = true) (K_l_number : PySem.W.keepIn K (.ref f_l_number) = true)
    {f_l_node : Addr} {od_l_node an_l_node : Option Addr} {sl_l_node : Array (Option Value)} {oc_l_node kV_l_node dc_l_node pm_l_node cd_l_node ct_l_node : Value}
    (A_l_node : PySem.W.nsIn K mainGlobals "_law_node" = some (some (.ref f_l_node))) (L_l_node : K.lookup f_l_node = some ⟨oc_l_node, od_l_node, .func (PySem.W.fnOf "_law_node" "_law_node" (defArgs s_l_node) (defBody s_l_node) (defScope s_l_node) .none kV_l_node dc_l_node pm_l_node an_l_node cd_l_node ct_l_node), sl_l_node⟩) (C_l_node : PySem.W.codeIn K cd_l_node "_law_node" = true) (K_l_node : PySem.W.keepIn K (.ref f_l_node) = true)
    {f_l_expression : Addr} {od_l_expression an_l_expression : Option Addr} {sl_l_expression : Array (Option Value)} {oc_l_expression kV_l_expression dc_l_expression pm_l_expression cd_l_expression ct_l_expression : Value}
    (A_l_expression : PySem.W.nsIn K mainGlobals "_law_expression" = some (some (.ref f_l_expression))) (L_l_expression : K.lookup f_l_expression = some ⟨oc_l_expression, od_l_expression, .func (PySem.W.fnOf "_law_expression" "_law_expression" (defArgs s_l_expression) (defBody s_l_expression) (defScope s_l_expression) .none kV_l_expression dc_l_expression pm_l_expression an_l_expression cd_l_expression ct_l_expression), sl_l_expression⟩) (C_l_expression : PySem.W.codeIn K cd_l_expression "_law_expression" = true) (K_l_expression : PySem.W.keepIn K (.ref f_l_expression) = true)
    {f_l_kind : Addr} {od_l_kind an_l_kind : Option Addr} {sl_l_kind : Array (Option Value)} {oc_l_kind kV_l_kind dc_l_kind pm_l_kind cd_l_kind ct_l_kind : Value}
    (A_l_kind : PySem.W.nsIn K mainGlobals "_law_kind" = some (some (.ref f_l_kind))) (L_l_kind : K.lookup f_l_kind = some ⟨oc_l_kind, od_l_kind, .func (PySem.W.fnOf "_law_kind" "_law_kind" (defArgs s_l_kind) (defBody s_l_kind) (defScope s_l_kind) .none kV_l_kind dc_l_kind pm_l_kind an_l_kind cd_l_kind ct_l_kind), sl_l_kind⟩) (C_l_kind : PySem.W.codeIn K cd_l_kind "_law_kind" = true) (K_l_kind : PySem.W.keepIn K (.ref f_l_kind) = true)
    {f_l_count : Addr} {od_l_count an_l_count : Option Addr} {sl_l_count : Array (Option Value)} {oc_l_count kV_l_count dc_l_count pm_l_count cd_l_count ct_l_count : Value}
    (A_l_count : PySem.W.nsIn K mainGlobals "_law_count" = some (some (.ref f_l_count))) (L_l_count : K.lookup f_l_count = some ⟨oc_l_count, od_l_count, .func (PySem.W.fnOf "_law_count" "_law_count" (defArgs s_l_count) (defBody s_l_count) (defScope s_l_count) .none kV_l_count dc_l_count pm_l_count an_l_count cd_l_count ct_l_count), sl_l_count⟩) (C_l_count : PySem.W.codeIn K cd_l_count "_law_count" = true) (K_l_count : PySem.W.keepIn K (.ref f_l_count) = true)
    {f_l_pairs : Addr} {od_l_pairs an_l_pairs : Option Addr} {sl_l_pairs : Array (Option Value)} {oc_l_pairs kV_l_pairs dc_l_pairs pm_l_pairs cd_l_pairs ct_l_pairs : Value}
    (A_l_pairs : PySem.W.nsIn K mainGlobals "_law_pairs" = some (some (.ref f_l_pairs))) (L_l_pairs : K.lookup f_l_pairs = some ⟨oc_l_pairs, od_l_pairs, .func (PySem.W.fnOf "_law_pairs" "_law_pairs" (defArgs s_l_pairs) (defBody s_l_pairs) (defScope s_l_pairs) .none kV_l_pairs dc_l_pairs pm_l_pairs an_l_pairs cd_l_pairs ct_l_pairs), sl_l_pairs⟩) (C_l_pairs : PySem.W.codeIn K cd_l_pairs "_law_pairs" = true) (K_l_pairs : PySem.W.keepIn K (.ref f_l_pairs) = true)
    {f_l_leaf : Addr} {od_l_leaf an_l_leaf : Option Addr} {sl_l_leaf : Array (Option Value)} {oc_l_leaf kV_l_leaf dc_l_leaf pm_l_leaf cd_l_leaf ct_l_leaf : Value}
    (A_l_leaf : PySem.W.nsIn K mainGlobals "_law_leaf" = some (some (.ref f_l_leaf))) (L_l_leaf : K.lookup f_l_leaf = some ⟨oc_l_leaf, od_l_leaf, .func (PySem.W.fnOf "_law_leaf" "_law_leaf" (defArgs s_l_leaf) (defBody s_l_leaf) (defScope s_l_leaf) .none kV_l_leaf dc_l_leaf pm_l_leaf an_l_leaf cd_l_leaf ct_l_leaf), sl_l_leaf⟩) (C_l_leaf : PySem.W.codeIn K cd_l_leaf "_law_leaf" = true) (K_l_leaf : PySem.W.keepIn K (.ref f_l_leaf) = true)
    {f_l_body : Addr} {od_l_body an_l_body : Option Addr} {sl_l_body : Array (Option Value)} {oc_l_body kV_l_body dc_l_body pm_l_body cd_l_body ct_l_body : Value}
    (A_l_body : PySem.W.nsIn K mainGlobals "_law_body" = some (some (.ref f_l_body))) (L_l_body : K.lookup f_l_body = some ⟨oc_l_body, od_l_body, .func (PySem.W.fnOf "_law_body" "_law_body" (defArgs s_l_body) (defBody s_l_body) (defScope s_l_body) .none kV_l_body dc_l_body pm_l_body an_l_body cd_l_body ct_l_body), sl_l_body⟩) (C_l_body : PySem.W.codeIn K cd_l_body "_law_body" = true) (K_l_body : PySem.W.keepIn K (.ref f_l_body) = true)
    {f_l_program : Addr} {od_l_program an_l_program : Option Addr} {sl_l_program : Array (Option Value)} {oc_l_program kV_l_program dc_l_program pm_l_program cd_l_program ct_l_program : Value}
    (A_l_program : PySem.W.nsIn K mainGlobals "_law_program" = some (some (.ref f_l_program))) (L_l_program : K.lookup f_l_program = some ⟨oc_l_program, od_l_program, .func (PySem.W.fnOf "_law_program" "_law_program" (defArgs s_l_program) (defBody s_l_program) (defScope s_l_program) .none kV_l_program dc_l_program pm_l_program an_l_program cd_l_program ct_l_program), sl_l_program⟩) (C_l_program : PySem.W.codeIn K cd_l_program "_law_program" = true) (K_l_program : PySem.W.keepIn K (.ref f_l_program) = true)
    {f_l_joined : Addr} {od_l_joined an_l_joined : Option Addr} {sl_l_joined : Array (Option Value)} {oc_l_joined kV_l_joined dc_l_joined pm_l_joined cd_l_joined ct_l_joined : Value}
    (A_l_joined : PySem.W.nsIn K mainGlobals "_law_joined" = some (some (.ref f_l_joined))) (L_l_joined : K.lookup f_l_joined = some ⟨oc_l_joined, od_l_joined, .func (PySem.W.fnOf "_law_joined" "_law_joined" (defArgs s_l_joined) (defBody s_l_joined) (defScope s_l_joined) .none kV_l_joined dc_l_joined pm_l_joined an_l_joined cd_l_joined ct_l_joined), sl_l_joined⟩) (C_l_joined : PySem.W.codeIn K cd_l_joined "_law_joined" = true) (K_l_joined : PySem.W.keepIn K (.ref f_l_joined) = true)
    {f_l_kind_text : Addr} {od_l_kind_text an_l_kind_text : Option Addr} {sl_l_kind_text : Array (Option Value)} {oc_l_kind_text kV_l_kind_text dc_l_kind_text pm_l_kind_text cd_l_kind_text ct_l_kind_text : Value}
    (A_l_kind_text : PySem.W.nsIn K mainGlobals "_law_kind_text" = some (some (.ref f_l_kind_text))) (L_l_kind_text : K.lookup f_l_kind_text = some ⟨oc_l_kind_text, od_l_kind_text, .func (PySem.W.fnOf "_law_kind_text" "_law_kind_text" (defArgs s_l_kind_text) (defBody s_l_kind_text) (defScope s_l_kind_text) .none kV_l_kind_text dc_l_kind_text pm_l_kind_text an_l_kind_text cd_l_kind_text ct_l_kind_text), sl_l_kind_text⟩) (C_l_kind_text : PySem.W.codeIn K cd_l_kind_text "_law_kind_text" = true) (K_l_kind_text : PySem.W.keepIn K (.ref f_l_kind_text) = true)
    {f_l_text : Addr} {od_l_text an_l_text : Option Addr} {sl_l_text : Array (Option Value)} {oc_l_text kV_l_text dc_l_text pm_l_text cd_l_text ct_l_text : Value}
    (A_l_text : PySem.W.nsIn K mainGlobals "_law_text" = some (some (.ref f_l_text))) (L_l_text : K.lookup f_l_text = some ⟨oc_l_text, od_l_text, .func (PySem.W.fnOf "_law_text" "_law_text" (defArgs s_l_text) (defBody s_l_text) (defScope s_l_text) .none kV_l_text dc_l_text pm_l_text an_l_text cd_l_text ct_l_text), sl_l_text⟩) (C_l_text : PySem.W.codeIn K cd_l_text "_law_text" = true) (K_l_text : PySem.W.keepIn K (.ref f_l_text) = true)
    {f_l_line : Addr} {od_l_line an_l_line : Option Addr} {sl_l_line : Array (Option Value)} {oc_l_line kV_l_line dc_l_line pm_l_line cd_l_line ct_l_line : Value}
    (A_l_line : PySem.W.nsIn K mainGlobals "_law_line" = some (some (.ref f_l_line))) (L_l_line : K.lookup f_l_line = some ⟨oc_l_line, od_l_line, .func (PySem.W.fnOf "_law_line" "_law_line" (defArgs s_l_line) (defBody s_l_line) (defScope s_l_line) .none kV_l_line dc_l_line pm_l_line an_l_line cd_l_line ct_l_line), sl_l_line⟩) (C_l_line : PySem.W.codeIn K cd_l_line "_law_line" = true) (K_l_line : PySem.W.keepIn K (.ref f_l_line) = true)
    {f_l_lines : Addr} {od_l_lines an_l_lines : Option Addr} {sl_l_lines : Array (Option Value)} {oc_l_lines kV_l_lines dc_l_lines pm_l_lines cd_l_lines ct_l_lines : Value}
    (A_l_lines : PySem.W.nsIn K mainGlobals "_law_lines" = some (some (.ref f_l_lines))) (L_l_lines : K.lookup f_l_lines = some ⟨oc_l_lines, od_l_lines, .func (PySem.W.fnOf "_law_lines" "_law_lines" (defArgs s_l_lines) (defBody s_l_lines) (defScope s_l_lines) .none kV_l_lines dc_l_lines pm_l_lines an_l_lines cd_l_lines ct_l_lines), sl_l_lines⟩) (C_l_lines : PySem.W.codeIn K cd_l_lines "_law_lines" = true) (K_l_lines : PySem.W.keepIn K (.ref f_l_lines) = true)
    {f_l_function_lines : Addr} {od_l_function_lines an_l_function_lines : Option Addr} {sl_l_function_lines : Array (Option Value)} {oc_l_function_lines kV_l_function_lines dc_l_function_lines pm_l_function_lines cd_l_function_lines ct_l_function_lines : Value}
    (A_l_function_lines : PySem.W.nsIn K mainGlobals "_law_function_lines" = some (some (.ref f_l_function_lines))) (L_l_function_lines : K.lookup f_l_function_lines = some ⟨oc_l_function_lines, od_l_function_lines, .func (PySem.W.fnOf "_law_function_lines" "_law_function_lines" (defArgs s_l_function_lines) (defBody s_l_function_lines) (defScope s_l_function_lines) .none kV_l_function_lines dc_l_function_lines pm_l_function_lines an_l_function_lines cd_l_function_lines ct_l_function_lines), sl_l_function_lines⟩) (C_l_function_lines : PySem.W.codeIn K cd_l_function_lines "_law_function_lines" = true) (K_l_function_lines : PySem.W.keepIn K (.ref f_l_function_lines) = true)
    {f_l_program_lines : Addr} {od_l_program_lines an_l_program_lines : Option Addr} {sl_l_program_lines : Array (Option Value)} {oc_l_program_lines kV_l_program_lines dc_l_program_lines pm_l_program_lines cd_l_program_lines ct_l_program_lines : Value}
    (A_l_program_lines : PySem.W.nsIn K mainGlobals "_law_program_lines" = some (some (.ref f_l_program_lines))) (L_l_program_lines : K.lookup f_l_program_lines = some ⟨oc_l_program_lines, od_l_program_lines, .func (PySem.W.fnOf "_law_program_lines" "_law_program_lines" (defArgs s_l_program_lines) (defBody s_l_program_lines) (defScope s_l_program_lines) .none kV_l_program_lines dc_l_program_lines pm_l_program_lines an_l_program_lines cd_l_program_lines ct_l_program_lines), sl_l_program_lines⟩) (C_l_program_lines : PySem.W.codeIn K cd_l_program_lines "_law_program_lines" = true) (K_l_program_lines : PySem.W.keepIn K (.ref f_l_program_lines) = true)
    {f_l_same : Addr} {od_l_same an_l_same : Option Addr} {sl_l_same : Array (Option Value)} {oc_l_same kV_l_same dc_l_same pm_l_same cd_l_same ct_l_same : Value}
    (A_l_same : PySem.W.nsIn K mainGlobals "_law_same" = some (some (.ref f_l_same))) (L_l_same : K.lookup f_l_same = some ⟨oc_l_same, od_l_same, .func (PySem.W.fnOf "_law_same" "_law_same" (defArgs s_l_same) (defBody s_l_same) (defScope s_l_same) .none kV_l_same dc_l_same pm_l_same an_l_same cd_l_same ct_l_same), sl_l_same⟩) (C_l_same : PySem.W.codeIn K cd_l_same "_law_same" = true) (K_l_same : PySem.W.keepIn K (.ref f_l_same) = true)
    {f_law : Addr} {od_law an_law : Option Addr} {sl_law : Array (Option Value)} {oc_law kV_law dc_law pm_law cd_law ct_law : Value}
    (A_law : PySem.W.nsIn K mainGlobals "law" = some (some (.ref f_law))) (L_law : K.lookup f_law = some ⟨oc_law, od_law, .func (PySem.W.fnOf "law" "law" (defArgs s_law) (defBody s_law) (defScope s_law) .none kV_law dc_law pm_law an_law cd_law ct_law), sl_law⟩) (C_law : PySem.W.codeIn K cd_law "law" = true) (K_law : PySem.W.keepIn K (.ref f_law) = true)
    {d_PARTS : Addr} {es_PARTS : Array DictEntry} {n_PARTS : Nat} (A_PARTS : PySem.W.nsIn K mainGlobals "PARTS" = some (some (.ref d_PARTS))) (D_PARTS : K.lookup d_PARTS = some ⟨.type "dict", none, .dict es_PARTS n_PARTS, #[]⟩) (Y_PARTS : PySem.W.KeysLit w.params es_PARTS.toList)
    {r_PARTS_0 : Addr} {dd_PARTS_0 : Option Addr} {its_PARTS_0 : Array Value} {n_PARTS_0 : Nat} {sl_PARTS_0 : Array (Option Value)} (N_PARTS_0 : PySem.W.nsIn K d_PARTS "set" = some (some (.ref r_PARTS_0))) (R_PARTS_0 : K.lookup r_PARTS_0 = some ⟨.type "tuple", dd_PARTS_0, .seq its_PARTS_0 n_PARTS_0, sl_PARTS_0⟩) (V_PARTS_0 : isStrs ["variable", "expression"] its_PARTS_0.toList = true)
    {r_PARTS_1 : Addr} {dd_PARTS_1 : Option Addr} {its_PARTS_1 : Array Value} {n_PARTS_1 : Nat} {sl_PARTS_1 : Array (Option Value)} (N_PARTS_1 : PySem.W.nsIn K d_PARTS "input" = some (some (.ref r_PARTS_1))) (R_PARTS_1 : K.lookup r_PARTS_1 = some ⟨.type "tuple", dd_PARTS_1, .seq its_PARTS_1 n_PARTS_1, sl_PARTS_1⟩) (V_PARTS_1 : isStrs ["variable"] its_PARTS_1.toList = true)
    {r_PARTS_2 : Addr} {dd_PARTS_2 : Option Addr} {its_PARTS_2 : Array Value} {n_PARTS_2 : Nat} {sl_PARTS_2 : Array (Option Value)} (N_PARTS_2 : PySem.W.nsIn K d_PARTS "new" = some (some (.ref r_PARTS_2))) (R_PARTS_2 : K.lookup r_PARTS_2 = some ⟨.type "tuple", dd_PARTS_2, .seq its_PARTS_2 n_PARTS_2, sl_PARTS_2⟩) (V_PARTS_2 : isStrs ["variable"] its_PARTS_2.toList = true)
    {r_PARTS_3 : Addr} {dd_PARTS_3 : Option Addr} {its_PARTS_3 : Array Value} {n_PARTS_3 : Nat} {sl_PARTS_3 : Array (Option Value)} (N_PARTS_3 : PySem.W.nsIn K d_PARTS "free" = some (some (.ref r_PARTS_3))) (R_PARTS_3 : K.lookup r_PARTS_3 = some ⟨.type "tuple", dd_PARTS_3, .seq its_PARTS_3 n_PARTS_3, sl_PARTS_3⟩) (V_PARTS_3 : isStrs ["variable"] its_PARTS_3.toList = true)
    {r_PARTS_4 : Addr} {dd_PARTS_4 : Option Addr} {its_PARTS_4 : Array Value} {n_PARTS_4 : Nat} {sl_PARTS_4 : Array (Option Value)} (N_PARTS_4 : PySem.W.nsIn K d_PARTS "load" = some (some (.ref r_PARTS_4))) (R_PARTS_4 : K.lookup r_PARTS_4 = some ⟨.type "tuple", dd_PARTS_4, .seq its_PARTS_4 n_PARTS_4, sl_PARTS_4⟩) (V_PARTS_4 : isStrs ["variable", "variable", "field"] its_PARTS_4.toList = true)
    {r_PARTS_5 : Addr} {dd_PARTS_5 : Option Addr} {its_PARTS_5 : Array Value} {n_PARTS_5 : Nat} {sl_PARTS_5 : Array (Option Value)} (N_PARTS_5 : PySem.W.nsIn K d_PARTS "store" = some (some (.ref r_PARTS_5))) (R_PARTS_5 : K.lookup r_PARTS_5 = some ⟨.type "tuple", dd_PARTS_5, .seq its_PARTS_5 n_PARTS_5, sl_PARTS_5⟩) (V_PARTS_5 : isStrs ["variable", "field", "expression"] its_PARTS_5.toList = true)
    {r_PARTS_6 : Addr} {dd_PARTS_6 : Option Addr} {its_PARTS_6 : Array Value} {n_PARTS_6 : Nat} {sl_PARTS_6 : Array (Option Value)} (N_PARTS_6 : PySem.W.nsIn K d_PARTS "get" = some (some (.ref r_PARTS_6))) (R_PARTS_6 : K.lookup r_PARTS_6 = some ⟨.type "tuple", dd_PARTS_6, .seq its_PARTS_6 n_PARTS_6, sl_PARTS_6⟩) (V_PARTS_6 : isStrs ["variable", "array", "expression"] its_PARTS_6.toList = true)
    {r_PARTS_7 : Addr} {dd_PARTS_7 : Option Addr} {its_PARTS_7 : Array Value} {n_PARTS_7 : Nat} {sl_PARTS_7 : Array (Option Value)} (N_PARTS_7 : PySem.W.nsIn K d_PARTS "put" = some (some (.ref r_PARTS_7))) (R_PARTS_7 : K.lookup r_PARTS_7 = some ⟨.type "tuple", dd_PARTS_7, .seq its_PARTS_7 n_PARTS_7, sl_PARTS_7⟩) (V_PARTS_7 : isStrs ["array", "expression", "expression"] its_PARTS_7.toList = true)
    {r_PARTS_8 : Addr} {dd_PARTS_8 : Option Addr} {its_PARTS_8 : Array Value} {n_PARTS_8 : Nat} {sl_PARTS_8 : Array (Option Value)} (N_PARTS_8 : PySem.W.nsIn K d_PARTS "call" = some (some (.ref r_PARTS_8))) (R_PARTS_8 : K.lookup r_PARTS_8 = some ⟨.type "tuple", dd_PARTS_8, .seq its_PARTS_8 n_PARTS_8, sl_PARTS_8⟩) (V_PARTS_8 : isStrs ["variable", "function", "arguments"] its_PARTS_8.toList = true)
    {r_PARTS_9 : Addr} {dd_PARTS_9 : Option Addr} {its_PARTS_9 : Array Value} {n_PARTS_9 : Nat} {sl_PARTS_9 : Array (Option Value)} (N_PARTS_9 : PySem.W.nsIn K d_PARTS "return" = some (some (.ref r_PARTS_9))) (R_PARTS_9 : K.lookup r_PARTS_9 = some ⟨.type "tuple", dd_PARTS_9, .seq its_PARTS_9 n_PARTS_9, sl_PARTS_9⟩) (V_PARTS_9 : isStrs ["expression"] its_PARTS_9.toList = true)
    {r_PARTS_10 : Addr} {dd_PARTS_10 : Option Addr} {its_PARTS_10 : Array Value} {n_PARTS_10 : Nat} {sl_PARTS_10 : Array (Option Value)} (N_PARTS_10 : PySem.W.nsIn K d_PARTS "if" = some (some (.ref r_PARTS_10))) (R_PARTS_10 : K.lookup r_PARTS_10 = some ⟨.type "tuple", dd_PARTS_10, .seq its_PARTS_10 n_PARTS_10, sl_PARTS_10⟩) (V_PARTS_10 : isStrs ["expression", "body", "body"] its_PARTS_10.toList = true)
    {r_PARTS_11 : Addr} {dd_PARTS_11 : Option Addr} {its_PARTS_11 : Array Value} {n_PARTS_11 : Nat} {sl_PARTS_11 : Array (Option Value)} (N_PARTS_11 : PySem.W.nsIn K d_PARTS "while" = some (some (.ref r_PARTS_11))) (R_PARTS_11 : K.lookup r_PARTS_11 = some ⟨.type "tuple", dd_PARTS_11, .seq its_PARTS_11 n_PARTS_11, sl_PARTS_11⟩) (V_PARTS_11 : isStrs ["expression", "body"] its_PARTS_11.toList = true)
    {r_PARTS_12 : Addr} {dd_PARTS_12 : Option Addr} {its_PARTS_12 : Array Value} {n_PARTS_12 : Nat} {sl_PARTS_12 : Array (Option Value)} (N_PARTS_12 : PySem.W.nsIn K d_PARTS "break" = some (some (.ref r_PARTS_12))) (R_PARTS_12 : K.lookup r_PARTS_12 = some ⟨.type "tuple", dd_PARTS_12, .seq its_PARTS_12 n_PARTS_12, sl_PARTS_12⟩) (V_PARTS_12 : isStrs [] its_PARTS_12.toList = true)
    {r_PARTS_13 : Addr} {dd_PARTS_13 : Option Addr} {its_PARTS_13 : Array Value} {n_PARTS_13 : Nat} {sl_PARTS_13 : Array (Option Value)} (N_PARTS_13 : PySem.W.nsIn K d_PARTS "assert" = some (some (.ref r_PARTS_13))) (R_PARTS_13 : K.lookup r_PARTS_13 = some ⟨.type "tuple", dd_PARTS_13, .seq its_PARTS_13 n_PARTS_13, sl_PARTS_13⟩) (V_PARTS_13 : isStrs ["expression"] its_PARTS_13.toList = true)
    {u_STEP : Value} (A_STEP : PySem.W.nsIn K mainGlobals "STEP" = some (some u_STEP)) (U_STEP : ∃ t, u_STEP = .str "  " t)
    (Z_bool : PySem.W.nsIn K mainGlobals "bool" = some none)
    (Z_int : PySem.W.nsIn K mainGlobals "int" = some none)
    (Z_isinstance : PySem.W.nsIn K mainGlobals "isinstance" = some none)
    (Z_len : PySem.W.nsIn K mainGlobals "len" = some none)
    (Z_list : PySem.W.nsIn K mainGlobals "list" = some none)
    (Z_max : PySem.W.nsIn K mainGlobals "max" = some none)
    (Z_min : PySem.W.nsIn K mainGlobals "min" = some none)
    (Z_range : PySem.W.nsIn K mainGlobals "range" = some none)
    (Z_str : PySem.W.nsIn K mainGlobals "str" = some none)
    (Z_tuple : PySem.W.nsIn K mainGlobals "tuple" = some none)
    (Z_zip : PySem.W.nsIn K mainGlobals "zip" = some none) :
    ∃ fd : FuncData, (∀ (s : Shared) (v : Value), BindsTo s fd ⟨[v], []⟩ [("_law_script", v)]) ∧ ∀ base : Heap, K.In base → base.Ns mainGlobals mg → FnOk l.prog w K mg base CX0 24 fa fd ["_law_script"] (spLaw K) := by
  have e := hfa.symm.trans (PySem.W.mg_of X G A_law)
  cases e
  let T : Txt w K mg := {
    a_parts_of := f_parts_of, d_parts_of := _, F_parts_of := fun_mk (st := s_parts_of) L_parts_of C_parts_of K_parts_of, b_parts_of := (fun_mk (st := s_parts_of) L_parts_of C_parts_of K_parts_of).binds (ps := p_parts_of) (fun _ _ _ _ _ _ us hl => match us, hl with | [_], _ => rfl), m_parts_of := PySem.W.mg_of X G A_parts_of,
    a_bodies_of := f_bodies_of, d_bodies_of := _, F_bodies_of := fun_mk (st := s_bodies_of) L_bodies_of C_bodies_of K_bodies_of, b_bodies_of := (fun_mk (st := s_bodies_of) L_bodies_of C_bodies_of K_bodies_of).binds (ps := p_bodies_of) (fun _ _ _ _ _ _ us hl => match us, hl with | [_], _ => rfl), m_bodies_of := PySem.W.mg_of X G A_bodies_of,
    a_expression_text := f_expression_text, d_expression_text := _, F_expression_text := fun_mk (st := s_expression_text) L_expression_text C_expression_text K_expression_text, b_expression_text := (fun_mk (st := s_expression_text) L_expression_text C_expression_text K_expression_text).binds (ps := p_expression_text) (fun _ _ _ _ _ _ us hl => match us, hl with | [_], _ => rfl), m_expression_text := PySem.W.mg_of X G A_expression_text,
    a_kind_text := f_kind_text, d_kind_text := _, F_kind_text := fun_mk (st := s_kind_text) L_kind_text C_kind_text K_kind_text, b_kind_text := (fun_mk (st := s_kind_text) L_kind_text C_kind_text K_kind_text).binds (ps := p_kind_text) (fun _ _ _ _ _ _ us hl => match us, hl with | [_], _ => rfl), m_kind_text := PySem.W.mg_of X G A_kind_text,
    a_declaration_text := f_declaration_text, d_declaration_text := _, F_declaration_text := fun_mk (st := s_declaration_text) L_declaration_text C_declaration_text K_declaration_text, b_declaration_text := (fun_mk (st := s_declaration_text) L_declaration_text C_declaration_text K_declaration_text).binds (ps := p_declaration_text) (fun _ _ _ _ _ _ us hl => match us, hl with | [_], _ => rfl), m_declaration_text := PySem.W.mg_of X G A_declaration_text,
    a_arguments_text := f_arguments_text, d_arguments_text := _, F_arguments_text := fun_mk (st := s_arguments_text) L_arguments_text C_arguments_text K_arguments_text, b_arguments_text := (fun_mk (st := s_arguments_text) L_arguments_text C_arguments_text K_arguments_text).binds (ps := p_arguments_text) (fun _ _ _ _ _ _ us hl => match us, hl with | [_], _ => rfl), m_arguments_text := PySem.W.mg_of X G A_arguments_text,
    a_part_text := f_part_text, d_part_text := _, F_part_text := fun_mk (st := s_part_text) L_part_text C_part_text K_part_text, b_part_text := (fun_mk (st := s_part_text) L_part_text C_part_text K_part_text).binds (ps := p_part_text) (fun _ _ _ _ _ _ us hl => match us, hl with | [_, _], _ => rfl), m_part_text := PySem.W.mg_of X G A_part_text,
    a_statement_text := f_statement_text, d_statement_text := _, F_statement_text := fun_mk (st := s_statement_text) L_statement_text C_statement_text K_statement_text, b_statement_text := (fun_mk (st := s_statement_text) L_statement_text C_statement_text K_statement_text).binds (ps := p_statement_text) (fun _ _ _ _ _ _ us hl => match us, hl with | [_], _ => rfl), m_statement_text := PySem.W.mg_of X G A_statement_text,
    a_body_lines := f_body_lines, d_body_lines := _, F_body_lines := fun_mk (st := s_body_lines) L_body_lines C_body_lines K_body_lines, b_body_lines := (fun_mk (st := s_body_lines) L_body_lines C_body_lines K_body_lines).binds (ps := p_body_lines) (fun _ _ _ _ _ _ us hl => match us, hl with | [_, _], _ => rfl), m_body_lines := PySem.W.mg_of X G A_body_lines,
    a_record_lines := f_record_lines, d_record_lines := _, F_record_lines := fun_mk (st := s_record_lines) L_record_lines C_record_lines K_record_lines, b_record_lines := (fun_mk (st := s_record_lines) L_record_lines C_record_lines K_record_lines).binds (ps := p_record_lines) (fun _ _ _ _ _ _ us hl => match us, hl with | [_], _ => rfl), m_record_lines := PySem.W.mg_of X G A_record_lines,
    a_array_line := f_array_line, d_array_line := _, F_array_line := fun_mk (st := s_array_line) L_array_line C_array_line K_array_line, b_array_line := (fun_mk (st := s_array_line) L_array_line C_array_line K_array_line).binds (ps := p_array_line) (fun _ _ _ _ _ _ us hl => match us, hl with | [_], _ => rfl), m_array_line := PySem.W.mg_of X G A_array_line,
    a_function_lines := f_function_lines, d_function_lines := _, F_function_lines := fun_mk (st := s_function_lines) L_function_lines C_function_lines K_function_lines, b_function_lines := (fun_mk (st := s_function_lines) L_function_lines C_function_lines K_function_lines).binds (ps := p_function_lines) (fun _ _ _ _ _ _ us hl => match us, hl with | [_], _ => rfl), m_function_lines := PySem.W.mg_of X G A_function_lines,
    a_joined := f_joined, d_joined := _, F_joined := fun_mk (st := s_joined) L_joined C_joined K_joined, b_joined := (fun_mk (st := s_joined) L_joined C_joined K_joined).binds (ps := p_joined) (fun _ _ _ _ _ _ us hl => match us, hl with | [_], _ => rfl), m_joined := PySem.W.mg_of X G A_joined,
    a_function_text := f_function_text, d_function_text := _, F_function_text := fun_mk (st := s_function_text) L_function_text C_function_text K_function_text, b_function_text := (fun_mk (st := s_function_text) L_function_text C_function_text K_function_text).binds (ps := p_function_text) (fun _ _ _ _ _ _ us hl => match us, hl with | [_], _ => rfl), m_function_text := PySem.W.mg_of X G A_function_text,
    a_program_text := f_program_text, d_program_text := _, F_program_text := fun_mk (st := s_program_text) L_program_text C_program_text K_program_text, b_program_text := (fun_mk (st := s_program_text) L_program_text C_program_text K_program_text).binds (ps := p_program_text) (fun _ _ _ _ _ _ us hl => match us, hl with | [_], _ => rfl), m_program_text := PySem.W.mg_of X G A_program_text,
    a_l_cell := f_l_cell, d_l_cell := _, F_l_cell := fun_mk (st := s_l_cell) L_l_cell C_l_cell K_l_cell, b_l_cell := (fun_mk (st := s_l_cell) L_l_cell C_l_cell K_l_cell).binds (ps := p_l_cell) (fun _ _ _ _ _ _ us hl => match us, hl with | [_, _], _ => rfl), m_l_cell := PySem.W.mg_of X G A_l_cell,
    a_l_source := f_l_source, d_l_source := _, F_l_source := fun_mk (st := s_l_source) L_l_source C_l_source K_l_source, b_l_source := (fun_mk (st := s_l_source) L_l_source C_l_source K_l_source).binds (ps := p_l_source) (fun _ _ _ _ _ _ us hl => match us, hl with | [_], _ => rfl), m_l_source := PySem.W.mg_of X G A_l_source,
    a_l_pick := f_l_pick, d_l_pick := _, F_l_pick := fun_mk (st := s_l_pick) L_l_pick C_l_pick K_l_pick, b_l_pick := (fun_mk (st := s_l_pick) L_l_pick C_l_pick K_l_pick).binds (ps := p_l_pick) (fun _ _ _ _ _ _ us hl => match us, hl with | [_, _], _ => rfl), m_l_pick := PySem.W.mg_of X G A_l_pick,
    a_l_one := f_l_one, d_l_one := _, F_l_one := fun_mk (st := s_l_one) L_l_one C_l_one K_l_one, b_l_one := (fun_mk (st := s_l_one) L_l_one C_l_one K_l_one).binds (ps := p_l_one) (fun _ _ _ _ _ _ us hl => match us, hl with | [_, _], _ => rfl), m_l_one := PySem.W.mg_of X G A_l_one,
    a_l_reserved := f_l_reserved, d_l_reserved := _, F_l_reserved := fun_mk (st := s_l_reserved) L_l_reserved C_l_reserved K_l_reserved, b_l_reserved := (fun_mk (st := s_l_reserved) L_l_reserved C_l_reserved K_l_reserved).binds (ps := p_l_reserved) (fun _ _ _ _ _ _ us hl => match us, hl with | [], _ => rfl), m_l_reserved := PySem.W.mg_of X G A_l_reserved,
    a_l_name := f_l_name, d_l_name := _, F_l_name := fun_mk (st := s_l_name) L_l_name C_l_name K_l_name, b_l_name := (fun_mk (st := s_l_name) L_l_name C_l_name K_l_name).binds (ps := p_l_name) (fun _ _ _ _ _ _ us hl => match us, hl with | [_, _], _ => rfl), m_l_name := PySem.W.mg_of X G A_l_name,
    a_l_word := f_l_word, d_l_word := _, F_l_word := fun_mk (st := s_l_word) L_l_word C_l_word K_l_word, b_l_word := (fun_mk (st := s_l_word) L_l_word C_l_word K_l_word).binds (ps := p_l_word) (fun _ _ _ _ _ _ us hl => match us, hl with | [_, _], _ => rfl), m_l_word := PySem.W.mg_of X G A_l_word,
    a_l_number := f_l_number, d_l_number := _, F_l_number := fun_mk (st := s_l_number) L_l_number C_l_number K_l_number, b_l_number := (fun_mk (st := s_l_number) L_l_number C_l_number K_l_number).binds (ps := p_l_number) (fun _ _ _ _ _ _ us hl => match us, hl with | [_, _], _ => rfl), m_l_number := PySem.W.mg_of X G A_l_number,
    a_l_node := f_l_node, d_l_node := _, F_l_node := fun_mk (st := s_l_node) L_l_node C_l_node K_l_node, b_l_node := (fun_mk (st := s_l_node) L_l_node C_l_node K_l_node).binds (ps := p_l_node) (fun _ _ _ _ _ _ us hl => match us, hl with | [_, _, _, _], _ => rfl), m_l_node := PySem.W.mg_of X G A_l_node,
    a_l_expression := f_l_expression, d_l_expression := _, F_l_expression := fun_mk (st := s_l_expression) L_l_expression C_l_expression K_l_expression, b_l_expression := (fun_mk (st := s_l_expression) L_l_expression C_l_expression K_l_expression).binds (ps := p_l_expression) (fun _ _ _ _ _ _ us hl => match us, hl with | [_, _, _], _ => rfl), m_l_expression := PySem.W.mg_of X G A_l_expression,
    a_l_kind := f_l_kind, d_l_kind := _, F_l_kind := fun_mk (st := s_l_kind) L_l_kind C_l_kind K_l_kind, b_l_kind := (fun_mk (st := s_l_kind) L_l_kind C_l_kind K_l_kind).binds (ps := p_l_kind) (fun _ _ _ _ _ _ us hl => match us, hl with | [_, _, _], _ => rfl), m_l_kind := PySem.W.mg_of X G A_l_kind,
    a_l_count := f_l_count, d_l_count := _, F_l_count := fun_mk (st := s_l_count) L_l_count C_l_count K_l_count, b_l_count := (fun_mk (st := s_l_count) L_l_count C_l_count K_l_count).binds (ps := p_l_count) (fun _ _ _ _ _ _ us hl => match us, hl with | [_, _], _ => rfl), m_l_count := PySem.W.mg_of X G A_l_count,
    a_l_pairs := f_l_pairs, d_l_pairs := _, F_l_pairs := fun_mk (st := s_l_pairs) L_l_pairs C_l_pairs K_l_pairs, b_l_pairs := (fun_mk (st := s_l_pairs) L_l_pairs C_l_pairs K_l_pairs).binds (ps := p_l_pairs) (fun _ _ _ _ _ _ us hl => match us, hl with | [_, _, _, _], _ => rfl), m_l_pairs := PySem.W.mg_of X G A_l_pairs,
    a_l_leaf := f_l_leaf, d_l_leaf := _, F_l_leaf := fun_mk (st := s_l_leaf) L_l_leaf C_l_leaf K_l_leaf, b_l_leaf := (fun_mk (st := s_l_leaf) L_l_leaf C_l_leaf K_l_leaf).binds (ps := p_l_leaf) (fun _ _ _ _ _ _ us hl => match us, hl with | [_, _], _ => rfl), m_l_leaf := PySem.W.mg_of X G A_l_leaf,
    a_l_body := f_l_body, d_l_body := _, F_l_body := fun_mk (st := s_l_body) L_l_body C_l_body K_l_body, b_l_body := (fun_mk (st := s_l_body) L_l_body C_l_body K_l_body).binds (ps := p_l_body) (fun _ _ _ _ _ _ us hl => match us, hl with | [_, _, _, _], _ => rfl), m_l_body := PySem.W.mg_of X G A_l_body,
    a_l_program := f_l_program, d_l_program := _, F_l_program := fun_mk (st := s_l_program) L_l_program C_l_program K_l_program, b_l_program := (fun_mk (st := s_l_program) L_l_program C_l_program K_l_program).binds (ps := p_l_program) (fun _ _ _ _ _ _ us hl => match us, hl with | [_, _], _ => rfl), m_l_program := PySem.W.mg_of X G A_l_program,
    a_l_joined := f_l_joined, d_l_joined := _, F_l_joined := fun_mk (st := s_l_joined) L_l_joined C_l_joined K_l_joined, b_l_joined := (fun_mk (st := s_l_joined) L_l_joined C_l_joined K_l_joined).binds (ps := p_l_joined) (fun _ _ _ _ _ _ us hl => match us, hl with | [_], _ => rfl), m_l_joined := PySem.W.mg_of X G A_l_joined,
    a_l_kind_text := f_l_kind_text, d_l_kind_text := _, F_l_kind_text := fun_mk (st := s_l_kind_text) L_l_kind_text C_l_kind_text K_l_kind_text, b_l_kind_text := (fun_mk (st := s_l_kind_text) L_l_kind_text C_l_kind_text K_l_kind_text).binds (ps := p_l_kind_text) (fun _ _ _ _ _ _ us hl => match us, hl with | [_], _ => rfl), m_l_kind_text := PySem.W.mg_of X G A_l_kind_text,
    a_l_text := f_l_text, d_l_text := _, F_l_text := fun_mk (st := s_l_text) L_l_text C_l_text K_l_text, b_l_text := (fun_mk (st := s_l_text) L_l_text C_l_text K_l_text).binds (ps := p_l_text) (fun _ _ _ _ _ _ us hl => match us, hl with | [_], _ => rfl), m_l_text := PySem.W.mg_of X G A_l_text,
    a_l_line := f_l_line, d_l_line := _, F_l_line := fun_mk (st := s_l_line) L_l_line C_l_line K_l_line, b_l_line := (fun_mk (st := s_l_line) L_l_line C_l_line K_l_line).binds (ps := p_l_line) (fun _ _ _ _ _ _ us hl => match us, hl with | [_], _ => rfl), m_l_line := PySem.W.mg_of X G A_l_line,
    a_l_lines := f_l_lines, d_l_lines := _, F_l_lines := fun_mk (st := s_l_lines) L_l_lines C_l_lines K_l_lines, b_l_lines := (fun_mk (st := s_l_lines) L_l_lines C_l_lines K_l_lines).binds (ps := p_l_lines) (fun _ _ _ _ _ _ us hl => match us, hl with | [_, _], _ => rfl), m_l_lines := PySem.W.mg_of X G A_l_lines,
    a_l_function_lines := f_l_function_lines, d_l_function_lines := _, F_l_function_lines := fun_mk (st := s_l_function_lines) L_l_function_lines C_l_function_lines K_l_function_lines, b_l_function_lines := (fun_mk (st := s_l_function_lines) L_l_function_lines C_l_function_lines K_l_function_lines).binds (ps := p_l_function_lines) (fun _ _ _ _ _ _ us hl => match us, hl with | [_], _ => rfl), m_l_function_lines := PySem.W.mg_of X G A_l_function_lines,
    a_l_program_lines := f_l_program_lines, d_l_program_lines := _, F_l_program_lines := fun_mk (st := s_l_program_lines) L_l_program_lines C_l_program_lines K_l_program_lines, b_l_program_lines := (fun_mk (st := s_l_program_lines) L_l_program_lines C_l_program_lines K_l_program_lines).binds (ps := p_l_program_lines) (fun _ _ _ _ _ _ us hl => match us, hl with | [_], _ => rfl), m_l_program_lines := PySem.W.mg_of X G A_l_program_lines,
    a_l_same := f_l_same, d_l_same := _, F_l_same := fun_mk (st := s_l_same) L_l_same C_l_same K_l_same, b_l_same := (fun_mk (st := s_l_same) L_l_same C_l_same K_l_same).binds (ps := p_l_same) (fun _ _ _ _ _ _ us hl => match us, hl with | [_, _], _ => rfl), m_l_same := PySem.W.mg_of X G A_l_same,
    a_law := fa, d_law := _, F_law := fun_mk (st := s_law) L_law C_law K_law, b_law := (fun_mk (st := s_law) L_law C_law K_law).binds (ps := p_law) (fun _ _ _ _ _ _ us hl => match us, hl with | [_], _ => rfl), m_law := PySem.W.mg_of X G A_law,
    c_PARTS := ⟨d_PARTS, PySem.W.mg_of X G A_PARTS, by
      intro q hq
      simp only [tb_PARTS, List.mem_cons, List.not_mem_nil, or_false] at hq
      rcases hq with rfl | rfl | rfl | rfl | rfl | rfl | rfl | rfl | rfl | rfl | rfl | rfl | rfl | rfl
      · exact kpart D_PARTS Y_PARTS N_PARTS_0 R_PARTS_0 (by decide) V_PARTS_0
      · exact kpart D_PARTS Y_PARTS N_PARTS_1 R_PARTS_1 (by decide) V_PARTS_1
      · exact kpart D_PARTS Y_PARTS N_PARTS_2 R_PARTS_2 (by decide) V_PARTS_2
      · exact kpart D_PARTS Y_PARTS N_PARTS_3 R_PARTS_3 (by decide) V_PARTS_3
      · exact kpart D_PARTS Y_PARTS N_PARTS_4 R_PARTS_4 (by decide) V_PARTS_4
      · exact kpart D_PARTS Y_PARTS N_PARTS_5 R_PARTS_5 (by decide) V_PARTS_5
      · exact kpart D_PARTS Y_PARTS N_PARTS_6 R_PARTS_6 (by decide) V_PARTS_6
      · exact kpart D_PARTS Y_PARTS N_PARTS_7 R_PARTS_7 (by decide) V_PARTS_7
      · exact kpart D_PARTS Y_PARTS N_PARTS_8 R_PARTS_8 (by decide) V_PARTS_8
      · exact kpart D_PARTS Y_PARTS N_PARTS_9 R_PARTS_9 (by decide) V_PARTS_9
      · exact kpart D_PARTS Y_PARTS N_PARTS_10 R_PARTS_10 (by decide) V_PARTS_10
      · exact kpart D_PARTS Y_PARTS N_PARTS_11 R_PARTS_11 (by decide) V_PARTS_11
      · exact kpart D_PARTS Y_PARTS N_PARTS_12 R_PARTS_12 (by decide) V_PARTS_12
      · exact kpart D_PARTS Y_PARTS N_PARTS_13 R_PARTS_13 (by decide) V_PARTS_13⟩,
    c_STEP := by obtain ⟨t, e⟩ := U_STEP; exact ⟨t, by rw [← e]; exact PySem.W.mg_of X G A_STEP⟩,
    z_bool := PySem.W.mg_none_of X G Z_bool,
    z_int := PySem.W.mg_none_of X G Z_int,
    z_isinstance := PySem.W.mg_none_of X G Z_isinstance,
    z_len := PySem.W.mg_none_of X G Z_len,
    z_list := PySem.W.mg_none_of X G Z_list,
    z_max := PySem.W.mg_none_of X G Z_max,
    z_min := PySem.W.mg_none_of X G Z_min,
    z_range := PySem.W.mg_none_of X G Z_range,
    z_str := PySem.W.mg_none_of X G Z_str,
    z_tuple := PySem.W.mg_none_of X G Z_tuple,
    z_zip := PySem.W.mg_none_of X G Z_zip }
  refine ⟨PySem.W.fnOf "law" "law" (defArgs s_law) (defBody s_law) (defScope s_law) .none kV_law dc_law pm_law an_law cd_law ct_law, fun s v => .of_eq rfl, fun base _ _ => ok_law T⟩
theorem walk {l : PySem.W.OpenLaw} {q : Program} {loose : List Str} {XP : (Str → Option Value) → Heap → Prop} {YP : World → Heap → Prop} {d : DefRec} {K : Params → PySem.W.Frag} (hn : l.most = some 63) (hdf : d.params.defaults = [])
    (hY : ∀ (w : World) (h : Heap), YP w h → (K w.params).In h)
    (F : ∀ (w : World) (mg : Str → Option Value) (fa : Addr) (h : Heap), (K w.params).In h → h.Ns mainGlobals mg → mg d.name = some (.ref fa) →
      ∃ fd : FuncData, (∀ (s : Shared) (u : Value), BindsTo s fd ⟨[u], []⟩ [("_law_script", u)]) ∧ ∀ base : Heap, (K w.params).In base → base.Ns mainGlobals mg → FnOk l.prog w (K w.params) mg base CX0 24 fa fd ["_law_script"] (spLaw (K w.params))) :
    PySem.W.WalkO q loose XP YP l.row.toRowW d [] (fun f vs => PySem.call f vs) :=
  L2.walk_of (n := 63) (k := 24) (x := "_law_script") (CX := fun _ => CX0) (sp := fun w => spLaw (K w.params)) hn (by decide) hdf ⟨rfl, by decide, by decide⟩ hY F (fun _ _ a ns hl _ hS => ⟨a, ns, rfl, hS, hl, fun _ => rfl⟩) fun _ _ _ _ _ z => z
end Mine
open PySem PySem.W PyProof.Rows
set_option maxRecDepth 100000 in
set_option maxHeartbeats 0 in
theorem PySem.Challenge.cw_neverhappens_k03_whole_program_text_holds : PySem.Challenge.rw_neverhappens_k03_whole_program_text.Holds := by
  w_on; o_law; k_head; (case hw => w_witness2)
  k_fill
  refine Mine.walk (l := PySem.Challenge.rw_neverhappens_k03_whole_program_text) rfl rfl (fun w h Y => PySem.W.kIn_of Y) ?F
  case F =>
    intro w mg fa h KX G hmg
    refine' Mine.all_mk KX G hmg ?A_parts_of ?L_parts_of ?C_parts_of ?K_parts_of ?A_bodies_of ?L_bodies_of ?C_bodies_of ?K_bodies_of ?A_expression_text ?L_expression_text ?C_expression_text ?K_expression_text ?A_kind_text ?L_kind_text ?C_kind_text ?K_kind_text ?A_declaration_text ?L_declaration_text ?C_declaration_text ?K_declaration_text ?A_arguments_text ?L_arguments_text ?C_arguments_text ?K_arguments_text ?A_part_text ?L_part_text ?C_part_text ?K_part_text ?A_statement_text ?L_statement_text ?C_statement_text ?K_statement_text ?A_body_lines ?L_body_lines ?C_body_lines ?K_body_lines ?A_record_lines ?L_record_lines ?C_record_lines ?K_record_lines ?A_array_line ?L_array_line ?C_array_line ?K_array_line ?A_function_lines ?L_function_lines ?C_function_lines ?K_function_lines ?A_joined ?L_joined ?C_joined ?K_joined ?A_function_text ?L_function_text ?C_function_text ?K_function_text ?A_program_text ?L_program_text ?C_program_text ?K_program_text ?A_l_cell ?L_l_cell ?C_l_cell ?K_l_cell ?A_l_source ?L_l_source ?C_l_source ?K_l_source ?A_l_pick ?L_l_pick ?C_l_pick ?K_l_pick ?A_l_one ?L_l_one ?C_l_one ?K_l_one ?A_l_reserved ?L_l_reserved ?C_l_reserved ?K_l_reserved ?A_l_name ?L_l_name ?C_l_name ?K_l_name ?A_l_word ?L_l_word ?C_l_word ?K_l_word ?A_l_number ?L_l_number ?C_l_number ?K_l_number ?A_l_node ?L_l_node ?C_l_node ?K_l_node ?A_l_expression ?L_l_expression ?C_l_expression ?K_l_expression ?A_l_kind ?L_l_kind ?C_l_kind ?K_l_kind ?A_l_count ?L_l_count ?C_l_count ?K_l_count ?A_l_pairs ?L_l_pairs ?C_l_pairs ?K_l_pairs ?A_l_leaf ?L_l_leaf ?C_l_leaf ?K_l_leaf ?A_l_body ?L_l_body ?C_l_body ?K_l_body ?A_l_program ?L_l_program ?C_l_program ?K_l_program ?A_l_joined ?L_l_joined ?C_l_joined ?K_l_joined ?A_l_kind_text ?L_l_kind_text ?C_l_kind_text ?K_l_kind_text ?A_l_text ?L_l_text ?C_l_text ?K_l_text ?A_l_line ?L_l_line ?C_l_line ?K_l_line ?A_l_lines ?L_l_lines ?C_l_lines ?K_l_lines ?A_l_function_lines ?L_l_function_lines ?C_l_function_lines ?K_l_function_lines ?A_l_program_lines ?L_l_program_lines ?C_l_program_lines ?K_l_program_lines ?A_l_same ?L_l_same ?C_l_same ?K_l_same ?A_law ?L_law ?C_law ?K_law ?A_PARTS ?D_PARTS ?Y_PARTS ?N_PARTS_0 ?R_PARTS_0 ?V_PARTS_0 ?N_PARTS_1 ?R_PARTS_1 ?V_PARTS_1 ?N_PARTS_2 ?R_PARTS_2 ?V_PARTS_2 ?N_PARTS_3 ?R_PARTS_3 ?V_PARTS_3 ?N_PARTS_4 ?R_PARTS_4 ?V_PARTS_4 ?N_PARTS_5 ?R_PARTS_5 ?V_PARTS_5 ?N_PARTS_6 ?R_PARTS_6 ?V_PARTS_6 ?N_PARTS_7 ?R_PARTS_7 ?V_PARTS_7 ?N_PARTS_8 ?R_PARTS_8 ?V_PARTS_8 ?N_PARTS_9 ?R_PARTS_9 ?V_PARTS_9 ?N_PARTS_10 ?R_PARTS_10 ?V_PARTS_10 ?N_PARTS_11 ?R_PARTS_11 ?V_PARTS_11 ?N_PARTS_12 ?R_PARTS_12 ?V_PARTS_12 ?N_PARTS_13 ?R_PARTS_13 ?V_PARTS_13 ?A_STEP ?U_STEP ?Z_bool ?Z_int ?Z_isinstance ?Z_len ?Z_list ?Z_max ?Z_min ?Z_range ?Z_str ?Z_tuple ?Z_zip
    (case A_parts_of => k_is)
    (case L_parts_of => k_is)
    (case C_parts_of => k_is)
    (case K_parts_of => k_is)
    (case A_bodies_of => k_is)
    (case L_bodies_of => k_is)
    (case C_bodies_of => k_is)
    (case K_bodies_of => k_is)
    (case A_expression_text => k_is)
    (case L_expression_text => k_is)
    (case C_expression_text => k_is)
    (case K_expression_text => k_is)
    (case A_kind_text => k_is)
    (case L_kind_text => k_is)
    (case C_kind_text => k_is)
    (case K_kind_text => k_is)
    (case A_declaration_text => k_is)
    (case L_declaration_text => k_is)
    (case C_declaration_text => k_is)
    (case K_declaration_text => k_is)
    (case A_arguments_text => k_is)
    (case L_arguments_text => k_is)
    (case C_arguments_text => k_is)
    (case K_arguments_text => k_is)
    (case A_part_text => k_is)
    (case L_part_text => k_is)
    (case C_part_text => k_is)
    (case K_part_text => k_is)
    (case A_statement_text => k_is)
    (case L_statement_text => k_is)
    (case C_statement_text => k_is)
    (case K_statement_text => k_is)
    (case A_body_lines => k_is)
    (case L_body_lines => k_is)
    (case C_body_lines => k_is)
    (case K_body_lines => k_is)
    (case A_record_lines => k_is)
    (case L_record_lines => k_is)
    (case C_record_lines => k_is)
    (case K_record_lines => k_is)
    (case A_array_line => k_is)
    (case L_array_line => k_is)
    (case C_array_line => k_is)
    (case K_array_line => k_is)
    (case A_function_lines => k_is)
    (case L_function_lines => k_is)
    (case C_function_lines => k_is)
    (case K_function_lines => k_is)
    (case A_joined => k_is)
    (case L_joined => k_is)
    (case C_joined => k_is)
    (case K_joined => k_is)
    (case A_function_text => k_is)
    (case L_function_text => k_is)
    (case C_function_text => k_is)
    (case K_function_text => k_is)
    (case A_program_text => k_is)
    (case L_program_text => k_is)
    (case C_program_text => k_is)
    (case K_program_text => k_is)
    (case A_l_cell => k_is)
    (case L_l_cell => k_is)
    (case C_l_cell => k_is)
    (case K_l_cell => k_is)
    (case A_l_source => k_is)
    (case L_l_source => k_is)
    (case C_l_source => k_is)
    (case K_l_source => k_is)
    (case A_l_pick => k_is)
    (case L_l_pick => k_is)
    (case C_l_pick => k_is)
    (case K_l_pick => k_is)
    (case A_l_one => k_is)
    (case L_l_one => k_is)
    (case C_l_one => k_is)
    (case K_l_one => k_is)
    (case A_l_reserved => k_is)
    (case L_l_reserved => k_is)
    (case C_l_reserved => k_is)
    (case K_l_reserved => k_is)
    (case A_l_name => k_is)
    (case L_l_name => k_is)
    (case C_l_name => k_is)
    (case K_l_name => k_is)
    (case A_l_word => k_is)
    (case L_l_word => k_is)
    (case C_l_word => k_is)
    (case K_l_word => k_is)
    (case A_l_number => k_is)
    (case L_l_number => k_is)
    (case C_l_number => k_is)
    (case K_l_number => k_is)
    (case A_l_node => k_is)
    (case L_l_node => k_is)
    (case C_l_node => k_is)
    (case K_l_node => k_is)
    (case A_l_expression => k_is)
    (case L_l_expression => k_is)
    (case C_l_expression => k_is)
    (case K_l_expression => k_is)
    (case A_l_kind => k_is)
    (case L_l_kind => k_is)
    (case C_l_kind => k_is)
    (case K_l_kind => k_is)
    (case A_l_count => k_is)
    (case L_l_count => k_is)
    (case C_l_count => k_is)
    (case K_l_count => k_is)
    (case A_l_pairs => k_is)
    (case L_l_pairs => k_is)
    (case C_l_pairs => k_is)
    (case K_l_pairs => k_is)
    (case A_l_leaf => k_is)
    (case L_l_leaf => k_is)
    (case C_l_leaf => k_is)
    (case K_l_leaf => k_is)
    (case A_l_body => k_is)
    (case L_l_body => k_is)
    (case C_l_body => k_is)
    (case K_l_body => k_is)
    (case A_l_program => k_is)
    (case L_l_program => k_is)
    (case C_l_program => k_is)
    (case K_l_program => k_is)
    (case A_l_joined => k_is)
    (case L_l_joined => k_is)
    (case C_l_joined => k_is)
    (case K_l_joined => k_is)
    (case A_l_kind_text => k_is)
    (case L_l_kind_text => k_is)
    (case C_l_kind_text => k_is)
    (case K_l_kind_text => k_is)
    (case A_l_text => k_is)
    (case L_l_text => k_is)
    (case C_l_text => k_is)
    (case K_l_text => k_is)
    (case A_l_line => k_is)
    (case L_l_line => k_is)
    (case C_l_line => k_is)
    (case K_l_line => k_is)
    (case A_l_lines => k_is)
    (case L_l_lines => k_is)
    (case C_l_lines => k_is)
    (case K_l_lines => k_is)
    (case A_l_function_lines => k_is)
    (case L_l_function_lines => k_is)
    (case C_l_function_lines => k_is)
    (case K_l_function_lines => k_is)
    (case A_l_program_lines => k_is)
    (case L_l_program_lines => k_is)
    (case C_l_program_lines => k_is)
    (case K_l_program_lines => k_is)
    (case A_l_same => k_is)
    (case L_l_same => k_is)
    (case C_l_same => k_is)
    (case K_l_same => k_is)
    (case A_law => k_is)
    (case L_law => k_is)
    (case C_law => k_is)
    (case K_law => k_is)
    (case A_PARTS => k_is)
    (case D_PARTS => k_is)
    (case Y_PARTS => (repeat' (first | exact True.intro | (refine ⟨⟨_, _, rfl, rfl⟩, ?_⟩))))
    (case N_PARTS_0 => k_is)
    (case R_PARTS_0 => k_is)
    (case V_PARTS_0 => first | rfl | decide +kernel)
    (case N_PARTS_1 => k_is)
    (case R_PARTS_1 => k_is)
    (case V_PARTS_1 => first | rfl | decide +kernel)
    (case N_PARTS_2 => k_is)
    (case R_PARTS_2 => k_is)
    (case V_PARTS_2 => first | rfl | decide +kernel)
    (case N_PARTS_3 => k_is)
    (case R_PARTS_3 => k_is)
    (case V_PARTS_3 => first | rfl | decide +kernel)
    (case N_PARTS_4 => k_is)
    (case R_PARTS_4 => k_is)
    (case V_PARTS_4 => first | rfl | decide +kernel)
    (case N_PARTS_5 => k_is)
    (case R_PARTS_5 => k_is)
    (case V_PARTS_5 => first | rfl | decide +kernel)
    (case N_PARTS_6 => k_is)
    (case R_PARTS_6 => k_is)
    (case V_PARTS_6 => first | rfl | decide +kernel)
    (case N_PARTS_7 => k_is)
    (case R_PARTS_7 => k_is)
    (case V_PARTS_7 => first | rfl | decide +kernel)
    (case N_PARTS_8 => k_is)
    (case R_PARTS_8 => k_is)
    (case V_PARTS_8 => first | rfl | decide +kernel)
    (case N_PARTS_9 => k_is)
    (case R_PARTS_9 => k_is)
    (case V_PARTS_9 => first | rfl | decide +kernel)
    (case N_PARTS_10 => k_is)
    (case R_PARTS_10 => k_is)
    (case V_PARTS_10 => first | rfl | decide +kernel)
    (case N_PARTS_11 => k_is)
    (case R_PARTS_11 => k_is)
    (case V_PARTS_11 => first | rfl | decide +kernel)
    (case N_PARTS_12 => k_is)
    (case R_PARTS_12 => k_is)
    (case V_PARTS_12 => first | rfl | decide +kernel)
    (case N_PARTS_13 => k_is)
    (case R_PARTS_13 => k_is)
    (case V_PARTS_13 => first | rfl | decide +kernel)
    (case A_STEP => k_is)
    (case U_STEP => exact ⟨_, rfl⟩)
    (case Z_bool => k_is)
    (case Z_int => k_is)
    (case Z_isinstance => k_is)
    (case Z_len => k_is)
    (case Z_list => k_is)
    (case Z_max => k_is)
    (case Z_min => k_is)
    (case Z_range => k_is)
    (case Z_str => k_is)
    (case Z_tuple => k_is)
    (case Z_zip => k_is)
#print axioms PySem.Challenge.cw_neverhappens_k03_whole_program_text_holds
