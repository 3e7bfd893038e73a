import PyProof.Rows.All
import Wide.All
import OpenK.AllK
import Wide.FinOn
import HandS.ForMost
import HandS.Defaults
import HandS.Property
import HandS.IsInst
import HandS.Conv
import HandS.Codes
import HandS.MakeKwOnly
import HandS.GenYield
import HandS.ClsMeth
import PyProof.InstEq
import PySem.Challenge.RW_keepbefore_k06_rules_and_recipes
set_option Elab.async false
set_option linter.all false
set_option maxRecDepth 100000
set_option maxHeartbeats 4000000
namespace Kb
open PySem L2
def top (i : Nat) : Stmt := PySem.Challenge.pw_keepbefore_k06_rules_and_recipes.main.body.getD i (.Pass ⟨0, 0, 0, 0⟩)
abbrev s_is_number : Stmt := top 5
theorem sc_is_number : FnScope ["thing"] ["thing"] (defScope s_is_number) := ⟨rfl, rfl, rfl, by decide +kernel, rfl, by decide +kernel, by decide +kernel⟩
abbrev s_is_number_from : Stmt := top 6
theorem sc_is_number_from : FnScope ["thing", "least", "most"] ["thing", "least", "most"] (defScope s_is_number_from) := ⟨rfl, rfl, rfl, by decide +kernel, rfl, by decide +kernel, by decide +kernel⟩
abbrev s_Rules___init__ : Stmt := inClass (top 15) 0
theorem sc_Rules___init__ : FnScope ["self", "writing", "reading", "choice", "bound", "words", "part", "allowed"] ["self", "writing", "reading", "choice", "bound"] (defScope s_Rules___init__) := ⟨rfl, rfl, rfl, by decide +kernel, rfl, by decide +kernel, by decide +kernel⟩
abbrev s_Rules___eq__ : Stmt := inClass (top 15) 1
theorem sc_Rules___eq__ : FnScope ["self", "other"] ["self", "other"] (defScope s_Rules___eq__) := ⟨rfl, rfl, rfl, by decide +kernel, rfl, by decide +kernel, by decide +kernel⟩
abbrev s_Rules_writing : Stmt := inClass (top 15) 2
theorem sc_Rules_writing : FnScope ["self"] ["self"] (defScope s_Rules_writing) := ⟨rfl, rfl, rfl, by decide +kernel, rfl, by decide +kernel, by decide +kernel⟩
abbrev s_Rules_reading : Stmt := inClass (top 15) 3
theorem sc_Rules_reading : FnScope ["self"] ["self"] (defScope s_Rules_reading) := ⟨rfl, rfl, rfl, by decide +kernel, rfl, by decide +kernel, by decide +kernel⟩
abbrev s_Rules_choice : Stmt := inClass (top 15) 4
theorem sc_Rules_choice : FnScope ["self"] ["self"] (defScope s_Rules_choice) := ⟨rfl, rfl, rfl, by decide +kernel, rfl, by decide +kernel, by decide +kernel⟩
abbrev s_Rules_bound : Stmt := inClass (top 15) 5
theorem sc_Rules_bound : FnScope ["self"] ["self"] (defScope s_Rules_bound) := ⟨rfl, rfl, rfl, by decide +kernel, rfl, by decide +kernel, by decide +kernel⟩
abbrev s_Recipes___init__ : Stmt := inClass (top 16) 0
theorem sc_Recipes___init__ : FnScope ["self", "through", "back", "around", "clean", "allowed", "part", "recipe", "place"] ["self", "through", "back", "around", "clean"] (defScope s_Recipes___init__) := ⟨rfl, rfl, rfl, by decide +kernel, rfl, by decide +kernel, by decide +kernel⟩
abbrev s_Recipes___eq__ : Stmt := inClass (top 16) 1
theorem sc_Recipes___eq__ : FnScope ["self", "other"] ["self", "other"] (defScope s_Recipes___eq__) := ⟨rfl, rfl, rfl, by decide +kernel, rfl, by decide +kernel, by decide +kernel⟩
abbrev s_Recipes_through : Stmt := inClass (top 16) 3
theorem sc_Recipes_through : FnScope ["self"] ["self"] (defScope s_Recipes_through) := ⟨rfl, rfl, rfl, by decide +kernel, rfl, by decide +kernel, by decide +kernel⟩
abbrev s_Recipes_back : Stmt := inClass (top 16) 4
theorem sc_Recipes_back : FnScope ["self"] ["self"] (defScope s_Recipes_back) := ⟨rfl, rfl, rfl, by decide +kernel, rfl, by decide +kernel, by decide +kernel⟩
abbrev s_Recipes_around : Stmt := inClass (top 16) 5
theorem sc_Recipes_around : FnScope ["self"] ["self"] (defScope s_Recipes_around) := ⟨rfl, rfl, rfl, by decide +kernel, rfl, by decide +kernel, by decide +kernel⟩
abbrev s_Recipes_clean : Stmt := inClass (top 16) 6
theorem sc_Recipes_clean : FnScope ["self"] ["self"] (defScope s_Recipes_clean) := ⟨rfl, rfl, rfl, by decide +kernel, rfl, by decide +kernel, by decide +kernel⟩
abbrev s_Recipes_safe : Stmt := inClass (top 16) 2
theorem sc_Recipes_safe : FnScope ["cls"] ["cls"] (defScope s_Recipes_safe) := ⟨rfl, rfl, rfl, by decide +kernel, rfl, by decide +kernel, by decide +kernel⟩
abbrev s__invalid_place : Stmt := top 17
theorem sc__invalid_place : FnScope ["recipe", "allowed", "place", "word"] ["recipe", "allowed"] (defScope s__invalid_place) := ⟨rfl, rfl, rfl, by decide +kernel, rfl, by decide +kernel, by decide +kernel⟩
abbrev s__law_random : Stmt := top 19
theorem sc__law_random : FnScope ["_law_script", "_law_salt", "_law_seed", "_law_cell"] ["_law_script", "_law_salt"] (defScope s__law_random) := ⟨rfl, rfl, rfl, by decide +kernel, rfl, by decide +kernel, by decide +kernel⟩
abbrev s__law_below : Stmt := top 20
theorem sc__law_below : FnScope ["_law_d", "_law_limit", "_law_result"] ["_law_d", "_law_limit"] (defScope s__law_below) := ⟨rfl, rfl, rfl, by decide +kernel, rfl, by decide +kernel, by decide +kernel⟩
abbrev s__law_rules : Stmt := top 21
theorem sc__law_rules : FnScope ["_law_d", "_law_limit", "_law_writing", "_law_reading"] ["_law_d", "_law_limit"] (defScope s__law_rules) := ⟨rfl, rfl, rfl, by decide +kernel, rfl, by decide +kernel, by decide +kernel⟩
abbrev s__law_safe : Stmt := top 22
theorem sc__law_safe : FnScope ["_law_found"] [] (defScope s__law_safe) := ⟨rfl, rfl, rfl, by decide +kernel, rfl, by decide +kernel, by decide +kernel⟩
abbrev s__law_shuffled : Stmt := top 23
theorem sc__law_shuffled : FnScope ["_law_d", "_law_items", "_law_pool", "_law_result"] ["_law_d", "_law_items"] (defScope s__law_shuffled) := ⟨rfl, rfl, rfl, by decide +kernel, rfl, by decide +kernel, by decide +kernel⟩
abbrev s__law_recipe : Stmt := top 24
theorem sc__law_recipe : FnScope ["_law_d", "_law_part", "_law_recipe_here", "_law_kind", "_law_at", "_law_other", "_law_one", "_law_two"] ["_law_d", "_law_part"] (defScope s__law_recipe) := ⟨rfl, rfl, rfl, by decide +kernel, rfl, by decide +kernel, by decide +kernel⟩
abbrev s__law_recipes : Stmt := top 25
theorem sc__law_recipes : FnScope ["_law_d", "_law_part"] ["_law_d"] (defScope s__law_recipes) := ⟨rfl, rfl, rfl, by decide +kernel, rfl, by decide +kernel, by decide +kernel⟩
abbrev s__law_equal : Stmt := top 26
theorem sc__law_equal : FnScope ["_law_actual", "_law_expected", "_law_k"] ["_law_actual", "_law_expected"] (defScope s__law_equal) := ⟨rfl, rfl, rfl, by decide +kernel, rfl, by decide +kernel, by decide +kernel⟩
abbrev s_law : Stmt := top 27
theorem sc_law : FnScope ["_law_script", "_law_d", "_law_step", "_law_parts", "_law_orders", "_law_rules_here", "_law_other", "_law_is_same", "_law_last", "_law_told", "_law_safe_here", "_law_more"] ["_law_script"] (defScope s_law) := ⟨rfl, rfl, rfl, by decide +kernel, rfl, by decide +kernel, by decide +kernel⟩
/-- a written tuple -/
def TupK (K : PySem.W.Frag) (a : Addr) (xs : List V) : Prop := ∀ H : Hp, SqT K H a xs
theorem TupK.of {K : PySem.W.Frag} {a : Addr} {xs : List V} {od : Option Addr} {its : Array Value} {n : Nat} {sl : Array (Option Value)} (h : K.lookup a = some ⟨.type "tuple", od, .seq its n, sl⟩) (hz : its.size ≤ sizeLine) (r : Vals xs its.toList) : TupK K a xs :=
  fun _ => .inr ⟨_, its, n, h, rfl, rfl, hz, r⟩
structure Gx (K : PySem.W.Frag) (mg : Str → Option Value) where
  C_Rules : Addr
  cl_Rules : Cls K C_Rules
  gC_Rules : mg "Rules" = some (.ref C_Rules)
  n_Rules__writing : NoAttr K C_Rules "_writing"
  n_Rules__reading : NoAttr K C_Rules "_reading"
  n_Rules__choice : NoAttr K C_Rules "_choice"
  n_Rules__bound : NoAttr K C_Rules "_bound"
  C_Recipes : Addr
  cl_Recipes : Cls K C_Recipes
  gC_Recipes : mg "Recipes" = some (.ref C_Recipes)
  n_Recipes__through : NoAttr K C_Recipes "_through"
  n_Recipes__back : NoAttr K C_Recipes "_back"
  n_Recipes__around : NoAttr K C_Recipes "_around"
  n_Recipes__clean : NoAttr K C_Recipes "_clean"
  f_is_number : Addr
  fd_is_number : FuncData
  F_is_number : Fun K "is_number" "is_number" s_is_number f_is_number fd_is_number
  g_is_number : mg "is_number" = some (.ref f_is_number)
  f_is_number_from : Addr
  fd_is_number_from : FuncData
  F_is_number_from : Fun K "is_number_from" "is_number_from" s_is_number_from f_is_number_from fd_is_number_from
  g_is_number_from : mg "is_number_from" = some (.ref f_is_number_from)
  f_Rules___init__ : Addr
  fd_Rules___init__ : FuncData
  F_Rules___init__ : Fun K "__init__" "Rules.__init__" s_Rules___init__ f_Rules___init__ fd_Rules___init__
  M_Rules___init__ : Mk K C_Rules f_Rules___init__
  f_Rules___eq__ : Addr
  fd_Rules___eq__ : FuncData
  F_Rules___eq__ : Fun K "__eq__" "Rules.__eq__" s_Rules___eq__ f_Rules___eq__ fd_Rules___eq__
  m_Rules___eq__ : Meth K C_Rules "__eq__" f_Rules___eq__
  f_Rules_writing : Addr
  fd_Rules_writing : FuncData
  F_Rules_writing : Fun K "writing" "Rules.writing" s_Rules_writing f_Rules_writing fd_Rules_writing
  p_Rules_writing : Addr
  P_Rules_writing : PropOf K C_Rules "writing" p_Rules_writing f_Rules_writing
  f_Rules_reading : Addr
  fd_Rules_reading : FuncData
  F_Rules_reading : Fun K "reading" "Rules.reading" s_Rules_reading f_Rules_reading fd_Rules_reading
  p_Rules_reading : Addr
  P_Rules_reading : PropOf K C_Rules "reading" p_Rules_reading f_Rules_reading
  f_Rules_choice : Addr
  fd_Rules_choice : FuncData
  F_Rules_choice : Fun K "choice" "Rules.choice" s_Rules_choice f_Rules_choice fd_Rules_choice
  p_Rules_choice : Addr
  P_Rules_choice : PropOf K C_Rules "choice" p_Rules_choice f_Rules_choice
  f_Rules_bound : Addr
  fd_Rules_bound : FuncData
  F_Rules_bound : Fun K "bound" "Rules.bound" s_Rules_bound f_Rules_bound fd_Rules_bound
  p_Rules_bound : Addr
  P_Rules_bound : PropOf K C_Rules "bound" p_Rules_bound f_Rules_bound
  f_Recipes___init__ : Addr
  fd_Recipes___init__ : FuncData
  F_Recipes___init__ : Fun K "__init__" "Recipes.__init__" s_Recipes___init__ f_Recipes___init__ fd_Recipes___init__
  M_Recipes___init__ : Mk K C_Recipes f_Recipes___init__
  f_Recipes___eq__ : Addr
  fd_Recipes___eq__ : FuncData
  F_Recipes___eq__ : Fun K "__eq__" "Recipes.__eq__" s_Recipes___eq__ f_Recipes___eq__ fd_Recipes___eq__
  m_Recipes___eq__ : Meth K C_Recipes "__eq__" f_Recipes___eq__
  f_Recipes_through : Addr
  fd_Recipes_through : FuncData
  F_Recipes_through : Fun K "through" "Recipes.through" s_Recipes_through f_Recipes_through fd_Recipes_through
  p_Recipes_through : Addr
  P_Recipes_through : PropOf K C_Recipes "through" p_Recipes_through f_Recipes_through
  f_Recipes_back : Addr
  fd_Recipes_back : FuncData
  F_Recipes_back : Fun K "back" "Recipes.back" s_Recipes_back f_Recipes_back fd_Recipes_back
  p_Recipes_back : Addr
  P_Recipes_back : PropOf K C_Recipes "back" p_Recipes_back f_Recipes_back
  f_Recipes_around : Addr
  fd_Recipes_around : FuncData
  F_Recipes_around : Fun K "around" "Recipes.around" s_Recipes_around f_Recipes_around fd_Recipes_around
  p_Recipes_around : Addr
  P_Recipes_around : PropOf K C_Recipes "around" p_Recipes_around f_Recipes_around
  f_Recipes_clean : Addr
  fd_Recipes_clean : FuncData
  F_Recipes_clean : Fun K "clean" "Recipes.clean" s_Recipes_clean f_Recipes_clean fd_Recipes_clean
  p_Recipes_clean : Addr
  P_Recipes_clean : PropOf K C_Recipes "clean" p_Recipes_clean f_Recipes_clean
  f_Recipes_safe : Addr
  fd_Recipes_safe : FuncData
  F_Recipes_safe : Fun K "safe" "Recipes.safe" s_Recipes_safe f_Recipes_safe fd_Recipes_safe
  p_Recipes_safe : Addr
  Y_Recipes_safe : ClX.CMet K C_Recipes (.type "type") "safe" p_Recipes_safe f_Recipes_safe
  R_Recipes_safe : ClX.CRead K C_Recipes (.type "type")
  f__invalid_place : Addr
  fd__invalid_place : FuncData
  F__invalid_place : Fun K "_invalid_place" "_invalid_place" s__invalid_place f__invalid_place fd__invalid_place
  g__invalid_place : mg "_invalid_place" = some (.ref f__invalid_place)
  f__law_random : Addr
  fd__law_random : FuncData
  F__law_random : Fun K "_law_random" "_law_random" s__law_random f__law_random fd__law_random
  g__law_random : mg "_law_random" = some (.ref f__law_random)
  f__law_below : Addr
  fd__law_below : FuncData
  F__law_below : Fun K "_law_below" "_law_below" s__law_below f__law_below fd__law_below
  g__law_below : mg "_law_below" = some (.ref f__law_below)
  f__law_rules : Addr
  fd__law_rules : FuncData
  F__law_rules : Fun K "_law_rules" "_law_rules" s__law_rules f__law_rules fd__law_rules
  g__law_rules : mg "_law_rules" = some (.ref f__law_rules)
  f__law_safe : Addr
  fd__law_safe : FuncData
  F__law_safe : Fun K "_law_safe" "_law_safe" s__law_safe f__law_safe fd__law_safe
  g__law_safe : mg "_law_safe" = some (.ref f__law_safe)
  f__law_shuffled : Addr
  fd__law_shuffled : FuncData
  F__law_shuffled : Fun K "_law_shuffled" "_law_shuffled" s__law_shuffled f__law_shuffled fd__law_shuffled
  g__law_shuffled : mg "_law_shuffled" = some (.ref f__law_shuffled)
  f__law_recipe : Addr
  fd__law_recipe : FuncData
  F__law_recipe : Fun K "_law_recipe" "_law_recipe" s__law_recipe f__law_recipe fd__law_recipe
  g__law_recipe : mg "_law_recipe" = some (.ref f__law_recipe)
  f__law_recipes : Addr
  fd__law_recipes : FuncData
  F__law_recipes : Fun K "_law_recipes" "_law_recipes" s__law_recipes f__law_recipes fd__law_recipes
  g__law_recipes : mg "_law_recipes" = some (.ref f__law_recipes)
  f__law_equal : Addr
  fd__law_equal : FuncData
  F__law_equal : Fun K "_law_equal" "_law_equal" s__law_equal f__law_equal fd__law_equal
  g__law_equal : mg "_law_equal" = some (.ref f__law_equal)
  z_isinstance : mg "isinstance" = none
  z_int : mg "int" = none
  z_bool : mg "bool" = none
  z_str : mg "str" = none
  z_list : mg "list" = none
  z_tuple : mg "tuple" = none
  z_len : mg "len" = none
  z_abs : mg "abs" = none
  z_range : mg "range" = none
  z_all : mg "all" = none
  z_enumerate : mg "enumerate" = none
  t_BOUND_PART : Tok
  c_BOUND_PART : mg "BOUND_PART" = some (.int 3 t_BOUND_PART)
  t_MOST_BOUND : Tok
  c_MOST_BOUND : mg "MOST_BOUND" = some (.int 8 t_MOST_BOUND)
  t_MOST_STEPS : Tok
  c_MOST_STEPS : mg "MOST_STEPS" = some (.int 8 t_MOST_STEPS)
  A_RULE_WORDS_0 : Addr
  k_RULE_WORDS_0 : TupK K A_RULE_WORDS_0 [.str "through", .str "back", .str "around"]
  A_RULE_WORDS_1 : Addr
  k_RULE_WORDS_1 : TupK K A_RULE_WORDS_1 [.str "keep", .str "pass"]
  A_RULE_WORDS_2 : Addr
  k_RULE_WORDS_2 : TupK K A_RULE_WORDS_2 [.str "used", .str "came", .str "rare"]
  A_RULE_WORDS : Addr
  g_RULE_WORDS : mg "RULE_WORDS" = some (.ref A_RULE_WORDS)
  k_RULE_WORDS : TupK K A_RULE_WORDS [.ref A_RULE_WORDS_0, .ref A_RULE_WORDS_1, .ref A_RULE_WORDS_2]
  A_WRITE_STEPS : Addr
  g_WRITE_STEPS : mg "WRITE_STEPS" = some (.ref A_WRITE_STEPS)
  k_WRITE_STEPS : TupK K A_WRITE_STEPS [.str "slow", .str "sync slow", .str "fast", .str "sync fast", .str "free", .str "done"]
  A_CLEAN_STEPS : Addr
  g_CLEAN_STEPS : mg "CLEAN_STEPS" = some (.ref A_CLEAN_STEPS)
  k_CLEAN_STEPS : TupK K A_CLEAN_STEPS [.str "slow", .str "sync slow", .str "mark", .str "sync fast"]
  A_SYNC_STEPS : Addr
  g_SYNC_STEPS : mg "SYNC_STEPS" = some (.ref A_SYNC_STEPS)
  k_SYNC_STEPS : TupK K A_SYNC_STEPS [.str "sync slow", .str "sync fast"]
  nf_Rules_tuple : PySem.W.notFirst K C_Rules (.type "tuple") = true
  nf_Rules_list : PySem.W.notFirst K C_Rules (.type "list") = true
  nf_Recipes_tuple : PySem.W.notFirst K C_Recipes (.type "tuple") = true
  nf_Recipes_list : PySem.W.notFirst K C_Recipes (.type "list") = true
  nf_Recipes_Rules : PySem.W.notFirst K C_Recipes (.ref C_Rules) = true
  isc_Rules : PySem.W.isClsIn K C_Rules = true
  isc_Recipes : PySem.W.isClsIn K C_Recipes = true
  tyc_Rules : PySem.W.typeIn K (.ref C_Rules) = some (.type "type")
  tyc_Recipes : PySem.W.typeIn K (.ref C_Recipes) = some (.type "type")
  sub_Rules : PySem.W.subIn K (.ref C_Rules) (.ref C_Rules) = some true
  sub_Recipes : PySem.W.subIn K (.ref C_Recipes) (.ref C_Recipes) = some true
  sub_Rules_tuple : PySem.W.subIn K (.type "tuple") (.ref C_Rules) = some false
  sub_Rules_list : PySem.W.subIn K (.type "list") (.ref C_Rules) = some false
  sub_Recipes_tuple : PySem.W.subIn K (.type "tuple") (.ref C_Recipes) = some false
  sub_Recipes_list : PySem.W.subIn K (.type "list") (.ref C_Recipes) = some false
  kc_Rules : PySem.W.findIn K (.ref C_Rules) "__class__" = some (some (.builtin "object.__class__"))
  kc_Recipes : PySem.W.findIn K (.ref C_Recipes) "__class__" = some (some (.builtin "object.__class__"))
  km_Rules : PySem.W.mroIn K C_Rules (.type "object") = some true
  km_Recipes : PySem.W.mroIn K C_Recipes (.type "object") = some true
  kg : PySem.W.specialIn K (.builtin "object.__class__") "__get__" = some (some (.builtin "getset_descriptor.__get__"))
  kt : PySem.W.takesIn K (.builtin "object.__class__") = some true
  sub_Rules_Recipes : PySem.W.subIn K (.ref C_Rules) (.ref C_Recipes) = some false
  ne_Rules : PySem.W.findIn K (.ref C_Rules) "__ne__" = some (some (.builtin "object.__ne__"))
  ob_Rules : ∃ nm q N bs hd sn sub ab col dd k0 k1 k2 k3 k5 ni, K.lookup C_Rules = some (excClassObj nm q C_Rules N bs [.type "object"] hd sn sub ab col dd k0 k1 k2 k3 k5 ni)
  ne_Recipes : PySem.W.findIn K (.ref C_Recipes) "__ne__" = some (some (.builtin "object.__ne__"))
  ob_Recipes : ∃ nm q N bs hd sn sub ab col dd k0 k1 k2 k3 k5 ni, K.lookup C_Recipes = some (excClassObj nm q C_Recipes N bs [.type "object"] hd sn sub ab col dd k0 k1 k2 k3 k5 ni)
section
variable {K : PySem.W.Frag} {mg : Str → Option Value}
theorem b_is_number (T : Gx K mg) : Binds K T.fd_is_number ["thing"] [] := T.F_is_number.binds (ps := ["thing"]) fun _ _ _ _ _ _ us hl => match us, hl with | [_], _ => rfl
theorem b_is_number_from (T : Gx K mg) : Binds K T.fd_is_number_from ["thing", "least", "most"] [] := T.F_is_number_from.binds (ps := ["thing", "least", "most"]) fun _ _ _ _ _ _ us hl => match us, hl with | [_, _, _], _ => rfl
theorem b_Rules___init__ (T : Gx K mg) : Binds K T.fd_Rules___init__ ["self", "writing", "reading", "choice", "bound"] [] := T.F_Rules___init__.binds (ps := ["self", "writing", "reading", "choice", "bound"]) fun _ _ _ _ _ _ us hl => match us, hl with | [_, _, _, _, _], _ => rfl
theorem b_Rules___eq__ (T : Gx K mg) : Binds K T.fd_Rules___eq__ ["self", "other"] [] := T.F_Rules___eq__.binds (ps := ["self", "other"]) fun _ _ _ _ _ _ us hl => match us, hl with | [_, _], _ => rfl
theorem b_Rules_writing (T : Gx K mg) : Binds K T.fd_Rules_writing ["self"] [] := T.F_Rules_writing.binds (ps := ["self"]) fun _ _ _ _ _ _ us hl => match us, hl with | [_], _ => rfl
theorem b_Rules_reading (T : Gx K mg) : Binds K T.fd_Rules_reading ["self"] [] := T.F_Rules_reading.binds (ps := ["self"]) fun _ _ _ _ _ _ us hl => match us, hl with | [_], _ => rfl
theorem b_Rules_choice (T : Gx K mg) : Binds K T.fd_Rules_choice ["self"] [] := T.F_Rules_choice.binds (ps := ["self"]) fun _ _ _ _ _ _ us hl => match us, hl with | [_], _ => rfl
theorem b_Rules_bound (T : Gx K mg) : Binds K T.fd_Rules_bound ["self"] [] := T.F_Rules_bound.binds (ps := ["self"]) fun _ _ _ _ _ _ us hl => match us, hl with | [_], _ => rfl
theorem b_Recipes___init__ (T : Gx K mg) : Binds K T.fd_Recipes___init__ ["self", "through", "back", "around", "clean"] [] := T.F_Recipes___init__.binds (ps := ["self", "through", "back", "around", "clean"]) fun _ _ _ _ _ _ us hl => match us, hl with | [_, _, _, _, _], _ => rfl
theorem b_Recipes___eq__ (T : Gx K mg) : Binds K T.fd_Recipes___eq__ ["self", "other"] [] := T.F_Recipes___eq__.binds (ps := ["self", "other"]) fun _ _ _ _ _ _ us hl => match us, hl with | [_, _], _ => rfl
theorem b_Recipes_through (T : Gx K mg) : Binds K T.fd_Recipes_through ["self"] [] := T.F_Recipes_through.binds (ps := ["self"]) fun _ _ _ _ _ _ us hl => match us, hl with | [_], _ => rfl
theorem b_Recipes_back (T : Gx K mg) : Binds K T.fd_Recipes_back ["self"] [] := T.F_Recipes_back.binds (ps := ["self"]) fun _ _ _ _ _ _ us hl => match us, hl with | [_], _ => rfl
theorem b_Recipes_around (T : Gx K mg) : Binds K T.fd_Recipes_around ["self"] [] := T.F_Recipes_around.binds (ps := ["self"]) fun _ _ _ _ _ _ us hl => match us, hl with | [_], _ => rfl
theorem b_Recipes_clean (T : Gx K mg) : Binds K T.fd_Recipes_clean ["self"] [] := T.F_Recipes_clean.binds (ps := ["self"]) fun _ _ _ _ _ _ us hl => match us, hl with | [_], _ => rfl
theorem b_Recipes_safe (T : Gx K mg) : Binds K T.fd_Recipes_safe ["cls"] [] := T.F_Recipes_safe.binds (ps := ["cls"]) fun _ _ _ _ _ _ us hl => match us, hl with | [_], _ => rfl
theorem b__invalid_place (T : Gx K mg) : Binds K T.fd__invalid_place ["recipe", "allowed"] [] := T.F__invalid_place.binds (ps := ["recipe", "allowed"]) fun _ _ _ _ _ _ us hl => match us, hl with | [_, _], _ => rfl
theorem b__law_random (T : Gx K mg) : Binds K T.fd__law_random ["_law_script", "_law_salt"] [] := T.F__law_random.binds (ps := ["_law_script", "_law_salt"]) fun _ _ _ _ _ _ us hl => match us, hl with | [_, _], _ => rfl
theorem b__law_below (T : Gx K mg) : Binds K T.fd__law_below ["_law_d", "_law_limit"] [] := T.F__law_below.binds (ps := ["_law_d", "_law_limit"]) fun _ _ _ _ _ _ us hl => match us, hl with | [_, _], _ => rfl
theorem b__law_rules (T : Gx K mg) : Binds K T.fd__law_rules ["_law_d", "_law_limit"] [] := T.F__law_rules.binds (ps := ["_law_d", "_law_limit"]) fun _ _ _ _ _ _ us hl => match us, hl with | [_, _], _ => rfl
theorem b__law_safe (T : Gx K mg) : Binds K T.fd__law_safe [] [] := T.F__law_safe.binds (ps := []) fun _ _ _ _ _ _ us hl => match us, hl with | [], _ => rfl
theorem b__law_shuffled (T : Gx K mg) : Binds K T.fd__law_shuffled ["_law_d", "_law_items"] [] := T.F__law_shuffled.binds (ps := ["_law_d", "_law_items"]) fun _ _ _ _ _ _ us hl => match us, hl with | [_, _], _ => rfl
theorem b__law_recipe (T : Gx K mg) : Binds K T.fd__law_recipe ["_law_d", "_law_part"] [] := T.F__law_recipe.binds (ps := ["_law_d", "_law_part"]) fun _ _ _ _ _ _ us hl => match us, hl with | [_, _], _ => rfl
theorem b__law_recipes (T : Gx K mg) : Binds K T.fd__law_recipes ["_law_d"] [] := T.F__law_recipes.binds (ps := ["_law_d"]) fun _ _ _ _ _ _ us hl => match us, hl with | [_], _ => rfl
theorem b__law_equal (T : Gx K mg) : Binds K T.fd__law_equal ["_law_actual", "_law_expected"] [] := T.F__law_equal.binds (ps := ["_law_actual", "_law_expected"]) fun _ _ _ _ _ _ us hl => match us, hl with | [_, _], _ => rfl
end
/-! ### heaps and frames -/
/-- outside S all that was tracked is as it was -/
def Fr (S : List Addr) (H H' : Hp) : Prop := ∀ b o, H b = some o → b ∉ S → H' b = some o
theorem Fr.refl (S : List Addr) (H : Hp) : Fr S H H := fun _ _ h _ => h
theorem Fr.trans {S : List Addr} {H H1 H2 : Hp} (a : Fr S H H1) (b : Fr S H1 H2) : Fr S H H2 := fun c o h n => b c o (a c o h n) n
theorem Fr.mono {S T : List Addr} {H H' : Hp} (a : Fr S H H') (h : ∀ b ∈ S, b ∈ T) : Fr T H H' := fun b o e n => a b o e (fun z => n (h b z))
theorem Fr.put {S : List Addr} {H : Hp} {a : Addr} {o : HO} (h : a ∈ S) : Fr S H (upd H a o) := fun b u e n => by
  rw [upd_ne (fun z => n (by rw [z]; exact h))]
  exact e
theorem Fr.new {S : List Addr} {H : Hp} {p : Addr} {o : HO} (h : H p = none) : Fr S H (upd H p o) := fun b u e _ => by
  rw [upd_ne (ne_of_none e h)]
  exact e
theorem Fr.nil_of {S : List Addr} {H H' : Hp} (a : Fr [] H H') : Fr S H H' := a.mono (fun _ h => by cases h)
theorem Fr.at_ {S : List Addr} {H H' : Hp} {b : Addr} {o : HO} (f : Fr S H H') (e : H b = some o) (n : b ∉ S) : H' b = some o := f b o e n
theorem fresh_out {H : Hp} {b : Addr} {o : HO} {p : Addr} (e : H b = some o) (n : H p = none) : b ≠ p := ne_of_none e n
/-- S and T share nothing -/
def Sep (S T : List Addr) : Prop := ∀ b ∈ S, b ∉ T
theorem Sep.symm {S T : List Addr} (h : Sep S T) : Sep T S := fun b hb hs => h b hs hb
/-- what owns S' came of S or is new, and so is apart from what stood in H -/
theorem Sep.grow {H : Hp} {S S' T : List Addr} (h : Sep S T) (g : ∀ b ∈ S', b ∈ S ∨ H b = none) (t : ∀ b ∈ T, ∃ o, H b = some o) : Sep S' T := fun b hb ht => by
  rcases g b hb with z | z
  · exact h b z ht
  · obtain ⟨o, e⟩ := t b ht
    rw [z] at e
    cases e
theorem vlen {α β : Type} {xs : List α} {f : α → β} : (xs.map f).length = xs.length := List.length_map f
theorem sz_le {n : Nat} (h : n ≤ 100000) : n ≤ sizeLine := Nat.le_trans h (by decide)
theorem sz_lt {n : Nat} (h : n < 100000) : n < sizeLine := Nat.lt_of_lt_of_le h (by decide)
theorem ix_at {n : Nat} (j : Nat) (h : j < n) : ixN n (j : Int) = some j := by
  unfold ixN
  rw [if_pos (Int.natCast_nonneg j), if_pos (by omega)]
  rfl
theorem free_upd {H : Hp} {a p : Addr} {o : HO} (h : upd H a o p = none) : H p = none ∧ p ≠ a := by
  by_cases e : p = a
  · rw [e, upd_same] at h
    cases h
  · rw [upd_ne e] at h
    exact ⟨h, e⟩
theorem int_at {ns : List Int} {i : Nat} {x : V} (h : (ns.map V.int)[i]? = some x) : ∃ u, x = V.int u ∧ ns[i]? = some u := by
  rw [List.getElem?_map] at h
  cases e : ns[i]? with
  | none =>
    rw [e] at h
    cases h
  | some u =>
    rw [e] at h
    exact ⟨u, (Option.some.inj h).symm, rfl⟩
theorem lt_of_at {α : Type} {xs : List α} {i : Nat} {x : α} (h : xs[i]? = some x) : i < xs.length := (List.getElem?_eq_some_iff.mp h).1
theorem Fr.seq {K : PySem.W.Frag} {S : List Addr} {H H' : Hp} {a : Addr} {xs : List V} (f : Fr S H H') (n : a ∉ S) (h : SqL K H a xs) : SqL K H' a xs := by
  rcases h with (h | ⟨o, h⟩) | h
  · exact .inl (.inl (f _ _ h n))
  · exact .inl (.inr ⟨o, f _ _ h n⟩)
  · exact .inr h
theorem Fr.tup {K : PySem.W.Frag} {S : List Addr} {H H' : Hp} {a : Addr} {xs : List V} (f : Fr S H H') (n : a ∉ S) (h : SqT K H a xs) : SqT K H' a xs := by
  rcases h with (h | ⟨o, h⟩) | h
  · exact .inl (.inl (f _ _ h n))
  · exact .inl (.inr ⟨o, f _ _ h n⟩)
  · exact .inr h
/-! ### the law's random list -/
def Rnd (H : Hp) (r : Addr) : Prop := ∃ (a b : Int) (ns : List Int), H r = some (.lst (V.int a :: V.int b :: ns.map V.int))
def spBelow : Sp := fun vs H Q _ => ∃ (r : Addr) (lim : Nat), vs = [.ref r, .int (lim : Int)] ∧ Rnd H r ∧ 0 < lim ∧ lim < 1000000 ∧ ∀ (z : Nat) (H' : Hp), z < lim → Fr [r] H H' → Rnd H' r → Q (.int (z : Int)) H'
theorem Rnd.put {H : Hp} {r : Addr} (a b : Int) (ns : List Int) : Rnd (upd H r (.lst (V.int a :: V.int b :: ns.map V.int))) r := ⟨a, b, ns, upd_same⟩
theorem Rnd.notup {H : Hp} {r : Addr} (h : Rnd H r) : ∀ b ∈ [r], ∀ xs, H b ≠ some (.tup xs) := by
  obtain ⟨a, b, ns, e⟩ := h
  intro b hb xs
  rw [List.mem_singleton.mp hb, e]
  simp
theorem Rnd.keep {H H' : Hp} {r : Addr} {S : List Addr} (h : Rnd H r) (f : Fr S H H') (n : r ∉ S) : Rnd H' r := by
  obtain ⟨a, b, ns, e⟩ := h
  exact ⟨a, b, ns, f _ _ e n⟩
section
variable {P : Program} {w : World} {K : PySem.W.Frag} {mg : Str → Option Value} {base : Heap}
theorem ok_below (T : Gx K mg) : FnOk P w K mg base CX0 1 T.f__law_below T.fd__law_below ["_law_d", "_law_limit"] spBelow := by
  refine T.F__law_below.ok sc__law_below (fun vs H Q E h => ?_) (fun cdv A outer s H vs Q E hr h => ?_)
  · obtain ⟨r, lim, rfl, _⟩ := h
    rfl
  · obtain ⟨r, lin, rfl, hR, h0', h1', k'⟩ := h
    obtain ⟨lim, hlim⟩ : ∃ lim : Int, lim = (lin : Int) := ⟨_, rfl⟩
    have h0 : 0 < lim := by omega
    have h1 : lim < 1000000 := by omega
    have k : ∀ (z : Int) (H' : Hp), 0 ≤ z → z < lim → Fr [r] H H' → Rnd H' r → Q (.int z) H' := fun z H' a b f g => by
      obtain ⟨n, rfl⟩ := Int.eq_ofNat_of_zero_le a
      exact k' n H' (by omega) f g
    rw [← hlim]
    refine ⟨_, C8.pss_cut (ps_if (PW.pt (pw_and (pt_cmpR op_eq (pe_ix ix_list (pv 0) pe_int (fun _ _ => rfl)) pe_int (nomark _))
          (pw_and1 (pt_cmpR op_gt (pe_callB call_len_seq (by rfl) T.z_len PySem.boot_len (pa_cons (pv 0) pa_nil)) pe_int (nomark _)))))
        (pss_one (ps_asg (pe_bm PySem.F.plainAttrs_list PySem.F.slot_list_pop PySem.F.type_list_pop mt_popAt (pv 0) (pa_cons pe_int pa_nil)) (pg_sub (pv 0) pe_int set_list))) pss_nil)
      (pss_cons (ps_if (pt_cmpR op_gt (pe_ix ix_list (pv 0) pe_int (fun _ _ => rfl)) pe_int (nomark _))
        (pss_cons (ps_set (i := 2) sc__law_below.nd rfl (.inl rfl) (pe_op op_mod (pe_callTy call_int1 (by rfl) T.z_int (by decide +kernel) (pa_cons (pe_ix ix_list (pv 0) pe_int (fun _ _ => rfl)) pa_nil)) (pv 1)))
        (pss_cons (ps_asg (pe_op op_fdiv (pe_ix ix_list (pv 0) pe_int (fun _ _ => rfl)) (pv 1)) (pg_sub (pv 0) pe_int set_list))
        (pss_one (ps_ret (pv 2))))) pss_nil)
      (pss_cons (ps_asg (pe_op op_mod (pe_callTy call_int1 (by rfl) T.z_int (by decide +kernel) (pa_cons (pe_op op_add (pe_op op_mul (pe_ix ix_list (pv 0) pe_int (fun _ _ => rfl)) pe_int) pe_int) pa_nil)) pe_int) (pg_sub (pv 0) pe_int set_list))
      (pss_one (ps_ret (pe_op op_mod (pe_callTy call_int1 (by rfl) T.z_int (by decide +kernel) (pa_cons (pe_op op_fdiv (pe_ix ix_list (pv 0) pe_int (fun _ _ => rfl)) pe_int) pa_nil)) (pv 1)))))), ?_⟩
    refine ⟨fun σ H1 => σ = [some (.ref r), some (.int lim), none] ∧ Rnd H1 r ∧ Fr [r] H H1, ?_, ?_⟩
    · obtain ⟨a, b, ns, e⟩ := hR
      have hR0 : Rnd H r := ⟨a, b, ns, e⟩
      refine ⟨_, rfl, r, _, 1, .int b, rfl, rfl, SqL.of e, atI_nat (j := 1) rfl, rfl, _, rfl, ite2 (fun hb => ?_) (fun hb => ?_)⟩
      · refine ⟨_, rfl, r, _, rfl, .inl (SqL.of e), _, _, rfl, rfl, _, rfl, ite2 (fun hl => ?_) (fun hl => ?_)⟩
        · have hl' : (2 : Int) < ((V.int a :: V.int b :: ns.map V.int).length : Int) := of_decide_eq_true hl
          cases ns with
          | nil => exact absurd hl' (by simp)
          | cons c rest =>
            refine ⟨_, rfl, .inl ⟨rfl, _, SqL.of e⟩, r, _, 2, 2, .int c, rfl, rfl, e, by decide, by decide, ?_, rfl, ?_⟩
            · show seqIndex? 2 _ = some 2
              unfold seqIndex?
              rw [List.length_cons, List.length_cons, List.map_cons, List.length_cons]
              simp
              omega
            · refine ⟨_, rfl, r, _, 1, 1, rfl, rfl, upd_same, ?_, rfl, ?_, ?_⟩
              · exact ix_at 1 (by simp [List.length_eraseIdx])
              · rw [upd_upd]
                exact Rnd.put a c rest
              · rw [upd_upd]
                exact Fr.put (List.mem_singleton.mpr rfl)
        · exact ⟨rfl, hR0, Fr.refl _ _⟩
      · exact ⟨rfl, hR0, Fr.refl _ _⟩
    · rintro σ' H1 ⟨rfl, ⟨a, b, ns, e⟩, fr⟩
      refine ⟨_, rfl, r, _, 1, .int b, rfl, rfl, SqL.of e, atI_nat (j := 1) rfl, _, _, rfl, rfl, _, rfl, ite2 (fun hb => ?_) (fun hb => ?_)⟩
      · refine ⟨_, rfl, r, _, 1, .int b, rfl, rfl, SqL.of e, atI_nat (j := 1) rfl, .inl ⟨_, rfl, ?_⟩⟩
        refine ⟨_, rfl, _, _, rfl, rfl, h0, ?_⟩
        refine ⟨_, rfl, r, _, 1, .int b, rfl, rfl, SqL.of e, atI_nat (j := 1) rfl, _, rfl, _, _, rfl, rfl, ⟨h0, by omega⟩, ?_⟩
        refine ⟨_, rfl, r, _, 1, 1, rfl, rfl, e, ix_at 1 (by simp), ?_⟩
        refine ⟨_, rfl, k _ _ (Int.emod_nonneg _ (by omega)) (Int.emod_lt_of_pos _ h0) (fr.trans (Fr.put (List.mem_singleton.mpr rfl))) (Rnd.put a _ ns)⟩
      · refine ⟨_, rfl, r, _, 0, .int a, rfl, rfl, SqL.of e, atI_nat (j := 0) rfl, _, _, rfl, rfl, .inr (by decide), _, _, rfl, rfl, .inl ⟨_, rfl, _, _, rfl, rfl, (by show (0 : Int) < 2147483647; decide), ?_⟩⟩
        refine ⟨_, rfl, r, _, 0, 0, rfl, rfl, e, ix_at 0 (by simp), ?_⟩
        refine ⟨_, rfl, r, _, 0, _, rfl, rfl, SqL.of upd_same, atI_nat (j := 0) rfl, _, _, rfl, rfl, ⟨by decide, by decide⟩, .inl ⟨_, rfl, _, rfl, _, _, rfl, rfl, h0, ?_⟩⟩
        exact k _ _ (Int.emod_nonneg _ (by omega)) (Int.emod_lt_of_pos _ h0) (fr.trans (Fr.put (List.mem_singleton.mpr rfl))) (Rnd.put _ b ns)
end
def spRandom (K : PySem.W.Frag) : Sp := fun vs H Q _ => ∃ (a : Addr) (salt : Int) (ns : List Int), vs = [.ref a, .int salt] ∧ SqL K H a (ns.map V.int) ∧ ns.length ≤ 63 ∧ ∀ (r : Addr) (H' : Hp), H r = none → Fr [] H H' → Rnd H' r → Q (.ref r) H'
section
variable {P : Program} {w : World} {K : PySem.W.Frag} {mg : Str → Option Value} {base : Heap}
theorem ok_random (T : Gx K mg) : FnOk P w K mg base CX0 1 T.f__law_random T.fd__law_random ["_law_script", "_law_salt"] (spRandom K) := by
  refine T.F__law_random.ok sc__law_random (fun vs H Q E h => ?_) (fun cdv A outer s H vs Q E hr h => ?_)
  · obtain ⟨a, salt, ns, rfl, _⟩ := h
    rfl
  · obtain ⟨a, salt, ns, rfl, hS, hlen, k⟩ := h
    refine ⟨_, pss_cons (ps_set (i := 2) sc__law_random.nd rfl (.inl rfl) (pv 1))
      (pss_cons (ps_for PassesOwn.never rfl (pi_list (pv 0)) (pg_name (i := 3) sc__law_random.nd rfl (.inl rfl))
        (pss_one (ps_set (i := 2) sc__law_random.nd rfl (.inl rfl) (pe_op op_mod (pe_callTy call_int1 (by rfl) T.z_int (by decide +kernel) (pa_cons (pe_op op_add (pe_op op_mul (pv 2) pe_int) (pe_callB call_abs (by rfl) T.z_abs (by decide +kernel) (pa_cons (pv 3) pa_nil))) pa_nil)) pe_int))))
      (pss_one (ps_ret (pe_op op_cat (pe_lst (pa_cons (pv 2) (pa_cons pe_int pa_nil))) (pe_lc (own := [("_law_cell", 3)]) (g := gName 3) rfl sc__law_random.nd (pi_list (pv 0)) (blkOk_by (N := ["_law_script", "_law_salt", "_law_seed", "_law_cell"]) (sc := defScope s__law_random) (by decide +kernel)) (fun _ _ _ _ _ => pg_name (i := 3) sc__law_random.nd rfl (.inl rfl)) (fun _ _ _ _ _ => pts_one (pt_cmpR op_ge (pv 3) (pe_op op_pow pe_int pe_int) (nomark _))) (fun _ _ _ _ _ => pv 3)))))), ?_⟩
    refine ⟨_, rfl, _, rfl, a, rfl, ⟨_, hS⟩, for_list (K := K) (a := a) (xs := ns.map V.int) (fun i σ H' => H' = H ∧ ∃ (z : Int) (v : Option V), σ = [some (.ref a), some (.int salt), some (.int z), v]) ⟨rfl, salt, none, rfl⟩ (fun i σ H' _ e => by rw [e.1]; exact hS) ?_ ?_⟩
    · rintro i x σ H' hi ⟨rfl, z, v, rfl⟩
      obtain ⟨u, rfl, _⟩ := int_at hi
      exact ⟨_, rfl, _, _, rfl, rfl, .inr (by decide), _, rfl, _, rfl, _, _, rfl, rfl, .inl ⟨_, rfl, _, _, rfl, rfl, (by show (0 : Int) < 2147483647; decide), rfl, _, _, rfl⟩⟩
    · rintro σ H' ⟨rfl, z, v, rfl⟩
      refine ⟨_, rfl, sz_le (by simp), fun l hl => ?_⟩
      have sl : Fr [] H' (upd H' l (.lst [V.int z, V.int 0])) := Fr.new hl
      have hS1 : SqL K (upd H' l (.lst [V.int z, V.int 0])) a (ns.map V.int) := sl.seq (by simp) hS
      refine ⟨_, rfl, a, rfl, ⟨_, hS1⟩, fun D hD => ?_⟩
      have hDl := free_upd hD
      refine lc_list (K := K) (a := a) (xs := ns.map V.int) (fun i H2 => ∃ ms : List Int, ms.length ≤ i ∧ H2 = upd (upd H' l (.lst [V.int z, V.int 0])) D (.lst (ms.map V.int))) ⟨[], Nat.le_refl _, rfl⟩ ?_ ?_ ?_
      · rintro i H2 _ ⟨ms, _, rfl⟩
        exact (Fr.new (S := []) hD).seq (by simp) hS1
      · rintro i x H2 hi ⟨ms, hm, rfl⟩
        obtain ⟨u, rfl, _⟩ := int_at hi
        have li := lt_of_at hi
        rw [List.length_map] at li
        refine ⟨rfl, _, rfl, _, _, rfl, rfl, ⟨by decide, by decide, by decide⟩, _, _, rfl, rfl, _, rfl, ite2 (fun _ => ?_) (fun _ => ?_)⟩
        · refine ⟨_, rfl, _, upd_same, ?_, ms ++ [u], ?_, ?_⟩
          · rw [List.length_map]
            exact sz_lt (by omega)
          · rw [List.length_append, List.length_singleton]
            omega
          · rw [upd_upd, List.map_append]
            rfl
        · exact ⟨ms, by omega, rfl⟩
      · rintro H2 ⟨ms, hm, rfl⟩
        rw [List.length_map] at hm
        refine ⟨l, D, [V.int z, V.int 0], _, rfl, rfl, ?_, upd_same, ?_, fun p hp => ?_⟩
        · rw [upd_ne hDl.2.symm]
          exact upd_same
        · rw [List.length_map]
          exact sz_le (by simp; omega)
        · obtain ⟨hp1, _⟩ := free_upd hp
          obtain ⟨hp2, _⟩ := free_upd hp1
          exact k p _ hp2 ((sl.trans (Fr.new hD)).trans (Fr.new hp)) ⟨z, 0, ms, upd_same⟩
end
/-! ### what counts as a number -/
def spNum (K : PySem.W.Frag) : Sp := fun vs H Q _ => ∃ (v : V) (t : Value) (b1 b2 : Bool), vs = [v] ∧ TyX K H v t ∧ PySem.W.kitOne K t (.type "int") = some b1 ∧ PySem.W.kitOne K t (.type "bool") = some b2 ∧ Q (.bl (b1 && !b2)) H
def spNumFrom (K : PySem.W.Frag) : Sp := fun vs H Q _ => ∃ (v : V) (lo hi : Int), vs = [v, .int lo, .int hi] ∧
  ((∃ i : Int, v = .int i ∧ Q (.bl (decide (lo ≤ i) && decide (i ≤ hi))) H) ∨ ∃ (t : Value) (b1 b2 : Bool), TyX K H v t ∧ PySem.W.kitOne K t (.type "int") = some b1 ∧ PySem.W.kitOne K t (.type "bool") = some b2 ∧ (b1 && !b2) = false ∧ Q (.bl false) H)
section
variable {P : Program} {w : World} {K : PySem.W.Frag} {mg : Str → Option Value} {base : Heap}
theorem ok_num (T : Gx K mg) : FnOk P w K mg base CX0 1 T.f_is_number T.fd_is_number ["thing"] (spNum K) := by
  refine T.F_is_number.ok sc_is_number (fun vs H Q E h => ?_) (fun cdv A outer s H vs Q E hr h => ?_)
  · obtain ⟨v, t, b1, b2, rfl, _⟩ := h
    rfl
  · obtain ⟨v, t, b1, b2, rfl, ty, e1, e2, k⟩ := h
    refine ⟨_, pss_one (ps_ret (pe_and (pe_callB call_isi (by rfl) T.z_isinstance (by decide +kernel) (pa_cons (pv 0) (pa_cons (pe_bltn (v := .ty "int") (by rfl) T.z_int (by decide +kernel) rfl) pa_nil)))
      (pe_one (pe_not (pe_callB call_isi (by rfl) T.z_isinstance (by decide +kernel) (pa_cons (pv 0) (pa_cons (pe_bltn (v := .ty "bool") (by rfl) T.z_bool (by decide +kernel) rfl) pa_nil))))))), ?_⟩
    refine ⟨v, rfl, v, .ty "int", t, _, b1, rfl, ClsV.ty "int", ty, e1, b1, rfl, ?_⟩
    cases b1 with
    | false => exact iteF k
    | true => exact iteT ⟨v, rfl, v, .ty "bool", t, _, b2, rfl, ClsV.ty "bool", ty, e2, b2, rfl, k⟩
theorem ok_numFrom (T : Gx K mg) : FnOk P w K mg base CX0 2 T.f_is_number_from T.fd_is_number_from ["thing", "least", "most"] (spNumFrom K) := by
  have G1 : FnOk P w K mg base CX0 1 T.f_is_number T.fd_is_number ["thing"] (spNum K) := ok_num T
  refine T.F_is_number_from.ok sc_is_number_from (fun vs H Q E h => ?_) (fun cdv A outer s H vs Q E hr h => ?_)
  · obtain ⟨v, lo, hi, rfl, _⟩ := h
    rfl
  · obtain ⟨v, lo, hi, rfl, h⟩ := h
    refine ⟨_, pss_one (ps_ret (pe_and (pe_call G1 hr (by rfl) T.g_is_number T.F_is_number.kp (b_is_number T) .nil pass0 (pa_cons (pv 0) pa_nil)) (pe_one (pe_chain op_le op_le (pv 1) (pv 0) (pv 2))))), ?_⟩
    rcases h with ⟨i, rfl, k⟩ | ⟨t, b1, b2, ty, e1, e2, e3, k⟩
    · refine ⟨_, rfl, .int i, .type "int", true, false, rfl, .base (.int i), kit_ty (by decide +kernel), kit_ty (by decide +kernel), true, rfl, iteT ?_⟩
      refine ⟨_, rfl, _, rfl, _, _, rfl, rfl, _, rfl, ?_⟩
      by_cases hl : lo ≤ i
      · rw [decide_eq_true hl] at k ⊢
        exact iteT ⟨_, rfl, _, _, rfl, rfl, k⟩
      · rw [decide_eq_false hl] at k ⊢
        exact iteF k
    · refine ⟨_, rfl, v, t, b1, b2, rfl, ty, e1, e2, _, rfl, ?_⟩
      rw [e3]
      exact iteF k
end
/-! ### enumerate over a tuple -/
section
open PyProof.Rows
variable {prog : Program} {w : World}
theorem et_next {A : Around} {E : Value → Shared → Prop} {s : Shared} {c t : Addr} {i : Nat} {us : Array Value} {u : Value} {Q : Value → Shared → Prop} (hc : IsTupIter s.heap c t i) (ht : IsTup s.heap t us) (hu : us[i]? = some u)
    (q : ∀ g, IsTupIter g c t (i + 1) → Heap.SameBut c s.heap g → Q u { s with heap := g }) : wpAny (model prog w) A (Builtin.SmallTypes.nextOf (.ref c)) Q E s := by
  unfold Builtin.SmallTypes.nextOf
  exact wpAny_bind (special_tup_item hc ht hu fun g a b => wpAny_pure (q g a b))
theorem et_draws {A : Around} (hh : A.handled = none) (c t : Addr) (hne : t ≠ c) (us : Array Value) : Draws prog w A c [c, t] us.size (fun i v => us[i]? = some v) (fun i h => IsTupIter h c t i ∧ IsTup h t us) where
  live := fun _ _ z => z.1.elim fun o q => ⟨o, q.1⟩
  frame := fun _ _ _ z hk => by
    obtain ⟨⟨o, q1, q2⟩, o', r1, r2⟩ := z
    exact ⟨⟨o, hk c (by simp) o q1, q2⟩, o', hk t (by simp) o' r1, r2⟩
  item := fun i s Q E hi z q => by
    refine et_next z.1 z.2 (u := us[i]) (by simp [hi]) fun g a b => ?_
    obtain ⟨o', r1, r2⟩ := z.2
    exact q _ g s.toks (by simp [hi]) ⟨a, o', (b.2 t hne).trans r1, r2⟩ b
  done := fun s Q E z q => by
    unfold Builtin.SmallTypes.nextOf
    refine wpAny_bind (special_tup_end hh z.1 z.2 (by simp) fun e g x b => ?_)
    obtain ⟨a, o, vs, rfl, h1, h2, _⟩ := x
    exact q g a b ⟨o, h1, h2⟩
theorem et_new (t : Addr) (us : Array Value) (n : Nat) (dct : Option Addr) (sl : Array (Option Value)) :
    Meets (Builtin.«enumerate.__new__» ⟨[.type "enumerate", .ref t], []⟩) (fun _ R s => s.heap.get? t = some { cls := .type "tuple", dict := dct, data := .seq us n, slots := sl } ∧
      R (.ok (.ret (.ref (s.heap.push { cls := .type "tuple_iterator", data := .fields #[.ref t, .int 0 0] }).objs.size)))
        { s with heap := (s.heap.push { cls := .type "tuple_iterator", data := .fields #[.ref t, .int 0 0] }).push { cls := .type "enumerate", data := .fields #[.none, .bool false, .ref s.heap.objs.size, rawInt 0, .none, .none] } }) :=
  .of_wp fun prog w A R s h => by
    obtain ⟨hp, gs, dr, tk, os⟩ := s
    obtain ⟨hl, h⟩ := h
    have sub := sub_enumerate
    have tup : Heap.IsTuple (Shared.heap ⟨hp, gs, dr, tk, os⟩) t us := ⟨_, hl, rfl, n, rfl⟩
    wp_walk using AutoSeq1.wpAny_loadPart' hl
    refine wpAny_stack_any fun st => wpAny_pure ?_
    split
    · rename_i k _ _ _ _ _
      cases (k == Value.type "enumerate") <;> (wp_walk using AutoSeq1.wpAny_loadPart' hl, wpAny_pyIter_tuple tup; exact ⟨_, rfl, h⟩)
    · wp_walk using AutoSeq1.wpAny_loadPart' hl, wpAny_pyIter_tuple tup
      exact ⟨_, rfl, h⟩
theorem et_call {A : Around} {E : Value → Shared → Prop} {s : Shared} {t : Addr} {us : Array Value} {Q : Value → Shared → Prop} (ht : IsTup s.heap t us)
    (q : ∀ g, IsEnum g (s.heap.objs.size + 1) s.heap.objs.size 0 .none → IsTupIter g s.heap.objs.size t 0 → (∀ b o, s.heap.get? b = some o → g.get? b = some o) → Q (.ref (s.heap.objs.size + 1)) { s with heap := g }) :
    wpAny (model prog w) A (call (.type "enumerate") [.ref t]) Q E s := by
  obtain ⟨⟨cl, dct, dt, sl⟩, hl, ec, n, ed⟩ := ht
  have ec' : cl = .type "tuple" := ec
  have ed' : dt = .seq us n := ed
  subst ec' ed'
  refine callType_new F.called_enumerate (by decide) (F.typeCall_enumerate_1 _) (F.newCall_enumerate_1 _) (fun o => F.args_object_init_2 o _) F.entry_enumerate_new (et_new t us n dct sl) ⟨hl, ?_⟩
  have z1 : (s.heap.push { cls := .type "tuple_iterator", data := .fields #[.ref t, .int 0 0] }).objs.size = s.heap.objs.size + 1 := Heap.size_push ..
  show _ ∧ _
  rw [z1]
  have e1 : IsEnum ((s.heap.push { cls := .type "tuple_iterator", data := .fields #[.ref t, .int 0 0] }).push { cls := .type "enumerate", data := .fields #[.none, .bool false, .ref s.heap.objs.size, rawInt 0, .none, .none] }) (s.heap.objs.size + 1) s.heap.objs.size 0 .none := by
    have z2 := Heap.get?_push_size (s.heap.push { cls := .type "tuple_iterator", data := .fields #[.ref t, .int 0 0] }) (o := { cls := .type "enumerate", data := .fields #[.none, .bool false, .ref s.heap.objs.size, rawInt 0, .none, .none] }) rfl
    rw [z1] at z2
    exact z2
  exact ⟨⟨_, e1, rfl⟩, q _ e1 ⟨_, Heap.get?_push_of_some _ (Heap.get?_push_size _ rfl), rfl, rfl⟩ fun b o x => Heap.get?_push_of_some _ (Heap.get?_push_of_some _ x)⟩
end
/-- the tuple at a as it stands at each turn, each item in a new pair -/
def Iet (K : PySem.W.Frag) (a : Addr) : It :=
  ⟨fun i H => ∃ (xs : List V) (x : V), SqT K H a xs ∧ xs[i]? = some x, fun i H v G => ∃ T x, v = .ref T ∧ H T = none ∧ G = upd H T (.tup [.int (i : Nat), x]) ∧ ∀ xs, SqT K H a xs → xs[i]? = some x, fun i H => ∃ xs : List V, SqT K H a xs ∧ xs.length ≤ i⟩
section
open PyProof.Rows
theorem turn_et {P : Program} {w : World} {K : PySem.W.Frag} {elts : List Expr} {kk : Nat} {tpos : Pos} (a e c : Addr) :
    Turn P w K (.Tuple elts kk tpos) (Iet K a) [e, c] e (fun i h => (∃ old, IsEnum h e c ((i : Nat) : Int) old) ∧ IsTupIter h c a i ∧ e ≠ c ∧ a ≠ c ∧ a ≠ e) where
  mem := by simp
  obj := fun i h z b hb => by
    obtain ⟨⟨old, he⟩, ⟨o, ho, _, hd⟩, _⟩ := z
    rcases (by simpa using hb : b = e ∨ b = c) with q | q
    · rw [q]; exact ⟨_, he, fun v r => nomatch r⟩
    · rw [q]; exact ⟨o, ho, fun v r => by rw [hd] at r; cases r⟩
  keep := fun i h g z k => by
    obtain ⟨⟨old, he⟩, ⟨o, ho, r⟩, n⟩ := z
    exact ⟨⟨old, k e (by simp) _ he⟩, ⟨o, k c (by simp) _ ho, r⟩, n⟩
  item := by
    intro X hP hw hK hc i pins s σ H E I hf z hg
    subst hP hw hK
    obtain ⟨⟨old, he⟩, hit, n1, n2, n3⟩ := z
    obtain ⟨xs, x, hq, hx⟩ := hg
    obtain ⟨its, rv, p, hz⟩ := I.tuple hq
    obtain ⟨u, hu, ru⟩ := rv.get hx
    have le : e < s.heap.objs.size := Heap.lt_size he
    have lc : c < s.heap.objs.size := hit.elim fun _ r => Heap.lt_size r.1
    have hlt : i < its.toArray.size := by
      have := lt_of_at hu
      simpa using this
    refine wpAny_pyNext_enum_itemD (et_draws (A := X.A.in1) (I.ok.hd hc) c a n2 its.toArray) he ⟨hit, p⟩ hlt n1 (fun y => (by simpa using y : e = c ∨ e = a).elim n1 (Ne.symm n3)) fun u' g tk hu' ho hit' hT _ hk => ?_
    have eu : u' = u := by
      have h1 : its.toArray[i]? = some u' := hu'
      rw [List.getElem?_toArray, hu] at h1
      exact (Option.some.inj h1).symm
    subst eu
    refine ⟨_, rfl, wpAny_letOwnedTupleGo_enum (s := { s with heap := g, toks := tk + 1 }) ho fun g2 he2 sb => ?_⟩
    have hT2 : g2.get? s.heap.objs.size = some { cls := .type "tuple", data := .seq #[.int i tk, u'] } := (sb.2 _ (Nat.ne_of_gt le)).trans hT
    have new : ObjOk X.prog X.w (upd H s.heap.objs.size (.tup [.int (i : Nat), x])) g2 s.heap.objs.size (.tup [.int (i : Nat), x]) :=
      ⟨by show 2 ≤ sizeLine; decide, [.int i tk, u'], .cons ⟨_, rfl⟩ (.cons ru .nil), ⟨_, hT2, rfl, _, rfl⟩⟩
    have J : Inv X pins σ (upd H s.heap.objs.size (.tup [.int (i : Nat), x])) { s with heap := g2, toks := tk + 1 } :=
      I.turnedNew (ch := [e, c]) (fun b ob hb q => (sb.2 b (fun y => hb (by simp [y]))).trans (hk b ob (fun y => hb (by simp [y])) (fun y => hb (by simp [y])) q)) hf (Nat.le_refl _) new
    refine ⟨.ref s.heap.objs.size, _, J, rfl, ⟨_, x, rfl, I.hok.fresh (Nat.le_refl _), rfl, fun ys hy => by rw [I.tuple_inj hy hq]; exact hx⟩, ⟨⟨u', ?_⟩, ?_, n1, n2, n3⟩, fun b hb => ?_⟩
    · rw [show ((i + 1 : Nat) : Int) = (i : Int) + 1 by omega]
      exact he2
    · obtain ⟨⟨o, q1, q2⟩, _⟩ := hit'
      exact ⟨o, (sb.2 c (Ne.symm n1)).trans q1, q2⟩
    · have lb : b < s.heap.objs.size := by
        rcases (by simpa using hb : b = e ∨ b = c) with q | q
        · rw [q]; exact le
        · rw [q]; exact lc
      rw [upd_ne (Nat.ne_of_lt lb)]
      exact (hf b hb).1
  done := by
    intro X hP hw hK hc i pins s σ H E I hf z hg
    subst hP hw hK
    obtain ⟨⟨old, he⟩, hit, n1, n2, n3⟩ := z
    obtain ⟨xs, hq, hx⟩ := hg
    obtain ⟨its, rv, p, hz⟩ := I.tuple hq
    obtain ⟨f0, f1, f2, f3, f4, f5⟩ := hf c (by simp)
    have hl := rv.length
    refine wpAny_pyNext_enum_endD (P := fun i v => its.toArray[i]? = some v) (n := i) (fp := [c, a]) (St := fun j h => IsTupIter h c a j ∧ IsTup h a its.toArray ∧ j = i) ?_ he ⟨hit, p, rfl⟩ fun g eb => ⟨rfl, I.turned (t' := s.toks) (fun b o hb q => eb b o hb q) f0 f1 f3 f4 f5⟩
    have D := et_draws (prog := X.prog) (w := X.w) (A := X.A.in1) (I.ok.hd hc) c a n2 its.toArray
    refine ⟨fun j h y => D.live j h ⟨y.1, y.2.1⟩, fun j h h' y k => ⟨(D.frame j h h' ⟨y.1, y.2.1⟩ k).1, (D.frame j h h' ⟨y.1, y.2.1⟩ k).2, y.2.2⟩, fun j s' Q' E' hj y q => ?_, fun s' Q' E' y q => ?_⟩
    · exact absurd hj (by have := y.2.2; omega)
    · unfold Builtin.SmallTypes.nextOf
      refine wpAny_bind (special_tup_end (I.ok.hd hc) y.1 y.2.1 (by simp; omega) fun v g x b => ?_)
      obtain ⟨b', o, vs, rfl, h1, h2, _⟩ := x
      exact q g b' b ⟨o, h1, h2⟩
  self := fun A i s Q E z h => let ⟨⟨_, he⟩, _⟩ := z; wpAny_pyIter_enum he h
def iEnumT (K : PySem.W.Frag) (ta : TA) : TI := fun σ H R => ta σ H fun vs H1 => ∃ a xs, vs = [.ref a] ∧ SqT K H1 a xs ∧ R (Iet K a) H1
theorem pi_enumT {X : Cx} {e : Expr} {ta : TA} {p pos tpos : Pos} {elts : List Expr} {kk : Nat} (hg : Gl X "enumerate") (hm : X.mg "enumerate" = none) (ha : PA X [e] ta) (hs : starEach [e] X.env = [(false, eval e X.env)] := by rfl) :
    PI X (.Tuple elts kk tpos) (.Call (.Name "enumerate" p) [e] [] pos) (iEnumT X.K ta) := by
  refine ⟨fun pins s σ H R I h => Call_ (ld_blt I hg hm boot_enumerate (PyProof.Rows.callWith_type1 (thn (ha.run pos pins s σ H _ I h) fun us s1 ⟨vs, H1, I1, r1, a, xs, ex, hq, q⟩ => ?_) hs rfl))⟩
  subst ex
  cases r1 with
  | cons r rr =>
    cases rr
    cases r
    obtain ⟨its, rv, p', hz⟩ := I1.tuple hq
    have la : a < s1.heap.objs.size := p'.elim fun _ z => Heap.lt_size z.1
    refine et_call p' fun g he hit hk => wpAny_pyIter_enum he ?_
    have I2 : Inv X pins σ H1 { s1 with heap := g } := I1.kept (t' := s1.toks) hk
    refine ⟨s1.heap.objs.size + 1, [s1.heap.objs.size + 1, s1.heap.objs.size], _, _, H1, rfl, I2, turn_et a (s1.heap.objs.size + 1) s1.heap.objs.size, ⟨⟨.none, he⟩, hit, Nat.succ_ne_self _, Nat.ne_of_lt la, Nat.ne_of_lt (Nat.lt_succ_of_lt la)⟩, fun b hb => ?_, q⟩
    have le : s1.heap.objs.size ≤ b := by
      rcases (by simpa using hb : b = s1.heap.objs.size + 1 ∨ b = s1.heap.objs.size) with z | z
      · exact Nat.le_trans (Nat.le_succ _) (Nat.le_of_eq z.symm)
      · exact Nat.le_of_eq z.symm
    exact I1.fpOk le (I1.hok.fresh le)
end
/-- a for over enumerate(t), t a tuple that the body leaves as it is -/
theorem for_enumT {K : PySem.W.Frag} {a : Addr} {xs : List V} {g : TG} {tb : TS} {D : Ends} {σ : L2.St} {H : Hp} (Pv : Nat → L2.St → Hp → Prop) (h0 : Pv 0 σ H) (hl : ∀ i σ H, i ≤ xs.length → Pv i σ H → SqT K H a xs)
    (hs : ∀ i x σ H T, xs[i]? = some x → Pv i σ H → H T = none → g (.ref T) σ (upd H T (.tup [.int (i : Nat), x])) fun σ2 H2 => tb { D with nx := Pv (i + 1), ct := Pv (i + 1), bk := D.nx } σ2 H2) (hd : ∀ σ H, Pv xs.length σ H → D.nx σ H) :
    ∃ W : Nat → Nat → L2.St → Hp → Prop, (∃ m, W 0 m σ H) ∧ ∀ i m σ H, W i m σ H →
      ((Iet K a).stop i H ∧ D.nx σ H) ∨ ((Iet K a).go i H ∧ ∃ N : L2.St → Hp → Prop, (∀ σ' H', N σ' H' → ∃ m', m' < m ∧ W (i + 1) m' σ' H') ∧ ∀ x H', (Iet K a).yld i H x H' → g x σ H' fun σ2 H2 => tb { D with nx := N, ct := N, bk := D.nx } σ2 H2) := by
  refine ⟨fun i m σ H => m = xs.length - i ∧ i ≤ xs.length ∧ Pv i σ H, ⟨xs.length, by simp, Nat.zero_le _, h0⟩, ?_⟩
  rintro i m σ H ⟨rfl, hi, p⟩
  have q := hl i σ H hi p
  by_cases hlt : i < xs.length
  · refine .inr ⟨⟨xs, xs[i], q, by simp [hlt]⟩, Pv (i + 1), fun σ' G p' => ⟨xs.length - (i + 1), by omega, rfl, hlt, p'⟩, fun x G y => ?_⟩
    obtain ⟨T, v, rfl, hT, rfl, hv⟩ := y
    exact hs i v σ H T (hv xs q) p hT
  · have e : i = xs.length := by omega
    subst e
    exact .inl ⟨⟨xs, q, Nat.le_refl _⟩, hd σ H p⟩
/-! ### == and != by an own __eq__, both answers -/
/-- the type of the second one -/
def TyY (K : PySem.W.Frag) (H : Hp) (y : V) (tb : Value) : Prop := TyX K H y tb ∨ ∃ (b C dy : Addr) (gs : List (Str × V)), y = .ref b ∧ H b = some (.ins C dy gs) ∧ tb = .ref C
theorem TyY.looks {X : Cx} {pins : List (Addr × Obj)} {σ : L2.St} {H : Hp} {s : Shared} {y : V} {u tb : Value} (I : Inv X pins σ H s) (r : RelV y u) (t : TyY X.K H y tb) : PySem.W.Looks (model X.prog X.w) s.heap (typeOf u) tb := by
  rcases t with t | ⟨b, C, dy, gs, rfl, hb, rfl⟩
  · obtain ⟨P, Z, p, _⟩ := kit_of I r t
    exact Z.ty _ _ I.kIn p
  · cases r
    obtain ⟨mB, J, _⟩ := ins_get I.hok hb
    obtain ⟨od, J', _⟩ := J.look
    exact J'.type
section
variable {X : Cx} {CX : CXT} {C f : Addr} {fd : FuncData} {ps : List Str} {sp : Sp} {E : XK} {n : Nat}
/-- the call of __eq__ within a comparison -/
theorem oe_call {A : Around} {pins : List (Addr × Obj)} {σ : L2.St} {H : Hp} {s : Shared} {x y : V} {u v : Value} {Q : Bool → Hp → Prop} (F : FnOk X.prog X.w X.K X.mg X.base CX n f fd ps sp) (hb : Binds X.K fd ps []) (hx : Passes CX X E) (hr : Room n A) (hA : Env0 X.prog X.w X.K X.mg X.base A X.stack s H)
    (I : Inv X pins σ H s) (rx : RelV x u) (ry : RelV y v) (h : sp [x, y] H (fun z G => ∃ b, z = .bl b ∧ Q b G) E) :
    wpAny (model X.prog X.w) A (call (.ref f) [u, v]) (fun z s' => ∃ b, z = .bool b ∧ ∃ G, Inv X pins σ G s' ∧ Q b G) X.xe s := by
  have r2 : Vals [x, y] [u, v] := .cons rx (.cons ry .nil)
  have hl := F.len _ _ _ _ h
  refine wpAny_call (codeAny_mono (F.run A X.stack s H ⟨[u, v], []⟩ [u, v] [x, y] _ E hr hA (by
    have z := hb s [u, v] I.kIn (by simpa using hl)
    simpa using z) r2 h) fun r s' hq => ?_)
  cases r with
  | error e => exact hx pins σ H s e s' I hq
  | ok fl =>
    cases fl with
    | ret w =>
      obtain ⟨z, G, I', rz, b, ez, q⟩ := I.after hq
      subst ez
      cases rz
      exact ⟨b, rfl, G, I', q⟩
    | next => exact False.elim hq
    | brk => exact False.elim hq
    | cont => exact False.elim hq
def rOe (K : PySem.W.Frag) (C : Addr) (sp : Sp) (E : XK) (neg : Bool) : R2 := fun x y H Q => ∃ (a dx : Addr) (fs : List (Str × V)) (tb : Value), x = .ref a ∧ H a = some (.ins C dx fs) ∧ TyY K H y tb ∧ PySem.W.notFirst K C tb = true ∧ sp [x, y] H (fun v G => ∃ b, v = .bl b ∧ Q (.bl (if neg then !b else b)) G) E
theorem op_oeq (F : FnOk X.prog X.w X.K X.mg X.base CX n f fd ps sp) (m : Meth X.K C "__eq__" f) (hb : Binds X.K fd ps []) (hx : Passes CX X E) (hr : Room n X.A) : OpR X (compareOp .Eq) (rOe X.K C sp E false) := by
  intro pins s σ H x y u v Q I rx ry h
  obtain ⟨a, dx, fs, tb, rfl, ha, ty, nf, q⟩ := h
  cases rx
  obtain ⟨mA, J0, _⟩ := ins_get I.hok ha
  obtain ⟨od, J, _⟩ := J0.look
  obtain ⟨mf, hF⟩ := I.fr
  show wpAny (model X.prog X.w) X.A (richCompare .Eq (.ref a) v) (EP X pins σ Q) X.xe s
  refine PySem.W.cmp_K (op := .Eq) (tb := tb) hr.units0 hF I.ok.mod.kin J (ty.looks I ry) nf m.at_ m.fn ?_
  refine wpAny_mono (oe_call F hb hx hr I.env0 I (x := .ref a) (y := y) rfl ry (Q := fun b G => Q (.bl b) G) q) (fun z s' hz => ?_) fun _ _ e => e
  obtain ⟨b, rfl, G, I', q'⟩ := hz
  exact ⟨.bl b, G, I', rfl, q'⟩
end
section
open PySem.W
variable {prog : Program} {w : World} {A : Around} {E : Value → Shared → Prop} {s : Shared} {K : Frag} {x C : Addr} {ox : Obj} {od : Option Obj}
theorem on_bound {M : Model} {nm : Str} {id : String} {args : List Value} {Q : Option Value → Shared → Prop} (X : K.In s.heap) (I : InstAt s.heap x ox C od) (hs : findIn K (.ref C) nm = some (some (.builtin id))) (hbn : ∀ v : Value, bindSpecial (.builtin id) v = pure (.builtin id, [v]))
    (h : wpAny M A (call (.builtin id) (.ref x :: args)) (fun v => Q (some v)) E s) : wpAny M A (callSpecialIfBound? (.ref x) nm args) Q E s := by
  simp only [callSpecialIfBound?, bindSpecialIfBound?]
  refine wpAny_holding (wpAny_bind (wpAny_bind (wpAny_bind (I.type.here ((looks_findIn X hs).here ?_)))))
  simp only [hbn]
  refine wpAny_bind (wpAny_askSetting (wpAny_ite ?_))
  have fin : wpAny M A (call (.builtin id) ([.ref x] ++ args) >>= fun v => pure (some v)) Q E s := wpAny_bind (wpAny_mono h (fun v s' z => wpAny_pure z) fun _ _ z => z)
  split
  · exact wpAny_bind (wpAny_pure (wpAny_pure fin))
  · exact wpAny_tryCatch (wpAny_bind (wpAny_pure (wpAny_pure fin)))
end
section
open PySem.W
variable {prog : Program} {w : World} {A : Around} {E : Value → Shared → Prop} {s : Shared} {K : Frag} {x C f : Addr} {ox : Obj} {od : Option Obj} {b tb : Value}
/-- a rich comparison by the first one's own try -/
theorem on_rich {op : CmpOp} {Q : Value → Shared → Prop} (hu : A.units < cLine) (X : K.In s.heap) (I : InstAt s.heap x ox C od) (hb : Looks (model prog w) s.heap (typeOf b) tb) (hn : notFirst K C tb = true)
    (one : wpAny (model prog w) A (tryCompare (.ref x) (cmpInfo op).2.1 b) (fun r s' => ∃ v, r = some v ∧ Q v s') E s) : wpAny (model prog w) A (richCompare op (.ref x) b) Q E s := by
  have fin : ∀ {t : Sem Value}, (∀ s' v, Q v s' → wpAny (model prog w) A (pure v : Sem Value) Q E s') → True := fun _ => trivial
  unfold richCompare
  simp only [oneThing_ref]
  refine wpAny_holding (wpAny_bind (wpAny_cRoomFor hu (wpAny_bind (I.type.here (wpAny_bind (hb.here ?_))))))
  split
  · rename_i q
    have e : subIn K tb (.ref C) = some false := by
      cases Bool.or_eq_true_iff.mp hn with
      | inl e =>
        rw [beq_iff_eq.mp e] at q
        simp at q
      | inr e => exact beq_iff_eq.mp e
    refine wpAny_bind ((looks_subIn X e).here ?_)
    simp only [Bool.false_eq_true, if_false]
    refine wpAny_bind (wpAny_mono one (fun r s' z => ?_) fun _ _ z => z)
    obtain ⟨v, rfl, hq⟩ := z
    exact wpAny_pure hq
  · refine wpAny_bind (wpAny_pure ?_)
    simp only [Bool.false_eq_true, if_false]
    refine wpAny_bind (wpAny_mono one (fun r s' z => ?_) fun _ _ z => z)
    obtain ⟨v, rfl, hq⟩ := z
    exact wpAny_pure hq
/-- object.__ne__ of an instance with its own __eq__ -/
theorem on_body {Q : PySem.Fin → Shared → Prop} (hu : A.units < cLine) (X : K.In s.heap) (I : InstAt s.heap x ox C od) (hs : findIn K (.ref C) "__eq__" = some (some (.ref f))) (hf : isFn K (.ref f) = true)
    (h : wpAny (model prog w) A (call (.ref f) [.ref x, b]) (fun v s' => ∃ r, v = .bool r ∧ Q (.done (.ret (.bool (!r)))) s') E s) : wpAny (model prog w) A (Builtin.«object.__ne__» ⟨[.ref x, b], []⟩) Q E s := by
  unfold Builtin.«object.__ne__»
  repeat (first
    | with_reducible refine wpAny_cRoomFor hu ?_
    | (refine wpAny_bind (m := callSpecialIfBound? (.ref x) (Str.ofString "__eq__") [b]) (ifBound_K X I hs hf (wpAny_mono h (fun r s' z => by
          obtain ⟨v, rfl, q⟩ := z
          repeat (first | exact q | exact wpAny_pure q | exact wpAny_truthy_bool q | (refine wpAny_bind (m := truthy (.bool _)) (wpAny_truthy_bool ?_)) | wp_step)) fun _ _ z => z)))
    | wp_step)
theorem on_try {Q : Option Value → Shared → Prop} {nm q : Str} {N : Addr} {bs : List Value} {hd : Bool} {sn : List Str} {sub : List Value} {ab : Bool} {col : Option Bool} {dd : Option Addr} {k0 k1 k2 k3 k5 : Option Value} {ni : String} (hu : A.units + 1 < cLine) (X : K.In s.heap) (I : InstAt s.heap x ox C od)
    (hs : findIn K (.ref C) "__eq__" = some (some (.ref f))) (hf : isFn K (.ref f) = true) (hn : findIn K (.ref C) "__ne__" = some (some (.builtin "object.__ne__"))) (hC : K.lookup C = some (excClassObj nm q C N bs [.type "object"] hd sn sub ab col dd k0 k1 k2 k3 k5 ni))
    (h : wpAny (model prog w) A.in1 (call (.ref f) [.ref x, b]) (fun v s' => ∃ r, v = .bool r ∧ Q (some (.bool (!r))) s') E s) : wpAny (model prog w) A (tryCompare (.ref x) "__ne__" b) Q E s := by
  simp only [tryCompare]
  refine wpAny_bind (on_bound X I hn PySem.F.cmp_object.ne.bind (wpAny_call (codeAny_call_builtin PySem.F.cmp_object.ne.plain F.cmpEntry_ne
    (wpAny_check_slot_inst F.cmpKind_ne F.cmpSplit_ne (F.cmpArgs_ne _ _) PySem.F.cmp_object.hasObject I.at_ I.cls (X _ _ hC) (on_body (A := A.in1) (by show A.units + 1 < cLine; exact hu) X I hs hf (wpAny_mono h (fun v s' z => ?_) fun _ _ z => z))))))
  obtain ⟨r, rfl, q⟩ := z
  first
    | exact ⟨r, rfl, wpAny_pure q⟩
    | exact ⟨r, rfl, wpAny_pure (wpAny_pure q)⟩
    | exact ⟨r, rfl, q⟩
end
section
variable {X : Cx} {CX : CXT} {C f : Addr} {fd : FuncData} {ps : List Str} {sp : Sp} {E : XK} {n : Nat}
theorem op_one (F : FnOk X.prog X.w X.K X.mg X.base CX n f fd ps sp) (m : Meth X.K C "__eq__" f) (hn : PySem.W.findIn X.K (.ref C) "__ne__" = some (some (.builtin "object.__ne__")))
    (ob : ∃ nm q N bs hd sn sub ab col dd k0 k1 k2 k3 k5 ni, X.K.lookup C = some (excClassObj nm q C N bs [.type "object"] hd sn sub ab col dd k0 k1 k2 k3 k5 ni)) (hb : Binds X.K fd ps []) (hx : Passes CX X E) (hr : Room (n + 1) X.A) :
    OpR X (compareOp .NotEq) (rOe X.K C sp E true) := by
  intro pins s σ H x y u v Q I rx ry h
  obtain ⟨a, dx, fs, tb, rfl, ha, ty, nf, q⟩ := h
  obtain ⟨nm, q', N, bs, hd, sn, sub, ab, col, dd, k0, k1, k2, k3, k5, ni, hC⟩ := ob
  cases rx
  obtain ⟨mA, J0, _⟩ := ins_get I.hok ha
  obtain ⟨od, J, _⟩ := J0.look
  show wpAny (model X.prog X.w) X.A (richCompare .NotEq (.ref a) v) (EP X pins σ Q) X.xe s
  refine on_rich (op := .NotEq) (tb := tb) hr.units0 I.kIn J (ty.looks I ry) nf (on_try (by have := hr.units; omega) I.kIn J m.at_ m.fn hn hC ?_)
  refine wpAny_mono (oe_call F hb hx hr.in1 I.env0.in1 I (x := .ref a) (y := y) rfl ry (Q := fun b G => Q (.bl (!b)) G) q) (fun z s' hz => ?_) fun _ _ e => e
  obtain ⟨b, rfl, G, I', q2⟩ := hz
  exact ⟨b, rfl, _, rfl, .bl (!b), G, I', rfl, q2⟩
end
theorem kit_own {K : PySem.W.Frag} {C : Addr} {t : Value} {b : Bool} (hc : PySem.W.isClsIn K C = true) (ht : PySem.W.typeIn K (.ref C) = some (.type "type")) (hs : PySem.W.subIn K t (.ref C) = some b) (hne : (t == .ref C) = true → b = true) : PySem.W.kitOne K t (.ref C) = some b := by
  unfold PySem.W.kitOne
  split
  · rename_i e
    rw [hne e]
  · unfold PySem.W.kitCls
    have h1 : (PySem.W.clsIn K C).isSome = true := hc
    simp only [h1, ht, beq_self_eq_true, Bool.and_true, if_true]
    exact hs
/-! ### attributes -/
def rF (a b c d : V) : List (Str × V) := [("_writing", a), ("_reading", b), ("_choice", c), ("_bound", d)]
theorem rnf01 : ¬ (("_writing" : Str) = "_reading") := by decide +kernel
theorem rbf01 : (("_writing" : Str) == "_reading") = false := by decide +kernel
theorem rnf02 : ¬ (("_writing" : Str) = "_choice") := by decide +kernel
theorem rbf02 : (("_writing" : Str) == "_choice") = false := by decide +kernel
theorem rnf03 : ¬ (("_writing" : Str) = "_bound") := by decide +kernel
theorem rbf03 : (("_writing" : Str) == "_bound") = false := by decide +kernel
theorem rnf10 : ¬ (("_reading" : Str) = "_writing") := by decide +kernel
theorem rbf10 : (("_reading" : Str) == "_writing") = false := by decide +kernel
theorem rnf12 : ¬ (("_reading" : Str) = "_choice") := by decide +kernel
theorem rbf12 : (("_reading" : Str) == "_choice") = false := by decide +kernel
theorem rnf13 : ¬ (("_reading" : Str) = "_bound") := by decide +kernel
theorem rbf13 : (("_reading" : Str) == "_bound") = false := by decide +kernel
theorem rnf20 : ¬ (("_choice" : Str) = "_writing") := by decide +kernel
theorem rbf20 : (("_choice" : Str) == "_writing") = false := by decide +kernel
theorem rnf21 : ¬ (("_choice" : Str) = "_reading") := by decide +kernel
theorem rbf21 : (("_choice" : Str) == "_reading") = false := by decide +kernel
theorem rnf23 : ¬ (("_choice" : Str) = "_bound") := by decide +kernel
theorem rbf23 : (("_choice" : Str) == "_bound") = false := by decide +kernel
theorem rnf30 : ¬ (("_bound" : Str) = "_writing") := by decide +kernel
theorem rbf30 : (("_bound" : Str) == "_writing") = false := by decide +kernel
theorem rnf31 : ¬ (("_bound" : Str) = "_reading") := by decide +kernel
theorem rbf31 : (("_bound" : Str) == "_reading") = false := by decide +kernel
theorem rnf32 : ¬ (("_bound" : Str) = "_choice") := by decide +kernel
theorem rbf32 : (("_bound" : Str) == "_choice") = false := by decide +kernel
theorem rbf00 : (("_writing" : Str) == "_writing") = true := by decide +kernel
theorem rbf11 : (("_reading" : Str) == "_reading") = true := by decide +kernel
theorem rbf22 : (("_choice" : Str) == "_choice") = true := by decide +kernel
theorem rbf33 : (("_bound" : Str) == "_bound") = true := by decide +kernel
theorem rF_get0 {a b c d : V} : (rF a b c d).lookup ("_writing" : Str) = some a := by
  unfold rF
  simp only [List.lookup, rbf00]
theorem rF_put0 {a b c d z : V} : putF "_writing" z (rF a b c d) = rF z b c d := by
  unfold rF
  simp only [putF, if_true, eq_self_iff_true]
theorem rF_get1 {a b c d : V} : (rF a b c d).lookup ("_reading" : Str) = some b := by
  unfold rF
  simp only [List.lookup, rbf10, rbf11]
theorem rF_put1 {a b c d z : V} : putF "_reading" z (rF a b c d) = rF a z c d := by
  unfold rF
  simp only [putF, if_neg rnf01, if_true, eq_self_iff_true]
theorem rF_get2 {a b c d : V} : (rF a b c d).lookup ("_choice" : Str) = some c := by
  unfold rF
  simp only [List.lookup, rbf20, rbf21, rbf22]
theorem rF_put2 {a b c d z : V} : putF "_choice" z (rF a b c d) = rF a b z d := by
  unfold rF
  simp only [putF, if_neg rnf02, if_neg rnf12, if_true, eq_self_iff_true]
theorem rF_get3 {a b c d : V} : (rF a b c d).lookup ("_bound" : Str) = some d := by
  unfold rF
  simp only [List.lookup, rbf30, rbf31, rbf32, rbf33]
theorem rF_put3 {a b c d z : V} : putF "_bound" z (rF a b c d) = rF a b c z := by
  unfold rF
  simp only [putF, if_neg rnf03, if_neg rnf13, if_neg rnf23, if_true, eq_self_iff_true]
theorem rF_made {a b c d : V} : (putF "_bound" d (putF "_choice" c (putF "_reading" b (putF "_writing" a [])))) = rF a b c d := by
  unfold rF
  simp only [putF, if_neg rnf01, if_neg rnf02, if_neg rnf03, if_neg rnf12, if_neg rnf13, if_neg rnf23]
def qF (a b c d : V) : List (Str × V) := [("_through", a), ("_back", b), ("_around", c), ("_clean", d)]
theorem qnf01 : ¬ (("_through" : Str) = "_back") := by decide +kernel
theorem qbf01 : (("_through" : Str) == "_back") = false := by decide +kernel
theorem qnf02 : ¬ (("_through" : Str) = "_around") := by decide +kernel
theorem qbf02 : (("_through" : Str) == "_around") = false := by decide +kernel
theorem qnf03 : ¬ (("_through" : Str) = "_clean") := by decide +kernel
theorem qbf03 : (("_through" : Str) == "_clean") = false := by decide +kernel
theorem qnf10 : ¬ (("_back" : Str) = "_through") := by decide +kernel
theorem qbf10 : (("_back" : Str) == "_through") = false := by decide +kernel
theorem qnf12 : ¬ (("_back" : Str) = "_around") := by decide +kernel
theorem qbf12 : (("_back" : Str) == "_around") = false := by decide +kernel
theorem qnf13 : ¬ (("_back" : Str) = "_clean") := by decide +kernel
theorem qbf13 : (("_back" : Str) == "_clean") = false := by decide +kernel
theorem qnf20 : ¬ (("_around" : Str) = "_through") := by decide +kernel
theorem qbf20 : (("_around" : Str) == "_through") = false := by decide +kernel
theorem qnf21 : ¬ (("_around" : Str) = "_back") := by decide +kernel
theorem qbf21 : (("_around" : Str) == "_back") = false := by decide +kernel
theorem qnf23 : ¬ (("_around" : Str) = "_clean") := by decide +kernel
theorem qbf23 : (("_around" : Str) == "_clean") = false := by decide +kernel
theorem qnf30 : ¬ (("_clean" : Str) = "_through") := by decide +kernel
theorem qbf30 : (("_clean" : Str) == "_through") = false := by decide +kernel
theorem qnf31 : ¬ (("_clean" : Str) = "_back") := by decide +kernel
theorem qbf31 : (("_clean" : Str) == "_back") = false := by decide +kernel
theorem qnf32 : ¬ (("_clean" : Str) = "_around") := by decide +kernel
theorem qbf32 : (("_clean" : Str) == "_around") = false := by decide +kernel
theorem qbf00 : (("_through" : Str) == "_through") = true := by decide +kernel
theorem qbf11 : (("_back" : Str) == "_back") = true := by decide +kernel
theorem qbf22 : (("_around" : Str) == "_around") = true := by decide +kernel
theorem qbf33 : (("_clean" : Str) == "_clean") = true := by decide +kernel
theorem qF_get0 {a b c d : V} : (qF a b c d).lookup ("_through" : Str) = some a := by
  unfold qF
  simp only [List.lookup, qbf00]
theorem qF_put0 {a b c d z : V} : putF "_through" z (qF a b c d) = qF z b c d := by
  unfold qF
  simp only [putF, if_true, eq_self_iff_true]
theorem qF_get1 {a b c d : V} : (qF a b c d).lookup ("_back" : Str) = some b := by
  unfold qF
  simp only [List.lookup, qbf10, qbf11]
theorem qF_put1 {a b c d z : V} : putF "_back" z (qF a b c d) = qF a z c d := by
  unfold qF
  simp only [putF, if_neg qnf01, if_true, eq_self_iff_true]
theorem qF_get2 {a b c d : V} : (qF a b c d).lookup ("_around" : Str) = some c := by
  unfold qF
  simp only [List.lookup, qbf20, qbf21, qbf22]
theorem qF_put2 {a b c d z : V} : putF "_around" z (qF a b c d) = qF a b z d := by
  unfold qF
  simp only [putF, if_neg qnf02, if_neg qnf12, if_true, eq_self_iff_true]
theorem qF_get3 {a b c d : V} : (qF a b c d).lookup ("_clean" : Str) = some d := by
  unfold qF
  simp only [List.lookup, qbf30, qbf31, qbf32, qbf33]
theorem qF_put3 {a b c d z : V} : putF "_clean" z (qF a b c d) = qF a b c z := by
  unfold qF
  simp only [putF, if_neg qnf03, if_neg qnf13, if_neg qnf23, if_true, eq_self_iff_true]
theorem qF_made {a b c d : V} : (putF "_clean" d (putF "_around" c (putF "_back" b (putF "_through" a [])))) = qF a b c d := by
  unfold qF
  simp only [putF, if_neg qnf01, if_neg qnf02, if_neg qnf03, if_neg qnf12, if_neg qnf13, if_neg qnf23]
theorem putF_len (f : Str) (v : V) : ∀ fs : List (Str × V), (putF f v fs).length ≤ fs.length + 1
  | [] => Nat.le_refl _
  | (g, x) :: r => by
    show (if g = f then (g, v) :: r else (g, x) :: putF f v r).length ≤ r.length + 1 + 1
    split
    · simp
    · have := putF_len f v r
      simp only [List.length_cons]
      omega
/-! ### rules -/
def W0 : List V := [.str "through", .str "back", .str "around"]
def W1 : List V := [.str "keep", .str "pass"]
def W2 : List V := [.str "used", .str "came", .str "rare"]
/-- a word of such a part -/
def WordOf (W : List V) (v : V) : Prop := ∃ z : Str, v = .str z ∧ inV (.str z) W = true
theorem WordOf.flat {W : List V} {v : V} (h : WordOf W v) : flatV v = true := by
  obtain ⟨z, rfl, _⟩ := h
  rfl
theorem WordOf.in_ {W : List V} {v : V} (h : WordOf W v) : inV v W = true := by
  obtain ⟨z, rfl, e⟩ := h
  exact e
def spRInit (C : Addr) : Sp := fun vs H Q _ => ∃ (p dx : Addr) (a b c : V) (n : Int), vs = [.ref p, a, b, c, .int n] ∧ H p = some (.ins C dx []) ∧ WordOf W0 a ∧ WordOf W1 b ∧ WordOf W2 c ∧ 0 ≤ n ∧ n ≤ 8 ∧
  ∀ H' : Hp, Fr [p] H H' → H' p = some (.ins C dx (rF a b c (.int n))) → Q .non H'
/-- an attribute read -/
def spGet (C : Addr) (f : Str) : Sp := fun vs H Q _ => ∃ (a dx : Addr) (fs : List (Str × V)) (v : V), vs = [.ref a] ∧ H a = some (.ins C dx fs) ∧ fs.lookup f = some v ∧ Q v H
/-- == of the own kind, or of another -/
def spREq (K : PySem.W.Frag) (C : Addr) : Sp := fun vs H Q _ => ∃ (a dx : Addr) (w r c : Str) (n : Int) (y : V), vs = [.ref a, y] ∧ H a = some (.ins C dx (rF (.str w) (.str r) (.str c) (.int n))) ∧
  ((∃ (b dy : Addr) (w' r' c' : Str) (n' : Int), y = .ref b ∧ H b = some (.ins C dy (rF (.str w') (.str r') (.str c') (.int n'))) ∧ Q (.bl (decide (V.str w = V.str w') && (decide (V.str r = V.str r') && (decide (V.str c = V.str c') && decide (V.int n = V.int n'))))) H)
  ∨ ∃ tb : Value, TyX K H y tb ∧ PySem.W.kitOne K tb (.ref C) = some false ∧ Q (.bl false) H)
section
variable {P : Program} {w : World} {K : PySem.W.Frag} {mg : Str → Option Value} {base : Heap}
theorem ok_rInit (T : Gx K mg) : FnOk P w K mg base CX0 3 T.f_Rules___init__ T.fd_Rules___init__ ["self", "writing", "reading", "choice", "bound"] (spRInit T.C_Rules) := by
  have G_is_number_from : FnOk P w K mg base CX0 2 T.f_is_number_from T.fd_is_number_from ["thing", "least", "most"] (spNumFrom K) := ok_numFrom T
  refine T.F_Rules___init__.ok sc_Rules___init__ (fun vs H Q E h => ?_) (fun cdv A outer s H vs Q E hr h => ?_)
  · obtain ⟨p, dx, a, b, c, n, rfl, _⟩ := h
    rfl
  · obtain ⟨p, dx, a, b, c, n, rfl, hp, ha, hb, hc, h0, h8, k⟩ := h
    refine ⟨_, (pss_cons (ps_set (i := 5) sc_Rules___init__.nd rfl (.inl rfl) (pe_tup (pa_cons (pv 1) (pa_cons (pv 2) (pa_cons (pv 3) pa_nil)))))
      (pss_cons (ps_for PassesOwn.never rfl (pi_enumT (by rfl) T.z_enumerate (pa_cons (pe_glob (v := .ref T.A_RULE_WORDS) (by rfl) T.g_RULE_WORDS rfl) pa_nil)) (pg_tup (by rfl) (pgs_cons (pg_name (i := 6) sc_Rules___init__.nd rfl (.inl rfl)) (pgs_cons (pg_name (i := 7) sc_Rules___init__.nd rfl (.inl rfl)) pgs_nil))) (pss_one (ps_if (pt_cmpR op_notIn_seq (pe_ix ix_tup (pv 5) (pv 6) (fun _ _ => rfl)) (pv 7) (by rfl)) (pss_one ps_never) pss_nil)))
      (pss_cons (ps_if (pt_not (pt_val (pe_call G_is_number_from (hr.mono (by first | decide | omega)) (by rfl) T.g_is_number_from T.F_is_number_from.kp (b_is_number_from T) .nil pass0 (pa_cons (pv 4) (pa_cons pe_int (pa_cons (pe_glob (v := .int 8) (by rfl) T.c_MOST_BOUND ⟨_, rfl⟩) pa_nil)))))) (pss_one ps_never) pss_nil)
      (pss_cons (ps_fld (pv 0) (pv 1) rfl)
      (pss_cons (ps_fld (pv 0) (pv 2) rfl)
      (pss_cons (ps_fld (pv 0) (pv 3) rfl)
      (pss_one (ps_fld (pv 0) (pv 4) rfl)))))))), ?_⟩
    refine ⟨_, rfl, _, rfl, _, rfl, sz_le (by simp), fun t ht => ?_⟩
    have pt : p ≠ t := ne_of_none hp ht
    refine ⟨T.A_RULE_WORDS, _, rfl, T.k_RULE_WORDS _, for_enumT (K := K) (a := T.A_RULE_WORDS) (xs := [.ref T.A_RULE_WORDS_0, .ref T.A_RULE_WORDS_1, .ref T.A_RULE_WORDS_2]) (fun i σ H' => Fr [] H H' ∧ H' t = some (.tup [a, b, c]) ∧ ∃ v6 v7 : Option V, σ = [some (.ref p), some a, some b, some c, some (.int n), some (.ref t), v6, v7])
      ⟨Fr.new ht, upd_same, none, none, rfl⟩ (fun _ _ H' _ _ => T.k_RULE_WORDS H') ?_ ?_⟩
    · rintro i x σ H1 U hx ⟨f1, e1, v6, v7, rfl⟩ hU
      have e2 : (upd H1 U (.tup [.int (i : Nat), x])) t = some (.tup [a, b, c]) := (upd_ne (ne_of_none e1 hU)).trans e1
      have f2 : Fr [] H (upd H1 U (.tup [.int (i : Nat), x])) := f1.trans (Fr.new hU)
      refine ⟨U, _, rfl, SqT.of upd_same, rfl, _, _, rfl, _, _, rfl, rfl, ?_⟩
      obtain ⟨v, W, B, hv, hxB, hW, hvW⟩ : ∃ (v : V) (W : List V) (B : Addr), ([a, b, c] : List V)[i]? = some v ∧ x = .ref B ∧ (∀ H', SqT K H' B W ∧ W.all flatV = true) ∧ (flatV v = true ∧ inV v W = true) := by
        match i, hx with
        | 0, hx => cases hx; exact ⟨a, _, _, rfl, rfl, fun H' => ⟨T.k_RULE_WORDS_0 H', rfl⟩, ha.flat, ha.in_⟩
        | 1, hx => cases hx; exact ⟨b, _, _, rfl, rfl, fun H' => ⟨T.k_RULE_WORDS_1 H', rfl⟩, hb.flat, hb.in_⟩
        | 2, hx => cases hx; exact ⟨c, _, _, rfl, rfl, fun H' => ⟨T.k_RULE_WORDS_2 H', rfl⟩, hc.flat, hc.in_⟩
        | i + 3, hx => simp at hx
      subst hxB
      refine ⟨_, rfl, _, rfl, t, _, (i : Int), v, rfl, rfl, SqT.of e2, atI_nat hv, _, rfl, B, W, rfl, .inr (hW _).1, hvW.1, (hW H).2, _, rfl, ?_⟩
      rw [hvW.2]
      exact iteF ⟨f2, e2, _, _, rfl⟩
    · rintro σ H1 ⟨f1, e1, v6, v7, rfl⟩
      refine ⟨_, rfl, .int n, 0, 8, rfl, .inl ⟨n, rfl, _, rfl, ?_⟩⟩
      have e : (decide ((0 : Int) ≤ n) && decide (n ≤ 8)) = true := by
        rw [Bool.and_eq_true, decide_eq_true_eq, decide_eq_true_eq]
        omega
      rw [e]
      refine iteF ?_
      have hp1 := f1 _ _ hp (by simp)
      refine ⟨_, rfl, _, rfl, p, T.C_Rules, dx, [], rfl, hp1, T.cl_Rules, T.n_Rules__writing, by simp, ?_⟩
      refine ⟨_, rfl, _, rfl, p, T.C_Rules, dx, _, rfl, upd_same, T.cl_Rules, T.n_Rules__reading, Nat.lt_of_le_of_lt (putF_len _ _ _) (by simp), ?_⟩
      refine ⟨_, rfl, _, rfl, p, T.C_Rules, dx, _, rfl, upd_same, T.cl_Rules, T.n_Rules__choice, Nat.lt_of_le_of_lt (putF_len _ _ _) (Nat.lt_of_le_of_lt (Nat.succ_le_succ (putF_len _ _ _)) (by simp)), ?_⟩
      refine ⟨_, rfl, _, rfl, p, T.C_Rules, dx, _, rfl, upd_same, T.cl_Rules, T.n_Rules__bound, Nat.lt_of_le_of_lt (putF_len _ _ _) (Nat.lt_of_le_of_lt (Nat.succ_le_succ (Nat.le_trans (putF_len _ _ _) (Nat.succ_le_succ (putF_len _ _ _)))) (by simp)), ?_⟩
      rw [rF_made, upd_upd, upd_upd, upd_upd]
      exact k _ (fun b o e nb => by rw [upd_ne (by simpa using nb)]; exact f1 b o e (by simp)) upd_same
theorem tyx_ins (T : Gx K mg) {H : Hp} {a dx : Addr} {fs : List (Str × V)} (h : H a = some (.ins T.C_Rules dx fs)) : TyX K H (.ref a) (.ref T.C_Rules) := .base (.ins h T.cl_Rules T.kc_Rules T.kg T.kt T.km_Rules)
theorem ok_rEq (T : Gx K mg) : FnOk P w K mg base CX0 1 T.f_Rules___eq__ T.fd_Rules___eq__ ["self", "other"] (spREq K T.C_Rules) := by
  refine T.F_Rules___eq__.ok sc_Rules___eq__ (fun vs H Q E h => ?_) (fun cdv A outer s H vs Q E hr h => ?_)
  · obtain ⟨a, dx, w', r, c, n, y, rfl, _⟩ := h
    rfl
  · obtain ⟨a, dx, w', r, c, n, y, rfl, ha, h⟩ := h
    refine ⟨_, (pss_one (ps_ret (pe_and (pe_callB call_isi (by rfl) T.z_isinstance (by decide +kernel) (pa_cons (pv 1) (pa_cons (pe_glob (v := .ref T.C_Rules) (by rfl) T.gC_Rules rfl) pa_nil))) (pe_and (pe_cmpR op_eq (pe_fld (pv 0) rfl) (pe_fld (pv 1) rfl) (nomark _)) (pe_and (pe_cmpR op_eq (pe_fld (pv 0) rfl) (pe_fld (pv 1) rfl) (nomark _)) (pe_and (pe_cmpR op_eq (pe_fld (pv 0) rfl) (pe_fld (pv 1) rfl) (nomark _)) (pe_one (pe_cmpR op_eq (pe_fld (pv 0) rfl) (pe_fld (pv 1) rfl) (nomark _))))))))), ?_⟩
    rcases h with ⟨b, dy, w2, r2, c2, n2, rfl, hb, q⟩ | ⟨tb, ty, ki, q⟩
    · have both := kit_own T.isc_Rules T.tyc_Rules T.sub_Rules (fun _ => rfl)
      refine ⟨_, rfl, _, .ref T.C_Rules, .ref T.C_Rules, .ref T.C_Rules, true, rfl, .own _, tyx_ins T hb, both, _, rfl, iteT ?_⟩
      refine ⟨_, rfl, a, T.C_Rules, _, _, _, rfl, ha, T.cl_Rules, T.n_Rules__writing, rF_get0, _, rfl, b, T.C_Rules, _, _, _, rfl, hb, T.cl_Rules, T.n_Rules__writing, rF_get0, rfl, _, rfl, ite2 (fun e0 => ?_) (fun e0 => ?_)⟩
      · rw [e0, Bool.true_and] at q
        refine ⟨_, rfl, a, T.C_Rules, _, _, _, rfl, ha, T.cl_Rules, T.n_Rules__reading, rF_get1, _, rfl, b, T.C_Rules, _, _, _, rfl, hb, T.cl_Rules, T.n_Rules__reading, rF_get1, rfl, _, rfl, ite2 (fun e1 => ?_) (fun e1 => ?_)⟩
        · rw [e1, Bool.true_and] at q
          refine ⟨_, rfl, a, T.C_Rules, _, _, _, rfl, ha, T.cl_Rules, T.n_Rules__choice, rF_get2, _, rfl, b, T.C_Rules, _, _, _, rfl, hb, T.cl_Rules, T.n_Rules__choice, rF_get2, rfl, _, rfl, ite2 (fun e2 => ?_) (fun e2 => ?_)⟩
          · rw [e2, Bool.true_and] at q
            exact ⟨_, rfl, a, T.C_Rules, _, _, _, rfl, ha, T.cl_Rules, T.n_Rules__bound, rF_get3, _, rfl, b, T.C_Rules, _, _, _, rfl, hb, T.cl_Rules, T.n_Rules__bound, rF_get3, rfl, q⟩
          · rw [Bool.not_eq_true] at e2
            rw [e2, Bool.false_and] at q
            exact q
        · rw [Bool.not_eq_true] at e1
          rw [e1, Bool.false_and] at q
          exact q
      · rw [Bool.not_eq_true] at e0
        rw [e0, Bool.false_and] at q
        exact q
    · exact ⟨_, rfl, _, .ref T.C_Rules, tb, .ref T.C_Rules, false, rfl, .own _, ty, ki, _, rfl, iteF q⟩
theorem ok_writing (T : Gx K mg) : FnOk P w K mg base CX0 1 T.f_Rules_writing T.fd_Rules_writing ["self"] (spGet T.C_Rules "_writing") := by
  refine T.F_Rules_writing.ok sc_Rules_writing (fun vs H Q E h => ?_) (fun cdv A outer s H vs Q E hr h => ?_)
  · obtain ⟨a, dx, fs, v, rfl, _⟩ := h
    rfl
  · obtain ⟨a, dx, fs, v, rfl, ha, hv, k⟩ := h
    refine ⟨_, (pss_one (ps_ret (pe_fld (pv 0) rfl))), ?_⟩
    exact ⟨_, rfl, a, T.C_Rules, _, _, _, rfl, ha, T.cl_Rules, T.n_Rules__writing, hv, k⟩
theorem ok_reading (T : Gx K mg) : FnOk P w K mg base CX0 1 T.f_Rules_reading T.fd_Rules_reading ["self"] (spGet T.C_Rules "_reading") := by
  refine T.F_Rules_reading.ok sc_Rules_reading (fun vs H Q E h => ?_) (fun cdv A outer s H vs Q E hr h => ?_)
  · obtain ⟨a, dx, fs, v, rfl, _⟩ := h
    rfl
  · obtain ⟨a, dx, fs, v, rfl, ha, hv, k⟩ := h
    refine ⟨_, (pss_one (ps_ret (pe_fld (pv 0) rfl))), ?_⟩
    exact ⟨_, rfl, a, T.C_Rules, _, _, _, rfl, ha, T.cl_Rules, T.n_Rules__reading, hv, k⟩
theorem ok_choice (T : Gx K mg) : FnOk P w K mg base CX0 1 T.f_Rules_choice T.fd_Rules_choice ["self"] (spGet T.C_Rules "_choice") := by
  refine T.F_Rules_choice.ok sc_Rules_choice (fun vs H Q E h => ?_) (fun cdv A outer s H vs Q E hr h => ?_)
  · obtain ⟨a, dx, fs, v, rfl, _⟩ := h
    rfl
  · obtain ⟨a, dx, fs, v, rfl, ha, hv, k⟩ := h
    refine ⟨_, (pss_one (ps_ret (pe_fld (pv 0) rfl))), ?_⟩
    exact ⟨_, rfl, a, T.C_Rules, _, _, _, rfl, ha, T.cl_Rules, T.n_Rules__choice, hv, k⟩
theorem ok_bound (T : Gx K mg) : FnOk P w K mg base CX0 1 T.f_Rules_bound T.fd_Rules_bound ["self"] (spGet T.C_Rules "_bound") := by
  refine T.F_Rules_bound.ok sc_Rules_bound (fun vs H Q E h => ?_) (fun cdv A outer s H vs Q E hr h => ?_)
  · obtain ⟨a, dx, fs, v, rfl, _⟩ := h
    rfl
  · obtain ⟨a, dx, fs, v, rfl, ha, hv, k⟩ := h
    refine ⟨_, (pss_one (ps_ret (pe_fld (pv 0) rfl))), ?_⟩
    exact ⟨_, rfl, a, T.C_Rules, _, _, _, rfl, ha, T.cl_Rules, T.n_Rules__bound, hv, k⟩
end
/-! ### tuples and lists of words, as data -/
def sV (zs : List Str) : List V := zs.map V.str
def sD (zs : List Str) : List PyData := zs.map PyData.str
theorem sV_len (zs : List Str) : (sV zs).length = zs.length := List.length_map _
theorem sV_flat (zs : List Str) : (sV zs).all flatV = true := by
  unfold sV
  rw [List.all_map]
  induction zs with
  | nil => rfl
  | cons z r ih =>
    rw [List.all_cons, ih]
    rfl
theorem inV_str (z : Str) (zs : List Str) : inV (.str z) (sV zs) = decide (z ∈ zs) := by
  unfold inV sV
  rw [List.any_map]
  induction zs with
  | nil => rfl
  | cons y r ih =>
    rw [List.any_cons, ih]
    show ((y == z) || decide (z ∈ r)) = decide (z ∈ y :: r)
    by_cases h : y = z
    · subst h
      simp
    · have h' : ¬ z = y := fun e => h e.symm
      have hb : (y == z) = false := beq_eq_false_iff_ne.mpr h
      rw [hb]
      simp [h']
theorem sV_at {zs : List Str} {i : Nat} {x : V} (h : (sV zs)[i]? = some x) : ∃ z, x = .str z ∧ zs[i]? = some z := by
  unfold sV at h
  rw [List.getElem?_map] at h
  cases e : zs[i]? with
  | none => rw [e] at h; cases h
  | some u =>
    rw [e] at h
    exact ⟨u, (Option.some.inj h).symm, rfl⟩
theorem dpAll_str {K : PySem.W.Frag} {H : Hp} : ∀ zs : List Str, DpAll K H (sV zs) (sD zs)
  | [] => .nil
  | z :: r => .cons (.str z) (dpAll_str r)
/-- words that a text can hold -/
def GoodW (zs : List Str) : Prop := ∀ z ∈ zs, PyData.strOk z = true
theorem lay_str : ∀ {zs : List Str}, GoodW zs → PyData.canLayAll0 (sD zs) = true
  | [], _ => rfl
  | z :: r, h => by
    show (PyData.canLay0 (.str z) && PyData.canLayAll0 (sD r)) = true
    rw [lay_str (fun y hy => h y (List.mem_cons_of_mem _ hy))]
    have := h z List.mem_cons_self
    simpa [PyData.canLay0] using this
theorem dep_str : ∀ zs : List Str, PyData.depthAll (sD zs) ≤ 1
  | [] => by simp [sD, PyData.depthAll]
  | z :: r => by
    have h := dep_str r
    show PyData.depthAll (PyData.str z :: sD r) ≤ 1
    simp only [PyData.depthAll]
    have hx : PyData.depth (.str z) ≤ 1 := by simp [PyData.depth]
    omega
theorem shaped_str {zs : List Str} (h : GoodW zs) : SeqAt.shaped (.tuple (sD zs)) = true := by
  unfold SeqAt.shaped
  rw [Bool.and_eq_true, decide_eq_true_eq]
  refine ⟨lay_str h, ?_⟩
  have := dep_str zs
  simp only [PyData.depth]
  omega
theorem shapedL_str {zs : List Str} (h : GoodW zs) : SeqAt.shaped (.list (sD zs)) = true := by
  unfold SeqAt.shaped
  rw [Bool.and_eq_true, decide_eq_true_eq]
  refine ⟨lay_str h, ?_⟩
  have := dep_str zs
  simp only [PyData.depth]
  omega
theorem eqvAll_str : ∀ a b : List Str, PyData.eqvAll (sD a) (sD b) = decide (a = b)
  | [], [] => by simp [sD, PyData.eqvAll]
  | [], _ :: _ => by simp [sD, PyData.eqvAll]
  | _ :: _, [] => by simp [sD, PyData.eqvAll]
  | x :: a, y :: b => by
    have ih := eqvAll_str a b
    show PyData.eqvAll (PyData.str x :: sD a) (PyData.str y :: sD b) = _
    simp only [PyData.eqvAll, ih, PyData.eqv]
    by_cases h1 : x = y
    · subst h1
      by_cases h2 : a = b <;> simp [h2]
    · have hb : (x == y) = false := beq_eq_false_iff_ne.mpr h1
      simp [h1, hb]
theorem eqv_str (a b : List Str) : PyData.eqv (.tuple (sD a)) (.tuple (sD b)) = decide (a = b) := by
  simp only [PyData.eqv]
  exact eqvAll_str a b
/-- a list of tuples of words -/
def tD (zss : List (List Str)) : List PyData := zss.map fun z => PyData.tuple (sD z)
theorem eqvAll_tD : ∀ a b : List (List Str), PyData.eqvAll (tD a) (tD b) = decide (a = b)
  | [], [] => by simp [tD, PyData.eqvAll]
  | [], _ :: _ => by simp [tD, PyData.eqvAll]
  | _ :: _, [] => by simp [tD, PyData.eqvAll]
  | x :: a, y :: b => by
    have ih := eqvAll_tD a b
    show PyData.eqvAll (PyData.tuple (sD x) :: tD a) (PyData.tuple (sD y) :: tD b) = _
    simp only [PyData.eqvAll, ih, eqv_str]
    by_cases h1 : x = y
    · subst h1
      by_cases h2 : a = b <;> simp [h2]
    · simp [h1]
theorem eqvL_tD (a b : List (List Str)) : PyData.eqv (.list (tD a)) (.list (tD b)) = decide (a = b) := by
  simp only [PyData.eqv]
  exact eqvAll_tD a b
theorem lay_tD : ∀ {zss : List (List Str)}, (∀ z ∈ zss, GoodW z) → PyData.canLayAll0 (tD zss) = true
  | [], _ => rfl
  | z :: r, h => by
    show (PyData.canLayAll0 (sD z) && PyData.canLayAll0 (tD r)) = true
    rw [lay_tD (fun y hy => h y (List.mem_cons_of_mem _ hy)), lay_str (h z List.mem_cons_self)]
    rfl
theorem dep_tD : ∀ zss : List (List Str), PyData.depthAll (tD zss) ≤ 2
  | [] => by simp [tD, PyData.depthAll]
  | z :: r => by
    have h := dep_tD r
    show PyData.depthAll (PyData.tuple (sD z) :: tD r) ≤ 2
    simp only [PyData.depthAll, PyData.depth]
    have := dep_str z
    omega
theorem shaped_tD {zss : List (List Str)} (h : ∀ z ∈ zss, GoodW z) : SeqAt.shaped (.list (tD zss)) = true := by
  unfold SeqAt.shaped
  rw [Bool.and_eq_true, decide_eq_true_eq]
  refine ⟨lay_tD h, ?_⟩
  have := dep_tD zss
  simp only [PyData.depth]
  omega
/-! ### recipes -/
def WS : List Str := ["slow", "sync slow", "fast", "sync fast", "free", "done"]
def KS : List Str := ["slow", "sync slow", "mark", "sync fast"]
def SS : List Str := ["sync slow", "sync fast"]
structure OkR (A zs : List Str) : Prop where
  len : zs.length ≤ 8
  mem : ∀ z ∈ zs, z ∈ A
  one : ∀ (i : Nat) (z : Str), zs[i]? = some z → z ∉ SS → z ∉ zs.take i
  dn : ("done" : Str) ∈ A → ("done" : Str) ∈ zs
def spPlace (K : PySem.W.Frag) : Sp := fun vs H Q _ => ∃ (t al : Addr) (A zs : List Str), vs = [.ref t, .ref al] ∧ H t = some (.tup (sV zs)) ∧ TupK K al (sV A) ∧ OkR A zs ∧ ∀ H', Fr [] H H' → Q .non H'
def spQInit (C : Addr) : Sp := fun vs H Q _ => ∃ (p dx a b c d : Addr) (za zb zc zd : List Str), vs = [.ref p, .ref a, .ref b, .ref c, .ref d] ∧ H p = some (.ins C dx []) ∧ H a = some (.tup (sV za)) ∧ H b = some (.tup (sV zb)) ∧ H c = some (.tup (sV zc)) ∧ H d = some (.tup (sV zd)) ∧
  OkR WS za ∧ OkR WS zb ∧ OkR WS zc ∧ OkR KS zd ∧ ∀ H' : Hp, Fr [p] H H' → H' p = some (.ins C dx (qF (.ref a) (.ref b) (.ref c) (.ref d))) → Q .non H'
/-- recipes stand at p -/
def RecAt (C : Addr) (H : Hp) (p : Addr) (z : List (List Str)) : Prop := ∃ (dx a b c d : Addr) (za zb zc zd : List Str), z = [za, zb, zc, zd] ∧ H p = some (.ins C dx (qF (.ref a) (.ref b) (.ref c) (.ref d))) ∧ H a = some (.tup (sV za)) ∧ H b = some (.tup (sV zb)) ∧ H c = some (.tup (sV zc)) ∧ H d = some (.tup (sV zd)) ∧ GoodW za ∧ GoodW zb ∧ GoodW zc ∧ GoodW zd
def spQEq (K : PySem.W.Frag) (C : Addr) : Sp := fun vs H Q _ => ∃ (p : Addr) (z : List (List Str)) (y : V), vs = [.ref p, y] ∧ RecAt C H p z ∧ ((∃ (q : Addr) (z' : List (List Str)), y = .ref q ∧ RecAt C H q z' ∧ Q (.bl (decide (z = z'))) H) ∨ ∃ tb : Value, TyX K H y tb ∧ PySem.W.kitOne K tb (.ref C) = some false ∧ Q (.bl false) H)
theorem cut_take {xs : List V} {i : Nat} (h : i ≤ xs.length) : cutV xs none (some (i : Int)) = xs.take i := by
  unfold cutV
  rw [HT.sIx_none, HT.sIx_nat, Nat.min_eq_left h]
  simp
section
variable {P : Program} {w : World} {K : PySem.W.Frag} {mg : Str → Option Value} {base : Heap}
theorem ok_place (T : Gx K mg) : FnOk P w K mg base CX0 1 T.f__invalid_place T.fd__invalid_place ["recipe", "allowed"] (spPlace K) := by
  refine T.F__invalid_place.ok sc__invalid_place (fun vs H Q E h => ?_) (fun cdv A outer s H vs Q E hr h => ?_)
  · obtain ⟨t, al, A, zs, rfl, _⟩ := h
    rfl
  · obtain ⟨t, al, AL, zs, rfl, ht, hal, ok, k⟩ := h
    refine ⟨_, (pss_cons (ps_if (pt_not (pt_val (pe_callB call_isi (by rfl) T.z_isinstance (by decide +kernel) (pa_cons (pv 0) (pa_cons (pe_bltn (v := .ty "tuple") (by rfl) T.z_tuple (by decide +kernel) rfl) pa_nil))))) (pss_one (ps_ret pe_int)) pss_nil)
      (pss_cons (ps_for PassesOwn.never rfl (pi_enumT (by rfl) T.z_enumerate (pa_cons (pv 0) pa_nil)) (pg_tup (by rfl) (pgs_cons (pg_name (i := 2) sc__invalid_place.nd rfl (.inl rfl)) (pgs_cons (pg_name (i := 3) sc__invalid_place.nd rfl (.inl rfl)) pgs_nil))) (pss_cons (ps_if (PW.pt (pw_or (pt_cmpR op_eq (pv 2) (pe_glob (v := .int 8) (by rfl) T.c_MOST_STEPS ⟨_, rfl⟩) (nomark _)) (pw_or1 (pt_cmpR op_notIn_seq (pv 3) (pv 1) (by rfl))))) (pss_one (ps_ret (pv 2))) pss_nil)
      (pss_one (ps_if (PW.pt (pw_and (pt_cmpR op_notIn_seq (pv 3) (pe_glob (v := .ref T.A_SYNC_STEPS) (by rfl) T.g_SYNC_STEPS rfl) (by rfl)) (pw_and1 (pt_cmpR op_in_seq (pv 3) (pe_slice sl_tup (pv 0) po_none (po_some (pv 2))) (by rfl))))) (pss_one (ps_ret (pv 2))) pss_nil))))
      (pss_cons (ps_if (PW.pt (pw_and (pt_cmpR op_in_seq pe_str (pv 1) (by rfl)) (pw_and1 (pt_cmpR op_notIn_seq pe_str (pv 0) (by rfl))))) (pss_one (ps_ret (pe_callB call_len_seq (by rfl) T.z_len (by decide +kernel) (pa_cons (pv 0) pa_nil)))) pss_nil)
      (pss_one (ps_ret pe_non))))), ?_⟩
    refine ⟨_, rfl, _, .ty "tuple", .type "tuple", _, true, rfl, ClsV.ty "tuple", .base (.tup ht), kit_ty (by decide +kernel), _, rfl, iteF ?_⟩
    refine ⟨_, rfl, t, _, rfl, SqT.of ht, for_enumT (K := K) (a := t) (xs := sV zs) (fun i σ H' => Fr [] H H' ∧ ∃ v2 v3 : Option V, σ = [some (.ref t), some (.ref al), v2, v3]) ⟨Fr.refl _ _, none, none, rfl⟩ (fun i σ H' _ h => SqT.of (h.1 _ _ ht (by simp))) ?_ ?_⟩
    · rintro i x σ H1 U hx ⟨f1, v2, v3, rfl⟩ hU
      obtain ⟨z, rfl, hz⟩ := sV_at hx
      have hi := lt_of_at hz
      have zm := List.mem_of_getElem? hz
      have f2 : Fr [] H (upd H1 U (.tup [.int (i : Nat), .str z])) := f1.trans (Fr.new hU)
      refine ⟨U, _, rfl, SqT.of upd_same, rfl, _, _, rfl, _, _, rfl, rfl, ?_⟩
      refine ⟨_, rfl, rfl, _, rfl, ?_⟩
      have n8 : decide (V.int (i : Int) = V.int 8) = false := decide_eq_false (fun e => by
        have := V.int.inj e
        have := ok.len
        omega)
      rw [n8]
      refine iteF ⟨_, rfl, _, rfl, al, sV AL, rfl, .inr (hal _), rfl, sV_flat _, _, rfl, ?_⟩
      rw [inV_str, decide_eq_true (ok.mem z zm)]
      refine iteF ?_
      refine ⟨_, rfl, T.A_SYNC_STEPS, sV SS, rfl, .inr (T.k_SYNC_STEPS _), rfl, rfl, _, rfl, ?_⟩
      rw [inV_str]
      by_cases hs : z ∈ SS
      · rw [decide_eq_true hs]
        exact iteF (iteF ⟨f2, _, _, rfl⟩)
      · rw [decide_eq_false hs]
        refine iteT ?_
        refine ⟨_, rfl, _, rfl, _, rfl, (i : Int), rfl, t, sV zs, rfl, SqT.of (f2 _ _ ht (by simp)), ?_, fun g hg => ?_⟩
        · rintro ⟨_, e⟩
          rw [HT.sIx_nat, sV_len, Nat.min_eq_left (Nat.le_of_lt hi)] at e
          omega
        · have ec : cutV (sV zs) none (some (i : Int)) = sV (zs.take i) := by
            rw [cut_take (by rw [sV_len]; exact Nat.le_of_lt hi)]
            exact List.map_take.symm
          rw [ec]
          refine ⟨g, _, rfl, .inr (SqT.of upd_same), rfl, sV_flat _, _, rfl, ?_⟩
          rw [inV_str, decide_eq_false (ok.one i z hz hs)]
          exact iteF ⟨f2.trans (Fr.new hg), _, _, rfl⟩
    · rintro σ H1 ⟨f1, v2, v3, rfl⟩
      refine ⟨_, rfl, al, sV AL, rfl, .inr (hal _), rfl, sV_flat _, _, rfl, ?_⟩
      rw [inV_str]
      by_cases hd : ("done" : Str) ∈ AL
      · rw [decide_eq_true hd]
        refine iteT ⟨_, rfl, t, sV zs, rfl, .inr (SqT.of (f1 _ _ ht (by simp))), rfl, sV_flat _, _, rfl, ?_⟩
        rw [inV_str, decide_eq_true (ok.dn hd)]
        exact iteF (k _ f1)
      · rw [decide_eq_false hd]
        exact iteF (iteF (k _ f1))
theorem ok_qInit (T : Gx K mg) : FnOk P w K mg base CX0 2 T.f_Recipes___init__ T.fd_Recipes___init__ ["self", "through", "back", "around", "clean"] (spQInit T.C_Recipes) := by
  have G__invalid_place : FnOk P w K mg base CX0 1 T.f__invalid_place T.fd__invalid_place ["recipe", "allowed"] (spPlace K) := ok_place T
  refine T.F_Recipes___init__.ok sc_Recipes___init__ (fun vs H Q E h => ?_) (fun cdv A outer s H vs Q E hr h => ?_)
  · obtain ⟨p, dx, a, b, c, d, za, zb, zc, zd, rfl, _⟩ := h
    rfl
  · obtain ⟨p, dx, a, b, c, d, za, zb, zc, zd, rfl, hp, ha, hb, hc, hd, oa, ob, oc, od, k⟩ := h
    refine ⟨_, (pss_cons (ps_set (i := 5) sc_Recipes___init__.nd rfl (.inl rfl) (pe_tup (pa_cons (pe_glob (v := .ref T.A_WRITE_STEPS) (by rfl) T.g_WRITE_STEPS rfl) (pa_cons (pe_glob (v := .ref T.A_WRITE_STEPS) (by rfl) T.g_WRITE_STEPS rfl) (pa_cons (pe_glob (v := .ref T.A_WRITE_STEPS) (by rfl) T.g_WRITE_STEPS rfl) (pa_cons (pe_glob (v := .ref T.A_CLEAN_STEPS) (by rfl) T.g_CLEAN_STEPS rfl) pa_nil))))))
      (pss_cons (ps_for PassesOwn.never rfl (pi_enumT (by rfl) T.z_enumerate (pa_cons (pe_tup (pa_cons (pv 1) (pa_cons (pv 2) (pa_cons (pv 3) (pa_cons (pv 4) pa_nil))))) pa_nil)) (pg_tup (by rfl) (pgs_cons (pg_name (i := 6) sc_Recipes___init__.nd rfl (.inl rfl)) (pgs_cons (pg_name (i := 7) sc_Recipes___init__.nd rfl (.inl rfl)) pgs_nil))) (pss_cons (ps_set (i := 8) sc_Recipes___init__.nd rfl (.inl rfl) (pe_call G__invalid_place (hr.mono (by first | decide | omega)) (by rfl) T.g__invalid_place T.F__invalid_place.kp (b__invalid_place T) .nil pass0 (pa_cons (pv 7) (pa_cons (pe_ix ix_tup (pv 5) (pv 6) (fun _ _ => rfl)) pa_nil))))
      (pss_one (ps_if (pt_cmpR op_notN (pv 8) pe_non (nomark _)) (pss_one ps_never) pss_nil))))
      (pss_cons (ps_fld (pv 0) (pv 1) rfl)
      (pss_cons (ps_fld (pv 0) (pv 2) rfl)
      (pss_cons (ps_fld (pv 0) (pv 3) rfl)
      (pss_one (ps_fld (pv 0) (pv 4) rfl))))))), ?_⟩
    refine ⟨sz_le (by simp), fun t ht => ?_⟩
    refine ⟨_, rfl, _, rfl, _, rfl, _, rfl, sz_le (by simp), fun u hu => ?_⟩
    have et : (upd (upd H t (.tup [.ref T.A_WRITE_STEPS, .ref T.A_WRITE_STEPS, .ref T.A_WRITE_STEPS, .ref T.A_CLEAN_STEPS])) u (.tup [.ref a, .ref b, .ref c, .ref d])) t = some (.tup [.ref T.A_WRITE_STEPS, .ref T.A_WRITE_STEPS, .ref T.A_WRITE_STEPS, .ref T.A_CLEAN_STEPS]) := (upd_ne (free_upd hu).2.symm).trans upd_same
    refine ⟨u, _, rfl, SqT.of upd_same, for_enumT (K := K) (a := u) (xs := [.ref a, .ref b, .ref c, .ref d]) (fun i σ H' => Fr [] H H' ∧ H' t = some (.tup [.ref T.A_WRITE_STEPS, .ref T.A_WRITE_STEPS, .ref T.A_WRITE_STEPS, .ref T.A_CLEAN_STEPS]) ∧ H' u = some (.tup [.ref a, .ref b, .ref c, .ref d]) ∧
        ∃ v6 v7 v8 : Option V, σ = [some (.ref p), some (.ref a), some (.ref b), some (.ref c), some (.ref d), some (.ref t), v6, v7, v8])
      ⟨(Fr.new ht).trans (Fr.new hu), et, upd_same, none, none, none, rfl⟩ (fun i σ H' _ h => SqT.of h.2.2.1) ?_ ?_⟩
    · rintro i x σ H1 U hx ⟨f1, e1, e2, v6, v7, v8, rfl⟩ hU
      refine ⟨U, _, rfl, SqT.of upd_same, rfl, _, _, rfl, _, _, rfl, rfl, ?_⟩
      obtain ⟨x', al, AL, zs, rfl, hal, hK, hx', ok⟩ : ∃ (x' al : Addr) (AL zs : List Str), x = .ref x' ∧ ([.ref T.A_WRITE_STEPS, .ref T.A_WRITE_STEPS, .ref T.A_WRITE_STEPS, .ref T.A_CLEAN_STEPS] : List V)[i]? = some (.ref al) ∧ TupK K al (sV AL) ∧ H x' = some (.tup (sV zs)) ∧ OkR AL zs := by
        match i, hx with
        | 0, hx => cases hx; exact ⟨a, _, WS, za, rfl, rfl, T.k_WRITE_STEPS, ha, oa⟩
        | 1, hx => cases hx; exact ⟨b, _, WS, zb, rfl, rfl, T.k_WRITE_STEPS, hb, ob⟩
        | 2, hx => cases hx; exact ⟨c, _, WS, zc, rfl, rfl, T.k_WRITE_STEPS, hc, oc⟩
        | 3, hx => cases hx; exact ⟨d, _, KS, zd, rfl, rfl, T.k_CLEAN_STEPS, hd, od⟩
        | i + 4, hx => simp at hx
      have f2 : Fr [] H1 (upd H1 U (.tup [.int (i : Nat), .ref x'])) := Fr.new hU
      refine ⟨_, rfl, _, rfl, _, rfl, t, _, (i : Int), _, rfl, rfl, SqT.of (f2 _ _ e1 (by simp)), atI_nat hal, x', al, AL, zs, rfl, f2 _ _ (f1 _ _ hx' (by simp)) (by simp), hK, ok, fun H2 f3 => ?_⟩
      refine ⟨_, rfl, rfl, _, rfl, iteF ⟨(f1.trans f2).trans f3, f3 _ _ (f2 _ _ e1 (by simp)) (by simp), f3 _ _ (f2 _ _ e2 (by simp)) (by simp), _, _, _, rfl⟩⟩
    · rintro σ H1 ⟨f1, e1, e2, v6, v7, v8, rfl⟩
      have hp1 := f1 _ _ hp (by simp)
      refine ⟨_, rfl, _, rfl, p, T.C_Recipes, dx, [], rfl, hp1, T.cl_Recipes, T.n_Recipes__through, by simp, ?_⟩
      refine ⟨_, rfl, _, rfl, p, T.C_Recipes, dx, _, rfl, upd_same, T.cl_Recipes, T.n_Recipes__back, Nat.lt_of_le_of_lt (putF_len _ _ _) (by simp), ?_⟩
      refine ⟨_, rfl, _, rfl, p, T.C_Recipes, dx, _, rfl, upd_same, T.cl_Recipes, T.n_Recipes__around, Nat.lt_of_le_of_lt (putF_len _ _ _) (Nat.lt_of_le_of_lt (Nat.succ_le_succ (putF_len _ _ _)) (by simp)), ?_⟩
      refine ⟨_, rfl, _, rfl, p, T.C_Recipes, dx, _, rfl, upd_same, T.cl_Recipes, T.n_Recipes__clean, Nat.lt_of_le_of_lt (putF_len _ _ _) (Nat.lt_of_le_of_lt (Nat.succ_le_succ (Nat.le_trans (putF_len _ _ _) (Nat.succ_le_succ (putF_len _ _ _)))) (by simp)), ?_⟩
      rw [qF_made, upd_upd, upd_upd, upd_upd]
      exact k _ (fun b o e nb => by rw [upd_ne (by simpa using nb)]; exact f1 b o e (by simp)) upd_same
theorem tyx_rec (T : Gx K mg) {H : Hp} {a dx : Addr} {fs : List (Str × V)} (h : H a = some (.ins T.C_Recipes dx fs)) : TyX K H (.ref a) (.ref T.C_Recipes) := .base (.ins h T.cl_Recipes T.kc_Recipes T.kg T.kt T.km_Recipes)
theorem dec4 (a b c d a' b' c' d' : List Str) : decide ([a, b, c, d] = [a', b', c', d']) = (decide (a = a') && (decide (b = b') && (decide (c = c') && decide (d = d')))) := by
  by_cases h1 : a = a' <;> by_cases h2 : b = b' <;> by_cases h3 : c = c' <;> by_cases h4 : d = d' <;> simp [h1, h2, h3, h4]
theorem ok_qEq (T : Gx K mg) : FnOk P w K mg base CX0 1 T.f_Recipes___eq__ T.fd_Recipes___eq__ ["self", "other"] (spQEq K T.C_Recipes) := by
  refine T.F_Recipes___eq__.ok sc_Recipes___eq__ (fun vs H Q E h => ?_) (fun cdv A outer s H vs Q E hr h => ?_)
  · obtain ⟨p, z, y, rfl, _⟩ := h
    rfl
  · obtain ⟨p, z, y, rfl, ⟨dx, a, b, c, d, za, zb, zc, zd, rfl, hp, ha, hb, hc, hd, ga, gb, gc, gd⟩, h⟩ := h
    refine ⟨_, (pss_one (ps_ret (pe_and (pe_callB call_isi (by rfl) T.z_isinstance (by decide +kernel) (pa_cons (pv 1) (pa_cons (pe_glob (v := .ref T.C_Recipes) (by rfl) T.gC_Recipes rfl) pa_nil))) (pe_and (pe_cmpR (op_eqD hr.units) (pe_fld (pv 0) rfl) (pe_fld (pv 1) rfl) (nomark _)) (pe_and (pe_cmpR (op_eqD hr.units) (pe_fld (pv 0) rfl) (pe_fld (pv 1) rfl) (nomark _)) (pe_and (pe_cmpR (op_eqD hr.units) (pe_fld (pv 0) rfl) (pe_fld (pv 1) rfl) (nomark _)) (pe_one (pe_cmpR (op_eqD hr.units) (pe_fld (pv 0) rfl) (pe_fld (pv 1) rfl) (nomark _))))))))), ?_⟩
    rcases h with ⟨p', z', rfl, ⟨dy, a', b', c', d', ya, yb, yc, yd, rfl, hp', ha', hb', hc', hd', ga', gb', gc', gd'⟩, q⟩ | ⟨tb, ty, ki, q⟩
    · have both := kit_own T.isc_Recipes T.tyc_Recipes T.sub_Recipes (fun _ => rfl)
      rw [dec4] at q
      refine ⟨_, rfl, _, .ref T.C_Recipes, .ref T.C_Recipes, .ref T.C_Recipes, true, rfl, .own _, tyx_rec T hp', both, _, rfl, iteT ?_⟩
      refine ⟨_, rfl, p, T.C_Recipes, _, _, _, rfl, hp, T.cl_Recipes, T.n_Recipes__through, qF_get0, _, rfl, p', T.C_Recipes, _, _, _, rfl, hp', T.cl_Recipes, T.n_Recipes__through, qF_get0, _, _, .tup (SqT.of ha) (dpAll_str za), .tup (SqT.of ha') (dpAll_str ya), shaped_str ga, shaped_str ga', ?_⟩
      rw [eqv_str]
      refine ⟨_, rfl, ite2 (fun e0 => ?_) (fun e0 => ?_)⟩
      · rw [e0, Bool.true_and] at q
        refine ⟨_, rfl, p, T.C_Recipes, _, _, _, rfl, hp, T.cl_Recipes, T.n_Recipes__back, qF_get1, _, rfl, p', T.C_Recipes, _, _, _, rfl, hp', T.cl_Recipes, T.n_Recipes__back, qF_get1, _, _, .tup (SqT.of hb) (dpAll_str zb), .tup (SqT.of hb') (dpAll_str yb), shaped_str gb, shaped_str gb', ?_⟩
        rw [eqv_str]
        refine ⟨_, rfl, ite2 (fun e1 => ?_) (fun e1 => ?_)⟩
        · rw [e1, Bool.true_and] at q
          refine ⟨_, rfl, p, T.C_Recipes, _, _, _, rfl, hp, T.cl_Recipes, T.n_Recipes__around, qF_get2, _, rfl, p', T.C_Recipes, _, _, _, rfl, hp', T.cl_Recipes, T.n_Recipes__around, qF_get2, _, _, .tup (SqT.of hc) (dpAll_str zc), .tup (SqT.of hc') (dpAll_str yc), shaped_str gc, shaped_str gc', ?_⟩
          rw [eqv_str]
          refine ⟨_, rfl, ite2 (fun e2 => ?_) (fun e2 => ?_)⟩
          · rw [e2, Bool.true_and] at q
            refine ⟨_, rfl, p, T.C_Recipes, _, _, _, rfl, hp, T.cl_Recipes, T.n_Recipes__clean, qF_get3, _, rfl, p', T.C_Recipes, _, _, _, rfl, hp', T.cl_Recipes, T.n_Recipes__clean, qF_get3, _, _, .tup (SqT.of hd) (dpAll_str zd), .tup (SqT.of hd') (dpAll_str yd), shaped_str gd, shaped_str gd', ?_⟩
            rw [eqv_str]
            exact q
          · rw [Bool.not_eq_true] at e2
            rw [e2, Bool.false_and] at q
            exact q
        · rw [Bool.not_eq_true] at e1
          rw [e1, Bool.false_and] at q
          exact q
      · rw [Bool.not_eq_true] at e0
        rw [e0, Bool.false_and] at q
        exact q
    · exact ⟨_, rfl, _, .ref T.C_Recipes, tb, .ref T.C_Recipes, false, rfl, .own _, ty, ki, _, rfl, iteF q⟩
end
/-! ### what is new stands apart -/
theorem made_fr {H H' : Hp} {p dx C : Addr} (hp : H p = none) (hdx : H dx = none) (f : Fr [p] (upd (upd H dx (.own p)) p (.ins C dx [])) H') : Fr [] H H' := fun b o e _ => by
  have n1 : b ≠ p := ne_of_none e hp
  have n2 : b ≠ dx := ne_of_none e hdx
  exact f b o (by rw [upd_ne n1, upd_ne n2]; exact e) (by simpa using n1)
/-! ### a classmethod without arguments, a class called by a parameter that holds it -/
def tMakeL (i : Nat) (C : Addr) (sp : Sp) (E : XK) (t : TA) : TE := fun σ H Q => σ[i]? = some (some (.ref C)) ∧ tMake C sp [] E t σ H Q
section
variable {X : Cx} {CX : CXT} {k i : Nat} {C f p g : Addr} {mc : Value} {fd : FuncData} {ps : List Str} {sp : Sp} {E : XK} {x m : Str} {o e : Expr} {es : List Expr} {np pos apos : Pos} {ta : TE} {t : TA} {pl : Sem Bool}
theorem pe_makeL (M : Mk X.K C f) (F : FnOk X.prog X.w X.K X.mg X.base CX k f fd ps sp) (hr : Room (k + 1) X.A) (hN : X.N[i]? = some x) (hv : Vis X.env.scope x) (hb : Binds X.K fd ps []) (hx : Passes CX X E) (ha : PA X (e :: es) t)
    (hdb : (x == ("__debug__" : Str)) = false := by decide) (hcd : (x == ("__classdict__" : Str)) = false := by decide)
    (he : starEach (e :: es) X.env = (false, eval e X.env) :: starEach es X.env := by rfl) (hpl : (backTo pos (starEach es X.env)).any (·.1) = false := by rfl) : PE X (.Call (.Name x np) (e :: es) [] pos) (tMakeL i C sp E t) := by
  refine ⟨fun pins s σ H Q I h => ?_⟩
  obtain ⟨hs, ht⟩ := h
  refine wpAny_Call_Name_kw (thn ((pe_var (pos := np) hN hv hdb hcd).run pins s σ H (fun v H1 => v = .ref C ∧ H1 = H) I ⟨.ref C, hs, rfl, rfl⟩) fun u s1 ⟨v, H1, I1, r1, q1⟩ => ?_)
  obtain ⟨rfl, rfl⟩ := q1
  cases r1
  refine PySem.W.callWith_K (h₀ := X.base) I.ok.mod.kin M.kp (thn (ha.run pos pins s1 σ _ _ I1 ht) fun us s2 ⟨vs, H2, I2, r, q⟩ => ⟨I2.kIn, ?_⟩) he hpl
  exact run_make M F hr hb .nil hx I2 r q
theorem pe_cmeth0 (he : PE X o ta) (r : ClX.CRead X.K C mc) (c : ClX.CMet X.K C mc m p g) (F : FnR X.prog X.w X.K X.mg X.base CX k g sp) (hr : Room k X.A) (hx : Passes CX X E)
    (ht : eval (.Call (.Attribute o m apos) [] [] pos) X.env = (do
      let ov ← eval o X.env
      standAt apos.atName
      let (f, first) ← holding [ov] (getMethod ov m pl)
      callWith pos f first (backTo pos (starEach [] X.env)) (backToKw pos (keywordEach [] X.env))) := by rfl) :
    PE X (.Call (.Attribute o m apos) [] [] pos) (ClX.tCMeth C sp E ta tNil) := by
  refine ⟨fun pins s σ H Q I h => ?_⟩
  refine PySem.W.methodCall_KW (pl := pl) (thn (he.run pins s σ H _ I h) fun u s1 ⟨y, H1, I1, rx, ex, q⟩ => ?_) ht
  subst ex
  obtain rfl : u = Value.ref C := rx
  refine ClX.getmethcm_ok I1 r c fun s2 I2 => ?_
  exact PySem.W.callWith_M0 (first := []) ⟨ClX.pin_at I2, I2.kIn⟩ c.fi (ClX.run_cm F hr hx I2 .nil q)
end
/-! ### equal, by the law's own comparison, of words too -/
def isL : V → Bool
  | .non => true
  | .bl _ => true
  | .int _ => true
  | .str _ => true
  | _ => false
def Eqn (H : Hp) : Nat → V → V → Prop
  | 0, v, e => v = e ∧ isL e = true
  | n + 1, v, e => (v = e ∧ isL e = true) ∨ (∃ (a b : Addr) (xs ys : List V), v = .ref a ∧ e = .ref b ∧ ((H a = some (.tup xs) ∧ H b = some (.tup ys)) ∨ (H a = some (.lst xs) ∧ H b = some (.lst ys))) ∧ xs.length = ys.length ∧ ys.length ≤ 2000 ∧ ∀ (i : Nat) (x y : V), xs[i]? = some x → ys[i]? = some y → Eqn H n x y)
theorem Eqn.keep {H H' : Hp} (f : Fr [] H H') : ∀ {n : Nat} {v e : V}, Eqn H n v e → Eqn H' n v e
  | 0, _, _, h => h
  | n + 1, _, _, .inl h => .inl h
  | n + 1, _, _, .inr ⟨a, b, xs, ys, e1, e2, h, h3, h5, h4⟩ => by
    refine .inr ⟨a, b, xs, ys, e1, e2, ?_, h3, h5, fun i x y q1 q2 => Eqn.keep f (h4 i x y q1 q2)⟩
    rcases h with ⟨h1, h2⟩ | ⟨h1, h2⟩
    · exact .inl ⟨f _ _ h1 (by simp), f _ _ h2 (by simp)⟩
    · exact .inr ⟨f _ _ h1 (by simp), f _ _ h2 (by simp)⟩
theorem Eqn.flat {H : Hp} {v : V} (h : isL v = true) : ∀ n, Eqn H n v v
  | 0 => ⟨rfl, h⟩
  | _ + 1 => .inl ⟨rfl, h⟩
theorem Eqn.up {H : Hp} : ∀ {n : Nat} {v e : V}, Eqn H n v e → Eqn H (n + 1) v e
  | 0, _, _, h => .inl h
  | n + 1, _, _, .inl h => .inl h
  | n + 1, _, _, .inr ⟨a, b, xs, ys, e1, e2, h, h3, h5, h4⟩ => .inr ⟨a, b, xs, ys, e1, e2, h, h3, h5, fun i x y q1 q2 => Eqn.up (h4 i x y q1 q2)⟩
/-- two lists of plain contents -/
theorem Eqn.same {H : Hp} {n : Nat} {xs : List V} (h : ∀ v ∈ xs, Eqn H n v v) : ∀ (i : Nat) (x y : V), xs[i]? = some x → xs[i]? = some y → Eqn H n x y := fun i x y e1 e2 => by
  rw [e1] at e2
  cases e2
  exact h x (List.mem_of_getElem? e1)
def spEq (n : Nat) : Sp := fun vs H Q _ => ∃ v e : V, vs = [v, e] ∧ Eqn H n v e ∧ ∀ H', Fr [] H H' → Q (.bl true) H'
theorem ix_seqK {X : Cx} {K : PySem.W.Frag} (h : X.K = K) : IxR X (rIx K) := by
  subst h
  exact ix_seq
theorem len_bool {a b : Nat} (h : a = b) : (!decide (V.int (a : Int) = V.int (b : Int))) = false := by
  rw [h]
  simp
section
variable {P : Program} {w : World} {K : PySem.W.Frag} {mg : Str → Option Value} {base : Heap}
theorem ok_equal : ∀ (n : Nat) (T : Gx K mg), FnOk P w K mg base CX0 (n + 1) T.f__law_equal T.fd__law_equal ["_law_actual", "_law_expected"] (spEq n)
  | n, T => by
    refine T.F__law_equal.ok sc__law_equal (fun vs H Q E h => ?_) (fun cdv A outer s H vs Q E hr h => ?_)
    · obtain ⟨v, e, rfl, _⟩ := h
      rfl
    · obtain ⟨v, e, rfl, hE, k⟩ := h
      have leaf : v = e → isL e = true → (∃ t, PSs (cxOf CX0 P w K mg base ["_law_actual", "_law_expected", "_law_k"] "_law_equal" (defScope s__law_equal) T.f__law_equal cdv A outer s H E).nox (defBody s__law_equal) t ∧ t { nx := fun _ H' => Q .non H', rt := Q } (start ["_law_actual", "_law_expected", "_law_k"] [v, e]) H) := by
        intro hve hF
        subst hve
        refine ⟨_, (pss_cons (ps_if (pt_cmpR op_isN (pv 1) pe_non (nomark _)) (pss_one (ps_ret (pe_cmpR op_isN (pv 0) pe_non (nomark _)))) pss_nil)
          (pss_cons (ps_if (pt_val (pe_callB call_isi (by rfl) T.z_isinstance (by decide +kernel) (pa_cons (pv 1) (pa_cons (pe_bltn (v := .ty "bool") (by rfl) T.z_bool (by decide +kernel) rfl) pa_nil)))) (pss_one (ps_ret (pe_and (pe_callB call_isi (by rfl) T.z_isinstance (by decide +kernel) (pa_cons (pv 0) (pa_cons (pe_bltn (v := .ty "bool") (by rfl) T.z_bool (by decide +kernel) rfl) pa_nil))) (pe_one (pe_cmpR op_eq (pv 0) (pv 1) (nomark _)))))) pss_nil)
          (pss_cons (ps_if (pt_val (pe_callB call_isi (by rfl) T.z_isinstance (by decide +kernel) (pa_cons (pv 1) (pa_cons (pe_bltn (v := .ty "int") (by rfl) T.z_int (by decide +kernel) rfl) pa_nil)))) (pss_one (ps_ret (pe_and (pe_callB call_isi (by rfl) T.z_isinstance (by decide +kernel) (pa_cons (pv 0) (pa_cons (pe_bltn (v := .ty "int") (by rfl) T.z_int (by decide +kernel) rfl) pa_nil))) (pe_and (pe_not (pe_callB call_isi (by rfl) T.z_isinstance (by decide +kernel) (pa_cons (pv 0) (pa_cons (pe_bltn (v := .ty "bool") (by rfl) T.z_bool (by decide +kernel) rfl) pa_nil)))) (pe_one (pe_cmpR op_eq (pv 0) (pv 1) (nomark _))))))) pss_nil)
          (pss_cons (ps_if (pt_val (pe_callB call_isi (by rfl) T.z_isinstance (by decide +kernel) (pa_cons (pv 1) (pa_cons (pe_bltn (v := .ty "str") (by rfl) T.z_str (by decide +kernel) rfl) pa_nil)))) (pss_one (ps_ret (pe_and (pe_callB call_isi (by rfl) T.z_isinstance (by decide +kernel) (pa_cons (pv 0) (pa_cons (pe_bltn (v := .ty "str") (by rfl) T.z_str (by decide +kernel) rfl) pa_nil))) (pe_one (pe_cmpR op_eq (pv 0) (pv 1) (nomark _)))))) pss_nil)
          pss_never)))), ?_⟩
        have k0 := k H (Fr.refl _ _)
        cases v with
        | non =>
          exact ⟨_, rfl, rfl, _, rfl, iteT ⟨_, rfl, rfl, k0⟩⟩
        | bl b =>
          refine ⟨_, rfl, rfl, _, rfl, iteF ?_⟩
          refine ⟨_, rfl, _, .ty "bool", .type "bool", _, true, rfl, ClsV.ty "bool", .base (.bl b), kit_ty (by decide +kernel), _, rfl, iteT ?_⟩
          refine ⟨_, rfl, _, .ty "bool", .type "bool", _, true, rfl, ClsV.ty "bool", .base (.bl b), kit_ty (by decide +kernel), _, rfl, iteT ?_⟩
          refine ⟨_, rfl, _, rfl, rfl, ?_⟩
          show Q (.bl (decide (V.bl b = V.bl b))) _
          rw [decide_eq_true rfl]
          exact k0
        | int i =>
          refine ⟨_, rfl, rfl, _, rfl, iteF ?_⟩
          refine ⟨_, rfl, _, .ty "bool", .type "int", _, false, rfl, ClsV.ty "bool", .base (.int i), kit_ty (by decide +kernel), _, rfl, iteF ?_⟩
          refine ⟨_, rfl, _, .ty "int", .type "int", _, true, rfl, ClsV.ty "int", .base (.int i), kit_ty (by decide +kernel), _, rfl, iteT ?_⟩
          refine ⟨_, rfl, _, .ty "int", .type "int", _, true, rfl, ClsV.ty "int", .base (.int i), kit_ty (by decide +kernel), _, rfl, iteT ?_⟩
          refine ⟨_, rfl, _, .ty "bool", .type "int", _, false, rfl, ClsV.ty "bool", .base (.int i), kit_ty (by decide +kernel), _, rfl, _, rfl, iteT ?_⟩
          refine ⟨_, rfl, _, rfl, rfl, ?_⟩
          show Q (.bl (decide (V.int i = V.int i))) _
          rw [decide_eq_true rfl]
          exact k0
        | str z =>
          refine ⟨_, rfl, rfl, _, rfl, iteF ?_⟩
          refine ⟨_, rfl, _, .ty "bool", .type "str", _, false, rfl, ClsV.ty "bool", .base (.str z), kit_ty (by decide +kernel), _, rfl, iteF ?_⟩
          refine ⟨_, rfl, _, .ty "int", .type "str", _, false, rfl, ClsV.ty "int", .base (.str z), kit_ty (by decide +kernel), _, rfl, iteF ?_⟩
          refine ⟨_, rfl, _, .ty "str", .type "str", _, true, rfl, ClsV.ty "str", .base (.str z), kit_ty (by decide +kernel), _, rfl, iteT ?_⟩
          refine ⟨_, rfl, _, .ty "str", .type "str", _, true, rfl, ClsV.ty "str", .base (.str z), kit_ty (by decide +kernel), _, rfl, iteT ?_⟩
          refine ⟨_, rfl, _, rfl, rfl, ?_⟩
          show Q (.bl (decide (V.str z = V.str z))) _
          rw [decide_eq_true rfl]
          exact k0
        | byt _ => cases hF
        | flt _ => cases hF
        | ref _ => cases hF
        | ty _ => cases hF
      cases n with
      | zero => exact leaf hE.1 hE.2
      | succ n =>
        rcases hE with ⟨e1, e2⟩ | ⟨a, b, xs, ys, rfl, rfl, hab, hl, h2k, hi⟩
        · exact leaf e1 e2
        · have G__law_equal : FnOk P w K mg base CX0 (n + 1) T.f__law_equal T.fd__law_equal ["_law_actual", "_law_expected"] (spEq n) := ok_equal n T
          refine ⟨_, (pss_cons (ps_if (pt_cmpR op_isN (pv 1) pe_non (nomark _)) (pss_one (ps_ret (pe_cmpR op_isN (pv 0) pe_non (nomark _)))) pss_nil)
      (pss_cons (ps_if (pt_val (pe_callB call_isi (by rfl) T.z_isinstance (by decide +kernel) (pa_cons (pv 1) (pa_cons (pe_bltn (v := .ty "bool") (by rfl) T.z_bool (by decide +kernel) rfl) pa_nil)))) (pss_one (ps_ret (pe_and (pe_callB call_isi (by rfl) T.z_isinstance (by decide +kernel) (pa_cons (pv 0) (pa_cons (pe_bltn (v := .ty "bool") (by rfl) T.z_bool (by decide +kernel) rfl) pa_nil))) (pe_one (pe_cmpR op_eq (pv 0) (pv 1) (nomark _)))))) pss_nil)
      (pss_cons (ps_if (pt_val (pe_callB call_isi (by rfl) T.z_isinstance (by decide +kernel) (pa_cons (pv 1) (pa_cons (pe_bltn (v := .ty "int") (by rfl) T.z_int (by decide +kernel) rfl) pa_nil)))) (pss_one (ps_ret (pe_and (pe_callB call_isi (by rfl) T.z_isinstance (by decide +kernel) (pa_cons (pv 0) (pa_cons (pe_bltn (v := .ty "int") (by rfl) T.z_int (by decide +kernel) rfl) pa_nil))) (pe_and (pe_not (pe_callB call_isi (by rfl) T.z_isinstance (by decide +kernel) (pa_cons (pv 0) (pa_cons (pe_bltn (v := .ty "bool") (by rfl) T.z_bool (by decide +kernel) rfl) pa_nil)))) (pe_one (pe_cmpR op_eq (pv 0) (pv 1) (nomark _))))))) pss_nil)
      (pss_cons (ps_if (pt_val (pe_callB call_isi (by rfl) T.z_isinstance (by decide +kernel) (pa_cons (pv 1) (pa_cons (pe_bltn (v := .ty "str") (by rfl) T.z_str (by decide +kernel) rfl) pa_nil)))) (pss_one (ps_ret (pe_and (pe_callB call_isi (by rfl) T.z_isinstance (by decide +kernel) (pa_cons (pv 0) (pa_cons (pe_bltn (v := .ty "str") (by rfl) T.z_str (by decide +kernel) rfl) pa_nil))) (pe_one (pe_cmpR op_eq (pv 0) (pv 1) (nomark _)))))) pss_nil)
      (pss_cons (ps_if (pt_cmpR op_ne (pe_callB call_isi (by rfl) T.z_isinstance (by decide +kernel) (pa_cons (pv 1) (pa_cons (pe_bltn (v := .ty "tuple") (by rfl) T.z_tuple (by decide +kernel) rfl) pa_nil))) (pe_callB call_isi (by rfl) T.z_isinstance (by decide +kernel) (pa_cons (pv 0) (pa_cons (pe_bltn (v := .ty "tuple") (by rfl) T.z_tuple (by decide +kernel) rfl) pa_nil))) (nomark _)) (pss_one (ps_ret pe_bl)) pss_nil)
      (pss_cons (ps_if (pt_cmpR op_ne (pe_callB call_isi (by rfl) T.z_isinstance (by decide +kernel) (pa_cons (pv 1) (pa_cons (pe_bltn (v := .ty "list") (by rfl) T.z_list (by decide +kernel) rfl) pa_nil))) (pe_callB call_isi (by rfl) T.z_isinstance (by decide +kernel) (pa_cons (pv 0) (pa_cons (pe_bltn (v := .ty "list") (by rfl) T.z_list (by decide +kernel) rfl) pa_nil))) (nomark _)) (pss_one (ps_ret pe_bl)) pss_nil)
      (pss_cons (ps_if (pt_cmpR op_ne (pe_callB call_len_seq (by rfl) T.z_len (by decide +kernel) (pa_cons (pv 0) pa_nil)) (pe_callB call_len_seq (by rfl) T.z_len (by decide +kernel) (pa_cons (pv 1) pa_nil)) (nomark _)) (pss_one (ps_ret pe_bl)) pss_nil)
      (pss_one (ps_ret (pe_callB (cr_all rfl) (by rfl) T.z_all (by decide +kernel) (pa_cons (pe_lc (own := [("_law_k", 2)]) (g := gName 2) rfl sc__law_equal.nd (pi_range1 (by rfl) T.z_range (pa_cons (pe_callB call_len_seq (by rfl) T.z_len (by decide +kernel) (pa_cons (pv 1) pa_nil)) pa_nil)) (blkOk_by (N := ["_law_actual", "_law_expected", "_law_k"]) (sc := defScope s__law_equal) (by decide +kernel)) (fun _ _ _ _ _ => pg_name (i := 2) sc__law_equal.nd rfl (.inl rfl)) (fun _ _ _ _ _ => pts_nil) (fun _ _ _ _ _ => (pe_call G__law_equal (hr.mono (by first | decide | omega)) (by rfl) T.g__law_equal T.F__law_equal.kp (b__law_equal T) .nil pass0 (pa_cons (pe_ix (ix_seqK (K := K) rfl) (pv 0) (pv 2) (fun _ _ => rfl)) (pa_cons (pe_ix (ix_seqK (K := K) rfl) (pv 1) (pv 2) (fun _ _ => rfl)) pa_nil))))) pa_nil))))))))))), ?_⟩
          obtain ⟨ty, ta, tb, t1, t2, t3, t4, bt, bl, t5, t6⟩ : ∃ ty : String, TyX K H (.ref a) (.type ty) ∧ TyX K H (.ref b) (.type ty) ∧ kitB ty "bool" = some false ∧ kitB ty "int" = some false ∧ kitB ty "str" = some false ∧ (SqL K H a xs ∧ SqL K H b ys ∨ SqT K H a xs ∧ SqT K H b ys) ∧ ∃ bt bl : Bool, kitB ty "tuple" = some bt ∧ kitB ty "list" = some bl := by
            rcases hab with ⟨h1, h2⟩ | ⟨h1, h2⟩
            · exact ⟨"tuple", .base (.tup h1), .base (.tup h2), by decide +kernel, by decide +kernel, by decide +kernel, .inr ⟨SqT.of h1, SqT.of h2⟩, true, false, by decide +kernel, by decide +kernel⟩
            · exact ⟨"list", .base (.lst h1), .base (.lst h2), by decide +kernel, by decide +kernel, by decide +kernel, .inl ⟨SqL.of h1, SqL.of h2⟩, false, true, by decide +kernel, by decide +kernel⟩
          refine ⟨_, rfl, rfl, _, rfl, iteF ?_⟩
          refine ⟨_, rfl, _, .ty "bool", .type ty, _, false, rfl, ClsV.ty "bool", tb, kit_ty t1, _, rfl, iteF ?_⟩
          refine ⟨_, rfl, _, .ty "int", .type ty, _, false, rfl, ClsV.ty "int", tb, kit_ty t2, _, rfl, iteF ?_⟩
          refine ⟨_, rfl, _, .ty "str", .type ty, _, false, rfl, ClsV.ty "str", tb, kit_ty t3, _, rfl, iteF ?_⟩
          refine ⟨_, rfl, _, .ty "tuple", .type ty, _, bt, rfl, ClsV.ty "tuple", tb, kit_ty t5, _, rfl, _, .ty "tuple", .type ty, _, bt, rfl, ClsV.ty "tuple", ta, kit_ty t5, rfl, _, rfl, ?_⟩
          rw [decide_eq_true rfl]
          refine iteF ?_
          refine ⟨_, rfl, _, .ty "list", .type ty, _, bl, rfl, ClsV.ty "list", tb, kit_ty t6, _, rfl, _, .ty "list", .type ty, _, bl, rfl, ClsV.ty "list", ta, kit_ty t6, rfl, _, rfl, ?_⟩
          rw [decide_eq_true rfl]
          refine iteF ?_
          have sa : SqL K H a xs ∨ SqT K H a xs := t4.elim (fun z => .inl z.1) (fun z => .inr z.1)
          have sb : SqL K H b ys ∨ SqT K H b ys := t4.elim (fun z => .inl z.2) (fun z => .inr z.2)
          refine ⟨_, rfl, a, xs, rfl, sa, _, rfl, b, ys, rfl, sb, rfl, _, rfl, ?_⟩
          rw [len_bool hl]
          refine iteF ?_
          refine ⟨_, rfl, b, ys, rfl, sb, (ys.length : Int), rfl, by omega, by omega, fun D hD => ?_⟩
          rw [Int.toNat_natCast]
          refine lc_range (lo := 0) (n := ys.length) (fun i H' => Fr [] H H' ∧ H' D = some (.lst ((List.replicate i true).map V.bl))) ⟨Fr.new hD, upd_same⟩ ?_ ?_
          · rintro i H1 hil ⟨f, eD⟩
            have hx : xs[i]? = some (xs[i]'(by omega)) := List.getElem?_eq_getElem (by omega)
            have hy : ys[i]? = some ys[i] := List.getElem?_eq_getElem hil
            have ea : atI xs ((0 : Int) + (i : Int)) = some (xs[i]'(by omega)) := at_of (by omega) hx
            have eb : atI ys ((0 : Int) + (i : Int)) = some ys[i] := at_of (by omega) hy
            refine ⟨rfl, _, rfl, _, rfl, ?_⟩
            have step : ∀ H2, Fr [] H1 H2 → ∃ acc, H2 D = some (.lst acc) ∧ acc.length < sizeLine ∧ Fr [] H (upd H2 D (.lst (acc ++ [.bl true]))) ∧ (upd H2 D (.lst (acc ++ [V.bl true]))) D = some (.lst ((List.replicate (i + 1) true).map V.bl)) := fun H2 f2 => by
              refine ⟨_, f2 _ _ eD (by simp), ?_, ?_, ?_⟩
              · rw [List.length_map, List.length_replicate]
                exact sz_lt (by omega)
              · intro c o ec _
                rw [upd_ne (ne_of_none ec hD)]
                exact (f.trans f2) c o ec (by simp)
              · rw [upd_same, List.replicate_succ', List.map_append]
                rfl
            have fin : spEq n [xs[i]'(by omega), ys[i]] H1 (fun y H4 => ∃ acc, H4 D = some (.lst acc) ∧ acc.length < sizeLine ∧ Fr [] H (upd H4 D (.lst (acc ++ [y]))) ∧ (upd H4 D (.lst (acc ++ [y]))) D = some (.lst ((List.replicate (i + 1) true).map V.bl))) E0 :=
              ⟨_, _, rfl, (hi i _ _ hx hy).keep f, fun H2 f2 => step H2 f2⟩
            rcases t4 with ⟨s1, s2⟩ | ⟨s1, s2⟩
            · exact .inl ⟨a, xs, _, _, rfl, rfl, f.seq (by simp) s1, ea, _, rfl, _, rfl, .inl ⟨b, ys, _, _, rfl, rfl, f.seq (by simp) s2, eb, fin⟩⟩
            · exact .inr (.inl ⟨a, xs, _, _, rfl, rfl, f.tup (by simp) s1, ea, _, rfl, _, rfl, .inr (.inl ⟨b, ys, _, _, rfl, rfl, f.tup (by simp) s2, eb, fin⟩)⟩)
          · rintro H1 ⟨f, eD⟩
            refine ⟨D, List.replicate ys.length true, rfl, SqL.of eD, ?_⟩
            have : (List.replicate ys.length true).all id = true := by simp
            rw [this]
            exact k _ f
end
/-! ### what recipes tell of themselves, and the safe ones -/
def SAFE : List (List Str) := [["slow", "sync slow", "fast", "sync fast", "done"], ["fast", "sync fast", "done", "free", "sync fast"], ["slow", "sync slow", "free", "sync fast", "done"], ["slow", "sync slow", "mark", "sync fast"]]
/-- a recipe, as a law can check it -/
def PV (A z : List Str) : Prop := z.length ≤ 8 ∧ (∀ w ∈ z, w ∈ A) ∧ (z.filter (fun w => decide (w ∉ SS))).Nodup ∧ (("done" : Str) ∈ A → ("done" : Str) ∈ z)
instance (A z : List Str) : Decidable (PV A z) := by
  unfold PV
  infer_instance
theorem PV.ok {A z : List Str} (h : PV A z) : OkR A z := by
  obtain ⟨h1, h2, h3, h4⟩ := h
  refine ⟨h1, h2, fun i w hi hw hm => ?_, h4⟩
  have e : z = z.take i ++ w :: z.drop (i + 1) := by
    have hlt := (List.getElem?_eq_some_iff.mp hi)
    obtain ⟨hl, he⟩ := hlt
    rw [← he, List.getElem_cons_drop hl, List.take_append_drop]
  rw [e, List.filter_append, List.nodup_append] at h3
  have hd := h3.2.2
  refine hd w ?_ w ?_ rfl
  · rw [List.mem_filter]
    exact ⟨hm, decide_eq_true hw⟩
  · rw [List.filter_cons]
    rw [if_pos (decide_eq_true hw)]
    exact List.mem_cons_self
theorem PV.perm {A z y : List Str} (h : PV A z) (p : y.Perm z) : PV A y := by
  obtain ⟨h1, h2, h3, h4⟩ := h
  exact ⟨by rw [p.length_eq]; exact h1, fun w hw => h2 w (p.mem_iff.mp hw), (p.filter _).nodup_iff.mpr h3, fun hA => p.mem_iff.mpr (h4 hA)⟩
/-- the words that a recipe may have -/
def AS (p : Nat) : List Str := if p < 3 then WS else KS
theorem pv_safe : ∀ p < 4, PV (AS p) (SAFE.getD p []) := by decide +kernel
theorem good_WS : ∀ z ∈ WS, PyData.strOk z = true := by decide +kernel
theorem good_KS : ∀ z ∈ KS, PyData.strOk z = true := by decide +kernel
theorem PV.good {p : Nat} {z : List Str} (h : PV (AS p) z) : GoodW z := fun w hw => by
  have := h.2.1 w hw
  unfold AS at this
  split at this
  · exact good_WS w this
  · exact good_KS w this
theorem RecAt.keep {C : Addr} {H H' : Hp} {S : List Addr} {p : Addr} {z : List (List Str)} (h : RecAt C H p z) (f : Fr S H H') (n : ∀ b ∈ S, H b = none ∨ ∃ xs, H b = some (.lst xs)) : RecAt C H' p z := by
  obtain ⟨dx, a, b, c, d, za, zb, zc, zd, rfl, hp, ha, hb, hc, hd, g⟩ := h
  have k : ∀ (x : Addr) (o : HO), H x = some o → (∀ xs, o ≠ .lst xs) → H' x = some o := fun x o e no => f x o e fun hx => by
    rcases n x hx with q | ⟨xs, q⟩
    · rw [q] at e; cases e
    · rw [q] at e; cases e; exact no xs rfl
  exact ⟨dx, a, b, c, d, za, zb, zc, zd, rfl, k _ _ hp (fun _ => by simp), k _ _ ha (fun _ => by simp), k _ _ hb (fun _ => by simp), k _ _ hc (fun _ => by simp), k _ _ hd (fun _ => by simp), g⟩
/-- made of four recipes -/
theorem mk_rec {C : Addr} {H : Hp} {Q : VK} {E : XK} {p dx a b c d : Addr} {za zb zc zd : List Str} (hp : H p = none) (hdx : H dx = none) (hpd : dx ≠ p) (ha : H a = some (.tup (sV za))) (hb : H b = some (.tup (sV zb))) (hc : H c = some (.tup (sV zc))) (hd : H d = some (.tup (sV zd)))
    (oa : PV (AS 0) za) (ob : PV (AS 1) zb) (oc : PV (AS 2) zc) (od : PV (AS 3) zd) (k : ∀ H', Fr [] H H' → RecAt C H' p [za, zb, zc, zd] → Q .non H') :
    spQInit C (.ref p :: ([.ref a, .ref b, .ref c, .ref d] ++ [])) (upd (upd H dx (.own p)) p (.ins C dx [])) Q E := by
  have f5 : Fr [] H (upd (upd H dx (.own p)) p (.ins C dx [])) := (Fr.new hdx).trans (Fr.new (by rw [upd_ne hpd.symm]; exact hp))
  refine ⟨p, dx, a, b, c, d, _, _, _, _, rfl, upd_same, f5 _ _ ha (by simp), f5 _ _ hb (by simp), f5 _ _ hc (by simp), f5 _ _ hd (by simp), oa.ok, ob.ok, oc.ok, od.ok, fun H6 f6 e6 => ?_⟩
  have f7 : Fr [] H H6 := made_fr hp hdx f6
  exact k H6 f7 ⟨dx, a, b, c, d, _, _, _, _, rfl, e6, f7 _ _ ha (by simp), f7 _ _ hb (by simp), f7 _ _ hc (by simp), f7 _ _ hd (by simp), oa.good, ob.good, oc.good, od.good⟩
def spSafeM (C : Addr) : Sp := fun vs H Q _ => vs = [.ref C] ∧ ∀ (p : Addr) (H' : Hp), H p = none → Fr [] H H' → RecAt C H' p SAFE → Q (.ref p) H'
section
variable {P : Program} {w : World} {K : PySem.W.Frag} {mg : Str → Option Value} {base : Heap}
theorem ok_qthrough (T : Gx K mg) : FnOk P w K mg base CX0 1 T.f_Recipes_through T.fd_Recipes_through ["self"] (spGet T.C_Recipes "_through") := by
  refine T.F_Recipes_through.ok sc_Recipes_through (fun vs H Q E h => ?_) (fun cdv A outer s H vs Q E hr h => ?_)
  · obtain ⟨a, dx, fs, v, rfl, _⟩ := h
    rfl
  · obtain ⟨a, dx, fs, v, rfl, ha, hv, k⟩ := h
    refine ⟨_, (pss_one (ps_ret (pe_fld (pv 0) rfl))), ?_⟩
    exact ⟨_, rfl, a, T.C_Recipes, _, _, _, rfl, ha, T.cl_Recipes, T.n_Recipes__through, hv, k⟩
theorem ok_qback (T : Gx K mg) : FnOk P w K mg base CX0 1 T.f_Recipes_back T.fd_Recipes_back ["self"] (spGet T.C_Recipes "_back") := by
  refine T.F_Recipes_back.ok sc_Recipes_back (fun vs H Q E h => ?_) (fun cdv A outer s H vs Q E hr h => ?_)
  · obtain ⟨a, dx, fs, v, rfl, _⟩ := h
    rfl
  · obtain ⟨a, dx, fs, v, rfl, ha, hv, k⟩ := h
    refine ⟨_, (pss_one (ps_ret (pe_fld (pv 0) rfl))), ?_⟩
    exact ⟨_, rfl, a, T.C_Recipes, _, _, _, rfl, ha, T.cl_Recipes, T.n_Recipes__back, hv, k⟩
theorem ok_qaround (T : Gx K mg) : FnOk P w K mg base CX0 1 T.f_Recipes_around T.fd_Recipes_around ["self"] (spGet T.C_Recipes "_around") := by
  refine T.F_Recipes_around.ok sc_Recipes_around (fun vs H Q E h => ?_) (fun cdv A outer s H vs Q E hr h => ?_)
  · obtain ⟨a, dx, fs, v, rfl, _⟩ := h
    rfl
  · obtain ⟨a, dx, fs, v, rfl, ha, hv, k⟩ := h
    refine ⟨_, (pss_one (ps_ret (pe_fld (pv 0) rfl))), ?_⟩
    exact ⟨_, rfl, a, T.C_Recipes, _, _, _, rfl, ha, T.cl_Recipes, T.n_Recipes__around, hv, k⟩
theorem ok_qclean (T : Gx K mg) : FnOk P w K mg base CX0 1 T.f_Recipes_clean T.fd_Recipes_clean ["self"] (spGet T.C_Recipes "_clean") := by
  refine T.F_Recipes_clean.ok sc_Recipes_clean (fun vs H Q E h => ?_) (fun cdv A outer s H vs Q E hr h => ?_)
  · obtain ⟨a, dx, fs, v, rfl, _⟩ := h
    rfl
  · obtain ⟨a, dx, fs, v, rfl, ha, hv, k⟩ := h
    refine ⟨_, (pss_one (ps_ret (pe_fld (pv 0) rfl))), ?_⟩
    exact ⟨_, rfl, a, T.C_Recipes, _, _, _, rfl, ha, T.cl_Recipes, T.n_Recipes__clean, hv, k⟩
theorem ok_safeM (T : Gx K mg) : FnOk P w K mg base CX0 4 T.f_Recipes_safe T.fd_Recipes_safe ["cls"] (spSafeM T.C_Recipes) := by
  have G_Recipes___init__ : FnOk P w K mg base CX0 2 T.f_Recipes___init__ T.fd_Recipes___init__ ["self", "through", "back", "around", "clean"] (spQInit T.C_Recipes) := ok_qInit T
  refine T.F_Recipes_safe.ok sc_Recipes_safe (fun vs H Q E h => ?_) (fun cdv A outer s H vs Q E hr h => ?_)
  · obtain ⟨rfl, _⟩ := h
    rfl
  · obtain ⟨rfl, k⟩ := h
    refine ⟨_, (pss_one (ps_ret (pe_makeL (i := 0) T.M_Recipes___init__ G_Recipes___init__ (hr.mono (by first | decide | omega)) (by rfl) (by first | exact Or.inl rfl | exact Or.inr (Or.inl rfl) | exact Or.inr (Or.inr rfl)) (b_Recipes___init__ T) pass0 (pa_cons (pe_tup (pa_cons pe_str (pa_cons pe_str (pa_cons pe_str (pa_cons pe_str (pa_cons pe_str pa_nil)))))) (pa_cons (pe_tup (pa_cons pe_str (pa_cons pe_str (pa_cons pe_str (pa_cons pe_str (pa_cons pe_str pa_nil)))))) (pa_cons (pe_tup (pa_cons pe_str (pa_cons pe_str (pa_cons pe_str (pa_cons pe_str (pa_cons pe_str pa_nil)))))) (pa_cons (pe_tup (pa_cons pe_str (pa_cons pe_str (pa_cons pe_str (pa_cons pe_str pa_nil))))) pa_nil))))))), ?_⟩
    refine ⟨rfl, ?_⟩
    refine ⟨sz_le (by simp), fun a ha => ?_⟩
    refine ⟨sz_le (by simp), fun b hb => ?_⟩
    refine ⟨sz_le (by simp), fun c hc => ?_⟩
    refine ⟨sz_le (by simp), fun d hd => ?_⟩
    refine fun p dx hp hdx hpd => ?_
    obtain ⟨hb1, ba⟩ := free_upd hb
    obtain ⟨hc1, cb⟩ := free_upd hc
    obtain ⟨hc2, ca⟩ := free_upd hc1
    obtain ⟨hd1, dc⟩ := free_upd hd
    obtain ⟨hd2, db⟩ := free_upd hd1
    obtain ⟨hd3, da⟩ := free_upd hd2
    have hp4 : H p = none := (free_upd (free_upd (free_upd (free_upd hp).1).1).1).1
    have f0 := (((Fr.new (S := []) (o := .tup (sV (SAFE.getD 0 []))) ha).trans (Fr.new (o := .tup (sV (SAFE.getD 1 []))) hb)).trans (Fr.new (o := .tup (sV (SAFE.getD 2 []))) hc)).trans (Fr.new (o := .tup (sV (SAFE.getD 3 []))) hd)
    refine mk_rec (za := SAFE.getD 0 []) (zb := SAFE.getD 1 []) (zc := SAFE.getD 2 []) (zd := SAFE.getD 3 []) hp hdx hpd ?_ ?_ ?_ ?_ (pv_safe 0 (by decide)) (pv_safe 1 (by decide)) (pv_safe 2 (by decide)) (pv_safe 3 (by decide)) fun H' f R => ⟨rfl, k p H' hp4 (f0.trans f) R⟩
    · rw [upd_ne da.symm, upd_ne ca.symm, upd_ne ba.symm, upd_same]
      rfl
    · rw [upd_ne db.symm, upd_ne cb.symm, upd_same]
      rfl
    · rw [upd_ne dc.symm, upd_same]
      rfl
    · rw [upd_same]
      rfl
end
/-! ### tuples of words that stand at addresses -/
def TupsAt (H : Hp) (ts : List Addr) (zss : List (List Str)) : Prop := ts.length = zss.length ∧ ∀ (i : Nat) (t : Addr) (z : List Str), ts[i]? = some t → zss[i]? = some z → H t = some (.tup (sV z))
theorem TupsAt.keep {H H' : Hp} {S : List Addr} {ts : List Addr} {zss : List (List Str)} (h : TupsAt H ts zss) (f : Fr S H H') (n : ∀ b ∈ S, ∀ xs, H b ≠ some (.tup xs)) : TupsAt H' ts zss := by
  obtain ⟨h1, h2⟩ := h
  exact ⟨h1, fun i t z a b => f _ _ (h2 i t z a b) fun hb => n t hb _ (h2 i t z a b)⟩
def TLAt (H : Hp) (l : Addr) (zss : List (List Str)) : Prop := ∃ ts : List Addr, H l = some (.lst (ts.map V.ref)) ∧ TupsAt H ts zss
theorem TLAt.keep {H H' : Hp} {S : List Addr} {l : Addr} {zss : List (List Str)} (h : TLAt H l zss) (f : Fr S H H') (n : ∀ b ∈ S, ∀ xs, H b ≠ some (.tup xs)) (nl : l ∉ S) : TLAt H' l zss := by
  obtain ⟨ts, h1, h2⟩ := h
  exact ⟨ts, f _ _ h1 nl, h2.keep f n⟩
theorem ref_at {ts : List Addr} {i : Nat} {x : V} (h : (ts.map V.ref)[i]? = some x) : ∃ t, x = .ref t ∧ ts[i]? = some t := by
  rw [List.getElem?_map] at h
  cases e : ts[i]? with
  | none => rw [e] at h; cases h
  | some u =>
    rw [e] at h
    exact ⟨u, (Option.some.inj h).symm, rfl⟩
theorem TupsAt.four {H : Hp} {a b c d : Addr} {za zb zc zd : List Str} (ha : H a = some (.tup (sV za))) (hb : H b = some (.tup (sV zb))) (hc : H c = some (.tup (sV zc))) (hd : H d = some (.tup (sV zd))) : TupsAt H [a, b, c, d] [za, zb, zc, zd] := by
  refine ⟨rfl, fun i t z h1 h2 => ?_⟩
  match i, h1, h2 with
  | 0, h1, h2 => cases h1; cases h2; exact ha
  | 1, h1, h2 => cases h1; cases h2; exact hb
  | 2, h1, h2 => cases h1; cases h2; exact hc
  | 3, h1, h2 => cases h1; cases h2; exact hd
  | i + 4, h1, h2 => simp at h1
/-- rules drawn: a tuple of three words and a bound -/
def WordIn (z : Str) (W : List V) : Prop := inV (.str z) W = true
instance (z : Str) (W : List V) : Decidable (WordIn z W) := by
  unfold WordIn
  infer_instance
def spRules : Sp := fun vs H Q _ => ∃ (r : Addr) (lim : Nat), vs = [.ref r, .int (lim : Int)] ∧ Rnd H r ∧ lim ≤ 8 ∧ ∀ (t : Addr) (w y c : Str) (n : Nat) (H' : Hp), H t = none → Fr [r] H H' → Rnd H' r → H' t = some (.tup [.str w, .str y, .str c, .int (n : Int)]) →
  WordIn w W0 → WordIn y W1 → WordIn c W2 → n ≤ lim → Q (.ref t) H'
theorem some_of {H H' : Hp} {S : List Addr} (f : Fr S H H') (hs : ∀ b ∈ S, ∃ o, H' b = some o) {p : Addr} (h : H' p = none) : H p = none := by
  cases e : H p with
  | none => rfl
  | some o =>
    by_cases hp : p ∈ S
    · obtain ⟨o', e'⟩ := hs p hp
      rw [e'] at h
      cases h
    · rw [f p o e hp] at h
      cases h
theorem Rnd.fresh {H H' : Hp} {r p : Addr} (f : Fr [r] H H') (R : Rnd H' r) (h : H' p = none) : H p = none := some_of f (fun b hb => by
  obtain ⟨a, c, ns, e⟩ := R
  rw [List.mem_singleton.mp hb]
  exact ⟨_, e⟩) h
theorem words_at {W : List V} (A : List Str) (h : ∀ z ∈ A, WordIn z W) {i : Nat} (hi : i < A.length) : ∃ z, atI (A.map V.str) (i : Int) = some (.str z) ∧ WordIn z W := by
  refine ⟨A[i], atI_nat ?_, h _ (List.getElem_mem hi)⟩
  rw [List.getElem?_map, List.getElem?_eq_getElem hi]
  rfl
section
variable {P : Program} {w : World} {K : PySem.W.Frag} {mg : Str → Option Value} {base : Heap}
theorem ok_rules (T : Gx K mg) : FnOk P w K mg base CX0 2 T.f__law_rules T.fd__law_rules ["_law_d", "_law_limit"] spRules := by
  have G__law_below : FnOk P w K mg base CX0 1 T.f__law_below T.fd__law_below ["_law_d", "_law_limit"] spBelow := ok_below T
  refine T.F__law_rules.ok sc__law_rules (fun vs H Q E h => ?_) (fun cdv A outer s H vs Q E hr h => ?_)
  · obtain ⟨r, lim, rfl, _⟩ := h
    rfl
  · obtain ⟨r, lim, rfl, hR, hl, k⟩ := h
    refine ⟨_, (pss_cons (ps_par (i := 2) (j := 3) (by rfl) sc__law_rules.nd rfl rfl (by decide) rfl rfl (pa_cons (pe_ix ix_list (pe_lst (pa_cons pe_str (pa_cons pe_str (pa_cons pe_str (pa_cons pe_str pa_nil))))) (pe_call G__law_below (hr.mono (by first | decide | omega)) (by rfl) T.g__law_below T.F__law_below.kp (b__law_below T) .nil pass0 (pa_cons (pv 0) (pa_cons pe_int pa_nil))) (fun _ _ => rfl)) (pa_cons (pe_ix ix_list (pe_lst (pa_cons pe_str (pa_cons pe_str pa_nil))) (pe_call G__law_below (hr.mono (by first | decide | omega)) (by rfl) T.g__law_below T.F__law_below.kp (b__law_below T) .nil pass0 (pa_cons (pv 0) (pa_cons pe_int pa_nil))) (fun _ _ => rfl)) pa_nil)) (by rfl))
      (pss_one (ps_ret (pe_tup (pa_cons (pv 2) (pa_cons (pv 3) (pa_cons (pe_ix ix_list (pe_lst (pa_cons pe_str (pa_cons pe_str (pa_cons pe_str pa_nil)))) (pe_call G__law_below (hr.mono (by first | decide | omega)) (by rfl) T.g__law_below T.F__law_below.kp (b__law_below T) .nil pass0 (pa_cons (pv 0) (pa_cons pe_int pa_nil))) (fun _ _ => rfl)) (pa_cons (pe_call G__law_below (hr.mono (by first | decide | omega)) (by rfl) T.g__law_below T.F__law_below.kp (b__law_below T) .nil pass0 (pa_cons (pv 0) (pa_cons (pe_op op_add (pv 1) pe_int) pa_nil))) pa_nil)))))))), ?_⟩
    refine ⟨sz_le (by simp), fun p hp => ?_⟩
    have R1 := hR.keep (S := []) (Fr.new (o := .lst ((["through", "back", "back", "around"] : List Str).map V.str)) hp) (by simp)
    have rp : p ≠ r := fun e => by
      obtain ⟨a, b, ns, e2⟩ := hR
      rw [e, e2] at hp
      cases hp
    refine ⟨_, rfl, r, 4, rfl, R1, by decide, by decide, fun z1 H2 hz1 f2 R2 => ?_⟩
    obtain ⟨w1, a1, m1⟩ := words_at (W := W0) ["through", "back", "back", "around"] (by decide +kernel) hz1
    refine ⟨p, _, (z1 : Int), .str w1, rfl, rfl, SqL.of (f2 _ _ upd_same (by simpa using rp)), a1, ?_⟩
    have f02 : Fr [r] H H2 := (Fr.new hp).trans f2
    refine ⟨sz_le (by simp), fun q hq => ?_⟩
    have R3 := R2.keep (S := []) (Fr.new (o := .lst ((["keep", "pass"] : List Str).map V.str)) hq) (by simp)
    have rq : q ≠ r := fun e => by
      obtain ⟨a, b, ns, e2⟩ := R2
      rw [e, e2] at hq
      cases hq
    refine ⟨_, rfl, r, 2, rfl, R3, by decide, by decide, fun z2 H4 hz2 f4 R4 => ?_⟩
    obtain ⟨w2, a2, m2⟩ := words_at (W := W1) ["keep", "pass"] (by decide +kernel) hz2
    refine ⟨q, _, (z2 : Int), .str w2, rfl, rfl, SqL.of (f4 _ _ upd_same (by simpa using rq)), a2, _, _, rfl, ?_⟩
    have f04 : Fr [r] H H4 := (f02.trans (Fr.new hq)).trans f4
    refine ⟨_, rfl, _, rfl, sz_le (by simp), fun q2 hq2 => ?_⟩
    have R5 := R4.keep (S := []) (Fr.new (o := .lst ((["used", "came", "rare"] : List Str).map V.str)) hq2) (by simp)
    have rq2 : q2 ≠ r := fun e => by
      obtain ⟨a, b, ns, e2⟩ := R4
      rw [e, e2] at hq2
      cases hq2
    refine ⟨_, rfl, r, 3, rfl, R5, by decide, by decide, fun z3 H6 hz3 f6 R6 => ?_⟩
    obtain ⟨w3, a3, m3⟩ := words_at (W := W2) ["used", "came", "rare"] (by decide +kernel) hz3
    refine ⟨q2, _, (z3 : Int), .str w3, rfl, rfl, SqL.of (f6 _ _ upd_same (by simpa using rq2)), a3, ?_⟩
    have f06 : Fr [r] H H6 := (f04.trans (Fr.new hq2)).trans f6
    refine ⟨_, rfl, _, rfl, _, _, rfl, rfl, r, lim + 1, rfl, R6, by omega, by omega, fun z4 H7 hz4 f7 R7 => ?_⟩
    refine ⟨sz_le (by simp), fun t ht => ?_⟩
    have f07 : Fr [r] H H7 := f06.trans f7
    exact k t w1 w2 w3 z4 _ (R7.fresh f07 ht) (f07.trans (Fr.new ht)) (R7.keep (S := []) (Fr.new ht) (by simp)) upd_same m1 m2 m3 (by omega)
end
def spSafeL : Sp := fun vs H Q _ => vs = [] ∧ ∀ (l : Addr) (H' : Hp), H l = none → Fr [] H H' → TLAt H' l SAFE → Q (.ref l) H'
def spShuf : Sp := fun vs H Q _ => ∃ (r l : Addr) (zs : List Str), vs = [.ref r, .ref l] ∧ Rnd H r ∧ l ≠ r ∧ H l = some (.lst (sV zs)) ∧ zs.length ≤ 8 ∧ GoodW zs ∧ ∀ (q : Addr) (ys : List Str) (H' : Hp), H q = none → Fr [r] H H' → Rnd H' r → H' q = some (.lst (sV ys)) → ys.Perm zs → Q (.ref q) H'
theorem eqv_nil (zs : List Str) : PyData.eqv (.list (sD zs)) (.list []) = decide (zs = []) := by
  cases zs <;> simp [sD, PyData.eqv, PyData.eqvAll]
theorem perm_pop {a b : List Str} {z : Str} {i : Nat} (h : b[i]? = some z) : (a ++ [z] ++ b.eraseIdx i).Perm (a ++ b) := by
  have hi := List.getElem?_eq_some_iff.mp h
  obtain ⟨hl, he⟩ := hi
  have e : (z :: b.eraseIdx i).Perm b := by
    have e2 : b = b.take i ++ z :: b.drop (i + 1) := by rw [← he, List.getElem_cons_drop hl, List.take_append_drop]
    rw [List.eraseIdx_eq_take_drop_succ]
    exact List.perm_middle.symm.trans (List.Perm.of_eq e2.symm)
  rw [List.append_assoc]
  exact List.Perm.append_left a e
def lenAt (p : Addr) (H : Hp) : Nat := match H p with
  | some (.lst xs) => xs.length
  | _ => 0
theorem lenAt_of {p : Addr} {H : Hp} {xs : List V} (h : H p = some (.lst xs)) : lenAt p H = xs.length := by
  unfold lenAt
  rw [h]
section
variable {P : Program} {w : World} {K : PySem.W.Frag} {mg : Str → Option Value} {base : Heap}
theorem ok_safeL (T : Gx K mg) : FnOk P w K mg base CX0 1 T.f__law_safe T.fd__law_safe [] spSafeL := by
  refine T.F__law_safe.ok sc__law_safe (fun vs H Q E h => ?_) (fun cdv A outer s H vs Q E hr h => ?_)
  · obtain ⟨rfl, _⟩ := h
    rfl
  · obtain ⟨rfl, k⟩ := h
    refine ⟨_, (pss_cons (ps_set (i := 0) sc__law_safe.nd rfl (.inl rfl) (pe_lst (pa_cons (pe_tup (pa_cons pe_str (pa_cons pe_str (pa_cons pe_str (pa_cons pe_str (pa_cons pe_str pa_nil)))))) (pa_cons (pe_tup (pa_cons pe_str (pa_cons pe_str (pa_cons pe_str (pa_cons pe_str (pa_cons pe_str pa_nil)))))) pa_nil))))
      (pss_cons (ps_expr (pe_bm PySem.F.plainAttrs_list PySem.F.slot_list_append PySem.F.type_list_append mt_append (pv 0) (pa_cons (pe_tup (pa_cons pe_str (pa_cons pe_str (pa_cons pe_str (pa_cons pe_str (pa_cons pe_str pa_nil)))))) pa_nil)))
      (pss_one (ps_ret (pe_op op_cat (pv 0) (pe_lst (pa_cons (pe_tup (pa_cons pe_str (pa_cons pe_str (pa_cons pe_str (pa_cons pe_str pa_nil))))) pa_nil))))))), ?_⟩
    refine ⟨sz_le (by simp), fun a ha => ?_⟩
    refine ⟨sz_le (by simp), fun b hb => ?_⟩
    refine ⟨sz_le (by simp), fun l hl => ?_⟩
    refine ⟨_, rfl, .inl ⟨rfl, _, SqL.of upd_same⟩, sz_le (by simp), fun c hc => ?_⟩
    refine ⟨l, _, _, rfl, rfl, (upd_ne (free_upd hc).2.symm).trans upd_same, sz_lt (by simp), ?_⟩
    refine ⟨_, rfl, sz_le (by simp), fun d hd => ?_⟩
    refine ⟨sz_le (by simp), fun m hm => ?_⟩
    have ba := (free_upd hb).2
    obtain ⟨hl1, lb⟩ := free_upd hl
    obtain ⟨hl2, la⟩ := free_upd hl1
    obtain ⟨hc1, cl⟩ := free_upd hc
    obtain ⟨hc2, cb⟩ := free_upd hc1
    obtain ⟨hc3, ca⟩ := free_upd hc2
    obtain ⟨hd1, dl⟩ := free_upd hd
    obtain ⟨hd2, dc⟩ := free_upd hd1
    obtain ⟨hd3, _⟩ := free_upd hd2
    obtain ⟨hd4, db⟩ := free_upd hd3
    obtain ⟨hd5, da⟩ := free_upd hd4
    obtain ⟨hm1, md⟩ := free_upd hm
    obtain ⟨hm2, ml⟩ := free_upd hm1
    obtain ⟨hm3, mc⟩ := free_upd hm2
    obtain ⟨hm4, _⟩ := free_upd hm3
    obtain ⟨hm5, mb⟩ := free_upd hm4
    obtain ⟨hm6, ma⟩ := free_upd hm5
    refine ⟨l, m, _, _, rfl, rfl, (upd_ne ml.symm).trans ((upd_ne dl.symm).trans upd_same), upd_same, sz_le (by simp), fun q hq => ?_⟩
    obtain ⟨hq1, qm⟩ := free_upd hq
    obtain ⟨hq2, qd⟩ := free_upd hq1
    obtain ⟨hq3, ql⟩ := free_upd hq2
    obtain ⟨hq4, qc⟩ := free_upd hq3
    obtain ⟨hq5, _⟩ := free_upd hq4
    obtain ⟨hq6, qb⟩ := free_upd hq5
    obtain ⟨hq7, qa⟩ := free_upd hq6
    refine k q _ hq7 (fun x o e _ => ?_) ⟨[a, b, c, d], upd_same, TupsAt.four ?_ ?_ ?_ ?_⟩
    · have na := ne_of_none e ha
      have nb := ne_of_none e (free_upd hb).1
      have nl := ne_of_none e hl2
      have nc := ne_of_none e hc3
      have nd := ne_of_none e hd5
      have nm := ne_of_none e hm6
      have nq := ne_of_none e hq7
      rw [upd_ne nq, upd_ne nm, upd_ne nd, upd_ne nl, upd_ne nc, upd_ne nl, upd_ne nb, upd_ne na]
      exact e
    · rw [upd_ne qa.symm, upd_ne ma.symm, upd_ne da.symm, upd_ne la.symm, upd_ne ca.symm, upd_ne la.symm, upd_ne ba.symm, upd_same]
      rfl
    · rw [upd_ne qb.symm, upd_ne mb.symm, upd_ne db.symm, upd_ne lb.symm, upd_ne cb.symm, upd_ne lb.symm, upd_same]
      rfl
    · rw [upd_ne qc.symm, upd_ne mc.symm, upd_ne dc.symm, upd_ne cl, upd_same]
      rfl
    · rw [upd_ne qd.symm, upd_ne md.symm, upd_same]
      rfl
theorem ok_shuf (T : Gx K mg) : FnOk P w K mg base CX0 2 T.f__law_shuffled T.fd__law_shuffled ["_law_d", "_law_items"] spShuf := by
  have G__law_below : FnOk P w K mg base CX0 1 T.f__law_below T.fd__law_below ["_law_d", "_law_limit"] spBelow := ok_below T
  refine T.F__law_shuffled.ok sc__law_shuffled (fun vs H Q E h => ?_) (fun cdv A outer s H vs Q E hr h => ?_)
  · obtain ⟨r, l, zs, rfl, _⟩ := h
    rfl
  · obtain ⟨r, l, zs, rfl, hR, lr, hl, hz, hg, k⟩ := h
    refine ⟨_, (pss_cons (ps_set (i := 2) sc__law_shuffled.nd rfl (.inl rfl) (pe_callTy call_list_of (by rfl) T.z_list (by decide +kernel) (pa_cons (pv 1) pa_nil)))
      (pss_cons (ps_set (i := 3) sc__law_shuffled.nd rfl (.inl rfl) (pe_lst pa_nil))
      (pss_cons (ps_while PassesOwn.never (pt_cmpR (op_neD hr.units) (pv 2) (pe_lst pa_nil) (nomark _)) (pss_one (ps_expr (pe_bm PySem.F.plainAttrs_list PySem.F.slot_list_append PySem.F.type_list_append mt_append (pv 3) (pa_cons (pe_bm PySem.F.plainAttrs_list PySem.F.slot_list_pop PySem.F.type_list_pop mt_popAt (pv 2) (pa_cons (pe_call G__law_below (hr.mono (by first | decide | omega)) (by rfl) T.g__law_below T.F__law_below.kp (b__law_below T) .nil pass0 (pa_cons (pv 0) (pa_cons (pe_callB call_len_seq (by rfl) T.z_len (by decide +kernel) (pa_cons (pv 2) pa_nil)) pa_nil))) pa_nil)) pa_nil)))))
      (pss_one (ps_ret (pv 3)))))), ?_⟩
    refine ⟨_, rfl, l, _, rfl, .inl (SqL.of hl), fun p hp => ?_⟩
    refine ⟨sz_le (by simp), fun q hq => ?_⟩
    obtain ⟨hq1, qp⟩ := free_upd hq
    have pr : p ≠ r := fun e => by
      obtain ⟨a, b, ns, e2⟩ := hR
      rw [e, e2] at hp
      cases hp
    have qr : q ≠ r := fun e => by
      obtain ⟨a, b, ns, e2⟩ := hR
      rw [e, e2] at hq1
      cases hq1
    refine while_by (fun σ H' => σ = [some (.ref r), some (.ref l), some (.ref p), some (.ref q)] ∧ Fr [r] H H' ∧ Rnd H' r ∧ ∃ a b : List Str, H' p = some (.lst (sV b)) ∧ H' q = some (.lst (sV a)) ∧ (a ++ b).Perm zs) (fun σ H' => lenAt p H')
      ⟨rfl, (Fr.new hp).trans (Fr.new hq), (hR.keep (S := []) (Fr.new hp) (by simp)).keep (S := []) (Fr.new hq) (by simp), [], zs, (upd_ne qp.symm).trans upd_same, upd_same, List.Perm.refl _⟩ ?_ ?_
    · rintro σ H1 ⟨rfl, f1, R1, a, b, e1, e2, pm⟩
      have hlen : a.length + b.length = zs.length := by rw [← pm.length_eq, List.length_append]
      have gb : GoodW b := fun z hz => hg z (pm.mem_iff.mp (List.mem_append_right _ hz))
      refine ⟨_, rfl, sz_le (by simp), fun e he => ?_⟩
      have ep := ne_of_none e1 he
      have eq := ne_of_none e2 he
      have R1' := R1.keep (S := []) (Fr.new (o := .lst []) he) (by simp)
      refine ⟨.list (sD b), .list [], .lst (SqL.of ((upd_ne ep).trans e1)) (dpAll_str b), .lst (SqL.of upd_same) .nil, shapedL_str gb, by decide +kernel, _, rfl, ?_⟩
      rw [eqv_nil]
      cases b with
      | nil =>
        refine iteF ?_
        refine ⟨_, rfl, k q a _ hq1 (f1.trans (Fr.new he)) R1' ((upd_ne eq).trans e2) (by simpa using pm)⟩
      | cons z0 b0 =>
        refine iteT ?_
        have e1' : (upd H1 e (.lst [])) p = some (.lst (sV (z0 :: b0))) := (upd_ne ep).trans e1
        have e2' : (upd H1 e (.lst [])) q = some (.lst (sV a)) := (upd_ne eq).trans e2
        refine ⟨_, rfl, .inl ⟨rfl, _, SqL.of e2'⟩, _, rfl, .inl ⟨rfl, _, SqL.of e1'⟩, _, rfl, _, rfl, p, _, rfl, .inl (SqL.of e1'), r, (sV (z0 :: b0)).length, rfl, R1', by rw [sV_len]; simp, by rw [sV_len]; simp at hlen ⊢; omega, fun i H2 hi f2 R2 => ?_⟩
        have e1'' := f2 _ _ e1' (by simpa using pr)
        have e2'' := f2 _ _ e2' (by simpa using qr)
        rw [sV_len] at hi
        obtain ⟨y, hy⟩ : ∃ y, (z0 :: b0)[i]? = some y := ⟨_, List.getElem?_eq_getElem hi⟩
        have hy' : (sV (z0 :: b0))[i]? = some (.str y) := by
          unfold sV
          rw [List.getElem?_map, hy]
          rfl
        refine ⟨p, _, (i : Int), i, .str y, rfl, rfl, e1'', by omega, by simp at hlen hi; omega, ?_, hy', ?_⟩
        · unfold seqIndex?
          rw [sV_len]
          simp at hi ⊢
          omega
        · have ee : (sV (z0 :: b0)).eraseIdx i = sV ((z0 :: b0).eraseIdx i) := by
            unfold sV
            rw [List.eraseIdx_eq_take_drop_succ, List.eraseIdx_eq_take_drop_succ, List.map_append, List.map_take, List.map_drop]
          rw [ee]
          refine ⟨q, _, _, rfl, rfl, (upd_ne qp).trans e2'', ?_, ⟨rfl, ?_, ?_, a ++ [y], (z0 :: b0).eraseIdx i, (upd_ne qp.symm).trans upd_same, ?_, (perm_pop hy).trans pm⟩, ?_⟩
          · rw [sV_len]
            exact sz_lt (by omega)
          · exact fun x o ex nx => by
              have np : x ≠ p := ne_of_none ex hp
              have nq : x ≠ q := ne_of_none ex hq1
              rw [upd_ne nq, upd_ne np]
              exact ((f1.trans (Fr.new he)).trans f2) x o ex nx
          · obtain ⟨c, d, ns, e3⟩ := R2
            exact ⟨c, d, ns, by rw [upd_ne qr.symm, upd_ne pr.symm]; exact e3⟩
          · rw [upd_same]
            unfold sV
            rw [List.map_append]
            rfl
          · rw [lenAt_of ((upd_ne qp.symm).trans upd_same), lenAt_of e1, sV_len, sV_len, List.length_eraseIdx, if_pos hi]
            simp
    · intro σ H Q Q' hq h
      obtain ⟨v, e1, h1, h2⟩ := h
      refine ⟨v, e1, h1, fun p hp => ?_⟩
      obtain ⟨d, e, a1, a2, a3, a4, c, a5, a6⟩ := h2 p hp
      exact ⟨d, e, a1, a2, a3, a4, c, a5, hq _ _ a6⟩
end
def spRecipe : Sp := fun vs H Q _ => ∃ (r : Addr) (p : Nat), vs = [.ref r, .int (p : Int)] ∧ Rnd H r ∧ p < 4 ∧ ∀ (t : Addr) (z : List Str) (H' : Hp), H t = none → Fr [r] H H' → Rnd H' r → H' t = some (.tup (sV z)) → PV (AS p) z → Q (.ref t) H'
theorem safe_len : ∀ p < 4, 4 ≤ (SAFE.getD p []).length ∧ (SAFE.getD p []).length ≤ 5 := by decide +kernel
theorem kind_drop : ∀ p < 4, ∀ a < 5, a < (SAFE.getD p []).length → (SAFE.getD p [])[a]? ≠ some ("done" : Str) → PV (AS p) ((SAFE.getD p []).take a ++ (SAFE.getD p []).drop (a + 1)) := by decide +kernel
theorem kind_swap : ∀ p < 4, ∀ a < 5, ∀ b < 5, a < (SAFE.getD p []).length → b < (SAFE.getD p []).length → PV (AS p) (((SAFE.getD p []).set a ((SAFE.getD p []).getD b "")).set b ((SAFE.getD p []).getD a "")) := by decide +kernel
theorem kind_more : ∀ p < 4, ∀ a < 5, ∀ w ∈ SS, a < (SAFE.getD p []).length → PV (AS p) ((SAFE.getD p []).take a ++ [w] ++ (SAFE.getD p []).drop a) := by decide +kernel
theorem sV_take (z : List Str) (a : Nat) : (sV z).take a = sV (z.take a) := by
  unfold sV
  rw [List.map_take]
theorem sV_drop (z : List Str) (a : Nat) : (sV z).drop a = sV (z.drop a) := by
  unfold sV
  rw [List.map_drop]
theorem sV_app (z y : List Str) : sV z ++ sV y = sV (z ++ y) := by
  unfold sV
  rw [List.map_append]
theorem sV_set (z : List Str) (a : Nat) (y : Str) : (sV z).set a (.str y) = sV (z.set a y) := by
  unfold sV
  rw [List.map_set]
theorem getD_at {α : Type} {xs : List α} {i : Nat} {d : α} (h : i < xs.length) : xs.getD i d = xs[i] := by
  unfold List.getD
  rw [List.getElem?_eq_getElem h]
  rfl
theorem getD_of {α : Type} {xs : List α} {i : Nat} {x d : α} (h : xs[i]? = some x) : xs.getD i d = x := by
  unfold List.getD
  rw [h]
  rfl
theorem sV_get {z : List Str} {a : Nat} (h : a < z.length) : (sV z)[a]? = some (.str (z.getD a "")) := by
  unfold sV
  rw [List.getElem?_map, List.getElem?_eq_getElem h, getD_at h]
  rfl
theorem cut_drop {xs : List V} {i : Nat} (h : i ≤ xs.length) : cutV xs (some (i : Int)) none = xs.drop i := by
  unfold cutV
  rw [HT.sIx_none, HT.sIx_nat, Nat.min_eq_left h, List.take_of_length_le (by rw [List.length_drop]; exact Nat.le_refl _)]
section
variable {P : Program} {w : World} {K : PySem.W.Frag} {mg : Str → Option Value} {base : Heap}
theorem ok_recipe (T : Gx K mg) : FnOk P w K mg base CX0 3 T.f__law_recipe T.fd__law_recipe ["_law_d", "_law_part"] spRecipe := by
  have G__law_below : FnOk P w K mg base CX0 1 T.f__law_below T.fd__law_below ["_law_d", "_law_limit"] spBelow := ok_below T
  have G__law_safe : FnOk P w K mg base CX0 1 T.f__law_safe T.fd__law_safe [] spSafeL := ok_safeL T
  have G__law_shuffled : FnOk P w K mg base CX0 2 T.f__law_shuffled T.fd__law_shuffled ["_law_d", "_law_items"] spShuf := ok_shuf T
  refine T.F__law_recipe.ok sc__law_recipe (fun vs H Q E h => ?_) (fun cdv A outer s H vs Q E hr h => ?_)
  · obtain ⟨r, p, rfl, _⟩ := h
    rfl
  · obtain ⟨r, p, rfl, hR, hp, k⟩ := h
    refine ⟨_, (pss_cons (ps_par (i := 2) (j := 3) (by rfl) sc__law_recipe.nd rfl rfl (by decide) rfl rfl (pa_cons (pe_callTy call_list_of (by rfl) T.z_list (by decide +kernel) (pa_cons (pe_ix ix_list (pe_call0 G__law_safe (hr.mono (by first | decide | omega)) (by rfl) T.g__law_safe T.F__law_safe.kp (b__law_safe T) .nil pass0) (pv 1) (fun _ _ => rfl)) pa_nil)) (pa_cons (pe_call G__law_below (hr.mono (by first | decide | omega)) (by rfl) T.g__law_below T.F__law_below.kp (b__law_below T) .nil pass0 (pa_cons (pv 0) (pa_cons pe_int pa_nil))) pa_nil)) (by rfl))
      (pss_cons (ps_par (i := 4) (j := 5) (by rfl) sc__law_recipe.nd rfl rfl (by decide) rfl rfl (pa_cons (pe_call G__law_below (hr.mono (by first | decide | omega)) (by rfl) T.g__law_below T.F__law_below.kp (b__law_below T) .nil pass0 (pa_cons (pv 0) (pa_cons (pe_callB call_len_seq (by rfl) T.z_len (by decide +kernel) (pa_cons (pv 2) pa_nil)) pa_nil))) (pa_cons (pe_call G__law_below (hr.mono (by first | decide | omega)) (by rfl) T.g__law_below T.F__law_below.kp (b__law_below T) .nil pass0 (pa_cons (pv 0) (pa_cons (pe_callB call_len_seq (by rfl) T.z_len (by decide +kernel) (pa_cons (pv 2) pa_nil)) pa_nil))) pa_nil)) (by rfl))
      (C8.pss_cut (ps_if (PW.pt (pw_and (pt_cmpR op_eq (pv 3) pe_int (nomark _)) (pw_and1 (pt_cmpR op_ne (pe_ix ix_list (pv 2) (pv 4) (fun _ _ => rfl)) pe_str (nomark _))))) (pss_one (ps_set (i := 2) sc__law_recipe.nd rfl (.inl rfl) (pe_op op_cat (pe_slice sl_list (pv 2) po_none (po_some (pv 4))) (pe_slice sl_list (pv 2) (po_some (pe_op op_add (pv 4) pe_int)) po_none)))) (pss_one (ps_if (pt_cmpR op_eq (pv 3) pe_int (nomark _)) (pss_cons (ps_par (i := 6) (j := 7) (by rfl) sc__law_recipe.nd rfl rfl (by decide) rfl rfl (pa_cons (pe_ix ix_list (pv 2) (pv 4) (fun _ _ => rfl)) (pa_cons (pe_ix ix_list (pv 2) (pv 5) (fun _ _ => rfl)) pa_nil)) (by rfl))
      (pss_one (ps_asg (pe_tup (pa_cons (pv 7) (pa_cons (pv 6) pa_nil))) (pg_tup (by rfl) (pgs_cons (pg_sub (pv 2) (pv 4) set_list) (pgs_cons (pg_sub (pv 2) (pv 5) set_list) pgs_nil)))))) (pss_one (ps_if (pt_cmpR op_eq (pv 3) pe_int (nomark _)) (pss_one (ps_set (i := 2) sc__law_recipe.nd rfl (.inl rfl) (pe_op op_cat (pe_op op_cat (pe_slice sl_list (pv 2) po_none (po_some (pv 4))) (pe_lst (pa_cons (pe_ix ix_list (pe_lst (pa_cons pe_str (pa_cons pe_str pa_nil))) (pe_call G__law_below (hr.mono (by first | decide | omega)) (by rfl) T.g__law_below T.F__law_below.kp (b__law_below T) .nil pass0 (pa_cons (pv 0) (pa_cons pe_int pa_nil))) (fun _ _ => rfl)) pa_nil))) (pe_slice sl_list (pv 2) (po_some (pv 4)) po_none)))) (pss_one (ps_if (pt_cmpR op_eq (pv 3) pe_int (nomark _)) (pss_one (ps_set (i := 2) sc__law_recipe.nd rfl (.inl rfl) (pe_call G__law_shuffled (hr.mono (by first | decide | omega)) (by rfl) T.g__law_shuffled T.F__law_shuffled.kp (b__law_shuffled T) .nil pass0 (pa_cons (pv 0) (pa_cons (pv 2) pa_nil))))) pss_nil)))))))
      (pss_one (ps_ret (pe_callTy call_tuple_of (by rfl) T.z_tuple (by decide +kernel) (pa_cons (pv 2) pa_nil))))))), ?_⟩
    have rnt := hR.notup
    refine ⟨rfl, fun l H1 hl f1 tl => ?_⟩
    have R1 := hR.keep f1 (by simp)
    obtain ⟨ts, el, tlen, tat⟩ := tl
    have ht : p < ts.length := by rw [tlen]; exact hp
    have esafe : SAFE[p]? = some (SAFE.getD p []) := by
      rw [List.getElem?_eq_getElem (show p < SAFE.length from hp), getD_at (show p < SAFE.length from hp)]
    have etp : ts[p]? = some ts[p] := List.getElem?_eq_getElem ht
    have etup := tat p _ _ etp esafe
    refine ⟨_, rfl, l, _, (p : Int), .ref ts[p], rfl, rfl, SqL.of el, atI_nat (by rw [List.getElem?_map, etp]; rfl), ts[p], _, rfl, .inr (SqT.of etup), fun q hq => ?_⟩
    have hqH : H q = none := R1.fresh (f1.nil_of) hq
    have qr : q ≠ r := fun e => by
      obtain ⟨a, b, ns, e2⟩ := hR
      rw [e, e2] at hqH
      cases hqH
    generalize hZ : SAFE.getD p [] = Z at *
    obtain ⟨Z4, Z5⟩ := safe_len p hp
    rw [hZ] at Z4 Z5
    have R2 := R1.keep (S := []) (Fr.new (o := .lst (sV Z)) hq) (by simp)
    refine ⟨_, rfl, r, 5, rfl, R2, by decide, by decide, fun kd H3 hkd f3 R3 => ⟨_, _, rfl, ?_⟩⟩
    have e3 : H3 q = some (.lst (sV Z)) := f3 _ _ upd_same (by simpa using qr)
    have F3 : Fr [r] H H3 := (f1.nil_of.trans (Fr.new hq)).trans f3
    refine ⟨_, rfl, _, rfl, q, _, rfl, .inl (SqL.of e3), r, (sV Z).length, rfl, R3, by rw [sV_len]; omega, by rw [sV_len]; omega, fun a H4 ha f4 R4 => ?_⟩
    have e4 : H4 q = some (.lst (sV Z)) := f4 _ _ e3 (by simpa using qr)
    refine ⟨_, rfl, _, rfl, q, _, rfl, .inl (SqL.of e4), r, (sV Z).length, rfl, R4, by rw [sV_len]; omega, by rw [sV_len]; omega, fun b H5 hb f5 R5 => ⟨_, _, rfl, ?_⟩⟩
    have e5 : H5 q = some (.lst (sV Z)) := f5 _ _ e4 (by simpa using qr)
    have F5 : Fr [r] H H5 := (F3.trans f4).trans f5
    rw [sV_len] at ha hb
    refine ⟨fun σ H' => ∃ (q' : Addr) (z : List Str) (x3 x4 x5 x6 x7 : Option V), σ = [some (.ref r), some (.int (p : Int)), some (.ref q'), x3, x4, x5, x6, x7] ∧ Fr [r] H H' ∧ Rnd H' r ∧ H' q' = some (.lst (sV z)) ∧ PV (AS p) z, ?_, ?_⟩
    · refine ⟨_, rfl, rfl, _, rfl, ite2 (fun h1 => ?_) (fun h1 => ?_)⟩
      · refine ⟨_, rfl, _, rfl, q, _, (a : Int), _, rfl, rfl, SqL.of e5, atI_nat (sV_get ha), rfl, _, rfl, ite2 (fun h2 => ?_) (fun h2 => ?_)⟩
        · have hne : Z[a]? ≠ some ("done" : Str) := fun e => by
            rw [getD_of e] at h2
            simp at h2
          refine ⟨_, rfl, _, rfl, (a : Int), rfl, q, _, rfl, SqL.of e5, fun u hu => ?_⟩
          have e5u : (upd H5 u (.lst (cutV (sV Z) none (some (a : Int))))) q = some (.lst (sV Z)) := (upd_ne (ne_of_none e5 hu)).trans e5
          refine ⟨_, rfl, _, rfl, _, _, rfl, rfl, ((a + 1 : Nat) : Int), rfl, q, _, rfl, SqL.of e5u, fun v hv => ?_⟩
          obtain ⟨hv1, vu⟩ := free_upd hv
          rw [cut_take (by rw [sV_len]; omega), sV_take] at hv ⊢
          rw [cut_drop (by rw [sV_len]; omega), sV_drop]
          refine ⟨u, v, _, _, rfl, rfl, (upd_ne vu.symm).trans upd_same, upd_same, ?_, fun x hx => ?_⟩
          · rw [sV_len, sV_len, List.length_take, List.length_drop]
            exact sz_le (by omega)
          · refine ⟨x, Z.take a ++ Z.drop (a + 1), _, _, _, _, _, rfl, ((F5.trans (Fr.new hu)).trans (Fr.new hv)).trans (Fr.new hx), ((R5.keep (S := []) (Fr.new hu) (by simp)).keep (S := []) (Fr.new hv) (by simp)).keep (S := []) (Fr.new hx) (by simp), ?_, ?_⟩
            · rw [upd_same, sV_app]
            · rw [← hZ]
              exact kind_drop p hp a (by omega) (by rw [hZ]; exact ha) (by rw [hZ]; exact hne)
        · have hk : kd = 1 := by
            have := of_decide_eq_true h1
            have := V.int.inj this
            omega
          subst hk
          exact ⟨_, rfl, rfl, _, rfl, iteF ⟨_, rfl, rfl, _, rfl, iteF ⟨_, rfl, rfl, _, rfl, iteF ⟨q, Z, _, _, _, _, _, rfl, F5, R5, e5, hZ ▸ pv_safe p hp⟩⟩⟩⟩
      · refine ⟨_, rfl, rfl, _, rfl, ite2 (fun h2 => ?_) (fun h2 => ?_)⟩
        · refine ⟨_, rfl, _, rfl, q, _, (a : Int), _, rfl, rfl, SqL.of e5, atI_nat (sV_get ha), ?_⟩
          refine ⟨_, rfl, _, rfl, q, _, (b : Int), _, rfl, rfl, SqL.of e5, atI_nat (sV_get hb), _, _, rfl, ?_⟩
          refine ⟨_, rfl, _, rfl, sz_le (by simp), fun t ht => ?_⟩
          have et := ne_of_none e5 ht
          refine ⟨t, _, rfl, SqT.of upd_same, rfl, _, _, rfl, ?_⟩
          refine ⟨_, rfl, _, rfl, q, _, (a : Int), a, rfl, rfl, (upd_ne et).trans e5, ix_at a (by rw [sV_len]; exact ha), ?_⟩
          refine ⟨_, _, rfl, ?_⟩
          refine ⟨_, rfl, _, rfl, q, _, (b : Int), b, rfl, rfl, upd_same, ix_at b (by rw [List.length_set, sV_len]; exact hb), rfl, ?_⟩
          rw [sV_set, sV_set]
          refine ⟨q, _, _, _, _, _, _, rfl, ?_, ?_, upd_same, ?_⟩
          · exact fun x o ex nx => by
              have nt : x ≠ t := fun e => by
                have := F5 x o ex nx
                rw [e, ht] at this
                cases this
              have nq : x ≠ q := ne_of_none ex hqH
              rw [upd_ne nq, upd_ne nq, upd_ne nt]
              exact F5 x o ex nx
          · obtain ⟨c, d, ns, e⟩ := R5
            exact ⟨c, d, ns, by rw [upd_ne qr.symm, upd_ne qr.symm, upd_ne (ne_of_none e ht)]; exact e⟩
          · have := kind_swap p hp a (by omega) b (by omega)
            rw [hZ] at this
            exact this ha hb
        · refine ⟨_, rfl, rfl, _, rfl, ite2 (fun h3 => ?_) (fun h3 => ?_)⟩
          · refine ⟨_, rfl, _, rfl, (a : Int), rfl, q, _, rfl, SqL.of e5, fun u hu => ?_⟩
            rw [cut_take (by rw [sV_len]; omega), sV_take]
            have ur : u ≠ r := fun e => by
              obtain ⟨c, d, ns, e2⟩ := R5
              rw [e, e2] at hu
              cases hu
            have R6 := R5.keep (S := []) (Fr.new (o := .lst (sV (Z.take a))) hu) (by simp)
            refine ⟨sz_le (by simp), fun m hm => ?_⟩
            obtain ⟨hm1, mu⟩ := free_upd hm
            have mr : m ≠ r := fun e => by
              obtain ⟨c, d, ns, e2⟩ := R5
              rw [e, e2] at hm1
              cases hm1
            have R7 := R6.keep (S := []) (Fr.new (o := .lst (sV SS)) hm) (by simp)
            refine ⟨_, rfl, r, 2, rfl, R7, by decide, by decide, fun z H8 hz f8 R8 => ?_⟩
            have F8 : Fr [r] H H8 := ((F5.trans (Fr.new hu)).trans (Fr.new hm)).trans f8
            have e8q : H8 q = some (.lst (sV Z)) := f8 _ _ (by rw [upd_ne (ne_of_none ((upd_ne (ne_of_none e5 hu)).trans e5) hm), upd_ne (ne_of_none e5 hu)]; exact e5) (by simpa using qr)
            have e8u : H8 u = some (.lst (sV (Z.take a))) := f8 _ _ ((upd_ne mu.symm).trans upd_same) (by simpa using ur)
            have hz' : z < SS.length := hz
            refine ⟨m, _, (z : Int), .str (SS.getD z ""), rfl, rfl, SqL.of (f8 _ _ upd_same (by simpa using mr)), atI_nat (sV_get (z := SS) hz'), sz_le (by simp), fun n hn => ?_⟩
            refine ⟨u, n, _, _, rfl, rfl, (upd_ne (ne_of_none e8u hn)).trans e8u, upd_same, ?_, fun x hx => ?_⟩
            · rw [sV_len, List.length_take]
              exact sz_le (by simp; omega)
            obtain ⟨hx1, xn⟩ := free_upd hx
            have e10q : (upd (upd H8 n (.lst [V.str (SS.getD z "")])) x (.lst (sV (Z.take a) ++ [V.str (SS.getD z "")]))) q = some (.lst (sV Z)) := by rw [upd_ne (ne_of_none e8q hx1), upd_ne (ne_of_none e8q hn)]; exact e8q
            refine ⟨_, rfl, _, rfl, (a : Int), rfl, q, _, rfl, SqL.of e10q, fun y hy => ?_⟩
            obtain ⟨hy1, yx⟩ := free_upd hy
            rw [cut_drop (by rw [sV_len]; omega), sV_drop]
            refine ⟨x, y, _, _, rfl, rfl, (upd_ne yx.symm).trans upd_same, upd_same, ?_, fun v hv => ?_⟩
            · rw [List.length_append, sV_len, sV_len, List.length_take, List.length_drop]
              exact sz_le (by simp; omega)
            refine ⟨v, Z.take a ++ [SS.getD z ""] ++ Z.drop a, _, _, _, _, _, rfl, (((F8.trans (Fr.new hn)).trans (Fr.new hx)).trans (Fr.new hy)).trans (Fr.new hv), (((R8.keep (S := []) (Fr.new hn) (by simp)).keep (S := []) (Fr.new hx) (by simp)).keep (S := []) (Fr.new hy) (by simp)).keep (S := []) (Fr.new hv) (by simp), ?_, ?_⟩
            · rw [upd_same, show [V.str (SS.getD z "")] = sV [SS.getD z ""] from rfl, sV_app, sV_app]
            · have := kind_more p hp a (by omega) (SS.getD z "") (by rw [getD_at hz']; exact List.getElem_mem hz')
              rw [hZ] at this
              exact this ha
          · refine ⟨_, rfl, rfl, _, rfl, ite2 (fun h4 => ?_) (fun h4 => ?_)⟩
            · refine ⟨_, rfl, _, rfl, r, q, Z, rfl, R5, qr, e5, by omega, hZ ▸ (pv_safe p hp).good, fun y ys H6 hy f6 R6 e6 pm => ?_⟩
              exact ⟨y, ys, _, _, _, _, _, rfl, F5.trans f6, R6, e6, (hZ ▸ pv_safe p hp : PV (AS p) Z).perm pm⟩
            · exact ⟨q, Z, _, _, _, _, _, rfl, F5, R5, e5, hZ ▸ pv_safe p hp⟩
    · rintro σ H6 ⟨q', z, x3, x4, x5, x6, x7, rfl, F6, R6, e6, hpv⟩
      refine ⟨_, rfl, q', _, rfl, .inl ⟨SqL.of e6, fun t ht => ?_⟩⟩
      exact k t z _ (R6.fresh F6 ht) (F6.trans (Fr.new ht)) (R6.keep (S := []) (Fr.new ht) (by simp)) upd_same hpv
end
def spRecipes : Sp := fun vs H Q _ => ∃ (r : Addr), vs = [.ref r] ∧ Rnd H r ∧ ∀ (l : Addr) (zs : List (List Str)) (H' : Hp), H l = none → Fr [r] H H' → Rnd H' r → TLAt H' l zs → zs.length = 4 → (∀ p z, zs[p]? = some z → PV (AS p) z) → Q (.ref l) H'
theorem TupsAt.snoc {H : Hp} {ts : List Addr} {zss : List (List Str)} {t : Addr} {z : List Str} (h : TupsAt H ts zss) (e : H t = some (.tup (sV z))) : TupsAt H (ts ++ [t]) (zss ++ [z]) := by
  obtain ⟨h1, h2⟩ := h
  refine ⟨by rw [List.length_append, List.length_append, h1]; rfl, fun i u y a b => ?_⟩
  by_cases hi : i < ts.length
  · rw [List.getElem?_append_left hi] at a
    rw [List.getElem?_append_left (by omega)] at b
    exact h2 i u y a b
  · rw [List.getElem?_append_right (by omega)] at a
    rw [List.getElem?_append_right (by omega)] at b
    have e0 : i - ts.length = 0 := by
      have := lt_of_at a
      simp at this
      omega
    rw [e0] at a
    rw [show i - zss.length = 0 by omega] at b
    cases a
    cases b
    exact e
section
variable {P : Program} {w : World} {K : PySem.W.Frag} {mg : Str → Option Value} {base : Heap}
theorem ok_recipes (T : Gx K mg) : FnOk P w K mg base CX0 4 T.f__law_recipes T.fd__law_recipes ["_law_d"] spRecipes := by
  have G__law_recipe : FnOk P w K mg base CX0 3 T.f__law_recipe T.fd__law_recipe ["_law_d", "_law_part"] spRecipe := ok_recipe T
  refine T.F__law_recipes.ok sc__law_recipes (fun vs H Q E h => ?_) (fun cdv A outer s H vs Q E hr h => ?_)
  · obtain ⟨r, rfl, _⟩ := h
    rfl
  · obtain ⟨r, rfl, hR, k⟩ := h
    refine ⟨_, (pss_one (ps_ret (pe_lc (own := [("_law_part", 1)]) (g := gName 1) rfl sc__law_recipes.nd (pi_range1 (by rfl) T.z_range (pa_cons pe_int pa_nil)) (blkOk_by (N := ["_law_d", "_law_part"]) (sc := defScope s__law_recipes) (by decide +kernel)) (fun _ _ _ _ _ => pg_name (i := 1) sc__law_recipes.nd rfl (.inl rfl)) (fun _ _ _ _ _ => pts_nil) (fun _ _ _ _ _ => (pe_call G__law_recipe (hr.mono (by first | decide | omega)) (by rfl) T.g__law_recipe T.F__law_recipe.kp (b__law_recipe T) .nil pass0 (pa_cons (pv 0) (pa_cons (pv 1) pa_nil))))))), ?_⟩
    refine ⟨(4 : Int), rfl, by omega, by omega, fun D hD => ?_⟩
    have Dr : D ≠ r := fun e => by
      obtain ⟨a, b, ns, e2⟩ := hR
      rw [e, e2] at hD
      cases hD
    refine lc_range (lo := 0) (n := 4) (fun i H' => Fr [r] H H' ∧ Rnd H' r ∧ ∃ (ts : List Addr) (zss : List (List Str)), H' D = some (.lst (ts.map V.ref)) ∧ TupsAt H' ts zss ∧ zss.length = i ∧ ∀ p z, zss[p]? = some z → PV (AS p) z)
      ⟨Fr.new hD, hR.keep (S := []) (Fr.new hD) (by simp), [], [], upd_same, ⟨rfl, fun i t z a => by simp at a⟩, rfl, fun p z a => by simp at a⟩ ?_ ?_
    · rintro i H1 hi ⟨f1, R1, ts, zss, eD, tt, hl, hv⟩
      refine ⟨rfl, _, rfl, _, rfl, r, i, by rw [Int.zero_add]; rfl, R1, hi, fun t z H2 ht f2 R2 e2 pv => ?_⟩
      have tD : t ≠ D := fun e => by rw [e, eD] at ht; cases ht
      have eD2 := f2 _ _ eD (by simpa using Dr)
      have tt2 := tt.keep f2 R1.notup
      refine ⟨_, eD2, ?_, ?_, ?_, ts ++ [t], zss ++ [z], ?_, ?_, ?_, ?_⟩
      · rw [List.length_map, tt.1]
        exact sz_lt (by omega)
      · exact fun b o eb nb => by
          rw [upd_ne (ne_of_none eb hD)]
          exact f2 _ _ (f1 b o eb nb) nb
      · obtain ⟨a, b, ns, e3⟩ := R2
        exact ⟨a, b, ns, (upd_ne Dr.symm).trans e3⟩
      · rw [upd_same, List.map_append]
        rfl
      · refine ⟨by rw [List.length_append, List.length_append, tt.1]; rfl, fun j u y a b => ?_⟩
        have q := (tt2.snoc e2).2 j u y a b
        rw [upd_ne (fun e => by rw [e, eD2] at q; cases q)]
        exact q
      · rw [List.length_append, hl]
        rfl
      · intro p y hy
        by_cases hp : p < zss.length
        · rw [List.getElem?_append_left hp] at hy
          exact hv p y hy
        · rw [List.getElem?_append_right (by omega)] at hy
          have := lt_of_at hy
          simp at this
          have e0 : p = i := by omega
          subst e0
          rw [hl, Nat.sub_self] at hy
          cases hy
          exact pv
    · rintro H1 ⟨f1, R1, ts, zss, eD, tt, hl, hv⟩
      exact k D zss _ hD f1 R1 ⟨ts, eD, tt⟩ hl hv
end
/-! ### the law -/
def spLaw (K : PySem.W.Frag) : Sp := fun vs H Q _ => ∃ (a : Addr) (ns : List Int), vs = [.ref a] ∧ SqL K H a (ns.map V.int) ∧ ns.length ≤ 63 ∧ ∀ H', Q (.bl true) H'
/-- rules stand at p -/
def RulAt (C : Addr) (H : Hp) (p : Addr) (w y c : Str) (n : Int) : Prop := ∃ dx : Addr, H p = some (.ins C dx (rF (.str w) (.str y) (.str c) (.int n)))
theorem RulAt.keep {C : Addr} {H H' : Hp} {p : Addr} {w y c : Str} {n : Int} {S : List Addr} (h : RulAt C H p w y c n) (f : Fr S H H') (nS : p ∉ S) : RulAt C H' p w y c n := by
  obtain ⟨dx, e⟩ := h
  exact ⟨dx, f _ _ e nS⟩
theorem mk_rules {C : Addr} {H : Hp} {Q : VK} {E : XK} {p dx : Addr} {w y c : Str} {n : Int} (hp : H p = none) (hdx : H dx = none) (hpd : dx ≠ p) (hw : WordIn w W0) (hy : WordIn y W1) (hc : WordIn c W2) (h0 : 0 ≤ n) (h8 : n ≤ 8) (k : ∀ H', Fr [] H H' → RulAt C H' p w y c n → Q .non H') :
    spRInit C (.ref p :: ([.str w, .str y, .str c, .int n] ++ [])) (upd (upd H dx (.own p)) p (.ins C dx [])) Q E := by
  refine ⟨p, dx, .str w, .str y, .str c, n, rfl, upd_same, ⟨w, rfl, hw⟩, ⟨y, rfl, hy⟩, ⟨c, rfl, hc⟩, h0, h8, fun H6 f6 e6 => ?_⟩
  exact k H6 (made_fr hp hdx f6) ⟨dx, e6⟩
theorem eqv_rules (w y c w2 y2 c2 : Str) (n n2 : Int) : PyData.eqv (.tuple [.str w, .str y, .str c, .int n]) (.tuple [.str w2, .str y2, .str c2, .int n2]) = (decide (V.str w = V.str w2) && (decide (V.str y = V.str y2) && (decide (V.str c = V.str c2) && decide (V.int n = V.int n2)))) := by
  have h1 : ∀ x y : Str, (x == y) = decide (x = y) := fun x y => by by_cases h : x = y <;> simp [h]
  have h2 : ∀ x y : Int, (x == y) = decide (x = y) := fun x y => by by_cases h : x = y <;> simp [h]
  simp [PyData.eqv, PyData.eqvAll, h1, h2]
theorem good_word {z : Str} {W : List V} (h : WordIn z W) (hW : ∀ v ∈ W, ∃ u, v = V.str u ∧ PyData.strOk u = true) : PyData.strOk z = true := by
  unfold WordIn inV at h
  rw [List.any_eq_true] at h
  obtain ⟨v, hv, e⟩ := h
  obtain ⟨u, rfl, g⟩ := hW v hv
  have e' : (u == z) = true := e
  rw [beq_iff_eq] at e'
  rw [← e']
  exact g
theorem good_W0 : ∀ v ∈ W0, ∃ u, v = V.str u ∧ PyData.strOk u = true := by
  intro v hv
  simp only [W0, List.mem_cons, List.not_mem_nil, or_false] at hv
  rcases hv with rfl | rfl | rfl <;> exact ⟨_, rfl, by decide +kernel⟩
theorem good_W1 : ∀ v ∈ W1, ∃ u, v = V.str u ∧ PyData.strOk u = true := by
  intro v hv
  simp only [W1, List.mem_cons, List.not_mem_nil, or_false] at hv
  rcases hv with rfl | rfl <;> exact ⟨_, rfl, by decide +kernel⟩
theorem good_W2 : ∀ v ∈ W2, ∃ u, v = V.str u ∧ PyData.strOk u = true := by
  intro v hv
  simp only [W2, List.mem_cons, List.not_mem_nil, or_false] at hv
  rcases hv with rfl | rfl | rfl <;> exact ⟨_, rfl, by decide +kernel⟩
theorem shaped_rules {w y c : Str} {n : Nat} (hw : WordIn w W0) (hy : WordIn y W1) (hc : WordIn c W2) (hn : n ≤ 8) : SeqAt.shaped (.tuple [.str w, .str y, .str c, .int (n : Int)]) = true := by
  have a := good_word hw good_W0
  have b := good_word hy good_W1
  have d := good_word hc good_W2
  unfold SeqAt.shaped
  rw [Bool.and_eq_true, decide_eq_true_eq]
  refine ⟨?_, ?_⟩
  · simp [PyData.canLay0, PyData.canLayAll0, a, b, d]
  · simp [PyData.depth, PyData.depthAll]
/-- two lists of tuples of the same words -/
theorem eqn_tups {H : Hp} {l m : Addr} {ts us : List Addr} {zss : List (List Str)} (hl : H l = some (.lst (ts.map V.ref))) (hm : H m = some (.lst (us.map V.ref))) (ht : TupsAt H ts zss) (hu : TupsAt H us zss) (hz : zss.length ≤ 2000) (hzz : ∀ z ∈ zss, z.length ≤ 2000) : Eqn H 2 (.ref l) (.ref m) := by
  refine .inr ⟨l, m, _, _, rfl, rfl, .inr ⟨hl, hm⟩, by rw [List.length_map, List.length_map, ht.1, hu.1], by rw [List.length_map, hu.1]; exact hz, fun i x y hx hy => ?_⟩
  obtain ⟨t, rfl, ht'⟩ := ref_at hx
  obtain ⟨u, rfl, hu'⟩ := ref_at hy
  have hi : i < zss.length := by rw [← ht.1]; exact lt_of_at ht'
  have ez : zss[i]? = some zss[i] := List.getElem?_eq_getElem hi
  have e1 := ht.2 i t _ ht' ez
  have e2 := hu.2 i u _ hu' ez
  refine .inr ⟨t, u, _, _, rfl, rfl, .inl ⟨e1, e2⟩, rfl, by rw [sV_len]; exact hzz _ (List.getElem_mem hi), fun j x y hx hy => ?_⟩
  rw [hx] at hy
  cases hy
  obtain ⟨z, rfl, _⟩ := sV_at hx
  exact ⟨rfl, rfl⟩
theorem dpAll_tups {K : PySem.W.Frag} {H : Hp} : ∀ {ts : List Addr} {zss : List (List Str)}, TupsAt H ts zss → DpAll K H (ts.map V.ref) (tD zss)
  | [], [], _ => .nil
  | [], _ :: _, h => by
    have := h.1
    simp at this
  | _ :: _, [], h => by
    have := h.1
    simp at this
  | t :: r, z :: zs, h => by
    refine .cons (.tup (SqT.of (h.2 0 t z rfl rfl)) (dpAll_str z)) (dpAll_tups ⟨by simpa using h.1, fun i u y a b => h.2 (i + 1) u y a b⟩)
theorem nf_same {K : PySem.W.Frag} {C : Addr} : PySem.W.notFirst K C (.ref C) = true := by
  unfold PySem.W.notFirst
  simp
/-- what stands between the steps of a turn -/
structure Wk (C : Addr) (H : Hp) (r p t l : Addr) (w y c : Str) (n : Nat) (zs : List (List Str)) : Prop where
  rnd : Rnd H r
  rul : RulAt C H p w y c (n : Int)
  tup : H t = some (.tup [.str w, .str y, .str c, .int (n : Int)])
  tl : TLAt H l zs
  lr : l ≠ r
section
variable {C : Addr} {H H' : Hp} {r p t l : Addr} {w y c : Str} {n : Nat} {zs : List (List Str)}
theorem Wk.keep (W : Wk C H r p t l w y c n zs) (f : Fr [] H H') : Wk C H' r p t l w y c n zs := ⟨W.rnd.keep f (by simp), W.rul.keep f (by simp), f _ _ W.tup (by simp), W.tl.keep f (by simp) (by simp), W.lr⟩
theorem Wk.new {a : Addr} {o : HO} (W : Wk C H r p t l w y c n zs) (h : H a = none) : Wk C (upd H a o) r p t l w y c n zs := W.keep (Fr.new h)
theorem Wk.draw (W : Wk C H r p t l w y c n zs) (f : Fr [r] H H') (R : Rnd H' r) : Wk C H' r p t l w y c n zs := by
  obtain ⟨a, b, ns, e⟩ := W.rnd
  refine ⟨R, W.rul.keep f fun h => ?_, f _ _ W.tup fun h => ?_, W.tl.keep f W.rnd.notup (by simpa using W.lr), W.lr⟩
  · obtain ⟨dx, e'⟩ := W.rul
    rw [List.mem_singleton.mp h, e] at e'
    cases e'
  · have e' := W.tup
    rw [List.mem_singleton.mp h, e] at e'
    cases e'
end
theorem same_bool (b : Bool) : (!decide (V.bl b = V.bl b)) = false := by simp
theorem next_bound {n : Nat} (hn : n ≤ 8) (w y c : Str) : (decide (V.str w = V.str w) && (decide (V.str y = V.str y) && (decide (V.str c = V.str c) && decide (V.int (n : Int) = V.int (((n : Int) + 1) % 9))))) = false := by
  have : ¬ (n : Int) = ((n : Int) + 1) % 9 := by omega
  simp [this]
theorem own_bound (n : Int) (w y c : Str) : (decide (V.str w = V.str w) && (decide (V.str y = V.str y) && (decide (V.str c = V.str c) && decide (V.int n = V.int n)))) = true := by simp
theorem four_of {α : Type} {xs : List α} (h : xs.length = 4) : ∃ a b c d, xs = [a, b, c, d] := by
  match xs, h with
  | [a, b, c, d], _ => exact ⟨a, b, c, d, rfl⟩
theorem iteFb {b : Bool} {A B : Prop} (e : b = false) (h : B) : if b = true then A else B := by
  rw [e]
  exact iteF h
theorem iteTb {b : Bool} {A B : Prop} (e : b = true) (h : A) : if b = true then A else B := by
  rw [e]
  exact iteT h
theorem RecAt.tups {C : Addr} {H : Hp} {p : Addr} {z : List (List Str)} (h : RecAt C H p z) : ∃ dx a b c d : Addr, H p = some (.ins C dx (qF (.ref a) (.ref b) (.ref c) (.ref d))) ∧ TupsAt H [a, b, c, d] z := by
  obtain ⟨dx, a, b, c, d, za, zb, zc, zd, rfl, hp, ha, hb, hc, hd, _⟩ := h
  exact ⟨dx, a, b, c, d, hp, TupsAt.four ha hb hc hd⟩
theorem pv_len {zs : List (List Str)} (pv : ∀ p z, zs[p]? = some z → PV (AS p) z) : ∀ z ∈ zs, z.length ≤ 2000 := fun z hz => by
  obtain ⟨i, hi⟩ := List.mem_iff_getElem?.mp hz
  have := (pv i z hi).1
  omega
theorem pv_good {zs : List (List Str)} (pv : ∀ p z, zs[p]? = some z → PV (AS p) z) : ∀ z ∈ zs, GoodW z := fun z hz => by
  obtain ⟨i, hi⟩ := List.mem_iff_getElem?.mp hz
  exact (pv i z hi).good
theorem pv_SAFE : ∀ p z, SAFE[p]? = some z → PV (AS p) z := fun p z h => by
  have hp : p < 4 := lt_of_at h
  have := pv_safe p hp
  rw [getD_of h] at this
  exact this
section
variable {P : Program} {w : World} {K : PySem.W.Frag} {mg : Str → Option Value} {base : Heap}
theorem ok_law {f : Addr} {fd : FuncData} (F : Fun K "law" "law" s_law f fd) (T : Gx K mg) : FnOk P w K mg base CX0 6 f fd ["_law_script"] (spLaw K) := by
  have G__law_random : FnOk P w K mg base CX0 1 T.f__law_random T.fd__law_random ["_law_script", "_law_salt"] (spRandom K) := ok_random T
  have G__law_rules : FnOk P w K mg base CX0 2 T.f__law_rules T.fd__law_rules ["_law_d", "_law_limit"] spRules := ok_rules T
  have G__law_recipes : FnOk P w K mg base CX0 4 T.f__law_recipes T.fd__law_recipes ["_law_d"] spRecipes := ok_recipes T
  have G_Rules___init__ : FnOk P w K mg base CX0 3 T.f_Rules___init__ T.fd_Rules___init__ ["self", "writing", "reading", "choice", "bound"] (spRInit T.C_Rules) := ok_rInit T
  have G_Rules___eq__ : FnOk P w K mg base CX0 1 T.f_Rules___eq__ T.fd_Rules___eq__ ["self", "other"] (spREq K T.C_Rules) := ok_rEq T
  have G_Rules_writing : FnOk P w K mg base CX0 1 T.f_Rules_writing T.fd_Rules_writing ["self"] (spGet T.C_Rules "_writing") := ok_writing T
  have G_Rules_reading : FnOk P w K mg base CX0 1 T.f_Rules_reading T.fd_Rules_reading ["self"] (spGet T.C_Rules "_reading") := ok_reading T
  have G_Rules_choice : FnOk P w K mg base CX0 1 T.f_Rules_choice T.fd_Rules_choice ["self"] (spGet T.C_Rules "_choice") := ok_choice T
  have G_Rules_bound : FnOk P w K mg base CX0 1 T.f_Rules_bound T.fd_Rules_bound ["self"] (spGet T.C_Rules "_bound") := ok_bound T
  have G_Recipes___init__ : FnOk P w K mg base CX0 2 T.f_Recipes___init__ T.fd_Recipes___init__ ["self", "through", "back", "around", "clean"] (spQInit T.C_Recipes) := ok_qInit T
  have G_Recipes___eq__ : FnOk P w K mg base CX0 1 T.f_Recipes___eq__ T.fd_Recipes___eq__ ["self", "other"] (spQEq K T.C_Recipes) := ok_qEq T
  have G_Recipes_through : FnOk P w K mg base CX0 1 T.f_Recipes_through T.fd_Recipes_through ["self"] (spGet T.C_Recipes "_through") := ok_qthrough T
  have G_Recipes_back : FnOk P w K mg base CX0 1 T.f_Recipes_back T.fd_Recipes_back ["self"] (spGet T.C_Recipes "_back") := ok_qback T
  have G_Recipes_around : FnOk P w K mg base CX0 1 T.f_Recipes_around T.fd_Recipes_around ["self"] (spGet T.C_Recipes "_around") := ok_qaround T
  have G_Recipes_clean : FnOk P w K mg base CX0 1 T.f_Recipes_clean T.fd_Recipes_clean ["self"] (spGet T.C_Recipes "_clean") := ok_qclean T
  have G_Recipes_safe : FnOk P w K mg base CX0 4 T.f_Recipes_safe T.fd_Recipes_safe ["cls"] (spSafeM T.C_Recipes) := ok_safeM T
  have G__law_safe : FnOk P w K mg base CX0 1 T.f__law_safe T.fd__law_safe [] spSafeL := ok_safeL T
  have G__law_equal : FnOk P w K mg base CX0 3 T.f__law_equal T.fd__law_equal ["_law_actual", "_law_expected"] (spEq 2) := ok_equal 2 T
  refine F.ok sc_law (fun vs H Q E h => ?_) (fun cdv A outer s H vs Q E hr h => ?_)
  · obtain ⟨a, ns, rfl, _⟩ := h
    rfl
  · obtain ⟨a, ns, rfl, hS, hlen, k⟩ := h
    refine ⟨_, (pss_cons (ps_set (i := 1) sc_law.nd rfl (.inl rfl) (pe_call G__law_random (hr.mono (by first | decide | omega)) (by rfl) T.g__law_random T.F__law_random.kp (b__law_random T) .nil pass0 (pa_cons (pv 0) (pa_cons pe_int pa_nil))))
      (pss_cons (ps_for PassesOwn.never rfl (pi_range1 (by rfl) T.z_range (pa_cons pe_int pa_nil)) (pg_name (i := 2) sc_law.nd rfl (.inl rfl)) (pss_cons (ps_par (i := 3) (j := 4) (by rfl) sc_law.nd rfl rfl (by decide) rfl rfl (pa_cons (pe_call G__law_rules (hr.mono (by first | decide | omega)) (by rfl) T.g__law_rules T.F__law_rules.kp (b__law_rules T) .nil pass0 (pa_cons (pv 1) (pa_cons pe_int pa_nil))) (pa_cons (pe_call G__law_recipes (hr.mono (by first | decide | omega)) (by rfl) T.g__law_recipes T.F__law_recipes.kp (b__law_recipes T) .nil pass0 (pa_cons (pv 1) pa_nil)) pa_nil)) (by rfl))
      (pss_cons (ps_set (i := 5) sc_law.nd rfl (.inl rfl) (pe_make T.M_Rules___init__ G_Rules___init__ (hr.mono (by first | decide | omega)) (by rfl) T.gC_Rules (b_Rules___init__ T) .nil pass0 (pa_cons (pe_ix ix_tup (pv 3) pe_int (fun _ _ => rfl)) (pa_cons (pe_ix ix_tup (pv 3) pe_int (fun _ _ => rfl)) (pa_cons (pe_ix ix_tup (pv 3) pe_int (fun _ _ => rfl)) (pa_cons (pe_ix ix_tup (pv 3) pe_int (fun _ _ => rfl)) pa_nil))))))
      (pss_cons (ps_if (pt_not (pt_val (pe_call G__law_equal (hr.mono (by first | decide | omega)) (by rfl) T.g__law_equal T.F__law_equal.kp (b__law_equal T) .nil pass0 (pa_cons (pe_lst (pa_cons (pe_prop (pv 5) T.cl_Rules T.P_Rules_writing G_Rules_writing (hr.mono (by first | decide | omega)) (b_Rules_writing T) .nil pass0 rfl) (pa_cons (pe_prop (pv 5) T.cl_Rules T.P_Rules_reading G_Rules_reading (hr.mono (by first | decide | omega)) (b_Rules_reading T) .nil pass0 rfl) (pa_cons (pe_prop (pv 5) T.cl_Rules T.P_Rules_choice G_Rules_choice (hr.mono (by first | decide | omega)) (b_Rules_choice T) .nil pass0 rfl) (pa_cons (pe_prop (pv 5) T.cl_Rules T.P_Rules_bound G_Rules_bound (hr.mono (by first | decide | omega)) (b_Rules_bound T) .nil pass0 rfl) pa_nil))))) (pa_cons (pe_callTy call_list_of (by rfl) T.z_list (by decide +kernel) (pa_cons (pv 3) pa_nil)) pa_nil))))) (pss_one (ps_ret pe_bl)) pss_nil)
      (pss_cons (ps_set (i := 6) sc_law.nd rfl (.inl rfl) (pe_call G__law_rules (hr.mono (by first | decide | omega)) (by rfl) T.g__law_rules T.F__law_rules.kp (b__law_rules T) .nil pass0 (pa_cons (pv 1) (pa_cons pe_int pa_nil))))
      (pss_cons (ps_set (i := 7) sc_law.nd rfl (.inl rfl) (pe_cmpR (op_oeq G_Rules___eq__ T.m_Rules___eq__ (b_Rules___eq__ T) pass0 (hr.mono (by first | decide | omega))) (pv 5) (pe_make T.M_Rules___init__ G_Rules___init__ (hr.mono (by first | decide | omega)) (by rfl) T.gC_Rules (b_Rules___init__ T) .nil pass0 (pa_cons (pe_ix ix_tup (pv 6) pe_int (fun _ _ => rfl)) (pa_cons (pe_ix ix_tup (pv 6) pe_int (fun _ _ => rfl)) (pa_cons (pe_ix ix_tup (pv 6) pe_int (fun _ _ => rfl)) (pa_cons (pe_ix ix_tup (pv 6) pe_int (fun _ _ => rfl)) pa_nil))))) (nomark _)))
      (pss_cons (ps_if (PW.pt (pw_or (pt_cmpR op_ne (pv 7) (pe_cmpR (op_eqD hr.units) (pv 3) (pv 6) (nomark _)) (nomark _)) (pw_or1 (pt_cmpR (op_oeq G_Rules___eq__ T.m_Rules___eq__ (b_Rules___eq__ T) pass0 (hr.mono (by first | decide | omega))) (pv 5) (pv 3) (nomark _))))) (pss_one (ps_ret pe_bl)) pss_nil)
      (pss_cons (ps_set (i := 8) sc_law.nd rfl (.inl rfl) (pe_make T.M_Rules___init__ G_Rules___init__ (hr.mono (by first | decide | omega)) (by rfl) T.gC_Rules (b_Rules___init__ T) .nil pass0 (pa_cons (pe_ix ix_tup (pv 3) pe_int (fun _ _ => rfl)) (pa_cons (pe_ix ix_tup (pv 3) pe_int (fun _ _ => rfl)) (pa_cons (pe_ix ix_tup (pv 3) pe_int (fun _ _ => rfl)) (pa_cons (pe_op op_mod (pe_callTy call_int1 (by rfl) T.z_int (by decide +kernel) (pa_cons (pe_op op_add (pe_ix ix_tup (pv 3) pe_int (fun _ _ => rfl)) pe_int) pa_nil)) pe_int) pa_nil))))))
      (pss_cons (ps_if (PW.pt (pw_or (pt_cmpR (op_oeq G_Rules___eq__ T.m_Rules___eq__ (b_Rules___eq__ T) pass0 (hr.mono (by first | decide | omega))) (pv 5) (pv 8) (nomark _)) (pw_or1 (pt_cmpR (op_one G_Rules___eq__ T.m_Rules___eq__ T.ne_Rules T.ob_Rules (b_Rules___eq__ T) pass0 (hr.mono (by first | decide | omega))) (pv 5) (pe_make T.M_Rules___init__ G_Rules___init__ (hr.mono (by first | decide | omega)) (by rfl) T.gC_Rules (b_Rules___init__ T) .nil pass0 (pa_cons (pe_ix ix_tup (pv 3) pe_int (fun _ _ => rfl)) (pa_cons (pe_ix ix_tup (pv 3) pe_int (fun _ _ => rfl)) (pa_cons (pe_ix ix_tup (pv 3) pe_int (fun _ _ => rfl)) (pa_cons (pe_ix ix_tup (pv 3) pe_int (fun _ _ => rfl)) pa_nil))))) (nomark _))))) (pss_one (ps_ret pe_bl)) pss_nil)
      (pss_cons (ps_set (i := 9) sc_law.nd rfl (.inl rfl) (pe_make T.M_Recipes___init__ G_Recipes___init__ (hr.mono (by first | decide | omega)) (by rfl) T.gC_Recipes (b_Recipes___init__ T) .nil pass0 (pa_cons (pe_ix ix_list (pv 4) pe_int (fun _ _ => rfl)) (pa_cons (pe_ix ix_list (pv 4) pe_int (fun _ _ => rfl)) (pa_cons (pe_ix ix_list (pv 4) pe_int (fun _ _ => rfl)) (pa_cons (pe_ix ix_list (pv 4) pe_int (fun _ _ => rfl)) pa_nil))))))
      (pss_cons (ps_if (pt_not (pt_val (pe_call G__law_equal (hr.mono (by first | decide | omega)) (by rfl) T.g__law_equal T.F__law_equal.kp (b__law_equal T) .nil pass0 (pa_cons (pe_lst (pa_cons (pe_prop (pv 9) T.cl_Recipes T.P_Recipes_through G_Recipes_through (hr.mono (by first | decide | omega)) (b_Recipes_through T) .nil pass0 rfl) (pa_cons (pe_prop (pv 9) T.cl_Recipes T.P_Recipes_back G_Recipes_back (hr.mono (by first | decide | omega)) (b_Recipes_back T) .nil pass0 rfl) (pa_cons (pe_prop (pv 9) T.cl_Recipes T.P_Recipes_around G_Recipes_around (hr.mono (by first | decide | omega)) (b_Recipes_around T) .nil pass0 rfl) (pa_cons (pe_prop (pv 9) T.cl_Recipes T.P_Recipes_clean G_Recipes_clean (hr.mono (by first | decide | omega)) (b_Recipes_clean T) .nil pass0 rfl) pa_nil))))) (pa_cons (pv 4) pa_nil))))) (pss_one (ps_ret pe_bl)) pss_nil)
      (pss_cons (ps_par (i := 10) (j := 11) (by rfl) sc_law.nd rfl rfl (by decide) rfl rfl (pa_cons (pe_cmeth0 (pe_glob (v := .ref T.C_Recipes) (by rfl) T.gC_Recipes rfl) T.R_Recipes_safe T.Y_Recipes_safe (G_Recipes_safe.raw (b_Recipes_safe T) .nil) (hr.mono (by first | decide | omega)) pass0) (pa_cons (pe_call0 G__law_safe (hr.mono (by first | decide | omega)) (by rfl) T.g__law_safe T.F__law_safe.kp (b__law_safe T) .nil pass0) pa_nil)) (by rfl))
      (pss_cons (ps_if (pt_not (pt_val (pe_call G__law_equal (hr.mono (by first | decide | omega)) (by rfl) T.g__law_equal T.F__law_equal.kp (b__law_equal T) .nil pass0 (pa_cons (pe_lst (pa_cons (pe_prop (pv 10) T.cl_Recipes T.P_Recipes_through G_Recipes_through (hr.mono (by first | decide | omega)) (b_Recipes_through T) .nil pass0 rfl) (pa_cons (pe_prop (pv 10) T.cl_Recipes T.P_Recipes_back G_Recipes_back (hr.mono (by first | decide | omega)) (b_Recipes_back T) .nil pass0 rfl) (pa_cons (pe_prop (pv 10) T.cl_Recipes T.P_Recipes_around G_Recipes_around (hr.mono (by first | decide | omega)) (b_Recipes_around T) .nil pass0 rfl) (pa_cons (pe_prop (pv 10) T.cl_Recipes T.P_Recipes_clean G_Recipes_clean (hr.mono (by first | decide | omega)) (b_Recipes_clean T) .nil pass0 rfl) pa_nil))))) (pa_cons (pv 11) pa_nil))))) (pss_one (ps_ret pe_bl)) pss_nil)
      (pss_cons (ps_if (pt_cmpR (op_oeq G_Recipes___eq__ T.m_Recipes___eq__ (b_Recipes___eq__ T) pass0 (hr.mono (by first | decide | omega))) (pv 9) (pv 4) (nomark _)) (pss_one (ps_ret pe_bl)) pss_nil)
      (pss_one (ps_if (PW.pt (pw_or (pt_cmpR op_ne (pe_cmpR (op_oeq G_Recipes___eq__ T.m_Recipes___eq__ (b_Recipes___eq__ T) pass0 (hr.mono (by first | decide | omega))) (pv 9) (pv 10) (nomark _)) (pe_cmpR (op_eqD hr.units) (pv 4) (pv 11) (nomark _)) (nomark _)) (pw_or (pt_cmpR (op_oeq G_Recipes___eq__ T.m_Recipes___eq__ (b_Recipes___eq__ T) pass0 (hr.mono (by first | decide | omega))) (pv 9) (pv 5) (nomark _)) (pw_or1 (pt_cmpR (op_one G_Recipes___eq__ T.m_Recipes___eq__ T.ne_Recipes T.ob_Recipes (b_Recipes___eq__ T) pass0 (hr.mono (by first | decide | omega))) (pv 10) (pe_cmeth0 (pe_glob (v := .ref T.C_Recipes) (by rfl) T.gC_Recipes rfl) T.R_Recipes_safe T.Y_Recipes_safe (G_Recipes_safe.raw (b_Recipes_safe T) .nil) (hr.mono (by first | decide | omega)) pass0) (nomark _)))))) (pss_one (ps_ret pe_bl)) pss_nil))))))))))))))))
      (pss_one (ps_ret pe_bl)))), ?_⟩
    refine ⟨_, rfl, a, 6, ns, rfl, hS, hlen, fun r H1 r0 f1 R1 => ?_⟩
    refine ⟨4, rfl, by omega, by omega, ?_⟩
    refine for_range (lo := 0) (n := 4) (fun i σ H' => Rnd H' r ∧ ∃ v2 v3 v4 v5 v6 v7 v8 v9 v10 v11 : Option V, σ = [some (.ref a), some (.ref r), v2, v3, v4, v5, v6, v7, v8, v9, v10, v11]) ⟨R1, none, none, none, none, none, none, none, none, none, none, rfl⟩ ?_ ?_
    · rintro i σ Hs hi ⟨Rs, v2, v3, v4, v5, v6, v7, v8, v9, v10, v11, rfl⟩
      -- parts, orders
      refine ⟨_, rfl, r, 8, rfl, Rs, by decide, fun t wo yo co n H2 ht f2 R2 e2 hw hy hc hn => ?_⟩
      refine ⟨_, rfl, r, rfl, R2, fun l zs H3 hl f3 R3 tl zl pv => ⟨_, _, rfl, ?_⟩⟩
      have tr : t ≠ r := fun e => by
        obtain ⟨c, d, ns, e'⟩ := R2
        rw [e, e'] at e2
        cases e2
      have e3 := f3 _ _ e2 (by simpa using tr)
      -- rules_here
      refine ⟨_, rfl, t, _, 0, _, rfl, rfl, SqT.of e3, atI_nat (j := 0) rfl, ?_⟩
      refine ⟨_, rfl, t, _, 1, _, rfl, rfl, SqT.of e3, atI_nat (j := 1) rfl, ?_⟩
      refine ⟨_, rfl, t, _, 2, _, rfl, rfl, SqT.of e3, atI_nat (j := 2) rfl, ?_⟩
      refine ⟨_, rfl, t, _, 3, _, rfl, rfl, SqT.of e3, atI_nat (j := 3) rfl, ?_⟩
      refine fun p dx hp hdx hpd => mk_rules (n := (n : Int)) hp hdx hpd hw hy hc (by omega) (by omega) fun H4 f4 ra => ⟨rfl, ?_⟩
      have lr : l ≠ r := fun e => by
        obtain ⟨c, d, ns, e'⟩ := R2
        rw [e, e'] at hl
        cases hl
      have W4 : Wk T.C_Rules H4 r p t l wo yo co n zs := ⟨R3.keep f4 (by simp), ra, f4 _ _ e3 (by simp), tl.keep f4 (by simp) (by simp), lr⟩
      -- equal: its parts
      obtain ⟨dxp, ep⟩ := W4.rul
      refine ⟨_, rfl, p, dxp, _, rfl, ep, p, dxp, _, _, rfl, ep, rF_get0, ?_⟩
      refine ⟨_, rfl, p, dxp, _, rfl, ep, p, dxp, _, _, rfl, ep, rF_get1, ?_⟩
      refine ⟨_, rfl, p, dxp, _, rfl, ep, p, dxp, _, _, rfl, ep, rF_get2, ?_⟩
      refine ⟨_, rfl, p, dxp, _, rfl, ep, p, dxp, _, _, rfl, ep, rF_get3, ?_⟩
      refine ⟨sz_le (by simp), fun q hq => ?_⟩
      have W4' := W4.new (o := .lst [.str wo, .str yo, .str co, .int (n : Int)]) hq
      refine ⟨_, rfl, t, _, rfl, .inr (SqT.of W4'.tup), fun q2 hq2 => ?_⟩
      refine ⟨.ref q, .ref q2, rfl, .inr ⟨q, q2, _, _, rfl, rfl, .inr ⟨(upd_ne (free_upd hq2).2.symm).trans upd_same, upd_same⟩, rfl, by simp, Eqn.same fun v hv => Eqn.flat (by simp only [List.mem_cons, List.not_mem_nil, or_false] at hv; rcases hv with rfl | rfl | rfl | rfl <;> rfl) 1⟩, fun H5 f5 => ⟨_, rfl, iteF ?_⟩⟩
      have W5 : Wk T.C_Rules H5 r p t l wo yo co n zs := (W4'.new hq2).keep f5
      -- other rules
      refine ⟨_, rfl, r, 1, rfl, W5.rnd, by decide, fun t2 w2 y2 c2 n2 H6 ht2 f6 R6 e6 hw2 hy2 hc2 hn2 => ?_⟩
      have W6 := W5.draw f6 R6
      refine ⟨_, rfl, ?_⟩
      refine ⟨_, rfl, t2, _, 0, _, rfl, rfl, SqT.of e6, atI_nat (j := 0) rfl, ?_⟩
      refine ⟨_, rfl, t2, _, 1, _, rfl, rfl, SqT.of e6, atI_nat (j := 1) rfl, ?_⟩
      refine ⟨_, rfl, t2, _, 2, _, rfl, rfl, SqT.of e6, atI_nat (j := 2) rfl, ?_⟩
      refine ⟨_, rfl, t2, _, 3, _, rfl, rfl, SqT.of e6, atI_nat (j := 3) rfl, ?_⟩
      refine fun p2 dx2 hp2 hdx2 hpd2 => mk_rules (n := (n2 : Int)) hp2 hdx2 hpd2 hw2 hy2 hc2 (by omega) (by omega) fun H7 f7 rb => ⟨rfl, ?_⟩
      have W7 := W6.keep f7
      have e7 := f7 _ _ e6 (by simp)
      obtain ⟨dxb, eb⟩ := rb
      obtain ⟨dxp7, ep7⟩ := W7.rul
      refine ⟨p, dxp7, _, .ref T.C_Rules, rfl, ep7, .inl (tyx_ins T eb), nf_same, p, dxp7, wo, yo, co, (n : Int), .ref p2, rfl, ep7, .inl ⟨p2, dxb, w2, y2, c2, (n2 : Int), rfl, eb, ⟨_, rfl, ?_⟩⟩⟩
      -- is_same
      refine ⟨_, rfl, _, rfl, _, rfl, .tuple [.str wo, .str yo, .str co, .int (n : Int)], .tuple [.str w2, .str y2, .str c2, .int (n2 : Int)], .tup (SqT.of W7.tup) (.cons (.str _) (.cons (.str _) (.cons (.str _) (.cons (.int _) .nil)))), .tup (SqT.of e7) (.cons (.str _) (.cons (.str _) (.cons (.str _) (.cons (.int _) .nil)))), shaped_rules hw hy hc hn, shaped_rules hw2 hy2 hc2 (by omega), rfl, _, rfl, ?_⟩
      rw [eqv_rules]
      have kit1 := kit_own T.isc_Rules T.tyc_Rules T.sub_Rules_tuple (fun e => absurd e (by simp))
      refine iteFb (same_bool _) ?_
      refine ⟨_, rfl, _, rfl, p, dxp7, _, .type "tuple", rfl, ep7, .inl (.base (.tup W7.tup)), T.nf_Rules_tuple, p, dxp7, wo, yo, co, (n : Int), .ref t, rfl, ep7, .inr ⟨.type "tuple", .base (.tup W7.tup), kit1, ⟨_, rfl, _, rfl, iteF ?_⟩⟩⟩
      -- last
      refine ⟨_, rfl, t, _, 0, _, rfl, rfl, SqT.of W7.tup, atI_nat (j := 0) rfl, ?_⟩
      refine ⟨_, rfl, t, _, 1, _, rfl, rfl, SqT.of W7.tup, atI_nat (j := 1) rfl, ?_⟩
      refine ⟨_, rfl, t, _, 2, _, rfl, rfl, SqT.of W7.tup, atI_nat (j := 2) rfl, ?_⟩
      refine ⟨_, rfl, t, _, 3, _, rfl, rfl, SqT.of W7.tup, atI_nat (j := 3) rfl, _, _, rfl, rfl, .inl ⟨_, rfl, _, _, rfl, rfl, (by show (0 : Int) < 9; decide), ?_⟩⟩
      refine fun p3 dx3 hp3 hdx3 hpd3 => mk_rules (n := ((n : Int) + 1) % 9) hp3 hdx3 hpd3 hw hy hc (by omega) (by omega) fun H8 f8 rc => ⟨rfl, ?_⟩
      have W8 := W7.keep f8
      obtain ⟨dxc, ec⟩ := rc
      obtain ⟨dxp8, ep8⟩ := W8.rul
      refine ⟨_, rfl, _, rfl, p, dxp8, _, .ref T.C_Rules, rfl, ep8, .inl (tyx_ins T ec), nf_same, p, dxp8, wo, yo, co, (n : Int), .ref p3, rfl, ep8, .inl ⟨p3, dxc, wo, yo, co, _, rfl, ec, ⟨_, rfl, _, rfl, ?_⟩⟩⟩
      refine iteFb (next_bound hn wo yo co) ?_
      refine ⟨_, rfl, ?_⟩
      refine ⟨_, rfl, t, _, 0, _, rfl, rfl, SqT.of W8.tup, atI_nat (j := 0) rfl, ?_⟩
      refine ⟨_, rfl, t, _, 1, _, rfl, rfl, SqT.of W8.tup, atI_nat (j := 1) rfl, ?_⟩
      refine ⟨_, rfl, t, _, 2, _, rfl, rfl, SqT.of W8.tup, atI_nat (j := 2) rfl, ?_⟩
      refine ⟨_, rfl, t, _, 3, _, rfl, rfl, SqT.of W8.tup, atI_nat (j := 3) rfl, ?_⟩
      refine fun p4 dx4 hp4 hdx4 hpd4 => mk_rules (n := (n : Int)) hp4 hdx4 hpd4 hw hy hc (by omega) (by omega) fun H9 f9 rd => ⟨rfl, ?_⟩
      have W9 := W8.keep f9
      obtain ⟨dxd, ed⟩ := rd
      obtain ⟨dxp9, ep9⟩ := W9.rul
      refine ⟨p, dxp9, _, .ref T.C_Rules, rfl, ep9, .inl (tyx_ins T ed), nf_same, p, dxp9, wo, yo, co, (n : Int), .ref p4, rfl, ep9, .inl ⟨p4, dxd, wo, yo, co, _, rfl, ed, ⟨_, rfl, _, rfl, ?_⟩⟩⟩
      refine iteFb (by rw [own_bound]; rfl) ?_
      -- told
      obtain ⟨za, zb, zc, zd, rfl⟩ := four_of zl
      obtain ⟨ts, el, tt⟩ := W9.tl
      obtain ⟨ta, tb, tc, td, rfl⟩ := four_of (show ts.length = 4 from tt.1)
      have ea := tt.2 0 _ _ rfl rfl
      have eb' := tt.2 1 _ _ rfl rfl
      have ec' := tt.2 2 _ _ rfl rfl
      have ed' := tt.2 3 _ _ rfl rfl
      refine ⟨_, rfl, l, _, 0, _, rfl, rfl, SqL.of el, atI_nat (j := 0) rfl, ?_⟩
      refine ⟨_, rfl, l, _, 1, _, rfl, rfl, SqL.of el, atI_nat (j := 1) rfl, ?_⟩
      refine ⟨_, rfl, l, _, 2, _, rfl, rfl, SqL.of el, atI_nat (j := 2) rfl, ?_⟩
      refine ⟨_, rfl, l, _, 3, _, rfl, rfl, SqL.of el, atI_nat (j := 3) rfl, ?_⟩
      refine fun p5 dx5 hp5 hdx5 hpd5 => mk_rec hp5 hdx5 hpd5 ea eb' ec' ed' (pv 0 za rfl) (pv 1 zb rfl) (pv 2 zc rfl) (pv 3 zd rfl) fun HA fA qa => ⟨rfl, ?_⟩
      have WA := W9.keep fA
      -- equal: its recipes
      obtain ⟨dxq, qa1, qb1, qc1, qd1, eq, qt⟩ := qa.tups
      refine ⟨_, rfl, p5, dxq, _, rfl, eq, p5, dxq, _, _, rfl, eq, qF_get0, ?_⟩
      refine ⟨_, rfl, p5, dxq, _, rfl, eq, p5, dxq, _, _, rfl, eq, qF_get1, ?_⟩
      refine ⟨_, rfl, p5, dxq, _, rfl, eq, p5, dxq, _, _, rfl, eq, qF_get2, ?_⟩
      refine ⟨_, rfl, p5, dxq, _, rfl, eq, p5, dxq, _, _, rfl, eq, qF_get3, ?_⟩
      refine ⟨sz_le (by simp), fun q6 hq6 => ?_⟩
      obtain ⟨tsA, elA, ttA⟩ := (WA.new (o := .lst [.ref qa1, .ref qb1, .ref qc1, .ref qd1]) hq6).tl
      refine ⟨_, rfl, .ref q6, .ref l, rfl, eqn_tups (ts := [qa1, qb1, qc1, qd1]) upd_same elA (qt.keep (S := []) (Fr.new hq6) (by simp)) ttA (by simp) (pv_len pv), fun HB fB => ⟨_, rfl, iteF ?_⟩⟩
      have WB := (WA.new hq6).keep fB
      have qB := (qa.keep (S := []) (Fr.new (o := .lst [.ref qa1, .ref qb1, .ref qc1, .ref qd1]) hq6) (by simp)).keep fB (by simp)
      -- safe_here, more
      refine ⟨rfl, ⟨rfl, fun p6 HC hp6 fC qs => ?_⟩⟩
      refine ⟨rfl, fun l2 HD hl2 fD tl2 => ⟨_, _, rfl, ?_⟩⟩
      have WD := (WB.keep fC).keep fD
      have qD := (qB.keep fC (by simp)).keep fD (by simp)
      have qsD := qs.keep fD (by simp)
      obtain ⟨dxs, sa1, sb1, sc1, sd1, es, st⟩ := qsD.tups
      refine ⟨_, rfl, p6, dxs, _, rfl, es, p6, dxs, _, _, rfl, es, qF_get0, ?_⟩
      refine ⟨_, rfl, p6, dxs, _, rfl, es, p6, dxs, _, _, rfl, es, qF_get1, ?_⟩
      refine ⟨_, rfl, p6, dxs, _, rfl, es, p6, dxs, _, _, rfl, es, qF_get2, ?_⟩
      refine ⟨_, rfl, p6, dxs, _, rfl, es, p6, dxs, _, _, rfl, es, qF_get3, ?_⟩
      refine ⟨sz_le (by simp), fun q7 hq7 => ?_⟩
      have f77 : Fr [] HD (upd HD q7 (.lst [.ref sa1, .ref sb1, .ref sc1, .ref sd1])) := Fr.new hq7
      obtain ⟨us, elS, ttS⟩ := tl2.keep f77 (by simp) (by simp)
      refine ⟨_, rfl, .ref q7, .ref l2, rfl, eqn_tups (ts := [sa1, sb1, sc1, sd1]) upd_same elS (st.keep f77 (by simp)) ttS (by decide) (pv_len pv_SAFE), fun HE fE => ⟨_, rfl, iteF ?_⟩⟩
      have WE := (WD.keep f77).keep fE
      have qE := (qD.keep f77 (by simp)).keep fE (by simp)
      have qsE := (qsD.keep f77 (by simp)).keep fE (by simp)
      have tlE := (tl2.keep f77 (by simp) (by simp)).keep fE (by simp) (by simp)
      obtain ⟨dxE, _, _, _, _, eqE, _⟩ := qE.tups
      obtain ⟨dxS, _, _, _, _, esE, _⟩ := qsE.tups
      obtain ⟨tsE, elE, ttE⟩ := WE.tl
      obtain ⟨usE, emE, tuE⟩ := tlE
      -- told is no list
      have kit2 := kit_own T.isc_Recipes T.tyc_Recipes T.sub_Recipes_list (fun e => absurd e (by simp))
      refine ⟨_, rfl, _, rfl, p5, dxE, _, .type "list", rfl, eqE, .inl (.base (.lst elE)), T.nf_Recipes_list, p5, _, .ref l, rfl, qE, .inr ⟨.type "list", .base (.lst elE), kit2, ⟨_, rfl, _, rfl, iteF ?_⟩⟩⟩
      refine ⟨_, rfl, _, rfl, p5, dxE, _, .ref T.C_Recipes, rfl, eqE, .inl (tyx_rec T esE), nf_same, p5, _, .ref p6, rfl, qE, .inl ⟨p6, SAFE, rfl, qsE, ⟨_, rfl, ?_⟩⟩⟩
      refine ⟨_, rfl, _, rfl, .list (tD [za, zb, zc, zd]), .list (tD SAFE), .lst (SqL.of elE) (dpAll_tups ttE), .lst (SqL.of emE) (dpAll_tups tuE), shaped_tD (pv_good pv), shaped_tD (pv_good pv_SAFE), rfl, _, rfl, ?_⟩
      rw [eqvL_tD]
      refine iteFb (same_bool _) ?_
      obtain ⟨dxr, er⟩ := WE.rul
      have kit3 := kit_own T.isc_Recipes T.tyc_Recipes T.sub_Rules_Recipes (fun e => by
        have e' : T.C_Rules = T.C_Recipes := by simpa using e
        have h := T.sub_Rules_Recipes
        rw [← e', T.sub_Rules] at h
        cases h)
      refine ⟨_, rfl, _, rfl, p5, dxE, _, .ref T.C_Rules, rfl, eqE, .inl (tyx_ins T er), T.nf_Recipes_Rules, p5, _, .ref p, rfl, qE, .inr ⟨.ref T.C_Rules, tyx_ins T er, kit3, ⟨_, rfl, _, rfl, iteF ?_⟩⟩⟩
      refine ⟨_, rfl, rfl, ⟨rfl, fun p7 HF hp7 fF qs2 => ?_⟩⟩
      have qsF := qsE.keep fF (by simp)
      obtain ⟨dxF, _, _, _, _, esF, _⟩ := qsF.tups
      obtain ⟨dxG, _, _, _, _, esG, _⟩ := qs2.tups
      refine ⟨p6, dxF, _, .ref T.C_Recipes, rfl, esF, .inl (tyx_rec T esG), nf_same, p6, _, .ref p7, rfl, qsF, .inl ⟨p7, SAFE, rfl, qs2, ⟨_, rfl, _, rfl, ?_⟩⟩⟩
      refine iteFb (by rw [decide_eq_true rfl]; rfl) ?_
      exact ⟨(WE.keep fF).rnd, _, _, _, _, _, _, _, _, _, _, rfl⟩
    · rintro σ H' ⟨R', v2, v3, v4, v5, v6, v7, v8, v9, v10, v11, rfl⟩
      exact k _
end
theorem all_mk {l : PySem.W.OpenLaw} {w : World} {K : PySem.W.Frag} {h : Heap} {mg : Str → Option Value} {fa C_Rules C_Recipes f_is_number f_is_number_from f_Rules___init__ f_Rules___eq__ f_Rules_writing p_Rules_writing f_Rules_reading p_Rules_reading f_Rules_choice p_Rules_choice f_Rules_bound p_Rules_bound f_Recipes___init__ f_Recipes___eq__ f_Recipes_through p_Recipes_through f_Recipes_back p_Recipes_back f_Recipes_around p_Recipes_around f_Recipes_clean p_Recipes_clean f_Recipes_safe p_Recipes_safe f__invalid_place f__law_random f__law_below f__law_rules f__law_safe f__law_shuffled f__law_recipe f__law_recipes f__law_equal f_law A_RULE_WORDS_0 A_RULE_WORDS_1 A_RULE_WORDS_2 A_RULE_WORDS A_WRITE_STEPS A_CLEAN_STEPS A_SYNC_STEPS : Addr} (X : K.In h) (G : h.Ns mainGlobals mg) (hfa : mg "law" = some (.ref fa))
    {od_is_number an_is_number od_is_number_from an_is_number_from od_Rules___init__ an_Rules___init__ od_Rules___eq__ an_Rules___eq__ od_Rules_writing an_Rules_writing od_Rules_reading an_Rules_reading od_Rules_choice an_Rules_choice od_Rules_bound an_Rules_bound od_Recipes___init__ an_Recipes___init__ od_Recipes___eq__ an_Recipes___eq__ od_Recipes_through an_Recipes_through od_Recipes_back an_Recipes_back od_Recipes_around an_Recipes_around od_Recipes_clean an_Recipes_clean od_Recipes_safe an_Recipes_safe od__invalid_place an__invalid_place od__law_random an__law_random od__law_below an__law_below od__law_rules an__law_rules od__law_safe an__law_safe od__law_shuffled an__law_shuffled od__law_recipe an__law_recipe od__law_recipes an__law_recipes od__law_equal an__law_equal od_law an_law od_RULE_WORDS_0 od_RULE_WORDS_1 od_RULE_WORDS_2 od_RULE_WORDS od_WRITE_STEPS od_CLEAN_STEPS od_SYNC_STEPS : Option Addr} {sl_is_number sl_is_number_from sl_Rules___init__ sl_Rules___eq__ sl_Rules_writing sl_Rules_reading sl_Rules_choice sl_Rules_bound sl_Recipes___init__ sl_Recipes___eq__ sl_Recipes_through sl_Recipes_back sl_Recipes_around sl_Recipes_clean sl_Recipes_safe sl__invalid_place sl__law_random sl__law_below sl__law_rules sl__law_safe sl__law_shuffled sl__law_recipe sl__law_recipes sl__law_equal sl_law sl_RULE_WORDS_0 sl_RULE_WORDS_1 sl_RULE_WORDS_2 sl_RULE_WORDS sl_WRITE_STEPS sl_CLEAN_STEPS sl_SYNC_STEPS : Array (Option Value)} {oc_is_number dc_is_number pm_is_number cd_is_number ct_is_number kV_is_number oc_is_number_from dc_is_number_from pm_is_number_from cd_is_number_from ct_is_number_from kV_is_number_from oc_Rules___init__ dc_Rules___init__ pm_Rules___init__ cd_Rules___init__ ct_Rules___init__ kV_Rules___init__ oc_Rules___eq__ dc_Rules___eq__ pm_Rules___eq__ cd_Rules___eq__ ct_Rules___eq__ kV_Rules___eq__ oc_Rules_writing dc_Rules_writing pm_Rules_writing cd_Rules_writing ct_Rules_writing kV_Rules_writing oc_Rules_reading dc_Rules_reading pm_Rules_reading cd_Rules_reading ct_Rules_reading kV_Rules_reading oc_Rules_choice dc_Rules_choice pm_Rules_choice cd_Rules_choice ct_Rules_choice kV_Rules_choice oc_Rules_bound dc_Rules_bound pm_Rules_bound cd_Rules_bound ct_Rules_bound kV_Rules_bound oc_Recipes___init__ dc_Recipes___init__ pm_Recipes___init__ cd_Recipes___init__ ct_Recipes___init__ kV_Recipes___init__ oc_Recipes___eq__ dc_Recipes___eq__ pm_Recipes___eq__ cd_Recipes___eq__ ct_Recipes___eq__ kV_Recipes___eq__ oc_Recipes_through dc_Recipes_through pm_Recipes_through cd_Recipes_through ct_Recipes_through kV_Recipes_through oc_Recipes_back dc_Recipes_back pm_Recipes_back cd_Recipes_back ct_Recipes_back kV_Recipes_back oc_Recipes_around dc_Recipes_around pm_Recipes_around cd_Recipes_around ct_Recipes_around kV_Recipes_around oc_Recipes_clean dc_Recipes_clean pm_Recipes_clean cd_Recipes_clean ct_Recipes_clean kV_Recipes_clean oc_Recipes_safe dc_Recipes_safe pm_Recipes_safe cd_Recipes_safe ct_Recipes_safe kV_Recipes_safe oc__invalid_place dc__invalid_place pm__invalid_place cd__invalid_place ct__invalid_place kV__invalid_place oc__law_random dc__law_random pm__law_random cd__law_random ct__law_random kV__law_random oc__law_below dc__law_below pm__law_below cd__law_below ct__law_below kV__law_below oc__law_rules dc__law_rules pm__law_rules cd__law_rules ct__law_rules kV__law_rules oc__law_safe dc__law_safe pm__law_safe cd__law_safe ct__law_safe kV__law_safe oc__law_shuffled dc__law_shuffled pm__law_shuffled cd__law_shuffled ct__law_shuffled kV__law_shuffled oc__law_recipe dc__law_recipe pm__law_recipe cd__law_recipe ct__law_recipe kV__law_recipe oc__law_recipes dc__law_recipes pm__law_recipes cd__law_recipes ct__law_recipes kV__law_recipes oc__law_equal dc__law_equal pm__law_equal cd__law_equal ct__law_equal kV__law_equal oc_law dc_law pm_law cd_law ct_law kV_law : Value} {t_BOUND_PART t_MOST_BOUND t_MOST_STEPS : Tok}
    (aC_Rules : PySem.W.nsIn K mainGlobals "Rules" = some (some (.ref C_Rules)))
    (pg_Rules : PySem.W.plainGet K C_Rules Str.empty = true) (hd_Rules : PySem.W.hasDictIn K C_Rules = true) (po_Rules : PySem.W.plainOver K C_Rules = true) (sa_Rules : PySem.W.findIn K (.ref C_Rules) "__setattr__" = some (some (.builtin "object.__setattr__")))
    (n_Rules__writing : PySem.W.findIn K (.ref C_Rules) "_writing" = some none)
    (n_Rules__reading : PySem.W.findIn K (.ref C_Rules) "_reading" = some none)
    (n_Rules__choice : PySem.W.findIn K (.ref C_Rules) "_choice" = some none)
    (n_Rules__bound : PySem.W.findIn K (.ref C_Rules) "_bound" = some none)
    (aC_Recipes : PySem.W.nsIn K mainGlobals "Recipes" = some (some (.ref C_Recipes)))
    (pg_Recipes : PySem.W.plainGet K C_Recipes Str.empty = true) (hd_Recipes : PySem.W.hasDictIn K C_Recipes = true) (po_Recipes : PySem.W.plainOver K C_Recipes = true) (sa_Recipes : PySem.W.findIn K (.ref C_Recipes) "__setattr__" = some (some (.builtin "object.__setattr__")))
    (n_Recipes__through : PySem.W.findIn K (.ref C_Recipes) "_through" = some none)
    (n_Recipes__back : PySem.W.findIn K (.ref C_Recipes) "_back" = some none)
    (n_Recipes__around : PySem.W.findIn K (.ref C_Recipes) "_around" = some none)
    (n_Recipes__clean : PySem.W.findIn K (.ref C_Recipes) "_clean" = some none)
    (a_is_number : PySem.W.nsIn K mainGlobals "is_number" = some (some (.ref f_is_number)))
    (l_is_number : K.lookup f_is_number = some ⟨oc_is_number, od_is_number, .func (PySem.W.fnOf "is_number" "is_number" (defArgs s_is_number) (defBody s_is_number) (defScope s_is_number) .none kV_is_number dc_is_number pm_is_number an_is_number cd_is_number ct_is_number), sl_is_number⟩) (c_is_number : PySem.W.codeIn K cd_is_number "is_number" = true) (k_is_number : PySem.W.keepIn K (.ref f_is_number) = true)
    (a_is_number_from : PySem.W.nsIn K mainGlobals "is_number_from" = some (some (.ref f_is_number_from)))
    (l_is_number_from : K.lookup f_is_number_from = some ⟨oc_is_number_from, od_is_number_from, .func (PySem.W.fnOf "is_number_from" "is_number_from" (defArgs s_is_number_from) (defBody s_is_number_from) (defScope s_is_number_from) .none kV_is_number_from dc_is_number_from pm_is_number_from an_is_number_from cd_is_number_from ct_is_number_from), sl_is_number_from⟩) (c_is_number_from : PySem.W.codeIn K cd_is_number_from "is_number_from" = true) (k_is_number_from : PySem.W.keepIn K (.ref f_is_number_from) = true)
    (a_Rules___init__ : PySem.W.findIn K (.ref C_Rules) "__init__" = some (some (.ref f_Rules___init__))) (i_Rules___init__ : PySem.W.isFn K (.ref f_Rules___init__) = true) (mk_Rules___init__ : PySem.W.makesIn K C_Rules = true) (kc_Rules___init__ : PySem.W.keepIn K (.ref C_Rules) = true)
    (l_Rules___init__ : K.lookup f_Rules___init__ = some ⟨oc_Rules___init__, od_Rules___init__, .func (PySem.W.fnOf "__init__" "Rules.__init__" (defArgs s_Rules___init__) (defBody s_Rules___init__) (defScope s_Rules___init__) .none kV_Rules___init__ dc_Rules___init__ pm_Rules___init__ an_Rules___init__ cd_Rules___init__ ct_Rules___init__), sl_Rules___init__⟩) (c_Rules___init__ : PySem.W.codeIn K cd_Rules___init__ "Rules.__init__" = true) (k_Rules___init__ : PySem.W.keepIn K (.ref f_Rules___init__) = true)
    (a_Rules___eq__ : PySem.W.findIn K (.ref C_Rules) "__eq__" = some (some (.ref f_Rules___eq__))) (i_Rules___eq__ : PySem.W.isFn K (.ref f_Rules___eq__) = true)
    (l_Rules___eq__ : K.lookup f_Rules___eq__ = some ⟨oc_Rules___eq__, od_Rules___eq__, .func (PySem.W.fnOf "__eq__" "Rules.__eq__" (defArgs s_Rules___eq__) (defBody s_Rules___eq__) (defScope s_Rules___eq__) .none kV_Rules___eq__ dc_Rules___eq__ pm_Rules___eq__ an_Rules___eq__ cd_Rules___eq__ ct_Rules___eq__), sl_Rules___eq__⟩) (c_Rules___eq__ : PySem.W.codeIn K cd_Rules___eq__ "Rules.__eq__" = true) (k_Rules___eq__ : PySem.W.keepIn K (.ref f_Rules___eq__) = true)
    {rest_Rules_writing : List Value} (a_Rules_writing : PySem.W.findIn K (.ref C_Rules) "writing" = some (some (.ref p_Rules_writing))) (ge_Rules_writing : PySem.W.specialIn K (.ref p_Rules_writing) "__get__" = some (some (.builtin "property.__get__"))) (tk_Rules_writing : PySem.W.takesIn K (.ref p_Rules_writing) = some true) (rc_Rules_writing : PySem.W.recIn K p_Rules_writing "property" = some (.ref f_Rules_writing :: rest_Rules_writing))
    (l_Rules_writing : K.lookup f_Rules_writing = some ⟨oc_Rules_writing, od_Rules_writing, .func (PySem.W.fnOf "writing" "Rules.writing" (defArgs s_Rules_writing) (defBody s_Rules_writing) (defScope s_Rules_writing) .none kV_Rules_writing dc_Rules_writing pm_Rules_writing an_Rules_writing cd_Rules_writing ct_Rules_writing), sl_Rules_writing⟩) (c_Rules_writing : PySem.W.codeIn K cd_Rules_writing "Rules.writing" = true) (k_Rules_writing : PySem.W.keepIn K (.ref f_Rules_writing) = true)
    {rest_Rules_reading : List Value} (a_Rules_reading : PySem.W.findIn K (.ref C_Rules) "reading" = some (some (.ref p_Rules_reading))) (ge_Rules_reading : PySem.W.specialIn K (.ref p_Rules_reading) "__get__" = some (some (.builtin "property.__get__"))) (tk_Rules_reading : PySem.W.takesIn K (.ref p_Rules_reading) = some true) (rc_Rules_reading : PySem.W.recIn K p_Rules_reading "property" = some (.ref f_Rules_reading :: rest_Rules_reading))
    (l_Rules_reading : K.lookup f_Rules_reading = some ⟨oc_Rules_reading, od_Rules_reading, .func (PySem.W.fnOf "reading" "Rules.reading" (defArgs s_Rules_reading) (defBody s_Rules_reading) (defScope s_Rules_reading) .none kV_Rules_reading dc_Rules_reading pm_Rules_reading an_Rules_reading cd_Rules_reading ct_Rules_reading), sl_Rules_reading⟩) (c_Rules_reading : PySem.W.codeIn K cd_Rules_reading "Rules.reading" = true) (k_Rules_reading : PySem.W.keepIn K (.ref f_Rules_reading) = true)
    {rest_Rules_choice : List Value} (a_Rules_choice : PySem.W.findIn K (.ref C_Rules) "choice" = some (some (.ref p_Rules_choice))) (ge_Rules_choice : PySem.W.specialIn K (.ref p_Rules_choice) "__get__" = some (some (.builtin "property.__get__"))) (tk_Rules_choice : PySem.W.takesIn K (.ref p_Rules_choice) = some true) (rc_Rules_choice : PySem.W.recIn K p_Rules_choice "property" = some (.ref f_Rules_choice :: rest_Rules_choice))
    (l_Rules_choice : K.lookup f_Rules_choice = some ⟨oc_Rules_choice, od_Rules_choice, .func (PySem.W.fnOf "choice" "Rules.choice" (defArgs s_Rules_choice) (defBody s_Rules_choice) (defScope s_Rules_choice) .none kV_Rules_choice dc_Rules_choice pm_Rules_choice an_Rules_choice cd_Rules_choice ct_Rules_choice), sl_Rules_choice⟩) (c_Rules_choice : PySem.W.codeIn K cd_Rules_choice "Rules.choice" = true) (k_Rules_choice : PySem.W.keepIn K (.ref f_Rules_choice) = true)
    {rest_Rules_bound : List Value} (a_Rules_bound : PySem.W.findIn K (.ref C_Rules) "bound" = some (some (.ref p_Rules_bound))) (ge_Rules_bound : PySem.W.specialIn K (.ref p_Rules_bound) "__get__" = some (some (.builtin "property.__get__"))) (tk_Rules_bound : PySem.W.takesIn K (.ref p_Rules_bound) = some true) (rc_Rules_bound : PySem.W.recIn K p_Rules_bound "property" = some (.ref f_Rules_bound :: rest_Rules_bound))
    (l_Rules_bound : K.lookup f_Rules_bound = some ⟨oc_Rules_bound, od_Rules_bound, .func (PySem.W.fnOf "bound" "Rules.bound" (defArgs s_Rules_bound) (defBody s_Rules_bound) (defScope s_Rules_bound) .none kV_Rules_bound dc_Rules_bound pm_Rules_bound an_Rules_bound cd_Rules_bound ct_Rules_bound), sl_Rules_bound⟩) (c_Rules_bound : PySem.W.codeIn K cd_Rules_bound "Rules.bound" = true) (k_Rules_bound : PySem.W.keepIn K (.ref f_Rules_bound) = true)
    (a_Recipes___init__ : PySem.W.findIn K (.ref C_Recipes) "__init__" = some (some (.ref f_Recipes___init__))) (i_Recipes___init__ : PySem.W.isFn K (.ref f_Recipes___init__) = true) (mk_Recipes___init__ : PySem.W.makesIn K C_Recipes = true) (kc_Recipes___init__ : PySem.W.keepIn K (.ref C_Recipes) = true)
    (l_Recipes___init__ : K.lookup f_Recipes___init__ = some ⟨oc_Recipes___init__, od_Recipes___init__, .func (PySem.W.fnOf "__init__" "Recipes.__init__" (defArgs s_Recipes___init__) (defBody s_Recipes___init__) (defScope s_Recipes___init__) .none kV_Recipes___init__ dc_Recipes___init__ pm_Recipes___init__ an_Recipes___init__ cd_Recipes___init__ ct_Recipes___init__), sl_Recipes___init__⟩) (c_Recipes___init__ : PySem.W.codeIn K cd_Recipes___init__ "Recipes.__init__" = true) (k_Recipes___init__ : PySem.W.keepIn K (.ref f_Recipes___init__) = true)
    (a_Recipes___eq__ : PySem.W.findIn K (.ref C_Recipes) "__eq__" = some (some (.ref f_Recipes___eq__))) (i_Recipes___eq__ : PySem.W.isFn K (.ref f_Recipes___eq__) = true)
    (l_Recipes___eq__ : K.lookup f_Recipes___eq__ = some ⟨oc_Recipes___eq__, od_Recipes___eq__, .func (PySem.W.fnOf "__eq__" "Recipes.__eq__" (defArgs s_Recipes___eq__) (defBody s_Recipes___eq__) (defScope s_Recipes___eq__) .none kV_Recipes___eq__ dc_Recipes___eq__ pm_Recipes___eq__ an_Recipes___eq__ cd_Recipes___eq__ ct_Recipes___eq__), sl_Recipes___eq__⟩) (c_Recipes___eq__ : PySem.W.codeIn K cd_Recipes___eq__ "Recipes.__eq__" = true) (k_Recipes___eq__ : PySem.W.keepIn K (.ref f_Recipes___eq__) = true)
    {rest_Recipes_through : List Value} (a_Recipes_through : PySem.W.findIn K (.ref C_Recipes) "through" = some (some (.ref p_Recipes_through))) (ge_Recipes_through : PySem.W.specialIn K (.ref p_Recipes_through) "__get__" = some (some (.builtin "property.__get__"))) (tk_Recipes_through : PySem.W.takesIn K (.ref p_Recipes_through) = some true) (rc_Recipes_through : PySem.W.recIn K p_Recipes_through "property" = some (.ref f_Recipes_through :: rest_Recipes_through))
    (l_Recipes_through : K.lookup f_Recipes_through = some ⟨oc_Recipes_through, od_Recipes_through, .func (PySem.W.fnOf "through" "Recipes.through" (defArgs s_Recipes_through) (defBody s_Recipes_through) (defScope s_Recipes_through) .none kV_Recipes_through dc_Recipes_through pm_Recipes_through an_Recipes_through cd_Recipes_through ct_Recipes_through), sl_Recipes_through⟩) (c_Recipes_through : PySem.W.codeIn K cd_Recipes_through "Recipes.through" = true) (k_Recipes_through : PySem.W.keepIn K (.ref f_Recipes_through) = true)
    {rest_Recipes_back : List Value} (a_Recipes_back : PySem.W.findIn K (.ref C_Recipes) "back" = some (some (.ref p_Recipes_back))) (ge_Recipes_back : PySem.W.specialIn K (.ref p_Recipes_back) "__get__" = some (some (.builtin "property.__get__"))) (tk_Recipes_back : PySem.W.takesIn K (.ref p_Recipes_back) = some true) (rc_Recipes_back : PySem.W.recIn K p_Recipes_back "property" = some (.ref f_Recipes_back :: rest_Recipes_back))
    (l_Recipes_back : K.lookup f_Recipes_back = some ⟨oc_Recipes_back, od_Recipes_back, .func (PySem.W.fnOf "back" "Recipes.back" (defArgs s_Recipes_back) (defBody s_Recipes_back) (defScope s_Recipes_back) .none kV_Recipes_back dc_Recipes_back pm_Recipes_back an_Recipes_back cd_Recipes_back ct_Recipes_back), sl_Recipes_back⟩) (c_Recipes_back : PySem.W.codeIn K cd_Recipes_back "Recipes.back" = true) (k_Recipes_back : PySem.W.keepIn K (.ref f_Recipes_back) = true)
    {rest_Recipes_around : List Value} (a_Recipes_around : PySem.W.findIn K (.ref C_Recipes) "around" = some (some (.ref p_Recipes_around))) (ge_Recipes_around : PySem.W.specialIn K (.ref p_Recipes_around) "__get__" = some (some (.builtin "property.__get__"))) (tk_Recipes_around : PySem.W.takesIn K (.ref p_Recipes_around) = some true) (rc_Recipes_around : PySem.W.recIn K p_Recipes_around "property" = some (.ref f_Recipes_around :: rest_Recipes_around))
    (l_Recipes_around : K.lookup f_Recipes_around = some ⟨oc_Recipes_around, od_Recipes_around, .func (PySem.W.fnOf "around" "Recipes.around" (defArgs s_Recipes_around) (defBody s_Recipes_around) (defScope s_Recipes_around) .none kV_Recipes_around dc_Recipes_around pm_Recipes_around an_Recipes_around cd_Recipes_around ct_Recipes_around), sl_Recipes_around⟩) (c_Recipes_around : PySem.W.codeIn K cd_Recipes_around "Recipes.around" = true) (k_Recipes_around : PySem.W.keepIn K (.ref f_Recipes_around) = true)
    {rest_Recipes_clean : List Value} (a_Recipes_clean : PySem.W.findIn K (.ref C_Recipes) "clean" = some (some (.ref p_Recipes_clean))) (ge_Recipes_clean : PySem.W.specialIn K (.ref p_Recipes_clean) "__get__" = some (some (.builtin "property.__get__"))) (tk_Recipes_clean : PySem.W.takesIn K (.ref p_Recipes_clean) = some true) (rc_Recipes_clean : PySem.W.recIn K p_Recipes_clean "property" = some (.ref f_Recipes_clean :: rest_Recipes_clean))
    (l_Recipes_clean : K.lookup f_Recipes_clean = some ⟨oc_Recipes_clean, od_Recipes_clean, .func (PySem.W.fnOf "clean" "Recipes.clean" (defArgs s_Recipes_clean) (defBody s_Recipes_clean) (defScope s_Recipes_clean) .none kV_Recipes_clean dc_Recipes_clean pm_Recipes_clean an_Recipes_clean cd_Recipes_clean ct_Recipes_clean), sl_Recipes_clean⟩) (c_Recipes_clean : PySem.W.codeIn K cd_Recipes_clean "Recipes.clean" = true) (k_Recipes_clean : PySem.W.keepIn K (.ref f_Recipes_clean) = true)
    {rest_Recipes_safe : List Value} (a_Recipes_safe : PySem.W.findCls K (.ref C_Recipes) (.type "type") "safe" = some (.get (.builtin "classmethod.__get__") (.ref p_Recipes_safe) .none (.ref C_Recipes))) (rc_Recipes_safe : PySem.W.recIn K p_Recipes_safe "classmethod" = some (.ref f_Recipes_safe :: rest_Recipes_safe)) (fi_Recipes_safe : PySem.W.fnIn K f_Recipes_safe = true) (rd_Recipes_safe : PySem.W.readsIn K C_Recipes (.type "type") = true) (sg_Recipes_safe : PySem.W.specialIn K (.ref C_Recipes) "__getattribute__" = some (some (.builtin "type.__getattribute__")))
    (l_Recipes_safe : K.lookup f_Recipes_safe = some ⟨oc_Recipes_safe, od_Recipes_safe, .func (PySem.W.fnOf "safe" "Recipes.safe" (defArgs s_Recipes_safe) (defBody s_Recipes_safe) (defScope s_Recipes_safe) .none kV_Recipes_safe dc_Recipes_safe pm_Recipes_safe an_Recipes_safe cd_Recipes_safe ct_Recipes_safe), sl_Recipes_safe⟩) (c_Recipes_safe : PySem.W.codeIn K cd_Recipes_safe "Recipes.safe" = true) (k_Recipes_safe : PySem.W.keepIn K (.ref f_Recipes_safe) = true)
    (a__invalid_place : PySem.W.nsIn K mainGlobals "_invalid_place" = some (some (.ref f__invalid_place)))
    (l__invalid_place : K.lookup f__invalid_place = some ⟨oc__invalid_place, od__invalid_place, .func (PySem.W.fnOf "_invalid_place" "_invalid_place" (defArgs s__invalid_place) (defBody s__invalid_place) (defScope s__invalid_place) .none kV__invalid_place dc__invalid_place pm__invalid_place an__invalid_place cd__invalid_place ct__invalid_place), sl__invalid_place⟩) (c__invalid_place : PySem.W.codeIn K cd__invalid_place "_invalid_place" = true) (k__invalid_place : PySem.W.keepIn K (.ref f__invalid_place) = true)
    (a__law_random : PySem.W.nsIn K mainGlobals "_law_random" = some (some (.ref f__law_random)))
    (l__law_random : K.lookup f__law_random = some ⟨oc__law_random, od__law_random, .func (PySem.W.fnOf "_law_random" "_law_random" (defArgs s__law_random) (defBody s__law_random) (defScope s__law_random) .none kV__law_random dc__law_random pm__law_random an__law_random cd__law_random ct__law_random), sl__law_random⟩) (c__law_random : PySem.W.codeIn K cd__law_random "_law_random" = true) (k__law_random : PySem.W.keepIn K (.ref f__law_random) = true)
    (a__law_below : PySem.W.nsIn K mainGlobals "_law_below" = some (some (.ref f__law_below)))
    (l__law_below : K.lookup f__law_below = some ⟨oc__law_below, od__law_below, .func (PySem.W.fnOf "_law_below" "_law_below" (defArgs s__law_below) (defBody s__law_below) (defScope s__law_below) .none kV__law_below dc__law_below pm__law_below an__law_below cd__law_below ct__law_below), sl__law_below⟩) (c__law_below : PySem.W.codeIn K cd__law_below "_law_below" = true) (k__law_below : PySem.W.keepIn K (.ref f__law_below) = true)
    (a__law_rules : PySem.W.nsIn K mainGlobals "_law_rules" = some (some (.ref f__law_rules)))
    (l__law_rules : K.lookup f__law_rules = some ⟨oc__law_rules, od__law_rules, .func (PySem.W.fnOf "_law_rules" "_law_rules" (defArgs s__law_rules) (defBody s__law_rules) (defScope s__law_rules) .none kV__law_rules dc__law_rules pm__law_rules an__law_rules cd__law_rules ct__law_rules), sl__law_rules⟩) (c__law_rules : PySem.W.codeIn K cd__law_rules "_law_rules" = true) (k__law_rules : PySem.W.keepIn K (.ref f__law_rules) = true)
    (a__law_safe : PySem.W.nsIn K mainGlobals "_law_safe" = some (some (.ref f__law_safe)))
    (l__law_safe : K.lookup f__law_safe = some ⟨oc__law_safe, od__law_safe, .func (PySem.W.fnOf "_law_safe" "_law_safe" (defArgs s__law_safe) (defBody s__law_safe) (defScope s__law_safe) .none kV__law_safe dc__law_safe pm__law_safe an__law_safe cd__law_safe ct__law_safe), sl__law_safe⟩) (c__law_safe : PySem.W.codeIn K cd__law_safe "_law_safe" = true) (k__law_safe : PySem.W.keepIn K (.ref f__law_safe) = true)
    (a__law_shuffled : PySem.W.nsIn K mainGlobals "_law_shuffled" = some (some (.ref f__law_shuffled)))
    (l__law_shuffled : K.lookup f__law_shuffled = some ⟨oc__law_shuffled, od__law_shuffled, .func (PySem.W.fnOf "_law_shuffled" "_law_shuffled" (defArgs s__law_shuffled) (defBody s__law_shuffled) (defScope s__law_shuffled) .none kV__law_shuffled dc__law_shuffled pm__law_shuffled an__law_shuffled cd__law_shuffled ct__law_shuffled), sl__law_shuffled⟩) (c__law_shuffled : PySem.W.codeIn K cd__law_shuffled "_law_shuffled" = true) (k__law_shuffled : PySem.W.keepIn K (.ref f__law_shuffled) = true)
    (a__law_recipe : PySem.W.nsIn K mainGlobals "_law_recipe" = some (some (.ref f__law_recipe)))
    (l__law_recipe : K.lookup f__law_recipe = some ⟨oc__law_recipe, od__law_recipe, .func (PySem.W.fnOf "_law_recipe" "_law_recipe" (defArgs s__law_recipe) (defBody s__law_recipe) (defScope s__law_recipe) .none kV__law_recipe dc__law_recipe pm__law_recipe an__law_recipe cd__law_recipe ct__law_recipe), sl__law_recipe⟩) (c__law_recipe : PySem.W.codeIn K cd__law_recipe "_law_recipe" = true) (k__law_recipe : PySem.W.keepIn K (.ref f__law_recipe) = true)
    (a__law_recipes : PySem.W.nsIn K mainGlobals "_law_recipes" = some (some (.ref f__law_recipes)))
    (l__law_recipes : K.lookup f__law_recipes = some ⟨oc__law_recipes, od__law_recipes, .func (PySem.W.fnOf "_law_recipes" "_law_recipes" (defArgs s__law_recipes) (defBody s__law_recipes) (defScope s__law_recipes) .none kV__law_recipes dc__law_recipes pm__law_recipes an__law_recipes cd__law_recipes ct__law_recipes), sl__law_recipes⟩) (c__law_recipes : PySem.W.codeIn K cd__law_recipes "_law_recipes" = true) (k__law_recipes : PySem.W.keepIn K (.ref f__law_recipes) = true)
    (a__law_equal : PySem.W.nsIn K mainGlobals "_law_equal" = some (some (.ref f__law_equal)))
    (l__law_equal : K.lookup f__law_equal = some ⟨oc__law_equal, od__law_equal, .func (PySem.W.fnOf "_law_equal" "_law_equal" (defArgs s__law_equal) (defBody s__law_equal) (defScope s__law_equal) .none kV__law_equal dc__law_equal pm__law_equal an__law_equal cd__law_equal ct__law_equal), sl__law_equal⟩) (c__law_equal : PySem.W.codeIn K cd__law_equal "_law_equal" = true) (k__law_equal : PySem.W.keepIn K (.ref f__law_equal) = true)
    (a_law : PySem.W.nsIn K mainGlobals "law" = some (some (.ref f_law)))
    (l_law : K.lookup f_law = some ⟨oc_law, od_law, .func (PySem.W.fnOf "law" "law" (defArgs s_law) (defBody s_law) (defScope s_law) .none kV_law dc_law pm_law an_law cd_law ct_law), sl_law⟩) (c_law : PySem.W.codeIn K cd_law "law" = true) (k_law : PySem.W.keepIn K (.ref f_law) = true)
    (z_isinstance : PySem.W.nsIn K mainGlobals "isinstance" = some none)
    (z_int : PySem.W.nsIn K mainGlobals "int" = some none)
    (z_bool : PySem.W.nsIn K mainGlobals "bool" = some none)
    (z_str : PySem.W.nsIn K mainGlobals "str" = some none)
    (z_list : PySem.W.nsIn K mainGlobals "list" = some none)
    (z_tuple : PySem.W.nsIn K mainGlobals "tuple" = some none)
    (z_len : PySem.W.nsIn K mainGlobals "len" = some none)
    (z_abs : PySem.W.nsIn K mainGlobals "abs" = some none)
    (z_range : PySem.W.nsIn K mainGlobals "range" = some none)
    (z_all : PySem.W.nsIn K mainGlobals "all" = some none)
    (z_enumerate : PySem.W.nsIn K mainGlobals "enumerate" = some none)
    (c_BOUND_PART : PySem.W.nsIn K mainGlobals "BOUND_PART" = some (some (.int 3 t_BOUND_PART)))
    (c_MOST_BOUND : PySem.W.nsIn K mainGlobals "MOST_BOUND" = some (some (.int 8 t_MOST_BOUND)))
    (c_MOST_STEPS : PySem.W.nsIn K mainGlobals "MOST_STEPS" = some (some (.int 8 t_MOST_STEPS)))
    {n_RULE_WORDS_0 : Nat} {tk_RULE_WORDS_0_0 tk_RULE_WORDS_0_1 tk_RULE_WORDS_0_2 : Tok} (l_RULE_WORDS_0 : K.lookup A_RULE_WORDS_0 = some ⟨.type "tuple", od_RULE_WORDS_0, .seq #[.str "through" tk_RULE_WORDS_0_0, .str "back" tk_RULE_WORDS_0_1, .str "around" tk_RULE_WORDS_0_2] n_RULE_WORDS_0, sl_RULE_WORDS_0⟩)
    {n_RULE_WORDS_1 : Nat} {tk_RULE_WORDS_1_0 tk_RULE_WORDS_1_1 : Tok} (l_RULE_WORDS_1 : K.lookup A_RULE_WORDS_1 = some ⟨.type "tuple", od_RULE_WORDS_1, .seq #[.str "keep" tk_RULE_WORDS_1_0, .str "pass" tk_RULE_WORDS_1_1] n_RULE_WORDS_1, sl_RULE_WORDS_1⟩)
    {n_RULE_WORDS_2 : Nat} {tk_RULE_WORDS_2_0 tk_RULE_WORDS_2_1 tk_RULE_WORDS_2_2 : Tok} (l_RULE_WORDS_2 : K.lookup A_RULE_WORDS_2 = some ⟨.type "tuple", od_RULE_WORDS_2, .seq #[.str "used" tk_RULE_WORDS_2_0, .str "came" tk_RULE_WORDS_2_1, .str "rare" tk_RULE_WORDS_2_2] n_RULE_WORDS_2, sl_RULE_WORDS_2⟩)
    (a_RULE_WORDS : PySem.W.nsIn K mainGlobals "RULE_WORDS" = some (some (.ref A_RULE_WORDS)))
    {n_RULE_WORDS : Nat} (l_RULE_WORDS : K.lookup A_RULE_WORDS = some ⟨.type "tuple", od_RULE_WORDS, .seq #[.ref A_RULE_WORDS_0, .ref A_RULE_WORDS_1, .ref A_RULE_WORDS_2] n_RULE_WORDS, sl_RULE_WORDS⟩)
    (a_WRITE_STEPS : PySem.W.nsIn K mainGlobals "WRITE_STEPS" = some (some (.ref A_WRITE_STEPS)))
    {n_WRITE_STEPS : Nat} {tk_WRITE_STEPS_0 tk_WRITE_STEPS_1 tk_WRITE_STEPS_2 tk_WRITE_STEPS_3 tk_WRITE_STEPS_4 tk_WRITE_STEPS_5 : Tok} (l_WRITE_STEPS : K.lookup A_WRITE_STEPS = some ⟨.type "tuple", od_WRITE_STEPS, .seq #[.str "slow" tk_WRITE_STEPS_0, .str "sync slow" tk_WRITE_STEPS_1, .str "fast" tk_WRITE_STEPS_2, .str "sync fast" tk_WRITE_STEPS_3, .str "free" tk_WRITE_STEPS_4, .str "done" tk_WRITE_STEPS_5] n_WRITE_STEPS, sl_WRITE_STEPS⟩)
    (a_CLEAN_STEPS : PySem.W.nsIn K mainGlobals "CLEAN_STEPS" = some (some (.ref A_CLEAN_STEPS)))
    {n_CLEAN_STEPS : Nat} {tk_CLEAN_STEPS_0 tk_CLEAN_STEPS_1 tk_CLEAN_STEPS_2 tk_CLEAN_STEPS_3 : Tok} (l_CLEAN_STEPS : K.lookup A_CLEAN_STEPS = some ⟨.type "tuple", od_CLEAN_STEPS, .seq #[.str "slow" tk_CLEAN_STEPS_0, .str "sync slow" tk_CLEAN_STEPS_1, .str "mark" tk_CLEAN_STEPS_2, .str "sync fast" tk_CLEAN_STEPS_3] n_CLEAN_STEPS, sl_CLEAN_STEPS⟩)
    (a_SYNC_STEPS : PySem.W.nsIn K mainGlobals "SYNC_STEPS" = some (some (.ref A_SYNC_STEPS)))
    {n_SYNC_STEPS : Nat} {tk_SYNC_STEPS_0 tk_SYNC_STEPS_1 : Tok} (l_SYNC_STEPS : K.lookup A_SYNC_STEPS = some ⟨.type "tuple", od_SYNC_STEPS, .seq #[.str "sync slow" tk_SYNC_STEPS_0, .str "sync fast" tk_SYNC_STEPS_1] n_SYNC_STEPS, sl_SYNC_STEPS⟩)
    (nf_Rules_tuple : PySem.W.notFirst K C_Rules (.type "tuple") = true)
    (nf_Rules_list : PySem.W.notFirst K C_Rules (.type "list") = true)
    (nf_Recipes_tuple : PySem.W.notFirst K C_Recipes (.type "tuple") = true)
    (nf_Recipes_list : PySem.W.notFirst K C_Recipes (.type "list") = true)
    (nf_Recipes_Rules : PySem.W.notFirst K C_Recipes (.ref C_Rules) = true)
    (isc_Rules : PySem.W.isClsIn K C_Rules = true)
    (isc_Recipes : PySem.W.isClsIn K C_Recipes = true)
    (tyc_Rules : PySem.W.typeIn K (.ref C_Rules) = some (.type "type"))
    (tyc_Recipes : PySem.W.typeIn K (.ref C_Recipes) = some (.type "type"))
    (sub_Rules : PySem.W.subIn K (.ref C_Rules) (.ref C_Rules) = some true)
    (sub_Recipes : PySem.W.subIn K (.ref C_Recipes) (.ref C_Recipes) = some true)
    (sub_Rules_tuple : PySem.W.subIn K (.type "tuple") (.ref C_Rules) = some false)
    (sub_Rules_list : PySem.W.subIn K (.type "list") (.ref C_Rules) = some false)
    (sub_Recipes_tuple : PySem.W.subIn K (.type "tuple") (.ref C_Recipes) = some false)
    (sub_Recipes_list : PySem.W.subIn K (.type "list") (.ref C_Recipes) = some false)
    (kc_Rules : PySem.W.findIn K (.ref C_Rules) "__class__" = some (some (.builtin "object.__class__")))
    (kc_Recipes : PySem.W.findIn K (.ref C_Recipes) "__class__" = some (some (.builtin "object.__class__")))
    (km_Rules : PySem.W.mroIn K C_Rules (.type "object") = some true)
    (km_Recipes : PySem.W.mroIn K C_Recipes (.type "object") = some true)
    (kg : PySem.W.specialIn K (.builtin "object.__class__") "__get__" = some (some (.builtin "getset_descriptor.__get__")))
    (kt : PySem.W.takesIn K (.builtin "object.__class__") = some true)
    (sub_Rules_Recipes : PySem.W.subIn K (.ref C_Rules) (.ref C_Recipes) = some false)
    (ne_Rules : PySem.W.findIn K (.ref C_Rules) "__ne__" = some (some (.builtin "object.__ne__")))
    {nm_Rules q_Rules : Str} {N_Rules : Addr} {bs_Rules : List Value} {hh_Rules : Bool} {sn_Rules : List Str} {sbs_Rules : List Value} {ab_Rules : Bool} {col_Rules : Option Bool} {dd_Rules : Option Addr} {k0_Rules k1_Rules k2_Rules k3_Rules k5_Rules : Option Value} {ni_Rules : String}
    (ob_Rules : K.lookup C_Rules = some (excClassObj nm_Rules q_Rules C_Rules N_Rules bs_Rules [.type "object"] hh_Rules sn_Rules sbs_Rules ab_Rules col_Rules dd_Rules k0_Rules k1_Rules k2_Rules k3_Rules k5_Rules ni_Rules))
    (ne_Recipes : PySem.W.findIn K (.ref C_Recipes) "__ne__" = some (some (.builtin "object.__ne__")))
    {nm_Recipes q_Recipes : Str} {N_Recipes : Addr} {bs_Recipes : List Value} {hh_Recipes : Bool} {sn_Recipes : List Str} {sbs_Recipes : List Value} {ab_Recipes : Bool} {col_Recipes : Option Bool} {dd_Recipes : Option Addr} {k0_Recipes k1_Recipes k2_Recipes k3_Recipes k5_Recipes : Option Value} {ni_Recipes : String}
    (ob_Recipes : K.lookup C_Recipes = some (excClassObj nm_Recipes q_Recipes C_Recipes N_Recipes bs_Recipes [.type "object"] hh_Recipes sn_Recipes sbs_Recipes ab_Recipes col_Recipes dd_Recipes k0_Recipes k1_Recipes k2_Recipes k3_Recipes k5_Recipes ni_Recipes))
    : ∃ fd : FuncData, (∀ (s : Shared) (v : Value), BindsTo s fd ⟨[v], []⟩ [("_law_script", v)]) ∧ ∀ base : Heap, K.In base → base.Ns mainGlobals mg → FnOk l.prog w K mg base CX0 6 fa fd ["_law_script"] (spLaw K) := by
  have e := hfa.symm.trans (PySem.W.mg_of X G a_law)
  cases e
  have T : Gx K mg := {
    C_Rules := C_Rules, cl_Rules := ⟨pg_Rules, hd_Rules, po_Rules, sa_Rules⟩, gC_Rules := PySem.W.mg_of X G aC_Rules,
    n_Rules__writing := n_Rules__writing,
    n_Rules__reading := n_Rules__reading,
    n_Rules__choice := n_Rules__choice,
    n_Rules__bound := n_Rules__bound,
    C_Recipes := C_Recipes, cl_Recipes := ⟨pg_Recipes, hd_Recipes, po_Recipes, sa_Recipes⟩, gC_Recipes := PySem.W.mg_of X G aC_Recipes,
    n_Recipes__through := n_Recipes__through,
    n_Recipes__back := n_Recipes__back,
    n_Recipes__around := n_Recipes__around,
    n_Recipes__clean := n_Recipes__clean,
    f_is_number := f_is_number, fd_is_number := _,
    F_is_number := fun_mk (st := s_is_number) l_is_number c_is_number k_is_number,
    g_is_number := PySem.W.mg_of X G a_is_number,
    f_is_number_from := f_is_number_from, fd_is_number_from := _,
    F_is_number_from := fun_mk (st := s_is_number_from) l_is_number_from c_is_number_from k_is_number_from,
    g_is_number_from := PySem.W.mg_of X G a_is_number_from,
    f_Rules___init__ := f_Rules___init__, fd_Rules___init__ := _,
    F_Rules___init__ := fun_mk (st := s_Rules___init__) l_Rules___init__ c_Rules___init__ k_Rules___init__,
    M_Rules___init__ := ⟨mk_Rules___init__, a_Rules___init__, i_Rules___init__, kc_Rules___init__⟩,
    f_Rules___eq__ := f_Rules___eq__, fd_Rules___eq__ := _,
    F_Rules___eq__ := fun_mk (st := s_Rules___eq__) l_Rules___eq__ c_Rules___eq__ k_Rules___eq__,
    m_Rules___eq__ := ⟨a_Rules___eq__, i_Rules___eq__, k_Rules___eq__⟩,
    f_Rules_writing := f_Rules_writing, fd_Rules_writing := _,
    F_Rules_writing := fun_mk (st := s_Rules_writing) l_Rules_writing c_Rules_writing k_Rules_writing,
    p_Rules_writing := p_Rules_writing, P_Rules_writing := ⟨a_Rules_writing, ge_Rules_writing, tk_Rules_writing, ⟨_, rc_Rules_writing⟩⟩,
    f_Rules_reading := f_Rules_reading, fd_Rules_reading := _,
    F_Rules_reading := fun_mk (st := s_Rules_reading) l_Rules_reading c_Rules_reading k_Rules_reading,
    p_Rules_reading := p_Rules_reading, P_Rules_reading := ⟨a_Rules_reading, ge_Rules_reading, tk_Rules_reading, ⟨_, rc_Rules_reading⟩⟩,
    f_Rules_choice := f_Rules_choice, fd_Rules_choice := _,
    F_Rules_choice := fun_mk (st := s_Rules_choice) l_Rules_choice c_Rules_choice k_Rules_choice,
    p_Rules_choice := p_Rules_choice, P_Rules_choice := ⟨a_Rules_choice, ge_Rules_choice, tk_Rules_choice, ⟨_, rc_Rules_choice⟩⟩,
    f_Rules_bound := f_Rules_bound, fd_Rules_bound := _,
    F_Rules_bound := fun_mk (st := s_Rules_bound) l_Rules_bound c_Rules_bound k_Rules_bound,
    p_Rules_bound := p_Rules_bound, P_Rules_bound := ⟨a_Rules_bound, ge_Rules_bound, tk_Rules_bound, ⟨_, rc_Rules_bound⟩⟩,
    f_Recipes___init__ := f_Recipes___init__, fd_Recipes___init__ := _,
    F_Recipes___init__ := fun_mk (st := s_Recipes___init__) l_Recipes___init__ c_Recipes___init__ k_Recipes___init__,
    M_Recipes___init__ := ⟨mk_Recipes___init__, a_Recipes___init__, i_Recipes___init__, kc_Recipes___init__⟩,
    f_Recipes___eq__ := f_Recipes___eq__, fd_Recipes___eq__ := _,
    F_Recipes___eq__ := fun_mk (st := s_Recipes___eq__) l_Recipes___eq__ c_Recipes___eq__ k_Recipes___eq__,
    m_Recipes___eq__ := ⟨a_Recipes___eq__, i_Recipes___eq__, k_Recipes___eq__⟩,
    f_Recipes_through := f_Recipes_through, fd_Recipes_through := _,
    F_Recipes_through := fun_mk (st := s_Recipes_through) l_Recipes_through c_Recipes_through k_Recipes_through,
    p_Recipes_through := p_Recipes_through, P_Recipes_through := ⟨a_Recipes_through, ge_Recipes_through, tk_Recipes_through, ⟨_, rc_Recipes_through⟩⟩,
    f_Recipes_back := f_Recipes_back, fd_Recipes_back := _,
    F_Recipes_back := fun_mk (st := s_Recipes_back) l_Recipes_back c_Recipes_back k_Recipes_back,
    p_Recipes_back := p_Recipes_back, P_Recipes_back := ⟨a_Recipes_back, ge_Recipes_back, tk_Recipes_back, ⟨_, rc_Recipes_back⟩⟩,
    f_Recipes_around := f_Recipes_around, fd_Recipes_around := _,
    F_Recipes_around := fun_mk (st := s_Recipes_around) l_Recipes_around c_Recipes_around k_Recipes_around,
    p_Recipes_around := p_Recipes_around, P_Recipes_around := ⟨a_Recipes_around, ge_Recipes_around, tk_Recipes_around, ⟨_, rc_Recipes_around⟩⟩,
    f_Recipes_clean := f_Recipes_clean, fd_Recipes_clean := _,
    F_Recipes_clean := fun_mk (st := s_Recipes_clean) l_Recipes_clean c_Recipes_clean k_Recipes_clean,
    p_Recipes_clean := p_Recipes_clean, P_Recipes_clean := ⟨a_Recipes_clean, ge_Recipes_clean, tk_Recipes_clean, ⟨_, rc_Recipes_clean⟩⟩,
    f_Recipes_safe := f_Recipes_safe, fd_Recipes_safe := _,
    F_Recipes_safe := fun_mk (st := s_Recipes_safe) l_Recipes_safe c_Recipes_safe k_Recipes_safe,
    p_Recipes_safe := p_Recipes_safe, Y_Recipes_safe := ⟨a_Recipes_safe, ⟨_, rc_Recipes_safe⟩, fi_Recipes_safe⟩, R_Recipes_safe := ⟨rd_Recipes_safe, sg_Recipes_safe⟩,
    f__invalid_place := f__invalid_place, fd__invalid_place := _,
    F__invalid_place := fun_mk (st := s__invalid_place) l__invalid_place c__invalid_place k__invalid_place,
    g__invalid_place := PySem.W.mg_of X G a__invalid_place,
    f__law_random := f__law_random, fd__law_random := _,
    F__law_random := fun_mk (st := s__law_random) l__law_random c__law_random k__law_random,
    g__law_random := PySem.W.mg_of X G a__law_random,
    f__law_below := f__law_below, fd__law_below := _,
    F__law_below := fun_mk (st := s__law_below) l__law_below c__law_below k__law_below,
    g__law_below := PySem.W.mg_of X G a__law_below,
    f__law_rules := f__law_rules, fd__law_rules := _,
    F__law_rules := fun_mk (st := s__law_rules) l__law_rules c__law_rules k__law_rules,
    g__law_rules := PySem.W.mg_of X G a__law_rules,
    f__law_safe := f__law_safe, fd__law_safe := _,
    F__law_safe := fun_mk (st := s__law_safe) l__law_safe c__law_safe k__law_safe,
    g__law_safe := PySem.W.mg_of X G a__law_safe,
    f__law_shuffled := f__law_shuffled, fd__law_shuffled := _,
    F__law_shuffled := fun_mk (st := s__law_shuffled) l__law_shuffled c__law_shuffled k__law_shuffled,
    g__law_shuffled := PySem.W.mg_of X G a__law_shuffled,
    f__law_recipe := f__law_recipe, fd__law_recipe := _,
    F__law_recipe := fun_mk (st := s__law_recipe) l__law_recipe c__law_recipe k__law_recipe,
    g__law_recipe := PySem.W.mg_of X G a__law_recipe,
    f__law_recipes := f__law_recipes, fd__law_recipes := _,
    F__law_recipes := fun_mk (st := s__law_recipes) l__law_recipes c__law_recipes k__law_recipes,
    g__law_recipes := PySem.W.mg_of X G a__law_recipes,
    f__law_equal := f__law_equal, fd__law_equal := _,
    F__law_equal := fun_mk (st := s__law_equal) l__law_equal c__law_equal k__law_equal,
    g__law_equal := PySem.W.mg_of X G a__law_equal,
    z_isinstance := PySem.W.mg_none_of X G z_isinstance,
    z_int := PySem.W.mg_none_of X G z_int,
    z_bool := PySem.W.mg_none_of X G z_bool,
    z_str := PySem.W.mg_none_of X G z_str,
    z_list := PySem.W.mg_none_of X G z_list,
    z_tuple := PySem.W.mg_none_of X G z_tuple,
    z_len := PySem.W.mg_none_of X G z_len,
    z_abs := PySem.W.mg_none_of X G z_abs,
    z_range := PySem.W.mg_none_of X G z_range,
    z_all := PySem.W.mg_none_of X G z_all,
    z_enumerate := PySem.W.mg_none_of X G z_enumerate,
    t_BOUND_PART := t_BOUND_PART, c_BOUND_PART := PySem.W.mg_of X G c_BOUND_PART,
    t_MOST_BOUND := t_MOST_BOUND, c_MOST_BOUND := PySem.W.mg_of X G c_MOST_BOUND,
    t_MOST_STEPS := t_MOST_STEPS, c_MOST_STEPS := PySem.W.mg_of X G c_MOST_STEPS,
    A_RULE_WORDS_0 := A_RULE_WORDS_0, k_RULE_WORDS_0 := TupK.of l_RULE_WORDS_0 (by show 3 ≤ sizeLine; decide) (.cons ⟨_, rfl⟩ (.cons ⟨_, rfl⟩ (.cons ⟨_, rfl⟩ (.nil)))),
    A_RULE_WORDS_1 := A_RULE_WORDS_1, k_RULE_WORDS_1 := TupK.of l_RULE_WORDS_1 (by show 2 ≤ sizeLine; decide) (.cons ⟨_, rfl⟩ (.cons ⟨_, rfl⟩ (.nil))),
    A_RULE_WORDS_2 := A_RULE_WORDS_2, k_RULE_WORDS_2 := TupK.of l_RULE_WORDS_2 (by show 3 ≤ sizeLine; decide) (.cons ⟨_, rfl⟩ (.cons ⟨_, rfl⟩ (.cons ⟨_, rfl⟩ (.nil)))),
    g_RULE_WORDS := PySem.W.mg_of X G a_RULE_WORDS,
    A_RULE_WORDS := A_RULE_WORDS, k_RULE_WORDS := TupK.of l_RULE_WORDS (by show 3 ≤ sizeLine; decide) (.cons rfl (.cons rfl (.cons rfl (.nil)))),
    g_WRITE_STEPS := PySem.W.mg_of X G a_WRITE_STEPS,
    A_WRITE_STEPS := A_WRITE_STEPS, k_WRITE_STEPS := TupK.of l_WRITE_STEPS (by show 6 ≤ sizeLine; decide) (.cons ⟨_, rfl⟩ (.cons ⟨_, rfl⟩ (.cons ⟨_, rfl⟩ (.cons ⟨_, rfl⟩ (.cons ⟨_, rfl⟩ (.cons ⟨_, rfl⟩ (.nil))))))),
    g_CLEAN_STEPS := PySem.W.mg_of X G a_CLEAN_STEPS,
    A_CLEAN_STEPS := A_CLEAN_STEPS, k_CLEAN_STEPS := TupK.of l_CLEAN_STEPS (by show 4 ≤ sizeLine; decide) (.cons ⟨_, rfl⟩ (.cons ⟨_, rfl⟩ (.cons ⟨_, rfl⟩ (.cons ⟨_, rfl⟩ (.nil))))),
    g_SYNC_STEPS := PySem.W.mg_of X G a_SYNC_STEPS,
    A_SYNC_STEPS := A_SYNC_STEPS, k_SYNC_STEPS := TupK.of l_SYNC_STEPS (by show 2 ≤ sizeLine; decide) (.cons ⟨_, rfl⟩ (.cons ⟨_, rfl⟩ (.nil))),
    nf_Rules_tuple := nf_Rules_tuple,
    nf_Rules_list := nf_Rules_list,
    nf_Recipes_tuple := nf_Recipes_tuple,
    nf_Recipes_list := nf_Recipes_list,
    nf_Recipes_Rules := nf_Recipes_Rules,
    isc_Rules := isc_Rules,
    isc_Recipes := isc_Recipes,
    tyc_Rules := tyc_Rules,
    tyc_Recipes := tyc_Recipes,
    sub_Rules := sub_Rules,
    sub_Recipes := sub_Recipes,
    sub_Rules_tuple := sub_Rules_tuple,
    sub_Rules_list := sub_Rules_list,
    sub_Recipes_tuple := sub_Recipes_tuple,
    sub_Recipes_list := sub_Recipes_list,
    kc_Rules := kc_Rules,
    kc_Recipes := kc_Recipes,
    km_Rules := km_Rules,
    km_Recipes := km_Recipes,
    kg := kg,
    kt := kt,
    sub_Rules_Recipes := sub_Rules_Recipes,
    ne_Rules := ne_Rules,
    ob_Rules := ⟨_, _, _, _, _, _, _, _, _, _, _, _, _, _, _, _, ob_Rules⟩,
    ne_Recipes := ne_Recipes,
    ob_Recipes := ⟨_, _, _, _, _, _, _, _, _, _, _, _, _, _, _, _, ob_Recipes⟩ }
  exact ⟨PySem.W.fnOf "law" "law" (defArgs s_law) (defBody s_law) (defScope s_law) .none kV_law dc_law pm_law an_law cd_law ct_law, fun s v => .of_eq rfl, fun base _ _ => ok_law (fun_mk (st := s_law) l_law c_law k_law) T⟩
end Kb
open PySem PySem.W PyProof.Rows in
set_option maxRecDepth 100000 in
set_option maxHeartbeats 0 in
theorem PySem.Challenge.cw_keepbefore_k06_rules_and_recipes_holds : PySem.Challenge.rw_keepbefore_k06_rules_and_recipes.Holds := by
  w_on; o_law; k_head; (case hw => w_witness2)
  k_fill
  refine L2.walk_of (l := PySem.Challenge.rw_keepbefore_k06_rules_and_recipes) (n := 63) (k := 6) (x := "_law_script") (CX := fun _ => L2.CX0) (sp := fun w => Kb.spLaw _) rfl (by decide) rfl ⟨rfl, by decide, by decide⟩ (fun w h Y => PySem.W.kIn_of Y) ?F (fun _ _ a ns hl _ hS => ⟨a, ns, rfl, hS, hl, fun _ => rfl⟩) (fun _ _ _ _ _ h => h)
  case F =>
    intro w mg fa h KX G hmg
    refine' Kb.all_mk KX G hmg ?aC_Rules ?pg_Rules ?hd_Rules ?po_Rules ?sa_Rules ?n_Rules__writing ?n_Rules__reading ?n_Rules__choice ?n_Rules__bound ?aC_Recipes ?pg_Recipes ?hd_Recipes ?po_Recipes ?sa_Recipes ?n_Recipes__through ?n_Recipes__back ?n_Recipes__around ?n_Recipes__clean ?a_is_number ?l_is_number ?c_is_number ?k_is_number ?a_is_number_from ?l_is_number_from ?c_is_number_from ?k_is_number_from ?a_Rules___init__ ?i_Rules___init__ ?mk_Rules___init__ ?kc_Rules___init__ ?l_Rules___init__ ?c_Rules___init__ ?k_Rules___init__ ?a_Rules___eq__ ?i_Rules___eq__ ?l_Rules___eq__ ?c_Rules___eq__ ?k_Rules___eq__ ?a_Rules_writing ?ge_Rules_writing ?tk_Rules_writing ?rc_Rules_writing ?l_Rules_writing ?c_Rules_writing ?k_Rules_writing ?a_Rules_reading ?ge_Rules_reading ?tk_Rules_reading ?rc_Rules_reading ?l_Rules_reading ?c_Rules_reading ?k_Rules_reading ?a_Rules_choice ?ge_Rules_choice ?tk_Rules_choice ?rc_Rules_choice ?l_Rules_choice ?c_Rules_choice ?k_Rules_choice ?a_Rules_bound ?ge_Rules_bound ?tk_Rules_bound ?rc_Rules_bound ?l_Rules_bound ?c_Rules_bound ?k_Rules_bound ?a_Recipes___init__ ?i_Recipes___init__ ?mk_Recipes___init__ ?kc_Recipes___init__ ?l_Recipes___init__ ?c_Recipes___init__ ?k_Recipes___init__ ?a_Recipes___eq__ ?i_Recipes___eq__ ?l_Recipes___eq__ ?c_Recipes___eq__ ?k_Recipes___eq__ ?a_Recipes_through ?ge_Recipes_through ?tk_Recipes_through ?rc_Recipes_through ?l_Recipes_through ?c_Recipes_through ?k_Recipes_through ?a_Recipes_back ?ge_Recipes_back ?tk_Recipes_back ?rc_Recipes_back ?l_Recipes_back ?c_Recipes_back ?k_Recipes_back ?a_Recipes_around ?ge_Recipes_around ?tk_Recipes_around ?rc_Recipes_around ?l_Recipes_around ?c_Recipes_around ?k_Recipes_around ?a_Recipes_clean ?ge_Recipes_clean ?tk_Recipes_clean ?rc_Recipes_clean ?l_Recipes_clean ?c_Recipes_clean ?k_Recipes_clean ?a_Recipes_safe ?rc_Recipes_safe ?fi_Recipes_safe ?rd_Recipes_safe ?sg_Recipes_safe ?l_Recipes_safe ?c_Recipes_safe ?k_Recipes_safe ?a__invalid_place ?l__invalid_place ?c__invalid_place ?k__invalid_place ?a__law_random ?l__law_random ?c__law_random ?k__law_random ?a__law_below ?l__law_below ?c__law_below ?k__law_below ?a__law_rules ?l__law_rules ?c__law_rules ?k__law_rules ?a__law_safe ?l__law_safe ?c__law_safe ?k__law_safe ?a__law_shuffled ?l__law_shuffled ?c__law_shuffled ?k__law_shuffled ?a__law_recipe ?l__law_recipe ?c__law_recipe ?k__law_recipe ?a__law_recipes ?l__law_recipes ?c__law_recipes ?k__law_recipes ?a__law_equal ?l__law_equal ?c__law_equal ?k__law_equal ?a_law ?l_law ?c_law ?k_law ?z_isinstance ?z_int ?z_bool ?z_str ?z_list ?z_tuple ?z_len ?z_abs ?z_range ?z_all ?z_enumerate ?c_BOUND_PART ?c_MOST_BOUND ?c_MOST_STEPS ?l_RULE_WORDS_0 ?l_RULE_WORDS_1 ?l_RULE_WORDS_2 ?a_RULE_WORDS ?l_RULE_WORDS ?a_WRITE_STEPS ?l_WRITE_STEPS ?a_CLEAN_STEPS ?l_CLEAN_STEPS ?a_SYNC_STEPS ?l_SYNC_STEPS ?nf_Rules_tuple ?nf_Rules_list ?nf_Recipes_tuple ?nf_Recipes_list ?nf_Recipes_Rules ?isc_Rules ?isc_Recipes ?tyc_Rules ?tyc_Recipes ?sub_Rules ?sub_Recipes ?sub_Rules_tuple ?sub_Rules_list ?sub_Recipes_tuple ?sub_Recipes_list ?kc_Rules ?kc_Recipes ?km_Rules ?km_Recipes ?kg ?kt ?sub_Rules_Recipes ?ne_Rules ?ob_Rules ?ne_Recipes ?ob_Recipes
    (case aC_Rules => k_is)
    (case pg_Rules => k_is)
    (case hd_Rules => k_is)
    (case po_Rules => k_is)
    (case sa_Rules => k_is)
    (case n_Rules__writing => k_is)
    (case n_Rules__reading => k_is)
    (case n_Rules__choice => k_is)
    (case n_Rules__bound => k_is)
    (case aC_Recipes => k_is)
    (case pg_Recipes => k_is)
    (case hd_Recipes => k_is)
    (case po_Recipes => k_is)
    (case sa_Recipes => k_is)
    (case n_Recipes__through => k_is)
    (case n_Recipes__back => k_is)
    (case n_Recipes__around => k_is)
    (case n_Recipes__clean => k_is)
    (case a_is_number => k_is)
    (case l_is_number => k_is)
    (case c_is_number => k_is)
    (case k_is_number => k_is)
    (case a_is_number_from => k_is)
    (case l_is_number_from => k_is)
    (case c_is_number_from => k_is)
    (case k_is_number_from => k_is)
    (case a_Rules___init__ => k_is)
    (case i_Rules___init__ => k_is)
    (case mk_Rules___init__ => k_is)
    (case kc_Rules___init__ => k_is)
    (case l_Rules___init__ => k_is)
    (case c_Rules___init__ => k_is)
    (case k_Rules___init__ => k_is)
    (case a_Rules___eq__ => k_is)
    (case i_Rules___eq__ => k_is)
    (case l_Rules___eq__ => k_is)
    (case c_Rules___eq__ => k_is)
    (case k_Rules___eq__ => k_is)
    (case a_Rules_writing => k_is)
    (case ge_Rules_writing => k_is)
    (case tk_Rules_writing => k_is)
    (case rc_Rules_writing => k_is)
    (case l_Rules_writing => k_is)
    (case c_Rules_writing => k_is)
    (case k_Rules_writing => k_is)
    (case a_Rules_reading => k_is)
    (case ge_Rules_reading => k_is)
    (case tk_Rules_reading => k_is)
    (case rc_Rules_reading => k_is)
    (case l_Rules_reading => k_is)
    (case c_Rules_reading => k_is)
    (case k_Rules_reading => k_is)
    (case a_Rules_choice => k_is)
    (case ge_Rules_choice => k_is)
    (case tk_Rules_choice => k_is)
    (case rc_Rules_choice => k_is)
    (case l_Rules_choice => k_is)
    (case c_Rules_choice => k_is)
    (case k_Rules_choice => k_is)
    (case a_Rules_bound => k_is)
    (case ge_Rules_bound => k_is)
    (case tk_Rules_bound => k_is)
    (case rc_Rules_bound => k_is)
    (case l_Rules_bound => k_is)
    (case c_Rules_bound => k_is)
    (case k_Rules_bound => k_is)
    (case a_Recipes___init__ => k_is)
    (case i_Recipes___init__ => k_is)
    (case mk_Recipes___init__ => k_is)
    (case kc_Recipes___init__ => k_is)
    (case l_Recipes___init__ => k_is)
    (case c_Recipes___init__ => k_is)
    (case k_Recipes___init__ => k_is)
    (case a_Recipes___eq__ => k_is)
    (case i_Recipes___eq__ => k_is)
    (case l_Recipes___eq__ => k_is)
    (case c_Recipes___eq__ => k_is)
    (case k_Recipes___eq__ => k_is)
    (case a_Recipes_through => k_is)
    (case ge_Recipes_through => k_is)
    (case tk_Recipes_through => k_is)
    (case rc_Recipes_through => k_is)
    (case l_Recipes_through => k_is)
    (case c_Recipes_through => k_is)
    (case k_Recipes_through => k_is)
    (case a_Recipes_back => k_is)
    (case ge_Recipes_back => k_is)
    (case tk_Recipes_back => k_is)
    (case rc_Recipes_back => k_is)
    (case l_Recipes_back => k_is)
    (case c_Recipes_back => k_is)
    (case k_Recipes_back => k_is)
    (case a_Recipes_around => k_is)
    (case ge_Recipes_around => k_is)
    (case tk_Recipes_around => k_is)
    (case rc_Recipes_around => k_is)
    (case l_Recipes_around => k_is)
    (case c_Recipes_around => k_is)
    (case k_Recipes_around => k_is)
    (case a_Recipes_clean => k_is)
    (case ge_Recipes_clean => k_is)
    (case tk_Recipes_clean => k_is)
    (case rc_Recipes_clean => k_is)
    (case l_Recipes_clean => k_is)
    (case c_Recipes_clean => k_is)
    (case k_Recipes_clean => k_is)
    (case a_Recipes_safe => k_is)
    (case rc_Recipes_safe => k_is)
    (case fi_Recipes_safe => k_is)
    (case rd_Recipes_safe => k_is)
    (case sg_Recipes_safe => k_is)
    (case l_Recipes_safe => k_is)
    (case c_Recipes_safe => k_is)
    (case k_Recipes_safe => k_is)
    (case a__invalid_place => k_is)
    (case l__invalid_place => k_is)
    (case c__invalid_place => k_is)
    (case k__invalid_place => k_is)
    (case a__law_random => k_is)
    (case l__law_random => k_is)
    (case c__law_random => k_is)
    (case k__law_random => k_is)
    (case a__law_below => k_is)
    (case l__law_below => k_is)
    (case c__law_below => k_is)
    (case k__law_below => k_is)
    (case a__law_rules => k_is)
    (case l__law_rules => k_is)
    (case c__law_rules => k_is)
    (case k__law_rules => k_is)
    (case a__law_safe => k_is)
    (case l__law_safe => k_is)
    (case c__law_safe => k_is)
    (case k__law_safe => k_is)
    (case a__law_shuffled => k_is)
    (case l__law_shuffled => k_is)
    (case c__law_shuffled => k_is)
    (case k__law_shuffled => k_is)
    (case a__law_recipe => k_is)
    (case l__law_recipe => k_is)
    (case c__law_recipe => k_is)
    (case k__law_recipe => k_is)
    (case a__law_recipes => k_is)
    (case l__law_recipes => k_is)
    (case c__law_recipes => k_is)
    (case k__law_recipes => k_is)
    (case a__law_equal => k_is)
    (case l__law_equal => k_is)
    (case c__law_equal => k_is)
    (case k__law_equal => k_is)
    (case a_law => k_is)
    (case l_law => k_is)
    (case c_law => k_is)
    (case k_law => k_is)
    (case z_isinstance => k_is)
    (case z_int => k_is)
    (case z_bool => k_is)
    (case z_str => k_is)
    (case z_list => k_is)
    (case z_tuple => k_is)
    (case z_len => k_is)
    (case z_abs => k_is)
    (case z_range => k_is)
    (case z_all => k_is)
    (case z_enumerate => k_is)
    (case c_BOUND_PART => k_is)
    (case c_MOST_BOUND => k_is)
    (case c_MOST_STEPS => k_is)
    (case a_RULE_WORDS => k_is)
    (case l_RULE_WORDS => k_is)
    (case l_RULE_WORDS_2 => k_is)
    (case l_RULE_WORDS_1 => k_is)
    (case l_RULE_WORDS_0 => k_is)
    (case a_WRITE_STEPS => k_is)
    (case l_WRITE_STEPS => k_is)
    (case a_CLEAN_STEPS => k_is)
    (case l_CLEAN_STEPS => k_is)
    (case a_SYNC_STEPS => k_is)
    (case l_SYNC_STEPS => k_is)
    (case nf_Rules_tuple => k_is)
    (case nf_Rules_list => k_is)
    (case nf_Recipes_tuple => k_is)
    (case nf_Recipes_list => k_is)
    (case nf_Recipes_Rules => k_is)
    (case isc_Rules => k_is)
    (case isc_Recipes => k_is)
    (case tyc_Rules => k_is)
    (case tyc_Recipes => k_is)
    (case sub_Rules => k_is)
    (case sub_Recipes => k_is)
    (case sub_Rules_tuple => k_is)
    (case sub_Rules_list => k_is)
    (case sub_Recipes_tuple => k_is)
    (case sub_Recipes_list => k_is)
    (case kc_Rules => k_is)
    (case kc_Recipes => k_is)
    (case km_Rules => k_is)
    (case km_Recipes => k_is)
    (case kg => k_is)
    (case kt => k_is)
    (case sub_Rules_Recipes => k_is)
    (case ne_Rules => k_is)
    (case ob_Rules => k_is)
    (case ne_Recipes => k_is)
    (case ob_Recipes => k_is)
