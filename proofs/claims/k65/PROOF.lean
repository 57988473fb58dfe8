import PyProof.Rows.All
import Wide.All
import OpenK.AllK
import Wide.FinOn
import HandS.Base
import HandS.Call
import HandS.List
import HandS.Comp
import HandS.Iter
import HandS.Ends
import HandS.Words
import HandS.WordsList
import HandS.IsInst
import HandS.Wide
import HandS.Style
import HandS.ClsMeth
import HandS.Defaults
import HandS.MakeKwOnly
import HandS.SlotsOwn
import HandS.Dict
import HandS.Gcd
import KE.KMathGC
import KE.GoesMore
import KE.KTupSum
import PySem.Challenge.RW_tellontree_k65_whole_sightings_of_a_mach
set_option Elab.async false
set_option linter.all false
set_option maxRecDepth 100000
namespace My
open PySem L2
def top (i : Nat) : Stmt := PySem.Challenge.pw_tellontree_k65_whole_sightings_of_a_mach.main.body.getD i (.Pass ⟨0, 0, 0, 0⟩)
abbrev s_is_integer : Stmt := top 17
theorem sc_is_integer : FnScope ["thing"] ["thing"] (defScope s_is_integer) := ⟨rfl, rfl, rfl, by decide +kernel, rfl, by decide +kernel, by decide +kernel⟩
abbrev s_is_between : Stmt := top 18
theorem sc_is_between : FnScope ["thing", "low", "high"] ["thing", "low", "high"] (defScope s_is_between) := ⟨rfl, rfl, rfl, by decide +kernel, rfl, by decide +kernel, by decide +kernel⟩
abbrev s_check_turns : Stmt := top 19
theorem sc_check_turns : FnScope ["turns"] ["turns"] (defScope s_check_turns) := ⟨rfl, rfl, rfl, by decide +kernel, rfl, by decide +kernel, by decide +kernel⟩
abbrev s_check_roots : Stmt := top 20
theorem sc_check_roots : FnScope ["roots", "before", "at", "root"] ["roots"] (defScope s_check_roots) := ⟨rfl, rfl, rfl, by decide +kernel, rfl, by decide +kernel, by decide +kernel⟩
abbrev s_wrong_in_name : Stmt := top 21
theorem sc_wrong_in_name : FnScope ["thing", "turns", "roots", "greatest", "at", "item"] ["thing", "turns", "roots"] (defScope s_wrong_in_name) := ⟨rfl, rfl, rfl, by decide +kernel, rfl, by decide +kernel, by decide +kernel⟩
abbrev s_check_name : Stmt := top 22
theorem sc_check_name : FnScope ["thing", "turns", "roots", "at"] ["thing", "turns", "roots"] (defScope s_check_name) := ⟨rfl, rfl, rfl, by decide +kernel, rfl, by decide +kernel, by decide +kernel⟩
abbrev s_is_sighting : Stmt := top 23
theorem sc_is_sighting : FnScope ["thing", "name", "time"] ["thing"] (defScope s_is_sighting) := ⟨rfl, rfl, rfl, by decide +kernel, rfl, by decide +kernel, by decide +kernel⟩
abbrev s_check_sightings : Stmt := top 24
theorem sc_check_sightings : FnScope ["rows", "at", "row"] ["rows"] (defScope s_check_sightings) := ⟨rfl, rfl, rfl, by decide +kernel, rfl, by decide +kernel, by decide +kernel⟩
abbrev s_sums_of : Stmt := top 27
theorem sc_sums_of : FnScope ["rows", "name", "time"] ["rows"] (defScope s_sums_of) := ⟨rfl, rfl, rfl, by decide +kernel, rfl, by decide +kernel, by decide +kernel⟩
abbrev s_fits : Stmt := top 28
theorem sc_fits : FnScope ["sums", "letter", "gap", "k", "j", "time"] ["sums", "letter", "gap"] (defScope s_fits) := ⟨rfl, rfl, rfl, by decide +kernel, rfl, by decide +kernel, by decide +kernel⟩
abbrev s_explains : Stmt := top 29
theorem sc_explains : FnScope ["rows", "letter", "gap"] ["rows", "letter", "gap"] (defScope s_explains) := ⟨rfl, rfl, rfl, by decide +kernel, rfl, by decide +kernel, by decide +kernel⟩
abbrev s_told_by_two : Stmt := top 30
theorem sc_told_by_two : FnScope ["first", "other", "sums", "k", "j", "time", "m", "i", "last", "parts", "letter", "gap"] ["first", "other", "sums"] (defScope s_told_by_two) := ⟨rfl, rfl, rfl, by decide +kernel, rfl, by decide +kernel, by decide +kernel⟩
abbrev s_told_by_line : Stmt := top 31
theorem sc_told_by_line : FnScope ["k", "j", "time", "most", "gap", "first", "count"] ["k", "j", "time"] (defScope s_told_by_line) := ⟨rfl, rfl, rfl, by decide +kernel, rfl, by decide +kernel, by decide +kernel⟩
abbrev s_told_by_multiples : Stmt := top 32
theorem sc_told_by_multiples : FnScope ["sums", "k", "j", "time", "common", "least", "worth", "m", "_", "other"] ["sums"] (defScope s_told_by_multiples) := ⟨rfl, rfl, rfl, by decide +kernel, rfl, by decide +kernel, by decide +kernel⟩
abbrev s_told_back : Stmt := top 33
theorem sc_told_back : FnScope ["rows", "sums", "k", "j", "_", "m", "i", "time", "parts"] ["rows"] (defScope s_told_back) := ⟨rfl, rfl, rfl, by decide +kernel, rfl, by decide +kernel, by decide +kernel⟩
abbrev s_Machine_init : Stmt := inClass (top 36) 0
theorem sc_Machine_init : FnScope ["self", "o", "l", "g"] ["self", "o", "l", "g"] (defScope s_Machine_init) := ⟨rfl, rfl, rfl, by decide +kernel, rfl, by decide +kernel, by decide +kernel⟩
abbrev s_Tree_init : Stmt := inClass (top 40) 0
theorem sc_Tree_init : FnScope ["self", "machine", "turns", "roots", "k"] ["self", "machine", "turns", "roots"] (defScope s_Tree_init) := ⟨rfl, rfl, rfl, by decide +kernel, rfl, by decide +kernel, by decide +kernel⟩
abbrev s_time_of : Stmt := top 42
theorem sc_time_of : FnScope ["tree", "name"] ["tree", "name"] (defScope s_time_of) := ⟨rfl, rfl, rfl, by decide +kernel, rfl, by decide +kernel, by decide +kernel⟩
abbrev s_known_at : Stmt := top 43
theorem sc_known_at : FnScope ["machine", "name", "turns", "roots", "tree"] ["machine", "name", "turns", "roots"] (defScope s_known_at) := ⟨rfl, rfl, rfl, by decide +kernel, rfl, by decide +kernel, by decide +kernel⟩
abbrev s__law_source : Stmt := top 45
theorem sc__law_source : FnScope ["_law_script", "_law_cell"] ["_law_script"] (defScope s__law_source) := ⟨rfl, rfl, rfl, by decide +kernel, rfl, by decide +kernel, by decide +kernel⟩
abbrev s__law_draw : Stmt := top 46
theorem sc__law_draw : FnScope ["_law_source_here", "_law_limit", "_law_cell", "_law_digit", "_law_one", "_law_two", "_law_three"] ["_law_source_here", "_law_limit"] (defScope s__law_draw) := ⟨rfl, rfl, rfl, by decide +kernel, rfl, by decide +kernel, by decide +kernel⟩
abbrev s__law_wide : Stmt := top 47
theorem sc__law_wide : FnScope ["_law_source_here", "_law_limit", "_law_high", "_law_middle", "_law_low"] ["_law_source_here", "_law_limit"] (defScope s__law_wide) := ⟨rfl, rfl, rfl, by decide +kernel, rfl, by decide +kernel, by decide +kernel⟩
abbrev s__law_numbers : Stmt := top 48
theorem sc__law_numbers : FnScope ["_law_source_here", "_law_size", "_law_kind", "_law_o", "_law_l", "_law_g"] ["_law_source_here"] (defScope s__law_numbers) := ⟨rfl, rfl, rfl, by decide +kernel, rfl, by decide +kernel, by decide +kernel⟩
abbrev s__law_integer : Stmt := top 49
theorem sc__law_integer : FnScope ["_law_thing"] ["_law_thing"] (defScope s__law_integer) := ⟨rfl, rfl, rfl, by decide +kernel, rfl, by decide +kernel, by decide +kernel⟩
abbrev s__law_same : Stmt := top 50
theorem sc__law_same : FnScope ["_law_told", "_law_due", "_law_at"] ["_law_told", "_law_due"] (defScope s__law_same) := ⟨rfl, rfl, rfl, by decide +kernel, rfl, by decide +kernel, by decide +kernel⟩
abbrev s__law_shuffled : Stmt := top 51
theorem sc__law_shuffled : FnScope ["_law_source_here", "_law_things", "_law_pool", "_law_found", "_law_k"] ["_law_source_here", "_law_things"] (defScope s__law_shuffled) := ⟨rfl, rfl, rfl, by decide +kernel, rfl, by decide +kernel, by decide +kernel⟩
abbrev s__law_name : Stmt := top 52
theorem sc__law_name : FnScope ["_law_source_here", "_law_size", "_law_kind", "_law_items", "_law_k"] ["_law_source_here"] (defScope s__law_name) := ⟨rfl, rfl, rfl, by decide +kernel, rfl, by decide +kernel, by decide +kernel⟩
abbrev s__law_holds : Stmt := top 53
theorem sc__law_holds : FnScope ["_law_told", "_law_pair", "_law_first", "_law_step", "_law_count", "_law_at"] ["_law_told", "_law_pair"] (defScope s__law_holds) := ⟨rfl, rfl, rfl, by decide +kernel, rfl, by decide +kernel, by decide +kernel⟩
abbrev s__law_some_pairs : Stmt := top 54
theorem sc__law_some_pairs : FnScope ["_law_told", "_law_first", "_law_step", "_law_count", "_law_found", "_law_at"] ["_law_told"] (defScope s__law_some_pairs) := ⟨rfl, rfl, rfl, by decide +kernel, rfl, by decide +kernel, by decide +kernel⟩
abbrev s_law : Stmt := top 55
theorem sc_law : FnScope ["_law_script", "_law_source_here", "_law_o", "_law_l", "_law_g", "_law_machine", "_law_pair", "_law_rows", "_law_told", "_law_names", "_law_k", "_law_name_here", "_law_time", "_law_fewer", "_law_unlike", "_law_some"] ["_law_script"] (defScope s_law) := ⟨rfl, rfl, rfl, by decide +kernel, rfl, by decide +kernel, by decide +kernel⟩
/-- where the top has written what -/
structure Adr where
  a_is_integer : Addr
  d_is_integer : FuncData
  a_is_between : Addr
  d_is_between : FuncData
  a_check_turns : Addr
  d_check_turns : FuncData
  a_check_roots : Addr
  d_check_roots : FuncData
  a_wrong_in_name : Addr
  d_wrong_in_name : FuncData
  a_check_name : Addr
  d_check_name : FuncData
  a_is_sighting : Addr
  d_is_sighting : FuncData
  a_check_sightings : Addr
  d_check_sightings : FuncData
  a_sums_of : Addr
  d_sums_of : FuncData
  a_fits : Addr
  d_fits : FuncData
  a_explains : Addr
  d_explains : FuncData
  a_told_by_two : Addr
  d_told_by_two : FuncData
  a_told_by_line : Addr
  d_told_by_line : FuncData
  a_told_by_multiples : Addr
  d_told_by_multiples : FuncData
  a_told_back : Addr
  d_told_back : FuncData
  a_Machine_init : Addr
  d_Machine_init : FuncData
  a_Tree_init : Addr
  d_Tree_init : FuncData
  a_time_of : Addr
  d_time_of : FuncData
  a_known_at : Addr
  d_known_at : FuncData
  t_known_at_roots : Addr
  a__law_source : Addr
  d__law_source : FuncData
  a__law_draw : Addr
  d__law_draw : FuncData
  a__law_wide : Addr
  d__law_wide : FuncData
  a__law_numbers : Addr
  d__law_numbers : FuncData
  a__law_integer : Addr
  d__law_integer : FuncData
  a__law_same : Addr
  d__law_same : FuncData
  a__law_shuffled : Addr
  d__law_shuffled : FuncData
  a__law_name : Addr
  d__law_name : FuncData
  a__law_holds : Addr
  d__law_holds : FuncData
  a__law_some_pairs : Addr
  d__law_some_pairs : FuncData
  a_law : Addr
  d_law : FuncData
  c_Machine : Addr
  c_Tree : Addr
/-- what the walk asks of the top -/
structure Txt (K : PySem.W.Frag) (mg : Str → Option Value) (a : Adr) : Prop where
  F_is_integer : Fun K "is_integer" "is_integer" s_is_integer a.a_is_integer a.d_is_integer
  b_is_integer : Binds K a.d_is_integer ["thing"] []
  g_is_integer : mg "is_integer" = some (.ref a.a_is_integer)
  F_is_between : Fun K "is_between" "is_between" s_is_between a.a_is_between a.d_is_between
  b_is_between : Binds K a.d_is_between ["thing", "low", "high"] []
  g_is_between : mg "is_between" = some (.ref a.a_is_between)
  F_check_turns : Fun K "check_turns" "check_turns" s_check_turns a.a_check_turns a.d_check_turns
  b_check_turns : Binds K a.d_check_turns ["turns"] []
  g_check_turns : mg "check_turns" = some (.ref a.a_check_turns)
  F_check_roots : Fun K "check_roots" "check_roots" s_check_roots a.a_check_roots a.d_check_roots
  b_check_roots : Binds K a.d_check_roots ["roots"] []
  g_check_roots : mg "check_roots" = some (.ref a.a_check_roots)
  F_wrong_in_name : Fun K "wrong_in_name" "wrong_in_name" s_wrong_in_name a.a_wrong_in_name a.d_wrong_in_name
  b_wrong_in_name : Binds K a.d_wrong_in_name ["thing", "turns", "roots"] []
  g_wrong_in_name : mg "wrong_in_name" = some (.ref a.a_wrong_in_name)
  F_check_name : Fun K "check_name" "check_name" s_check_name a.a_check_name a.d_check_name
  b_check_name : Binds K a.d_check_name ["thing", "turns", "roots"] []
  g_check_name : mg "check_name" = some (.ref a.a_check_name)
  F_is_sighting : Fun K "is_sighting" "is_sighting" s_is_sighting a.a_is_sighting a.d_is_sighting
  b_is_sighting : Binds K a.d_is_sighting ["thing"] []
  g_is_sighting : mg "is_sighting" = some (.ref a.a_is_sighting)
  F_check_sightings : Fun K "check_sightings" "check_sightings" s_check_sightings a.a_check_sightings a.d_check_sightings
  b_check_sightings : Binds K a.d_check_sightings ["rows"] []
  g_check_sightings : mg "check_sightings" = some (.ref a.a_check_sightings)
  F_sums_of : Fun K "sums_of" "sums_of" s_sums_of a.a_sums_of a.d_sums_of
  b_sums_of : Binds K a.d_sums_of ["rows"] []
  g_sums_of : mg "sums_of" = some (.ref a.a_sums_of)
  F_fits : Fun K "fits" "fits" s_fits a.a_fits a.d_fits
  b_fits : Binds K a.d_fits ["sums", "letter", "gap"] []
  g_fits : mg "fits" = some (.ref a.a_fits)
  F_explains : Fun K "explains" "explains" s_explains a.a_explains a.d_explains
  b_explains : Binds K a.d_explains ["rows", "letter", "gap"] []
  g_explains : mg "explains" = some (.ref a.a_explains)
  F_told_by_two : Fun K "told_by_two" "told_by_two" s_told_by_two a.a_told_by_two a.d_told_by_two
  b_told_by_two : Binds K a.d_told_by_two ["first", "other", "sums"] []
  g_told_by_two : mg "told_by_two" = some (.ref a.a_told_by_two)
  F_told_by_line : Fun K "told_by_line" "told_by_line" s_told_by_line a.a_told_by_line a.d_told_by_line
  b_told_by_line : Binds K a.d_told_by_line ["k", "j", "time"] []
  g_told_by_line : mg "told_by_line" = some (.ref a.a_told_by_line)
  F_told_by_multiples : Fun K "told_by_multiples" "told_by_multiples" s_told_by_multiples a.a_told_by_multiples a.d_told_by_multiples
  b_told_by_multiples : Binds K a.d_told_by_multiples ["sums"] []
  g_told_by_multiples : mg "told_by_multiples" = some (.ref a.a_told_by_multiples)
  F_told_back : Fun K "told_back" "told_back" s_told_back a.a_told_back a.d_told_back
  b_told_back : Binds K a.d_told_back ["rows"] []
  g_told_back : mg "told_back" = some (.ref a.a_told_back)
  F_Machine_init : Fun K "__init__" "Machine.__init__" s_Machine_init a.a_Machine_init a.d_Machine_init
  b_Machine_init : Binds K a.d_Machine_init ["self", "o", "l", "g"] []
  mk_Machine : Mk K a.c_Machine a.a_Machine_init
  F_Tree_init : Fun K "__init__" "Tree.__init__" s_Tree_init a.a_Tree_init a.d_Tree_init
  b_Tree_init : Binds K a.d_Tree_init ["self", "machine", "turns", "roots"] []
  mk_Tree : Mk K a.c_Tree a.a_Tree_init
  F_time_of : Fun K "time_of" "time_of" s_time_of a.a_time_of a.d_time_of
  b_time_of : Binds K a.d_time_of ["tree", "name"] []
  g_time_of : mg "time_of" = some (.ref a.a_time_of)
  F_known_at : FunD K "known_at" "known_at" (defArgs s_known_at) (defBody s_known_at) (defScope s_known_at) [] [("turns", .non), ("roots", .ref a.t_known_at_roots)] a.a_known_at a.d_known_at
  t_known_at_roots : ∀ H, SqT K H a.t_known_at_roots [.int 0]
  g_known_at : mg "known_at" = some (.ref a.a_known_at)
  F__law_source : Fun K "_law_source" "_law_source" s__law_source a.a__law_source a.d__law_source
  b__law_source : Binds K a.d__law_source ["_law_script"] []
  g__law_source : mg "_law_source" = some (.ref a.a__law_source)
  F__law_draw : Fun K "_law_draw" "_law_draw" s__law_draw a.a__law_draw a.d__law_draw
  b__law_draw : Binds K a.d__law_draw ["_law_source_here", "_law_limit"] []
  g__law_draw : mg "_law_draw" = some (.ref a.a__law_draw)
  F__law_wide : Fun K "_law_wide" "_law_wide" s__law_wide a.a__law_wide a.d__law_wide
  b__law_wide : Binds K a.d__law_wide ["_law_source_here", "_law_limit"] []
  g__law_wide : mg "_law_wide" = some (.ref a.a__law_wide)
  F__law_numbers : Fun K "_law_numbers" "_law_numbers" s__law_numbers a.a__law_numbers a.d__law_numbers
  b__law_numbers : Binds K a.d__law_numbers ["_law_source_here"] []
  g__law_numbers : mg "_law_numbers" = some (.ref a.a__law_numbers)
  F__law_integer : Fun K "_law_integer" "_law_integer" s__law_integer a.a__law_integer a.d__law_integer
  b__law_integer : Binds K a.d__law_integer ["_law_thing"] []
  g__law_integer : mg "_law_integer" = some (.ref a.a__law_integer)
  F__law_same : Fun K "_law_same" "_law_same" s__law_same a.a__law_same a.d__law_same
  b__law_same : Binds K a.d__law_same ["_law_told", "_law_due"] []
  g__law_same : mg "_law_same" = some (.ref a.a__law_same)
  F__law_shuffled : Fun K "_law_shuffled" "_law_shuffled" s__law_shuffled a.a__law_shuffled a.d__law_shuffled
  b__law_shuffled : Binds K a.d__law_shuffled ["_law_source_here", "_law_things"] []
  g__law_shuffled : mg "_law_shuffled" = some (.ref a.a__law_shuffled)
  F__law_name : Fun K "_law_name" "_law_name" s__law_name a.a__law_name a.d__law_name
  b__law_name : Binds K a.d__law_name ["_law_source_here"] []
  g__law_name : mg "_law_name" = some (.ref a.a__law_name)
  F__law_holds : Fun K "_law_holds" "_law_holds" s__law_holds a.a__law_holds a.d__law_holds
  b__law_holds : Binds K a.d__law_holds ["_law_told", "_law_pair"] []
  g__law_holds : mg "_law_holds" = some (.ref a.a__law_holds)
  F__law_some_pairs : Fun K "_law_some_pairs" "_law_some_pairs" s__law_some_pairs a.a__law_some_pairs a.d__law_some_pairs
  b__law_some_pairs : Binds K a.d__law_some_pairs ["_law_told"] []
  g__law_some_pairs : mg "_law_some_pairs" = some (.ref a.a__law_some_pairs)
  F_law : Fun K "law" "law" s_law a.a_law a.d_law
  b_law : Binds K a.d_law ["_law_script"] []
  g_law : mg "law" = some (.ref a.a_law)
  g_Machine : mg "Machine" = some (.ref a.c_Machine)
  cl_Machine : Cls K a.c_Machine
  nF_Machine_o : NoAttr K a.c_Machine "o"
  nF_Machine_l : NoAttr K a.c_Machine "l"
  nF_Machine_g : NoAttr K a.c_Machine "g"
  nF_Machine_letter : NoAttr K a.c_Machine "letter"
  nF_Machine_gap : NoAttr K a.c_Machine "gap"
  g_Tree : mg "Tree" = some (.ref a.c_Tree)
  cl_Tree : Cls K a.c_Tree
  nF_Tree_letter : NoAttr K a.c_Tree "letter"
  nF_Tree_gap : NoAttr K a.c_Tree "gap"
  nF_Tree_turns : NoAttr K a.c_Tree "turns"
  nF_Tree_roots : NoAttr K a.c_Tree "roots"
  nF_Tree_horizon : NoAttr K a.c_Tree "horizon"
  nF_Tree_powers : NoAttr K a.c_Tree "powers"
  g_gcd : mg "gcd" = some (.builtin "math.gcd")
  n_all : mg "all" = none
  n_bool : mg "bool" = none
  n_enumerate : mg "enumerate" = none
  n_int : mg "int" = none
  n_isinstance : mg "isinstance" = none
  n_len : mg "len" = none
  n_list : mg "list" = none
  n_max : mg "max" = none
  n_range : mg "range" = none
  n_str : mg "str" = none
  n_sum : mg "sum" = none
  n_tuple : mg "tuple" = none
  g_MOST_TURNS : ∃ t, mg "MOST_TURNS" = some (.int 1000000000000 t)
  g_MOST_ROOTS : ∃ t, mg "MOST_ROOTS" = some (.int 6 t)
  g_LATEST_ROOT : ∃ t, mg "LATEST_ROOT" = some (.int 1000000000000 t)
  g_LONGEST_NAME : ∃ t, mg "LONGEST_NAME" = some (.int 200 t)
  g_GREATEST_ITEM : ∃ t, mg "GREATEST_ITEM" = some (.int 1000000000000000 t)
  g_MOST_SIGHTINGS : ∃ t, mg "MOST_SIGHTINGS" = some (.int 60 t)
  g_LATEST_SIGHTING : ∃ t, mg "LATEST_SIGHTING" = some (.int 100000000000000000000 t)
  g_GREATEST_TOLD : ∃ t, mg "GREATEST_TOLD" = some (.int 100000000000000000000 t)
  g_GREATEST_PART : ∃ t, mg "GREATEST_PART" = some (.int 1000000000 t)
  g_FREE_DEPTHS : ∃ t, mg "FREE_DEPTHS" = some (.int 120 t)
  g_TURNS_DEPTHS : ∃ t, mg "TURNS_DEPTHS" = some (.int 40 t)
/-! ### core: rules that the layer lacks, what a draw's source is -/
section
variable {X : Cx}
/-- xs[i], read ahead of xs[i] op= e -/
theorem gt_list : PGet X (rIxL X.K) := by
  intro pins s σ H x y v u Q I rx ry h
  obtain ⟨p, xs, i, z, rfl, rfl, hq, he, q⟩ := h
  cases rx
  obtain ⟨t, rfl⟩ := ry
  obtain ⟨its, r, pl, hz⟩ := I.list hq
  obtain ⟨j, h1, h2, h3, h4, h5⟩ := atI_get he
  obtain ⟨w, ew, rw'⟩ := r.get h2
  have hl := r.length
  have hn := line63
  have fin : EP X pins σ Q w s := ⟨z, H, I, rw', q⟩
  by_cases h0 : 0 ≤ i
  · have hj : i.toNat = j := by
      rw [seqIndex_of h0 h5] at h1
      exact Option.some.inj h1
    exact PySem.wpAny_getItem_list pl.isList h0 (by omega) (by rw [hj]; simpa using ew) fin
  · have hj : (i + (its.toArray.size : Int)).toNat = j := by
      rw [seqIndex_neg (by omega) h4] at h1
      rw [List.size_toArray, ← hl]
      exact Option.some.inj h1
    exact PySem.wpAny_getItem_list_neg pl.isList (by omega) (by rw [List.size_toArray] <;> omega) (by omega) (by rw [hj]; simpa using ew) fin
end
theorem pe_powN {X : Cx} {i j z : Int} {p q pos : Pos} {k l : Nat} (hc : CPow i j) (h : i ^ j.toNat = z) : PE X (.BinOp (.Constant (.int i) k p) .Pow (.Constant (.int j) l q) pos) (tC (.int z)) :=
  ⟨fun pins s σ H Q I g => (pe_op op_pow pe_int pe_int).run pins s σ H Q I ⟨i, j, rfl, rfl, hc, by show Q (.int (i ^ j.toNat)) H; rw [h]; exact g⟩⟩
theorem ite_tt {c A B : Prop} [Decidable c] (hc : c) (h : A) : if decide c = true then A else B := by
  rw [if_pos (decide_eq_true hc)]
  exact h
theorem ite_ff {c A B : Prop} [Decidable c] (hc : ¬ c) (h : B) : if decide c = true then A else B := by
  rw [if_neg (by rw [decide_eq_false hc]; exact Bool.false_ne_true)]
  exact h
theorem ite_d {c A B : Prop} [Decidable c] (h1 : c → A) (h2 : ¬ c → B) : if decide c = true then A else B := by
  by_cases hc : c
  · exact ite_tt hc (h1 hc)
  · exact ite_ff hc (h2 hc)
theorem ite_b {b : Bool} {A B : Prop} (h1 : b = true → A) (h2 : b = false → B) : if b = true then A else B := by
  cases b with
  | true => exact iteT (h1 rfl)
  | false => exact iteF (h2 rfl)
/-! ### readings, turn by turn -/
/-- a new object -/
def NewAt (n : Nat) (o : HO) (H : Hp) (Q : VK) : Prop := n ≤ sizeLine ∧ ∀ p, H p = none → Q (.ref p) (upd H p o)
theorem Same.new {H : Hp} {p : Addr} {o : HO} (h : H p = none) : Same H (upd H p o) := fun b u e => by rw [upd_ne (ne_of_none e h)]; exact e
theorem Same.at {H H' : Hp} {b : Addr} {o : HO} (s : Same H H') (h : H b = some o) : H' b = some o := s b o h
/-- all but what stands at p is as it was -/
def But (p : Addr) (H H' : Hp) : Prop := ∀ b o, H b = some o → b ≠ p → H' b = some o
theorem But.refl (p : Addr) (H : Hp) : But p H H := fun _ _ h _ => h
theorem But.trans {p : Addr} {H H1 H2 : Hp} (a : But p H H1) (b : But p H1 H2) : But p H H2 := fun c o h n => b c o (a c o h n) n
theorem But.of_same {p : Addr} {H H' : Hp} (h : Same H H') : But p H H' := fun b o e _ => h b o e
theorem But.upd {p : Addr} {H : Hp} {o : HO} : But p H (upd H p o) := fun b u h n => by rw [upd_ne n]; exact h
theorem But.at {p b : Addr} {H H' : Hp} {o : HO} (s : But p H H') (n : b ≠ p) (h : H b = some o) : H' b = some o := s b o h n
theorem But.new {p q : Addr} {H : Hp} {o : HO} (h : H q = none) : But p H (L2.upd H q o) := But.of_same (Same.new h)
theorem But.some {p b : Addr} {H H' : Hp} {o : HO} (s : But p H H') (h : H b = Option.some o) (n : b ≠ p) : ∃ u, H' b = Option.some u := ⟨o, s b o h n⟩
theorem _root_.L2.Same.over {H H' : Hp} {D : Addr} {o u : HO} (s : Same H H') (n : H D = none) (e : H' D = some u) (hu : True := trivial) : Same H (upd H' D o) := fun b v h => (upd_ne (ne_of_none h n)).trans (s b v h)
theorem _root_.L2.Same.made0 {H : Hp} {x dx C : Addr} (nx : H x = none) (nd : H dx = none) : Same H (L2.upd (L2.upd H dx (.own x)) x (.ins C dx [])) := fun b o e => by
  rw [upd_ne (ne_of_none e nx), upd_ne (ne_of_none e nd)]; exact e
theorem But.updNone {H H' : Hp} {x L : Addr} {o : HO} (b : But x H H') (n : H L = none) : But x H (L2.upd H' L o) := fun c u hc hn => (upd_ne (ne_of_none hc n)).trans (b c u hc hn)
theorem But.updOver {H H' : Hp} {x L : Addr} {o u : HO} (b : But x H H') (n : H L = none) (e : H' L = Option.some u) : But x H (L2.upd H' L o) := b.updNone n

theorem new_at {n : Nat} {o : HO} {H : Hp} {Q : VK} (hn : n ≤ 1000) (k : ∀ p H', H p = none → Same H H' → H' p = some o → Q (.ref p) H') : NewAt n o H Q :=
  ⟨Nat.le_trans hn (by decide), fun p hp => k p _ hp (Same.new hp) upd_same⟩
theorem new_of {o : HO} {H : Hp} {Q : VK} (k : ∀ p H', H p = none → Same H H' → H' p = some o → Q (.ref p) H') : ∀ p, H p = none → Q (.ref p) (upd H p o) := fun p hp => k p _ hp (Same.new hp) upd_same
section
variable {K : PySem.W.Frag} {σ : St} {H : Hp} {Q : VK} {ta tb tc : TE} {x y v : V} {D : Ends} {t u : TS} {QT : Bool → Hp → Prop} {QA : List V → Hp → Prop} {i j : Int} {n m : Nat}
theorem r_var (e : σ[n]? = some (some v)) (q : Q v H) : tVar n σ H Q := ⟨v, e, q⟩
theorem r_c (q : Q v H) : tC v σ H Q := q
theorem r_op {r : R2} (h : ta σ H fun x H1 => tb σ H1 fun y H2 => r x y H2 Q) : tOp r ta tb σ H Q := h
theorem r_un {r : V → Hp → VK → Prop} (h : ta σ H fun x H1 => r x H1 Q) : tUn r ta σ H Q := h
theorem r_I0 {g : Int → Int → V} (q : Q (g i j) H) : rI0 g (.int i) (.int j) H Q := ⟨i, j, rfl, rfl, q⟩
theorem r_I {C : Int → Int → Prop} {g : Int → Int → V} (c : C i j) (q : Q (g i j) H) : rI C g (.int i) (.int j) H Q := ⟨i, j, rfl, rfl, c, q⟩
theorem r_add (q : Q (.int (i + j)) H) : rAdd (.int i) (.int j) H Q := ⟨i, j, rfl, rfl, q⟩
theorem r_sub (q : Q (.int (i - j)) H) : rSub (.int i) (.int j) H Q := ⟨i, j, rfl, rfl, q⟩
theorem r_U {g : Int → V} (q : Q (g i) H) : rU g (.int i) H Q := ⟨i, rfl, q⟩
theorem r_eqI (q : Q (.bl (decide (i = j))) H) : rEq (.int i) (.int j) H Q := ⟨rfl, by
  have e : decide (V.int i = V.int j) = decide (i = j) := by
    by_cases h : i = j
    · subst h; rw [decide_eq_true rfl, decide_eq_true rfl]
    · rw [decide_eq_false h, decide_eq_false fun z => h (V.int.inj z)]
  rw [e]; exact q⟩
theorem r_neI (q : Q (.bl (!decide (i = j))) H) : rNe (.int i) (.int j) H Q := ⟨rfl, by
  have e : decide (V.int i = V.int j) = decide (i = j) := by
    by_cases h : i = j
    · subst h; rw [decide_eq_true rfl, decide_eq_true rfl]
    · rw [decide_eq_false h, decide_eq_false fun z => h (V.int.inj z)]
  rw [e]; exact q⟩
theorem r_ixL {p : Addr} {xs : List V} (h : H p = some (.lst xs)) (e : atI xs i = some v) (q : Q v H) : rIxL K (.ref p) (.int i) H Q := ⟨p, xs, i, v, rfl, rfl, SqL.of h, e, q⟩
theorem r_ixT {p : Addr} {xs : List V} (h : H p = some (.tup xs)) (e : atI xs i = some v) (q : Q v H) : rIxT K (.ref p) (.int i) H Q := ⟨p, xs, i, v, rfl, rfl, SqT.of h, e, q⟩
theorem r_test (h : ta σ H fun x H' => ∃ k, x = .bl k ∧ QT k H') : tTest ta σ H QT := h
theorem r_tB (h : ta σ H fun x H' => ∃ k, x = .bl k ∧ QT k H') : tB ta σ H QT := h
theorem r_bl {b : Bool} {R : Bool → Prop} (h : R b) : ∃ k, V.bl b = .bl k ∧ R k := ⟨b, rfl, h⟩
theorem r_not {t : TT} (h : t σ H fun c H1 => QT (!c) H1) : tNot t σ H QT := h
theorem r_and {t u : TT} (h : t σ H fun c H1 => if c = true then u σ H1 QT else QT false H1) : tAnd t u σ H QT := h
theorem r_or {t u : TT} (h : t σ H fun c H1 => if c = true then QT true H1 else u σ H1 QT) : tOr t u σ H QT := h
theorem r_notV (h : ta σ H fun x H1 => ∃ c, x = .bl c ∧ Q (.bl (!c)) H1) : tNotV ta σ H Q := h
theorem r_andV (h : ta σ H fun x H1 => ∃ c, x = .bl c ∧ if c = true then tb σ H1 Q else Q (.bl false) H1) : tAndV ta tb σ H Q := h
theorem r_orV (h : ta σ H fun x H1 => ∃ c, x = .bl c ∧ if c = true then Q (.bl true) H1 else tb σ H1 Q) : tOrV ta tb σ H Q := h
theorem r_ifE {t : TT} (h : t σ H fun c H1 => if c = true then ta σ H1 Q else tb σ H1 Q) : tIf t ta tb σ H Q := h
theorem r_seq (h : t { D with nx := u D } σ H) : tSeq t u D σ H := h
theorem r_next (h : D.nx σ H) : tNext D σ H := h
theorem r_brk (h : D.bk σ H) : tBreak D σ H := h
theorem r_cont (h : D.ct σ H) : tCont D σ H := h
theorem r_drop (h : ta σ H fun _ H1 => D.nx σ H1) : tDrop ta D σ H := h
theorem r_ret (h : ta σ H D.rt) : tRet ta D σ H := h
theorem r_ifS {c : TT} (h : c σ H fun b H1 => if b = true then t D σ H1 else u D σ H1) : tIfS c t u D σ H := h
theorem r_asg {g : TG} (h : ta σ H fun x H1 => g x σ H1 D.nx) : tAsg ta g D σ H := h
theorem r_gName {R : St → Hp → Prop} (h : R (σ.set n (some v)) H) : gName n v σ H R := h
theorem r_gSub {s : TSet} {R : St → Hp → Prop} (h : ta σ H fun o H1 => tb σ H1 fun i H2 => s o i v H2 fun H3 => R σ H3) : gSub ta tb s v σ H R := h
theorem r_setL {p : Addr} {xs : List V} {k : Nat} {R : Hp → Prop} (h : H p = some (.lst xs)) (e : ixN xs.length i = some k) (q : R (upd H p (.lst (xs.set k v)))) : rSetL (.ref p) (.int i) v H R := ⟨p, xs, i, k, rfl, rfl, h, e, q⟩
theorem r_aug {ti : TIp} (e : σ[n]? = some (some x)) (h : ta σ H fun y H1 => ti x y H1 fun z H2 => D.nx (σ.set n (some z)) H2) : tAug n ta ti D σ H := ⟨x, e, h⟩
theorem r_augS {tg : V → V → Hp → VK → Prop} {tip : TIp} {ts : TSet} (h : ta σ H fun o H1 => tb σ H1 fun i H2 => tg o i H2 fun x H3 => tc σ H3 fun y H4 => tip x y H4 fun z H5 => ts o i z H5 fun H6 => D.nx σ H6) : tAugS ta tb tc tg tip ts D σ H := h
theorem r_ip {f : Int → Int → Int} (q : Q (.int (f i j)) H) : ipI f (.int i) (.int j) H Q := ⟨i, j, rfl, rfl, q⟩
theorem r_nil (h : QA [] H) : tNil σ H QA := h
theorem r_cons {tr : TA} (h : ta σ H fun x H1 => tr σ H1 fun xs H2 => QA (x :: xs) H2) : tCons ta tr σ H QA := h
theorem r_tup {t : TA} (h : t σ H fun xs H1 => NewAt xs.length (.tup xs) H1 Q) : tTup t σ H Q := h
theorem r_lst {t : TA} (h : t σ H fun xs H1 => NewAt xs.length (.lst xs) H1 Q) : tLst t σ H Q := h
theorem r_CB {r : List V → Hp → VK → Prop} {t : TA} (h : t σ H fun vs H1 => r vs H1 Q) : tCB r t σ H Q := h
theorem r_call {sp : Sp} {dvs : List V} {E : XK} {t : TA} (h : t σ H fun vs H1 => sp (vs ++ dvs) H1 Q E) : tCall sp dvs E t σ H Q := h
theorem r_callN {k l : Nat} {sp : Sp} {gV : List V → List V → List V} {E : XK} {t tk : TA} (h : t σ H fun vs H1 => tk σ H1 fun zs H2 => vs.length = k ∧ zs.length = l ∧ sp (gV vs zs) H2 Q E) : tCallN k l sp gV E t tk σ H Q := h
theorem r_fld {p C dx : Addr} {fs : List (Str × V)} {f : Str} {R : V → Prop} (hc : Cls K C) (hn : NoAttr K C f) (hx : H p = some (.ins C dx fs)) (e : fs.lookup f = some v) (q : R v) : (∃ a C dx fs v, V.ref p = .ref a ∧ H a = some (.ins C dx fs) ∧ Cls K C ∧ NoAttr K C f ∧ fs.lookup f = some v ∧ R v) := ⟨p, C, dx, fs, v, rfl, hx, hc, hn, e, q⟩
theorem r_tFld {f : Str} (h : ta σ H fun x H1 => ∃ a C dx fs v, x = .ref a ∧ H1 a = some (.ins C dx fs) ∧ Cls K C ∧ NoAttr K C f ∧ fs.lookup f = some v ∧ Q v H1) : tFld K ta f σ H Q := h
theorem r_sl {r : V → Option Int → Option Int → Hp → VK → Prop} {tl th : TO} (h : ta σ H fun x H1 => tl σ H1 fun l H2 => th σ H2 fun u H3 => r x l u H3 Q) : tSl r ta tl th σ H Q := h
theorem r_noP {R : Option Int → Hp → Prop} (h : R none H) : tNoPart σ H R := h
theorem r_part {R : Option Int → Hp → Prop} (h : ta σ H fun x H1 => ∃ i, x = .int i ∧ R (some i) H1) : tPart ta σ H R := h
theorem r_in {R : Int → Prop} (h : R i) : ∃ k, V.int i = .int k ∧ R k := ⟨i, rfl, h⟩
theorem r_Bm {T : String} {r : V → List V → Hp → VK → Prop} {t : TA} (h : ta σ H fun x H1 => tyV K T x H1 ∧ t σ H1 fun xs H2 => r x xs H2 Q) : tBM K T r ta t σ H Q := h
theorem r_app {l : Addr} {xs : List V} (h : H l = some (.lst xs)) (hz : xs.length < sizeLine) (q : Q .non (upd H l (.lst (xs ++ [y])))) : rAppend (.ref l) [y] H Q := ⟨l, xs, y, rfl, rfl, h, hz, q⟩
end
theorem at_nat {ns : List Int} {i : Int} (h0 : 0 ≤ i) (h : i < (ns.map V.int).length) : ∃ n, atI (ns.map V.int) i = some (.int n) ∧ n ∈ ns := by
  obtain ⟨j, rfl⟩ : ∃ j : Nat, i = j := ⟨i.toNat, by omega⟩
  rw [List.length_map] at h
  have hj : j < ns.length := by omega
  exact ⟨ns[j], atI_nat (by rw [List.getElem?_map, List.getElem?_eq_getElem hj]; rfl), List.getElem_mem hj⟩
theorem fmod_nn {a b : Int} (h : 0 < b) : 0 ≤ a.fmod b := by rw [Int.fmod_eq_emod_of_nonneg a (by omega)]; exact Int.emod_nonneg a (by omega)
theorem fmod_lt {a b : Int} (h : 0 < b) : a.fmod b < b := by rw [Int.fmod_eq_emod_of_nonneg a (by omega)]; exact Int.emod_lt_of_pos a h
theorem lim_div {lim : Int} (h0 : 0 < lim) (h : lim < 2 ^ 200) : CDivW lim lim := wide_div (b := 200) h0 (by omega) (by decide) (by decide)
theorem cdiv_of {i lim : Int} (h0 : 0 < lim) (h : lim < 2 ^ 200) : CDivW i lim := ⟨h0, (lim_div h0 h).2⟩
theorem mulL {i j : Int} (h1 : -(2 ^ 64) < i) (h2 : i < 2 ^ 64) : CMul i j := Or.inl ⟨h1, h2⟩
theorem mulR {i j : Int} (h1 : -(2 ^ 64) < j) (h2 : j < 2 ^ 64) : CMul i j := Or.inr ⟨h1, h2⟩
theorem powOk {i j : Int} (h1 : 0 ≤ j) (h2 : j ≤ 1000000) (h3 : i.natAbs < 2 ^ 64) : CPow i j := ⟨h1, h2, h3⟩
theorem r_for {wi : TI} {g : TG} {tb : TS} {D : Ends} {σ : St} {H : Hp} (h : wi σ H fun J H1 => ∃ W : Nat → Nat → St → Hp → Prop, (∃ m, W 0 m σ H1) ∧ ∀ i m σ H, W i m σ H →
  (J.stop i H ∧ D.nx σ H) ∨ (J.go i H ∧ ∃ N : St → Hp → Prop, (∀ σ' H', N σ' H' → ∃ m', m' < m ∧ W (i + 1) m' σ' H') ∧ ∀ x H', J.yld i H x H' → g x σ H' fun σ2 H2 => tb { D with nx := N, ct := N, bk := D.nx } σ2 H2)) : tFor wi g tb D σ H := h
theorem r_iR1 {ta : TA} {σ : St} {H : Hp} {R : It → Hp → Prop} (h : ta σ H fun vs H1 => ∃ j : Int, vs = [.int j] ∧ -(2 ^ 62) ≤ j ∧ j < 2 ^ 62 ∧ R (Itr 0 j.toNat) H1) : iRng1 ta σ H R := h
theorem r_iR2 {ta : TA} {σ : St} {H : Hp} {R : It → Hp → Prop} (h : ta σ H fun vs H1 => ∃ i j : Int, vs = [.int i, .int j] ∧ (-(2 ^ 62) ≤ i ∧ i < 2 ^ 62 ∧ -(2 ^ 62) ≤ j ∧ j < 2 ^ 62) ∧ R (Itr i (j - i).toNat) H1) : iRng2 ta σ H R := h
theorem r_tMeth {C : Addr} {m : Str} {sp : Sp} {dvs : List V} {E : XK} {ta : TE} {t : TA} {σ : St} {H : Hp} {Q : VK} (h : ta σ H fun x H1 => ∃ a dx fs, x = .ref a ∧ H1 a = some (.ins C dx fs) ∧ fs.lookup m = none ∧ t σ H1 fun vs H2 => sp (x :: (vs ++ dvs)) H2 Q E) : tMeth C m sp dvs E ta t σ H Q := h
theorem r_meth {C p dx : Addr} {fs : List (Str × V)} {m : Str} {H : Hp} {R : Prop} (hx : H p = some (.ins C dx fs)) (hl : fs.lookup m = none) (q : R) : ∃ a dx fs, V.ref p = .ref a ∧ H a = some (.ins C dx fs) ∧ fs.lookup m = none ∧ R := ⟨p, dx, fs, rfl, hx, hl, q⟩
theorem r_iT {K : PySem.W.Frag} {tl : TE} {σ : St} {H : Hp} {R : It → Hp → Prop} (h : tl σ H fun x H1 => ∃ a, x = .ref a ∧ (∃ xs, SqT K H1 a xs) ∧ R (Itt K a) H1) : iTup K tl σ H R := h
theorem r_iL {K : PySem.W.Frag} {tl : TE} {σ : St} {H : Hp} {R : It → Hp → Prop} (h : tl σ H fun x H1 => ∃ a, x = .ref a ∧ (∃ xs, SqL K H1 a xs) ∧ R (Itl K a) H1) : iList K tl σ H R := h
theorem r_lc {wi : TI} {g : TG} {tt : TT} {te : TE} {vs : List Nat} {σ : St} {H : Hp} {Q : VK} (h : wi σ H fun J H1 => ∀ D, H1 D = none → ∃ W : Nat → Nat → Hp → Prop, (∃ m, W 0 m (upd H1 D (.lst []))) ∧ ∀ i m H, W i m H →
  (J.stop i H ∧ Q (.ref D) H) ∨ (J.go i H ∧ ∃ Nx : Hp → Prop, (∀ H', Nx H' → ∃ m', m' < m ∧ W (i + 1) m' H') ∧ ∀ x H', J.yld i H x H' → g x (wipe σ vs) H' fun σ2 H2 => wipe σ2 vs = wipe σ vs ∧ tt σ2 H2 fun b H3 =>
    if b = true then te σ2 H3 fun y H4 => ∃ acc, H4 D = some (.lst acc) ∧ acc.length < sizeLine ∧ Nx (upd H4 D (.lst (acc ++ [y]))) else Nx H3)) : tLc wi g tt te vs σ H Q := h
theorem r_isiI {K : PySem.W.Frag} {H : Hp} {Q : VK} {i : Int} {n : String} (b : Bool) (h : kitB "int" n = some b) (q : Q (.bl b) H) : rIsi K [.int i, .ty n] H Q := ⟨_, _, .type "int", .type n, b, rfl, .ty n, .base (.int i), kit_ty h, q⟩
theorem r_isiB {K : PySem.W.Frag} {H : Hp} {Q : VK} {i : Bool} {n : String} (b : Bool) (h : kitB "bool" n = some b) (q : Q (.bl b) H) : rIsi K [.bl i, .ty n] H Q := ⟨_, _, .type "bool", .type n, b, rfl, .ty n, .base (.bl i), kit_ty h, q⟩
theorem r_slL {K : PySem.W.Frag} {H : Hp} {Q : VK} {a : Addr} {xs : List V} {lo hi : Option Int} (h : SqL K H a xs) (q : ∀ p H', H p = none → Same H H' → H' p = some (.lst (cutV xs lo hi)) → Q (.ref p) H') : rSlL K (.ref a) lo hi H Q := ⟨a, xs, rfl, h, new_of q⟩
theorem r_slT {K : PySem.W.Frag} {H : Hp} {Q : VK} {a : Addr} {xs : List V} {lo hi : Option Int} (h : SqT K H a xs) (hn : ¬ (HT.sIx xs.length 0 lo = 0 ∧ HT.sIx xs.length xs.length hi = xs.length)) (q : ∀ p H', H p = none → Same H H' → H' p = some (.tup (cutV xs lo hi)) → Q (.ref p) H') : rSlT K (.ref a) lo hi H Q := ⟨a, xs, rfl, h, hn, new_of q⟩
def rListOf (K : PySem.W.Frag) : List V → Hp → VK → Prop := fun xs H Q => ∃ p ys, xs = [.ref p] ∧ (SqL K H p ys ∨ SqT K H p ys) ∧ ∀ l, H l = none → Q (.ref l) (upd H l (.lst ys))
def rTupOf (K : PySem.W.Frag) : List V → Hp → VK → Prop := fun xs H Q => ∃ p ys, xs = [.ref p] ∧ ((SqL K H p ys ∧ ∀ l, H l = none → Q (.ref l) (upd H l (.tup ys))) ∨ (SqT K H p ys ∧ Q (.ref p) H))
theorem cr_list {X : Cx} : CallR X (.type "list") (rListOf X.K) := call_list_of
theorem cr_tup {X : Cx} : CallR X (.type "tuple") (rTupOf X.K) := call_tuple_of
theorem r_listS {K : PySem.W.Frag} {H : Hp} {Q : VK} {a : Addr} {xs : List V} (h : SqL K H a xs ∨ SqT K H a xs) (q : ∀ p H', H p = none → Same H H' → H' p = some (.lst xs) → Q (.ref p) H') : rListOf K [.ref a] H Q := ⟨a, xs, rfl, h, new_of q⟩
theorem r_listL {K : PySem.W.Frag} {H : Hp} {Q : VK} {a : Addr} {xs : List V} (h : H a = some (.lst xs)) (q : ∀ p H', H p = none → Same H H' → H' p = some (.lst xs) → Q (.ref p) H') : rListOf K [.ref a] H Q := r_listS (.inl (SqL.of h)) q
theorem r_listT {K : PySem.W.Frag} {H : Hp} {Q : VK} {a : Addr} {xs : List V} (h : H a = some (.tup xs)) (q : ∀ p H', H p = none → Same H H' → H' p = some (.lst xs) → Q (.ref p) H') : rListOf K [.ref a] H Q := r_listS (.inr (SqT.of h)) q
theorem r_tupL {K : PySem.W.Frag} {H : Hp} {Q : VK} {a : Addr} {xs : List V} (h : H a = some (.lst xs)) (q : ∀ p H', H p = none → Same H H' → H' p = some (.tup xs) → Q (.ref p) H') : rTupOf K [.ref a] H Q := ⟨a, xs, rfl, .inl ⟨SqL.of h, new_of q⟩⟩
theorem r_tupT {K : PySem.W.Frag} {H : Hp} {Q : VK} {a : Addr} {xs : List V} (h : H a = some (.tup xs)) (q : Q (.ref a) H) : rTupOf K [.ref a] H Q := ⟨a, xs, rfl, .inr ⟨SqT.of h, q⟩⟩
theorem r_nF {A B : Prop} (h : A) : if (!false) = true then A else B := h
theorem r_nT {A B : Prop} (h : B) : if (!true) = true then A else B := by
  rw [if_neg (by decide)]
  exact h
theorem r_nD {c A B : Prop} [Decidable c] (h1 : ¬ c → A) (h2 : c → B) : if (!decide c) = true then A else B := by
  by_cases hc : c
  · rw [decide_eq_true hc]; exact r_nT (h2 hc)
  · rw [decide_eq_false hc]; exact r_nF (h1 hc)
theorem cut_take {xs : List V} {k : Int} (h : (xs.length : Int) ≤ k) : cutV xs none (some k) = xs := by
  have e : HT.sIx xs.length xs.length (some k) = xs.length := by
    show (if k < 0 then (k + (xs.length : Int)).toNat else min k.toNat xs.length) = xs.length
    rw [if_neg (by omega)]; omega
  unfold cutV
  rw [e]
  show (xs.drop 0).take (xs.length - 0) = xs
  simp
theorem r_yes {σ : St} {H : Hp} {R : Bool → Hp → Prop} (h : R true H) : tYes σ H R := h
theorem int_of_get {ns : List Int} {i : Nat} {y : V} (h : (ns.map V.int)[i]? = some y) : ∃ z, ns[i]? = some z ∧ y = V.int z := by
  rw [List.getElem?_map] at h
  cases e : ns[i]? with
  | none => rw [e] at h; cases h
  | some z => rw [e] at h; exact ⟨z, rfl, (Option.some.inj h).symm⟩
theorem take_more {α : Type} {l : List α} {i : Nat} {x : α} (h : l[i]? = some x) : l.take (i + 1) = l.take i ++ [x] := by
  rw [List.take_succ, h]; rfl
theorem r_chain {r r' : R2} {ta tb tc : TE} {σ : St} {H : Hp} {Q : VK} (h : ta σ H fun x H1 => tb σ H1 fun y H2 => r x y H2 fun z H3 => ∃ k, z = .bl k ∧ (if k = true then tc σ H3 fun w' H4 => r' y w' H4 Q else Q (.bl false) H3)) : tChain r r' ta tb tc σ H Q := h
theorem r_sFld {K : PySem.W.Frag} {ta tv : TE} {f : Str} {D : Ends} {σ : St} {H : Hp} (h : tv σ H fun y H1 => ta σ H1 fun x H2 => ∃ a C dx fs, x = .ref a ∧ H2 a = some (.ins C dx fs) ∧ Cls K C ∧ NoAttr K C f ∧ fs.length < 1000 ∧ D.nx σ (upd H2 a (.ins C dx (putF f y fs)))) : sFld K ta tv f D σ H := h
theorem r_put {K : PySem.W.Frag} {p C dx : Addr} {fs : List (Str × V)} {f : Str} {H : Hp} {R : Addr → Addr → Addr → List (Str × V) → Prop} (hc : Cls K C) (hn : NoAttr K C f) (hx : H p = some (.ins C dx fs)) (hl : fs.length ≤ 900) (q : R p C dx fs) :
    ∃ a C dx fs, V.ref p = .ref a ∧ H a = some (.ins C dx fs) ∧ Cls K C ∧ NoAttr K C f ∧ fs.length < 1000 ∧ R a C dx fs := ⟨p, C, dx, fs, rfl, hx, hc, hn, by omega, q⟩
theorem putF_len (f : Str) (v : V) : ∀ fs : List (Str × V), (putF f v fs).length ≤ fs.length + 1
  | [] => Nat.le_refl _
  | (g, x) :: r => by
    unfold putF
    by_cases h : g = f
    · rw [if_pos h, List.length_cons, List.length_cons]; omega
    · rw [if_neg h, List.length_cons, List.length_cons]
      have := putF_len f v r
      omega
theorem putF_le {f : Str} {v : V} {fs : List (Str × V)} {n : Nat} (h : fs.length ≤ n) : (putF f v fs).length ≤ n + 1 := Nat.le_trans (putF_len f v fs) (by omega)
def MakeAt (C : Addr) (sp : Sp) (vs : List V) (E : XK) (H : Hp) (Q : VK) : Prop := ∀ x dx, H x = none → H dx = none → dx ≠ x → sp (.ref x :: vs) (upd (upd H dx (.own x)) x (.ins C dx [])) (fun v H2 => v = .non ∧ Q (.ref x) H2) E
theorem r_make {C : Addr} {sp : Sp} {dvs : List V} {E : XK} {t : TA} {σ : St} {H : Hp} {Q : VK} (h : t σ H fun vs H1 => MakeAt C sp (vs ++ dvs) E H1 Q) : tMake C sp dvs E t σ H Q := h
def rIsNo : R2 := fun x y H Q => y = .non ∧ Q (.bl (decide (x = .non))) H
def rNotNo : R2 := fun x y H Q => y = .non ∧ Q (.bl (!decide (x = .non))) H
theorem op_isNo {X : Cx} : OpR X (compareOp .Is) rIsNo := op_isN
theorem op_notNo {X : Cx} : OpR X (compareOp .IsNot) rNotNo := op_notN
theorem r_isNn {H : Hp} {Q : VK} (q : Q (.bl true) H) : rIsNo .non .non H Q := ⟨rfl, q⟩
theorem r_isNi {H : Hp} {Q : VK} {i : Int} (q : Q (.bl false) H) : rIsNo (.int i) .non H Q := ⟨rfl, q⟩
theorem r_isNr {H : Hp} {Q : VK} {i : Addr} (q : Q (.bl false) H) : rIsNo (.ref i) .non H Q := ⟨rfl, q⟩
theorem r_notNn {H : Hp} {Q : VK} (q : Q (.bl false) H) : rNotNo .non .non H Q := ⟨rfl, q⟩
theorem r_notNi {H : Hp} {Q : VK} {i : Int} (q : Q (.bl true) H) : rNotNo (.int i) .non H Q := ⟨rfl, q⟩
theorem r_notNr {H : Hp} {Q : VK} {i : Addr} (q : Q (.bl true) H) : rNotNo (.ref i) .non H Q := ⟨rfl, q⟩
theorem r_lenS {K : PySem.W.Frag} {H : Hp} {p : Addr} {xs : List V} {R : List V → Prop} (h : SqL K H p xs ∨ SqT K H p xs) (q : R xs) : ∃ (p1 : Addr) (ys : List V), [V.ref p] = [.ref p1] ∧ (SqL K H p1 ys ∨ SqT K H p1 ys) ∧ R ys := ⟨p, xs, rfl, h, q⟩
theorem r_lenL {K : PySem.W.Frag} {H : Hp} {p : Addr} {xs : List V} {R : List V → Prop} (h : H p = some (.lst xs)) (q : R xs) : ∃ (p1 : Addr) (ys : List V), [V.ref p] = [.ref p1] ∧ (SqL K H p1 ys ∨ SqT K H p1 ys) ∧ R ys := ⟨p, xs, rfl, .inl (SqL.of h), q⟩
theorem r_lenT {K : PySem.W.Frag} {H : Hp} {p : Addr} {xs : List V} {R : List V → Prop} (h : H p = some (.tup xs)) (q : R xs) : ∃ (p1 : Addr) (ys : List V), [V.ref p] = [.ref p1] ∧ (SqL K H p1 ys ∨ SqT K H p1 ys) ∧ R ys := ⟨p, xs, rfl, .inr (SqT.of h), q⟩
theorem r_in1 {i : Int} {R : Int → Prop} (h : R i) : ∃ k, [V.int i] = [.int k] ∧ R k := ⟨i, rfl, h⟩
theorem r_in2 {i j : Int} {R : Int → Int → Prop} (h : R i j) : ∃ k l, [V.int i, V.int j] = [.int k, .int l] ∧ R k l := ⟨i, j, rfl, h⟩
/-- the source of draws at p, its cells at q -/
def SrcAt (H : Hp) (p q : Addr) : Prop := ∃ (cs : List Int) (i big cnt st : Int), H p = some (.lst [.ref q, .int i, .int big, .int cnt, .int st]) ∧ H q = some (.lst (cs.map V.int)) ∧ q ≠ p ∧ 0 ≤ i ∧ 0 ≤ big ∧ cs.length ≤ 63
theorem SrcAt.keep {H H' : Hp} {p q : Addr} (h : SrcAt H p q) (s : Same H H') : SrcAt H' p q := by
  obtain ⟨cs, i, big, cnt, st, h1, h2, h3⟩ := h
  exact ⟨cs, i, big, cnt, st, s _ _ h1, s _ _ h2, h3⟩
theorem SrcAt.upd {H : Hp} {p q x : Addr} {o : HO} (h : SrcAt H p q) (h1 : x ≠ p) (h2 : x ≠ q) : SrcAt (upd H x o) p q := by
  obtain ⟨cs, i, big, cnt, st, e1, e2, h3⟩ := h
  exact ⟨cs, i, big, cnt, st, (upd_ne h1.symm).trans e1, (upd_ne h2.symm).trans e2, h3⟩
theorem SrcAt.ne {H : Hp} {p q x : Addr} (h : SrcAt H p q) (hx : H x = none) : x ≠ p := by
  obtain ⟨cs, i, big, cnt, st, h1, _⟩ := h
  exact (ne_of_none h1 hx).symm
theorem SrcAt.neq {H : Hp} {p q x : Addr} (h : SrcAt H p q) (hx : H x = none) : x ≠ q := by
  obtain ⟨cs, i, big, cnt, st, _, h1, _⟩ := h
  exact (ne_of_none h1 hx).symm
theorem But.free {p q : Addr} {H H' : Hp} (b : But p H H') (hs : SrcAt H' p q) {x : Addr} (hx : H' x = none) : H x = none := by
  cases e : H x with
  | none => rfl
  | some o =>
    obtain ⟨u, z⟩ := b.some e (hs.ne hx)
    rw [hx] at z
    cases z
theorem seq_with {t1 t2 : TS} {D : Ends} {σ : St} {H : Hp} (P : St → Hp → Prop) (h2 : ∀ σ H, P σ H → t2 D σ H) (h1 : (∀ σ H, P σ H → t2 D σ H) → t1 { D with nx := t2 D } σ H) : tSeq t1 t2 D σ H := h1 h2
theorem pe_fldK {X : Cx} {K : PySem.W.Frag} {e : Expr} {f : Str} {pos : Pos} {ta : TE} (hK : X.K = K) (he : PE X e ta) (hb : attributeBase e f X.env (eval e X.env) = eval e X.env) : PE X (.Attribute e f pos) (tFld K ta f) := by
  subst hK; exact pe_fld he hb
theorem r_cat {H : Hp} {Q : VK} {l b : Addr} {xs zs : List V} (h1 : H l = some (.lst xs)) (h2 : H b = some (.lst zs)) (hn : xs.length + zs.length ≤ 1000) (q : ∀ p H', H p = none → Same H H' → H' p = some (.lst (xs ++ zs)) → Q (.ref p) H') : rCat (.ref l) (.ref b) H Q :=
  ⟨l, b, xs, zs, rfl, rfl, h1, h2, Nat.le_trans hn (by decide), new_of q⟩
theorem r_min {K : PySem.W.Frag} {H : Hp} {Q : VK} {l : Addr} {ns : List Int} (h1 : H l = some (.lst (ns.map V.int))) (hn : 0 < ns.length) (q : ∀ m, m ∈ ns → (∀ y, y ∈ ns → m ≤ y) → Q (.int m) H) : rMin K [.ref l] H Q :=
  ⟨l, ns, rfl, SqL.of h1, hn, q⟩
section
variable {X : Cx} {K : PySem.W.Frag}
theorem ix_listK (hK : X.K = K) : IxR X (rIxL K) := by subst hK; exact ix_list
theorem ix_tupK (hK : X.K = K) : IxR X (rIxT K) := by subst hK; exact ix_tup
theorem call_len_seqK (hK : X.K = K) : CallR X (.builtin "len") (fun xs H Q => ∃ p ys, xs = [.ref p] ∧ (SqL K H p ys ∨ SqT K H p ys) ∧ Q (.int ys.length) H) := by subst hK; exact call_len_seq
theorem call_isiK (hK : X.K = K) : CallR X (.builtin "isinstance") (rIsi K) := by subst hK; exact call_isi
theorem cr_listK (hK : X.K = K) : CallR X (.type "list") (rListOf K) := by subst hK; exact cr_list
theorem cr_tupK (hK : X.K = K) : CallR X (.type "tuple") (rTupOf K) := by subst hK; exact cr_tup
theorem pg_tupK {es : List Expr} {k n : Nat} {t : TGs} {pos : Pos} (hK : X.K = K) (hc : X.calm = true) (h : PGs X es t)
    (hn : (assignEach es X.env).length = n := by rfl) (hst : (assignEach es X.env).findIdx? (·.1) = none := by rfl) : PG X (.Tuple es k pos) (gTup K n t) := by subst hK; exact pg_tup hc h hn hst
end

local macro_rules | `(tactic| walk_at "src") => `(tactic| first | assumption | (refine' SrcAt.keep ?h ?s; (case s => assumption); (case h => walk_at "src")))
local macro_rules | `(tactic| walk_at "ne") => `(tactic| first | assumption | (apply Ne.symm; assumption) | (refine' SrcAt.ne ?a ?b; (case b => assumption); (case a => walk_at "src")))
local macro_rules | `(tactic| walk_at "hp") => `(tactic| first
  | assumption
  | with_reducible exact upd_same
  | (refine' Same.at ?s ?h; (case s => assumption); (case h => walk_at "hp"))
  | (refine' But.at ?s ?n ?h; (case s => assumption); (case n => walk_at "ne"); (case h => walk_at "hp"))
  | (rw [upd_ne (by first | assumption | (apply Ne.symm; assumption))]; walk_at "hp"))
local macro_rules | `(tactic| walk_at "side") => `(tactic| first | assumption | decide | omega | exact mulL (by omega) (by omega) | exact mulR (by omega) (by omega) | exact cdiv_of (by omega) (by omega) | exact powOk (by omega) (by omega) (by decide) | exact mulL (Int.lt_of_lt_of_le (by decide) (fmod_nn (by decide))) (Int.lt_trans (fmod_lt (by decide)) (by decide)))
local macro_rules | `(tactic| walk_at "pl") => `(tactic| ((repeat with_reducible refine putF_le ?_); with_unfolding_all exact Nat.le_of_ble_eq_true rfl))
local macro_rules | `(tactic| walk_at "lk") => `(tactic| first | assumption | (rw [lookup_putF, if_pos rfl]) | (rw [lookup_putF, if_neg (by decide +kernel)]; walk_at "lk"))
local macro_rules | `(tactic| walk_at "cls") => `(tactic| first | with_unfolding_all exact Txt.cl_Machine (by assumption) | with_unfolding_all exact Txt.nF_Machine_o (by assumption) | with_unfolding_all exact Txt.nF_Machine_l (by assumption) | with_unfolding_all exact Txt.nF_Machine_g (by assumption) | with_unfolding_all exact Txt.nF_Machine_letter (by assumption) | with_unfolding_all exact Txt.nF_Machine_gap (by assumption) | with_unfolding_all exact Txt.cl_Tree (by assumption) | with_unfolding_all exact Txt.nF_Tree_letter (by assumption) | with_unfolding_all exact Txt.nF_Tree_gap (by assumption) | with_unfolding_all exact Txt.nF_Tree_turns (by assumption) | with_unfolding_all exact Txt.nF_Tree_roots (by assumption) | with_unfolding_all exact Txt.nF_Tree_horizon (by assumption) | with_unfolding_all exact Txt.nF_Tree_powers (by assumption))
/-- one turn of a reading -/
local macro_rules | `(tactic| walk_at "rd") => `(tactic| with_reducible first
  | (refine r_seq ?_; fail_if_success (refine r_ifS ?_))
  | refine r_asg ?_
  | refine r_gName ?_
  | (refine' r_var ?hv ?_; (case hv => with_unfolding_all exact rfl))
  | refine r_c ?_
  | refine r_op ?_
  | refine r_I0 ?_
  | (refine' r_I ?hc ?_; (case hc => walk_at "side"))
  | refine r_add ?_
  | refine r_sub ?_
  | refine r_eqI ?_
  | refine r_neI ?_
  | (refine' r_ixL ?hp ?he ?_; (case hp => walk_at "hp"); (case he => with_unfolding_all exact rfl))
  | (refine' r_ixT ?hp ?he ?_; (case hp => walk_at "hp"); (case he => with_unfolding_all exact rfl))
  | refine r_cons ?_
  | refine r_nil ?_
  | refine r_CB ?_
  | refine r_call ?_
  | refine r_test ?_
  | refine r_tB ?_
  | refine r_bl ?_
  | refine r_in ?_
  | refine Or.inl (r_in1 ?_)
  | refine r_in1 ?_
  | refine r_in2 ?_
  | (refine' r_lenL ?hp ?_; (case hp => walk_at "hp"))
  | (refine' r_lenT ?hp ?_; (case hp => walk_at "hp"))
  | refine r_ifS ?_
  | refine r_and ?_
  | refine r_or ?_
  | refine r_not ?_
  | refine r_andV ?_
  | refine r_orV ?_
  | refine r_notV ?_
  | refine r_ifE ?_
  | refine r_ret ?_
  | refine r_next ?_
  | refine r_drop ?_
  | refine r_gSub ?_
  | (refine' r_setL ?hp ?he ?_; (case hp => walk_at "hp"); (case he => with_unfolding_all exact rfl))
  | (refine' r_aug ?he ?_; (case he => with_unfolding_all exact rfl))
  | refine r_augS ?_
  | refine r_ip ?_
  | refine r_tup ?_
  | refine r_lst ?_
  | refine r_tFld ?_
  | (refine' r_fld ?hc ?hn ?hx ?he ?_; (case hx => walk_at "hp"); (case hc => walk_at "cls"); (case hn => walk_at "cls"); (case he => walk_at "lk"))
  | (refine' r_put ?hc ?hn ?hx ?hl ?_; (case hx => walk_at "hp"); (case hc => walk_at "cls"); (case hn => walk_at "cls"); (case hl => walk_at "pl"))
  | refine r_sl ?_
  | refine r_noP ?_
  | refine r_part ?_
  | refine r_un ?_
  | refine r_U ?_
  | refine r_Bm ?_
  | refine r_cont ?_
  | refine r_brk ?_
  | refine r_isNn ?_
  | refine r_isNi ?_
  | refine r_isNr ?_
  | refine r_notNn ?_
  | refine r_notNi ?_
  | refine r_notNr ?_
  | refine r_chain ?_
  | refine r_sFld ?_
  | refine r_make ?_
  | refine r_yes ?_
  | refine r_lc ?_
  | refine r_isiI true (by decide +kernel) ?_
  | refine r_isiI false (by decide +kernel) ?_
  | refine r_for ?_
  | refine r_iR1 ?_
  | refine r_iR2 ?_
  | refine r_iL ?_
  | refine r_tMeth ?_
  | (refine' r_meth ?hx ?hl ?_; (case hx => walk_at "hp"); (case hl => walk_at "no"))
  | refine r_iT ?_
  | refine iteT ?_
  | refine r_nF ?_
  | refine r_nT ?_
  | refine iteF ?_)
local macro_rules | `(tactic| walk_at "rdi") => `(tactic| with_reducible (refine r_seq ?_; refine r_ifS ?_))

/-! ### the law's draws -/
def spDraw : Sp := fun vs H Q _ => ∃ (p q : Addr) (lim : Int), vs = [.ref p, .int lim] ∧ SrcAt H p q ∧ 0 < lim ∧ lim < 2 ^ 200 ∧
  ∀ (r : Int) (H' : Hp), 0 ≤ r → r < lim → SrcAt H' p q → But p H H' → Q (.int r) H'
section
variable {P : Program} {w : World} {K : PySem.W.Frag} {mg : Str → Option Value} {base : Heap} {a : Adr}
theorem ok__law_draw (T : Txt K mg a) : FnOk P w K mg base CX0 1 a.a__law_draw a.d__law_draw ["_law_source_here", "_law_limit"] spDraw := by
  refine T.F__law_draw.ok sc__law_draw (fun vs H Q E h => ?_) (fun cdv A outer s H vs Q E hr h => ?_)
  · obtain ⟨p, q, lim, rfl, _⟩ := h
    rfl
  · obtain ⟨p, q, lim, rfl, ⟨cs, i, big, cnt, st, h1, h2, h3, hi, hb, hl⟩, hl0, hl1, k⟩ := h
    refine ⟨_, (pss_cons (ps_augS (pv 0) pe_int gt_list pe_int ip_add set_list)
 (pss_cons (ps_if (PW.pt (pw_and (pt_cmpR op_eq (pe_ix ix_list (pv 0) pe_int (fun _ _ => rfl)) pe_int (nomark _)) (pw_and1 (pt_cmpR op_lt (pe_ix ix_list (pv 0) pe_int (fun _ _ => rfl)) (pe_callB call_len_seq (by rfl) T.n_len (by decide +kernel) (pa_cons (pe_ix ix_list (pv 0) pe_int (fun _ _ => rfl)) pa_nil)) (nomark _))))) (pss_cons (ps_set (i := 2) sc__law_draw.nd rfl (Or.inl rfl) (pe_ix ix_list (pe_ix ix_list (pv 0) pe_int (fun _ _ => rfl)) (pe_ix ix_list (pv 0) pe_int (fun _ _ => rfl)) (fun _ _ => rfl)))
 (pss_cons (ps_augS (pv 0) pe_int gt_list pe_int ip_add set_list)
 (pss_one (ps_if (pt_cmpR op_ge (pv 2) (pe_powN (z := 1000000000000000000) ⟨by decide, by decide, by decide⟩ (by decide +kernel)) (nomark _)) (pss_one (ps_asg (pv 2) (pg_sub (pv 0) pe_int set_list)))
 (pss_one (ps_asg (pe_op op_modN (pe_callTy call_int1 (by rfl) T.n_int (by decide +kernel) (pa_cons (pe_op op_add (pe_op op_add (pe_op op_mul (pe_ix ix_list (pv 0) pe_int (fun _ _ => rfl)) pe_int) (pe_op op_mul (pv 2) pe_int)) pe_int) pa_nil)) pe_int) (pg_sub (pv 0) pe_int set_list)))))))
 pss_nil)
 (pss_cons (ps_if (pt_cmpR op_gt (pe_ix ix_list (pv 0) pe_int (fun _ _ => rfl)) pe_int (nomark _)) (pss_cons (ps_set (i := 3) sc__law_draw.nd rfl (Or.inl rfl) (pe_op op_modN (pe_callTy call_int1 (by rfl) T.n_int (by decide +kernel) (pa_cons (pe_ix ix_list (pv 0) pe_int (fun _ _ => rfl)) pa_nil)) (pv 1)))
 (pss_cons (ps_asg (pe_op op_fdivW (pe_ix ix_list (pv 0) pe_int (fun _ _ => rfl)) (pv 1)) (pg_sub (pv 0) pe_int set_list))
 (pss_one (ps_ret (pv 3)))))
 pss_nil)
 (pss_cons (ps_set (i := 4) sc__law_draw.nd rfl (Or.inl rfl) (pe_op op_modN (pe_callTy call_int1 (by rfl) T.n_int (by decide +kernel) (pa_cons (pe_op op_mul (pe_op op_add (pe_op op_add (pe_ix ix_list (pv 0) pe_int (fun _ _ => rfl)) (pe_op op_mul pe_int (pe_ix ix_list (pv 0) pe_int (fun _ _ => rfl)))) pe_int) pe_int) pa_nil)) pe_int))
 (pss_cons (ps_set (i := 5) sc__law_draw.nd rfl (Or.inl rfl) (pe_op op_modN (pe_callTy call_int1 (by rfl) T.n_int (by decide +kernel) (pa_cons (pe_op op_mul (pv 4) (pe_op op_add (pe_op op_fdivW (pv 4) pe_int) pe_int)) pa_nil)) pe_int))
 (pss_cons (ps_set (i := 6) sc__law_draw.nd rfl (Or.inl rfl) (pe_op op_modN (pe_callTy call_int1 (by rfl) T.n_int (by decide +kernel) (pa_cons (pe_op op_mul (pv 5) (pe_op op_add (pe_op op_fdivW (pv 5) pe_int) pe_int)) pa_nil)) pe_int))
 (pss_one (ps_ret (pe_op op_modN (pe_callTy call_int1 (by rfl) T.n_int (by decide +kernel) (pa_cons (pe_op op_fdivW (pv 6) pe_int) pa_nil)) (pv 1)))))))))), ?_⟩
    -- src[3] += 1
    repeat walk_at "rd"
    with_reducible refine seq_with (fun σ H' => ∃ (i big cnt st : Int) (v : Option V), σ = [some (.ref p), some (.int lim), v, none, none, none, none] ∧ H' p = some (.lst [.ref q, .int i, .int big, .int cnt, .int st]) ∧ H' q = some (.lst (cs.map V.int)) ∧ But p H H' ∧ 0 ≤ i ∧ 0 ≤ big) ?_ (fun rest => ?_)
    · clear h1 h2 hi hb
      rintro σ H' ⟨i, big, cnt, st, v, rfl, hp, hq, bt, hi, hb⟩
      walk_at "rdi"
      repeat walk_at "rd"
      refine ite_d (fun hc => ?_) (fun hc => ?_)
      · repeat walk_at "rd"
        exact k _ _ (fmod_nn hl0) (fmod_lt hl0) ⟨cs, i, _, cnt, st, upd_same, (upd_ne h3).trans hq, h3, hi, Int.ediv_nonneg hb (by omega), hl⟩ (bt.trans But.upd)
      · repeat walk_at "rd"
        exact k _ _ (fmod_nn hl0) (fmod_lt hl0) ⟨cs, i, _, cnt, st, hp, hq, h3, hi, hb, hl⟩ bt
    · have nq : H q ≠ none := by rw [h2]; intro z; cases z
      have hp1 : upd H p (HO.lst ([V.ref q, V.int i, V.int big, V.int cnt, V.int st].set (Int.toNat 3) (V.int (cnt + 1)))) p = some (.lst [.ref q, .int i, .int big, .int (cnt + 1), .int st]) := upd_same
      have hq1 : upd H p (HO.lst ([V.ref q, V.int i, V.int big, V.int cnt, V.int st].set (Int.toNat 3) (V.int (cnt + 1)))) q = some (.lst (cs.map V.int)) := (upd_ne h3).trans h2
      have bt1 : But p H (upd H p (HO.lst ([V.ref q, V.int i, V.int big, V.int cnt, V.int st].set (Int.toNat 3) (V.int (cnt + 1))))) := But.upd
      generalize upd H p (HO.lst ([V.ref q, V.int i, V.int big, V.int cnt, V.int st].set (Int.toNat 3) (V.int (cnt + 1)))) = H1 at hp1 hq1 bt1 ⊢
      clear h1 h2
      have no : ∀ (v : Option V), _ := fun v => rest [some (.ref p), some (.int lim), v, none, none, none, none] H1 ⟨i, big, cnt + 1, st, v, rfl, hp1, hq1, bt1, hi, hb⟩
      repeat walk_at "rd"
      refine ite_d (fun hc => ?_) (fun hc => ?_)
      · repeat walk_at "rd"
        refine ite_d (fun hc2 => ?_) (fun hc2 => ?_)
        · obtain ⟨c, hc3, _⟩ := at_nat (ns := cs) hi hc2
          repeat walk_at "rd"
          refine r_ixL hq1 hc3 ?_
          repeat walk_at "rd"
          refine ite_d (fun hc4 => ?_) (fun hc4 => ?_)
          · repeat walk_at "rd"
            exact rest _ _ ⟨i + 1, c, cnt + 1, st, _, rfl, upd_same, (upd_ne h3).trans ((upd_ne h3).trans hq1), (bt1.trans But.upd).trans But.upd, by omega, by omega⟩
          · repeat walk_at "rd"
            exact rest _ _ ⟨i + 1, big, cnt + 1, _, _, rfl, upd_same, (upd_ne h3).trans ((upd_ne h3).trans hq1), (bt1.trans But.upd).trans But.upd, by omega, by omega⟩
        · ((repeat walk_at "rd"); exact no none)
      · ((repeat walk_at "rd"); exact no none)

def spBig : Sp := fun vs H Q _ => ∃ (p q : Addr) (lim : Int), vs = [.ref p, .int lim] ∧ SrcAt H p q ∧ 0 < lim ∧
  ∀ (r : Int) (H' : Hp), 0 ≤ r → r < lim → SrcAt H' p q → But p H H' → Q (.int r) H'
end

/-! ### the machine's numbers, its times, whether a thing is an int -/
/-- o, l, g of a machine, at t -/
structure NumAt (H : Hp) (t : Addr) (o l g : Int) : Prop where
  at_ : H t = some (.tup [.int o, .int l, .int g])
  o0 : 0 ≤ o
  o9 : o ≤ 1000000000
  l0 : 0 ≤ l
  l9 : l ≤ 1000000000
  g1 : 1 ≤ g
  g9 : g ≤ 1000000000
  pos : 0 < 2 * o + l
theorem NumAt.keep {H H' : Hp} {t : Addr} {o l g : Int} (N : NumAt H t o l g) (h : H' t = H t) : NumAt H' t o l g := { N with at_ := h.trans N.at_ }
def spNumbers : Sp := fun vs H Q _ => ∃ (p q : Addr), vs = [.ref p] ∧ SrcAt H p q ∧ ∀ (t : Addr) (o l g : Int) (H' : Hp), NumAt H' t o l g → H t = none → SrcAt H' p q → But p H H' → Q (.ref t) H'
def gapOf (o g : Int) : Int := if g > o then g else o
def spSource (K : PySem.W.Frag) : Sp := fun vs H Q _ => ∃ (b : Addr) (ns : List Int), vs = [.ref b] ∧ SqL K H b (ns.map V.int) ∧ ns.length ≤ 63 ∧ ∀ (p q : Addr) (H' : Hp), SrcAt H' p q → H p = none → H q = none → Same H H' → Q (.ref p) H'
def spWide : Sp := fun vs H Q _ => ∃ (p q : Addr) (lim : Int), vs = [.ref p, .int lim] ∧ SrcAt H p q ∧ 0 < lim ∧ lim < 2 ^ 200 ∧ ∀ (r : Int) (H' : Hp), 0 ≤ r → r < lim → SrcAt H' p q → But p H H' → Q (.int r) H'
section
variable {P : Program} {w : World} {K : PySem.W.Frag} {mg : Str → Option Value} {base : Heap} {a : Adr}
theorem ok__law_source (T : Txt K mg a) : FnOk P w K mg base CX0 1 a.a__law_source a.d__law_source ["_law_script"] (spSource K) := by
  refine T.F__law_source.ok sc__law_source (fun vs H Q E h => ?_) (fun cdv A outer s H vs Q E hr h => ?_)
  · obtain ⟨i, j, rfl, _⟩ := h
    rfl
  · obtain ⟨b, ns, rfl, hS, hl, k⟩ := h
    refine ⟨_, (pss_one (ps_ret (pe_lst (pa_cons (pe_lc (own := [("_law_cell", 1)]) (g := gName 1) (tt := tYes) rfl sc__law_source.nd (pi_list (pe_slice sl_list (pv 0) po_none (po_some pe_int))) (blkOk_by (own := [("_law_cell", 1)]) (N := ["_law_script", "_law_cell"]) (sc := defScope s__law_source) (by decide +kernel)) (fun _ _ _ _ _ => (pg_name (i := 1) sc__law_source.nd rfl (Or.inl rfl))) (fun _ _ _ _ _ => pts_nil) (fun _ _ _ _ _ => (pe_callTy call_int1 (by rfl) T.n_int (by decide +kernel) (pa_cons (pv 1) pa_nil)))) (pa_cons pe_int (pa_cons pe_int (pa_cons pe_int (pa_cons pe_int pa_nil)))))))), ?_⟩
    repeat walk_at "rd"
    refine r_slL hS (fun p0 H1 n0 s1 e0 => ?_)
    rw [cut_take (by rw [List.length_map]; omega)] at e0
    refine ⟨p0, rfl, ⟨_, SqL.of e0⟩, fun D hD => lc_list (K := K) (a := p0) (xs := ns.map V.int) (fun i H' => H' D = some (.lst ((ns.take i).map V.int)) ∧ H' p0 = some (.lst (ns.map V.int)) ∧ Same H H') ?_ (fun i H' _ h => SqL.of h.2.1) ?_ ?_⟩
    · exact ⟨upd_same, (upd_ne (ne_of_none e0 hD)).trans e0, s1.trans (Same.new hD)⟩
    · rintro i x H2 hi ⟨h1, h2, h3⟩
      obtain ⟨z, hz, rfl⟩ := int_of_get hi
      repeat walk_at "rd"
      refine ⟨rfl, ?_⟩
      repeat walk_at "rd"
      have nD : H D = none := s1.free hD
      refine ⟨_, h1, small1000 (by rw [List.length_map, List.length_take]; omega), ?_, (upd_ne (ne_of_none e0 hD)).trans h2, h3.over nD h1⟩
      rw [upd_same, take_more hz, List.map_append]
      rfl
    · rintro H2 ⟨h1, h2, h3⟩
      repeat walk_at "rd"
      refine new_at (Nat.le_of_ble_eq_true rfl) (fun p H3 np s3 e3 => ?_)
      rw [List.length_map, List.take_length] at h1
      exact k p D _ ⟨ns, 0, 0, 0, 7, e3, s3 _ _ h1, ne_of_none h1 np, by decide, by decide, hl⟩ (h3.free np) (s1.free hD) (h3.trans s3)
theorem ok__law_wide (T : Txt K mg a) : FnOk P w K mg base CX0 2 a.a__law_wide a.d__law_wide ["_law_source_here", "_law_limit"] spWide := by
  refine T.F__law_wide.ok sc__law_wide (fun vs H Q E h => ?_) (fun cdv A outer s H vs Q E hr h => ?_)
  · obtain ⟨p, q, lim, rfl, _⟩ := h
    rfl
  · obtain ⟨p, q, lim, rfl, hs, hl0, hl1, k⟩ := h
    refine ⟨_, (pss_cons (ps_if (pt_cmpR op_le (pv 1) pe_int (nomark _)) (pss_one (ps_ret (pe_call (ok__law_draw T) (hr.mono (by decide)) (by rfl) T.g__law_draw T.F__law_draw.kp T.b__law_draw .nil pass0 (pa_cons (pv 0) (pa_cons (pv 1) pa_nil)))))
 pss_nil)
 (pss_cons (ps_set (i := 2) sc__law_wide.nd rfl (Or.inl rfl) (pe_call (ok__law_draw T) (hr.mono (by decide)) (by rfl) T.g__law_draw T.F__law_draw.kp T.b__law_draw .nil pass0 (pa_cons (pv 0) (pa_cons pe_int pa_nil))))
 (pss_cons (ps_set (i := 3) sc__law_wide.nd rfl (Or.inl rfl) (pe_call (ok__law_draw T) (hr.mono (by decide)) (by rfl) T.g__law_draw T.F__law_draw.kp T.b__law_draw .nil pass0 (pa_cons (pv 0) (pa_cons pe_int pa_nil))))
 (pss_cons (ps_set (i := 4) sc__law_wide.nd rfl (Or.inl rfl) (pe_call (ok__law_draw T) (hr.mono (by decide)) (by rfl) T.g__law_draw T.F__law_draw.kp T.b__law_draw .nil pass0 (pa_cons (pv 0) (pa_cons pe_int pa_nil))))
 (pss_one (ps_ret (pe_op op_modN (pe_callTy call_int1 (by rfl) T.n_int (by decide +kernel) (pa_cons (pe_op op_add (pe_op op_mul (pe_op op_add (pe_op op_mul (pv 2) pe_int) (pv 3)) pe_int) (pv 4)) pa_nil)) (pv 1)))))))), ?_⟩
    walk_at "rdi"
    repeat walk_at "rd"
    refine ite_d (fun hc => ?_) (fun hc => ?_)
    · repeat walk_at "rd"
      exact ⟨p, q, lim, rfl, hs, hl0, hl1, fun r H1 r0 r1 hs1 b1 => k r H1 r0 r1 hs1 b1⟩
    · repeat walk_at "rd"
      refine ⟨p, q, _, rfl, hs, by decide, by decide, fun r1 H1 r10 r11 hs1 b1 => ?_⟩
      repeat walk_at "rd"
      refine ⟨p, q, _, rfl, hs1, by decide, by decide, fun r2 H2 r20 r21 hs2 b2 => ?_⟩
      repeat walk_at "rd"
      refine ⟨p, q, _, rfl, hs2, by decide, by decide, fun r3 H3 r30 r31 hs3 b3 => ?_⟩
      repeat walk_at "rd"
      exact k _ _ (fmod_nn hl0) (fmod_lt hl0) hs3 ((b1.trans b2).trans b3)
theorem ok__law_numbers (T : Txt K mg a) : FnOk P w K mg base CX0 3 a.a__law_numbers a.d__law_numbers ["_law_source_here"] spNumbers := by
  refine T.F__law_numbers.ok sc__law_numbers (fun vs H Q E h => ?_) (fun cdv A outer s H vs Q E hr h => ?_)
  · obtain ⟨p, q, rfl, _⟩ := h
    rfl
  · obtain ⟨p, q, rfl, hs, k⟩ := h
    refine ⟨_, (pss_cons (ps_set (i := 1) sc__law_numbers.nd rfl (Or.inl rfl) (pe_ix ix_list (pe_lst (pa_cons pe_int (pa_cons pe_int (pa_cons pe_int (pa_cons pe_int (pa_cons (pe_op op_add (pe_powN (z := 1000000000) ⟨by decide, by decide, by decide⟩ (by decide +kernel)) pe_int) pa_nil)))))) (pe_call (ok__law_draw T) (hr.mono (by decide)) (by rfl) T.g__law_draw T.F__law_draw.kp T.b__law_draw .nil pass0 (pa_cons (pv 0) (pa_cons pe_int pa_nil))) (fun _ _ => rfl)))
 (pss_cons (ps_set (i := 2) sc__law_numbers.nd rfl (Or.inl rfl) (pe_call (ok__law_draw T) (hr.mono (by decide)) (by rfl) T.g__law_draw T.F__law_draw.kp T.b__law_draw .nil pass0 (pa_cons (pv 0) (pa_cons pe_int pa_nil))))
 (pss_cons (ps_set (i := 3) sc__law_numbers.nd rfl (Or.inl rfl) (pe_call (ok__law_wide T) (hr.mono (by decide)) (by rfl) T.g__law_wide T.F__law_wide.kp T.b__law_wide .nil pass0 (pa_cons (pv 0) (pa_cons (pv 1) pa_nil))))
 (pss_cons (ps_set (i := 4) sc__law_numbers.nd rfl (Or.inl rfl) (pe_call (ok__law_wide T) (hr.mono (by decide)) (by rfl) T.g__law_wide T.F__law_wide.kp T.b__law_wide .nil pass0 (pa_cons (pv 0) (pa_cons (pv 1) pa_nil))))
 (pss_cons (ps_set (i := 5) sc__law_numbers.nd rfl (Or.inl rfl) (pe_op op_add pe_int (pe_call (ok__law_wide T) (hr.mono (by decide)) (by rfl) T.g__law_wide T.F__law_wide.kp T.b__law_wide .nil pass0 (pa_cons (pv 0) (pa_cons (pe_op op_sub (pv 1) pe_int) pa_nil)))))
 (pss_cons (ps_if (pt_cmpR op_eq (pv 2) pe_int (nomark _)) (pss_one (ps_set (i := 3) sc__law_numbers.nd rfl (Or.inl rfl) pe_int))
 pss_nil)
 (pss_cons (ps_if (pt_cmpR op_eq (pv 2) pe_int (nomark _)) (pss_one (ps_set (i := 4) sc__law_numbers.nd rfl (Or.inl rfl) pe_int))
 pss_nil)
 (pss_cons (ps_if (PW.pt (pw_and (pt_cmpR op_eq (pv 2) pe_int (nomark _)) (pw_and1 (pt_cmpR op_gt (pv 1) pe_int (nomark _))))) (pss_one (ps_set (i := 5) sc__law_numbers.nd rfl (Or.inl rfl) (pe_op op_add pe_int (pe_op op_modN (pe_callTy call_int1 (by rfl) T.n_int (by decide +kernel) (pa_cons (pv 5) pa_nil)) pe_int))))
 pss_nil)
 (pss_cons (ps_if (pt_cmpR op_eq (pe_op op_add (pe_op op_mul pe_int (pv 3)) (pv 4)) pe_int (nomark _)) (pss_one (ps_set (i := 4) sc__law_numbers.nd rfl (Or.inl rfl) pe_int))
 pss_nil)
 (pss_one (ps_ret (pe_tup (pa_cons (pv 3) (pa_cons (pv 4) (pa_cons (pv 5) pa_nil))))))))))))))), ?_⟩
    repeat walk_at "rd"
    refine new_at (Nat.le_of_ble_eq_true rfl) (fun L H1 n1 s1 e1 => ?_)
    repeat walk_at "rd"
    refine ⟨p, q, 5, rfl, hs.keep s1, by decide, by decide, fun d H2 d0 d5 hs2 b2 => ?_⟩
    have e2 := b2 _ _ e1 (hs.ne n1)
    obtain ⟨size, hat, z0, z9⟩ : ∃ size : Int, atI [V.int 4, V.int 6, V.int 13, V.int 41, V.int (1000000000 + 1)] d = some (.int size) ∧ 4 ≤ size ∧ size ≤ 1000000001 := by
      have hk : d = 0 ∨ d = 1 ∨ d = 2 ∨ d = 3 ∨ d = 4 := by omega
      rcases hk with rfl | rfl | rfl | rfl | rfl
      · exact ⟨_, rfl, by decide, by decide⟩
      · exact ⟨_, rfl, by decide, by decide⟩
      · exact ⟨_, rfl, by decide, by decide⟩
      · exact ⟨_, rfl, by decide, by decide⟩
      · exact ⟨_, rfl, by decide, by decide⟩
    refine r_ixL e2 hat ?_
    have b02 : But p H H2 := (But.of_same s1).trans b2
    clear e1 e2 s1 n1 hs b2 hat d0 d5
    repeat walk_at "rd"
    refine ⟨p, q, 6, rfl, hs2, by decide, by decide, fun kind H3 k0 k6 hs3 b3 => ?_⟩
    repeat walk_at "rd"
    refine ⟨p, q, size, rfl, hs3, by omega, by omega, fun o H4 o0 o9 hs4 b4 => ?_⟩
    repeat walk_at "rd"
    refine ⟨p, q, size, rfl, hs4, by omega, by omega, fun l H5 l0 l9 hs5 b5 => ?_⟩
    repeat walk_at "rd"
    refine ⟨p, q, size - 1, rfl, hs5, by omega, by omega, fun g H6 g0 g9 hs6 b6 => ?_⟩
    have b6 : But p H H6 := (((b02.trans b3).trans b4).trans b5).trans b6
    clear hs2 hs3 hs4 hs5 b02 b3 b4 b5
    repeat walk_at "rd"
    let Pm : St → Hp → Prop := fun σ H' => ∃ (o l g : Int), σ = [some (.ref p), some (.int size), some (.int kind), some (.int o), some (.int l), some (.int g)] ∧ SrcAt H' p q ∧ But p H H' ∧ (0 ≤ o ∧ o ≤ 1000000000) ∧ (0 ≤ l ∧ l ≤ 1000000000) ∧ 1 ≤ g ∧ g ≤ 1000000000
    with_reducible refine seq_with Pm ?_ (fun rest => ?_)
    · rintro σ H' ⟨o, l, g, rfl, hs6, b6, ho, hl, hg⟩
      with_reducible refine seq_with Pm ?_ (fun rest => ?_)
      · rintro σ H' ⟨o, l, g, rfl, hs6, b6, ho, hl, hg⟩
        with_reducible refine seq_with Pm ?_ (fun rest => ?_)
        · rintro σ H' ⟨o, l, g, rfl, hs6, b6, ho, hl, hg⟩
          with_reducible refine seq_with (fun σ H' => ∃ (l : Int), σ = [some (.ref p), some (.int size), some (.int kind), some (.int o), some (.int l), some (.int g)] ∧ SrcAt H' p q ∧ But p H H' ∧ 0 < 2 * o + l ∧ 0 ≤ l ∧ l ≤ 1000000000) ?_ (fun rest => ?_)
          · rintro σ H' ⟨l, rfl, hs6, b6, hp, hl⟩
            repeat walk_at "rd"
            refine new_at (Nat.le_of_ble_eq_true rfl) (fun u H12 nu su eu => ?_)
            exact k u o l g _ ⟨eu, ho.1, ho.2, hl.1, hl.2, hg.1, hg.2, hp⟩ (b6.free hs6 nu) (hs6.keep su) (b6.trans (But.of_same su))
          · repeat walk_at "rd"
            refine ite_d (fun hc => ?_) (fun hc => ?_)
            · iterate 3 walk_at "rd"
              exact rest _ _ ⟨1, rfl, hs6, b6, by omega, by omega, by omega⟩
            · walk_at "rd"
              exact rest _ _ ⟨l, rfl, hs6, b6, by omega, hl⟩
        · repeat walk_at "rd"
          refine ite_d (fun hc => ?_) (fun hc => ?_)
          · repeat walk_at "rd"
            refine ite_d (fun hc => ?_) (fun hc => ?_)
            · repeat first | exact rest _ _ ⟨o, l, _, rfl, hs6, b6, ho, hl, by have := fmod_nn (a := g) (b := 9) (by decide); omega, by have := fmod_lt (a := g) (b := 9) (by decide); omega⟩ | walk_at "rd"
            · repeat first | exact rest _ _ ⟨o, l, g, rfl, hs6, b6, ho, hl, hg⟩ | walk_at "rd"
          · repeat first | exact rest _ _ ⟨o, l, g, rfl, hs6, b6, ho, hl, hg⟩ | walk_at "rd"
      · repeat walk_at "rd"
        refine ite_d (fun hc => ?_) (fun hc => ?_)
        · repeat first | exact rest _ _ ⟨o, 0, g, rfl, hs6, b6, ho, by decide, hg⟩ | walk_at "rd"
        · repeat first | exact rest _ _ ⟨o, l, g, rfl, hs6, b6, ho, hl, hg⟩ | walk_at "rd"
    · repeat walk_at "rd"
      refine ite_d (fun hc => ?_) (fun hc => ?_)
      · repeat first | exact rest _ _ ⟨0, l, _, rfl, hs6, b6, by decide, by omega, by omega, by omega⟩ | walk_at "rd"
      · repeat first | exact rest _ _ ⟨o, l, _, rfl, hs6, b6, by omega, by omega, by omega, by omega⟩ | walk_at "rd"
end

/-! ### integers, machines -/
/-- whether the value is an int and no bool -/
def IntV (K : PySem.W.Frag) (H : Hp) (x : V) (b : Bool) : Prop := ∃ (t : Value) (b1 b2 : Bool), TyX K H x t ∧ PySem.W.kitOne K t (.type "int") = some b1 ∧ PySem.W.kitOne K t (.type "bool") = some b2 ∧ b = (b1 && !b2)
theorem IntV.int {K : PySem.W.Frag} {H : Hp} {i : Int} : IntV K H (.int i) true := ⟨_, true, false, .base (.int i), kit_ty (by decide +kernel), kit_ty (by decide +kernel), rfl⟩
theorem r_isi {K : PySem.W.Frag} {H : Hp} {Q : VK} {x : V} {t : Value} {n : String} {b : Bool} (ty : TyX K H x t) (h : PySem.W.kitOne K t (.type n) = some b) (q : Q (.bl b) H) : rIsi K [x, .ty n] H Q := ⟨_, _, t, .type n, b, rfl, .ty n, ty, h, q⟩
def spIsInteger (K : PySem.W.Frag) : Sp := fun vs H Q _ => ∃ (x : V) (b : Bool), vs = [x] ∧ IntV K H x b ∧ Q (.bl b) H
def spBetween (K : PySem.W.Frag) : Sp := fun vs H Q _ => ∃ (x : V) (lo hi : Int) (b : Bool), vs = [x, .int lo, .int hi] ∧ IntV K H x b ∧ (b = false → Q (.bl false) H) ∧ (b = true → ∃ i, x = .int i ∧ Q (.bl (decide (lo ≤ i ∧ i ≤ hi))) H)
theorem r_between {K : PySem.W.Frag} {H : Hp} {Q : VK} {E : XK} {i lo hi : Int} (q : Q (.bl (decide (lo ≤ i ∧ i ≤ hi))) H) : spBetween K [.int i, .int lo, .int hi] H Q E := ⟨_, lo, hi, true, rfl, IntV.int, (fun z => Bool.noConfusion z), fun _ => ⟨i, rfl, q⟩⟩
/-- the attributes of a machine -/
def mf (o l g : Int) : List (Str × V) := putF "gap" (.int (gapOf o g)) (putF "letter" (.int (2 * o + l)) (putF "g" (.int g) (putF "l" (.int l) (putF "o" (.int o) []))))
def MachAt (C : Addr) (H : Hp) (m : Addr) (o l g : Int) : Prop := ∃ dx, H m = some (.ins C dx (mf o l g))
theorem MachAt.keep {C m : Addr} {H H' : Hp} {o l g : Int} (h : MachAt C H m o l g) (s : Same H H') : MachAt C H' m o l g := let ⟨dx, e⟩ := h; ⟨dx, s _ _ e⟩
theorem mf_o {o l g : Int} : (mf o l g).lookup ("o" : Str) = some (.int o) := by unfold mf; walk_at "lk"
theorem mf_l {o l g : Int} : (mf o l g).lookup ("l" : Str) = some (.int l) := by unfold mf; walk_at "lk"
theorem mf_g {o l g : Int} : (mf o l g).lookup ("g" : Str) = some (.int g) := by unfold mf; walk_at "lk"
theorem mf_letter {o l g : Int} : (mf o l g).lookup ("letter" : Str) = some (.int (2 * o + l)) := by unfold mf; walk_at "lk"
theorem mf_gap {o l g : Int} : (mf o l g).lookup ("gap" : Str) = some (.int (gapOf o g)) := by unfold mf; walk_at "lk"
theorem MachAt.but {C m p : Addr} {H H' : Hp} {o l g : Int} (h : MachAt C H m o l g) (s : But p H H') (n : m ≠ p) : MachAt C H' m o l g := let ⟨dx, e⟩ := h; ⟨dx, s _ _ e n⟩
def spMachine (C : Addr) : Sp := fun vs H Q _ => ∃ (m dx : Addr) (o l g : Int), vs = [.ref m, .int o, .int l, .int g] ∧ H m = some (.ins C dx []) ∧ (0 ≤ o ∧ o ≤ 1000000000) ∧ (0 ≤ l ∧ l ≤ 1000000000) ∧ (1 ≤ g ∧ g ≤ 1000000000) ∧ 0 < 2 * o + l ∧ ∀ H', MachAt C H' m o l g → But m H H' → Q .non H'
local macro_rules | `(tactic| walk_at "lk") => `(tactic| first | exact mf_o | exact mf_l | exact mf_g | exact mf_letter | exact mf_gap)
section
variable {P : Program} {w : World} {K : PySem.W.Frag} {mg : Str → Option Value} {base : Heap} {a : Adr}
theorem ok_is_integer (T : Txt K mg a) : FnOk P w K mg base CX0 1 a.a_is_integer a.d_is_integer ["thing"] (spIsInteger K) := by
  refine T.F_is_integer.ok sc_is_integer (fun vs H Q E h => ?_) (fun cdv A outer s H vs Q E hr h => ?_)
  · obtain ⟨x, b, rfl, _⟩ := h
    rfl
  · obtain ⟨x, b, rfl, ⟨t, b1, b2, ty, h1, h2, rfl⟩, k⟩ := h
    refine ⟨_, (pss_one (ps_ret (pe_and (pe_callB call_isi (by rfl) T.n_isinstance (by decide +kernel) (pa_cons (pv 0) (pa_cons (pe_bltn (v := .ty "int") (u := .type "int") (by rfl) T.n_int (by decide +kernel) rfl) pa_nil))) (pe_one (pe_not (pe_callB call_isi (by rfl) T.n_isinstance (by decide +kernel) (pa_cons (pv 0) (pa_cons (pe_bltn (v := .ty "bool") (u := .type "bool") (by rfl) T.n_bool (by decide +kernel) rfl) pa_nil)))))))), ?_⟩
    repeat walk_at "rd"
    refine r_isi ty h1 ?_
    refine ⟨b1, rfl, ?_⟩
    cases b1 with
    | false => exact iteF k
    | true =>
      repeat walk_at "rd"
      refine r_isi ty h2 ?_
      exact ⟨b2, rfl, k⟩
theorem ok_is_between (T : Txt K mg a) : FnOk P w K mg base CX0 2 a.a_is_between a.d_is_between ["thing", "low", "high"] (spBetween K) := by
  refine T.F_is_between.ok sc_is_between (fun vs H Q E h => ?_) (fun cdv A outer s H vs Q E hr h => ?_)
  · obtain ⟨x, lo, hi, b, rfl, _⟩ := h
    rfl
  · obtain ⟨x, lo, hi, b, rfl, iv, k0, k1⟩ := h
    refine ⟨_, (pss_one (ps_ret (pe_and (pe_call (ok_is_integer T) (hr.mono (by decide)) (by rfl) T.g_is_integer T.F_is_integer.kp T.b_is_integer .nil pass0 (pa_cons (pv 0) pa_nil)) (pe_one (pe_chain op_le op_le (pv 1) (pv 0) (pv 2)))))), ?_⟩
    repeat walk_at "rd"
    refine ⟨x, b, rfl, iv, ?_⟩
    refine ⟨b, rfl, ?_⟩
    cases b with
    | false => exact iteF (k0 rfl)
    | true =>
      obtain ⟨i, rfl, q⟩ := k1 rfl
      repeat walk_at "rd"
      refine ite_d (fun h1 => ?_) (fun h1 => ?_)
      · repeat walk_at "rd"
        rw [decide_eq_decide.mpr (show lo ≤ i ∧ i ≤ hi ↔ i ≤ hi from ⟨fun h => h.2, fun h => ⟨h1, h⟩⟩)] at q
        exact q
      · rw [decide_eq_false (show ¬ (lo ≤ i ∧ i ≤ hi) from fun h => h1 h.1)] at q
        exact q
theorem ok_Machine_init (T : Txt K mg a) : FnOk P w K mg base CX0 3 a.a_Machine_init a.d_Machine_init ["self", "o", "l", "g"] (spMachine a.c_Machine) := by
  refine T.F_Machine_init.ok sc_Machine_init (fun vs H Q E h => ?_) (fun cdv A outer s H vs Q E hr h => ?_)
  · obtain ⟨m, dx, o, l, g, rfl, _⟩ := h
    rfl
  · obtain ⟨m, dx, o, l, g, rfl, hm, ho, hl, hg, hp, k⟩ := h
    refine ⟨_, (pss_cons (ps_if (pt_not (pt_val (pe_call (ok_is_between T) (hr.mono (by decide)) (by rfl) T.g_is_between T.F_is_between.kp T.b_is_between .nil pass0 (pa_cons (pv 1) (pa_cons pe_int (pa_cons (pe_glob (v := .int 1000000000) (by rfl) T.g_GREATEST_PART.choose_spec ⟨_, rfl⟩) pa_nil)))))) (pss_one ps_never)
 pss_nil)
 (pss_cons (ps_if (pt_not (pt_val (pe_call (ok_is_between T) (hr.mono (by decide)) (by rfl) T.g_is_between T.F_is_between.kp T.b_is_between .nil pass0 (pa_cons (pv 2) (pa_cons pe_int (pa_cons (pe_glob (v := .int 1000000000) (by rfl) T.g_GREATEST_PART.choose_spec ⟨_, rfl⟩) pa_nil)))))) (pss_one ps_never)
 pss_nil)
 (pss_cons (ps_if (pt_not (pt_val (pe_call (ok_is_between T) (hr.mono (by decide)) (by rfl) T.g_is_between T.F_is_between.kp T.b_is_between .nil pass0 (pa_cons (pv 3) (pa_cons pe_int (pa_cons (pe_glob (v := .int 1000000000) (by rfl) T.g_GREATEST_PART.choose_spec ⟨_, rfl⟩) pa_nil)))))) (pss_one ps_never)
 pss_nil)
 (pss_cons (ps_if (pt_cmpR op_eq (pe_op op_add (pe_op op_mul pe_int (pv 1)) (pv 2)) pe_int (nomark _)) (pss_one ps_never)
 pss_nil)
 (pss_cons (ps_fld (pv 0) (pv 1) rfl)
 (pss_cons (ps_fld (pv 0) (pv 2) rfl)
 (pss_cons (ps_fld (pv 0) (pv 3) rfl)
 (pss_cons (ps_fld (pv 0) (pe_op op_add (pe_op op_mul pe_int (pv 1)) (pv 2)) rfl)
 (pss_one (ps_fld (pv 0) (pe_callB (call_max2 rfl) (by rfl) T.n_max (by decide +kernel) (pa_cons (pv 1) (pa_cons (pv 3) pa_nil))) rfl)))))))))), ?_⟩
    walk_at "rdi"
    repeat walk_at "rd"
    refine r_between ?_
    repeat walk_at "rd"
    refine r_nD (fun h => absurd ho h) (fun _ => ?_)
    walk_at "rd"
    walk_at "rdi"
    repeat walk_at "rd"
    refine r_between ?_
    repeat walk_at "rd"
    refine r_nD (fun h => absurd hl h) (fun _ => ?_)
    walk_at "rd"
    walk_at "rdi"
    repeat walk_at "rd"
    refine r_between ?_
    repeat walk_at "rd"
    refine r_nD (fun h => absurd hg h) (fun _ => ?_)
    walk_at "rd"
    walk_at "rdi"
    repeat walk_at "rd"
    refine ite_d (fun h => absurd h (by omega)) (fun _ => ?_)
    repeat walk_at "rd"
    refine k _ ⟨dx, ?_⟩ ?_
    · exact upd_same
    · exact But.upd.trans (But.upd.trans (But.upd.trans (But.upd.trans But.upd)))
end

/-! ### own rules: C(..) by a local name, x op y by an own def, targets in a tuple -/
/-- the slot n holds the class at C: a new instance -/
def tMakeL (n : Nat) (C : Addr) (sp : Sp) (dvs : List V) (E : XK) (t : TA) : TE := fun σ H Q => σ[n]? = some (some (.ref C)) ∧ tMake C sp dvs E t σ H Q
/-- x op y, x an instance with a dict, y of a known type -/
def rOwnD (K : PySem.W.Frag) (C : Addr) (sp : Sp) (E : XK) : R2 := fun x y H Q => ∃ m dx fs tb, x = .ref m ∧ H m = some (.ins C dx fs) ∧ TyX K H y tb ∧ PySem.W.notFirst K C tb = true ∧ sp [x, y] H Q E
section
variable {X : Cx} {CX : CXT} {k i : Nat} {f C : Addr} {fd : FuncData} {ps : List Str} {sp : Sp} {dvs : List V} {ds : List Value} {E : XK} {x : Str} {p pos : Pos} {e : Expr} {es : List Expr} {t : TA}
theorem pe_makeL (M : Mk X.K C f) (F : FnOk X.prog X.w X.K X.mg X.base CX k f fd ps sp) (hr : Room (k + 1) X.A) (hN : X.N[i]? = some x) (hv : Vis X.env.scope x) (hb : Binds X.K fd ps ds) (hd : Vals dvs ds) (hx : Passes CX X E) (ha : PA X (e :: es) t)
    (hdb : (x == ("__debug__" : Str)) = false := by decide) (hcd : (x == ("__classdict__" : Str)) = false := by decide)
    (he : starEach (e :: es) X.env = (false, eval e X.env) :: starEach es X.env := by rfl) (hpl : (backTo pos (starEach es X.env)).any (·.1) = false := by rfl) : PE X (.Call (.Name x p) (e :: es) [] pos) (tMakeL i C sp dvs E t) := by
  refine ⟨fun pins s σ H Q I h => wpAny_Call_Name_kw (thn ((pe_var (pos := p) hN hv hdb hcd).run pins s σ H (fun v H1 => v = .ref C ∧ H1 = H) I ⟨.ref C, h.1, rfl, rfl⟩) fun u s1 g => ?_)⟩
  obtain ⟨v, H1, J, r1, rfl, rfl⟩ := g
  cases r1
  exact PySem.W.callWith_K (h₀ := X.base) J.ok.mod.kin M.kp (thn (ha.run pos pins s1 σ _ _ J h.2) fun us s2 ⟨vs, H2, J2, r, q⟩ => ⟨J2.kIn, run_make M F hr hb hd hx J2 r q⟩) he hpl
theorem op_ownD {op : CmpOp} {g : Addr} {n : Nat} (hop : ∀ a b, compareOp op a b = richCompare op a b) (hs : PySem.W.findIn X.K (.ref C) (cmpInfo op).2.1 = some (some (.ref g))) (hf : PySem.W.isFn X.K (.ref g) = true) (F : FnR X.prog X.w X.K X.mg X.base CX n g sp)
    (hr : Room n X.A) (hx : Passes CX X E) : OpR X (compareOp op) (rOwnD X.K C sp E) := by
  intro pins s σ H x y v u Q I rx ry h
  obtain ⟨m, dx, fs, tb, rfl, hm, ty, hn, q⟩ := h
  obtain rfl : v = Value.ref m := rx
  obtain ⟨mA, J, _⟩ := ins_get I.hok hm
  obtain ⟨od, J, _⟩ := J.look
  obtain ⟨Pk, Z, pz, _⟩ := kit_of I ry ty
  obtain ⟨mF, hF⟩ := I.fr
  rw [hop]
  refine PySem.W.cmp_K (op := op) (tb := tb) hr.units0 hF I.ok.mod.kin J (Z.ty _ _ I.kIn pz) hn hs hf ?_
  refine wpAny_mono (wpAny_call (run_fnR (us := [.ref m, u]) (vs := [.ref m, y]) F hr hx I (.cons rfl (.cons ry .nil)) q)) (fun w s' z => ?_) fun _ _ x => x
  exact (let ⟨z', H', I', rz, qz⟩ := z; SlX.cmpback rz ⟨z', H', I', rz, qz⟩)
end
theorem kit_self {K : PySem.W.Frag} {C : Addr} : PySem.W.kitOne K (.ref C) (.ref C) = some true := by
  unfold PySem.W.kitOne
  rw [if_pos (by simp)]
theorem kit_no {K : PySem.W.Frag} {C : Addr} {n : String} (h1 : PySem.W.isClsIn K C = true) (h2 : PySem.W.typeIn K (.ref C) = some (.type "type")) (h3 : PySem.W.subIn K (.type n) (.ref C) = some false) : PySem.W.kitOne K (.type n) (.ref C) = some false := by
  have e : ((PySem.W.clsIn K C).isSome && PySem.W.typeIn K (.ref C) == some (.type "type")) = true := by
    rw [show (PySem.W.clsIn K C).isSome = true from h1, h2]
    rfl
  unfold PySem.W.kitOne
  rw [if_neg (by simp)]
  show (if ((PySem.W.clsIn K C).isSome && PySem.W.typeIn K (.ref C) == some (.type "type")) = true then PySem.W.subIn K (.type n) (.ref C) else none) = some false
  rw [if_pos e]
  exact h3
theorem nf_self {K : PySem.W.Frag} {C : Addr} : PySem.W.notFirst K C (.ref C) = true := by
  unfold PySem.W.notFirst
  simp
theorem nf_no {K : PySem.W.Frag} {C : Addr} {n : String} (h3 : PySem.W.subIn K (.type n) (.ref C) = some false) : PySem.W.notFirst K C (.type n) = true := by
  unfold PySem.W.notFirst
  rw [h3]
  simp
section
variable {K : PySem.W.Frag} {σ : St} {H : Hp} {Q : VK} {R : St → Hp → Prop} {n : Nat} {v : V} {vs : List V}
theorem r_gTup {t : TGs} {p : Addr} (h : H p = some (.tup vs)) (hl : vs.length = n) (q : t vs σ H R) : gTup K n t (.ref p) σ H R := ⟨p, vs, rfl, SqT.of h, hl, q⟩
theorem r_gCons {t : TG} {u : TGs} (h : t v σ H fun σ' H' => u vs σ' H' R) : gCons t u (v :: vs) σ H R := ⟨v, vs, rfl, h⟩
theorem r_gNil (h : R σ H) : gNil [] σ H R := ⟨rfl, h⟩
theorem r_par {i j : Nat} {ta : TA} {D : Ends} (h : ta σ H fun vs H1 => ∃ v w, vs = [v, w] ∧ D.nx ((σ.set i (some v)).set j (some w)) H1) : tPar i j ta D σ H := h
theorem r_par3 {i j l : Nat} {ta : TA} {D : Ends} (h : ta σ H fun vs H1 => ∃ u v w, vs = [u, v, w] ∧ D.nx (((σ.set i (some u)).set j (some v)).set l (some w)) H1) : tPar3 i j l ta D σ H := h
theorem r_ex2 {u v : V} {R : V → V → Prop} (q : R u v) : ∃ x y, [u, v] = [x, y] ∧ R x y := ⟨_, _, rfl, q⟩
theorem r_ex3 {u v w : V} {R : V → V → V → Prop} (q : R u v w) : ∃ x y z, [u, v, w] = [x, y, z] ∧ R x y z := ⟨_, _, _, rfl, q⟩
theorem r_nDT {c A B : Prop} [Decidable c] (hc : c) (h : B) : if (!decide c) = true then A else B := r_nD (fun z => absurd hc z) fun _ => h
theorem r_neB {a b : Bool} (q : Q (.bl (!decide (a = b))) H) : rNe (.bl a) (.bl b) H Q := ⟨rfl, by
  have e : decide (V.bl a = V.bl b) = decide (a = b) := by cases a <;> cases b <;> decide
  rw [e]; exact q⟩
theorem r_isB {a b : Bool} (q : Q (.bl (decide (a = b))) H) : rIsB (.bl a) (.bl b) H Q := ⟨a, b, rfl, rfl, q⟩
theorem r_notB {a b : Bool} (q : Q (.bl (!decide (a = b))) H) : rNotB (.bl a) (.bl b) H Q := ⟨a, b, rfl, rfl, q⟩
theorem r_dnew (k : ∀ p H', H p = none → Same H H' → H' p = some (.dK []) → Q (.ref p) H') : tDNewK σ H Q := new_of k
theorem r_makeL {C : Addr} {sp : Sp} {dvs : List V} {E : XK} {t : TA} (e : σ[n]? = some (some (.ref C))) (h : tMake C sp dvs E t σ H Q) : tMakeL n C sp dvs E t σ H Q := ⟨e, h⟩
theorem r_cmeth {C : Addr} {sp : Sp} {E : XK} {t : TA} (h : t σ H fun vs H2 => sp (.ref C :: vs) H2 Q E) : ClX.tCMeth C sp E (tC (.ref C)) t σ H Q := ⟨rfl, h⟩
theorem eq_ints {xs ys : List Int} : PyData.eqvAll (xs.map PyData.int) (ys.map PyData.int) = decide (xs = ys) := by
  induction xs generalizing ys with
  | nil => cases ys <;> rfl
  | cons x xs ih =>
    cases ys with
    | nil => rfl
    | cons y ys =>
      show (PyData.eqv (.int x) (.int y) && PyData.eqvAll (xs.map PyData.int) (ys.map PyData.int)) = _
      rw [ih]
      show ((x == y) && decide (xs = ys)) = _
      by_cases h : x = y
      · subst h; simp
      · simp [h]
theorem dp_ints (xs : List Int) : DpAll K H (xs.map V.int) (xs.map PyData.int) := by
  induction xs with
  | nil => exact .nil
  | cons x xs ih => exact .cons (.int x) ih
/-- == of two tuples of ints -/
theorem r_eqT {p q : Addr} {xs ys : List Int} (h1 : H p = some (.tup (xs.map V.int))) (h2 : H q = some (.tup (ys.map V.int))) (s1 : SeqAt.shaped (.tuple (xs.map PyData.int)) = true) (s2 : SeqAt.shaped (.tuple (ys.map PyData.int)) = true)
    (k : Q (.bl (decide (xs = ys))) H) : rEqD K (.ref p) (.ref q) H Q := ⟨_, _, .tup (SqT.of h1) (dp_ints xs), .tup (SqT.of h2) (dp_ints ys), s1, s2, by
  show Q (.bl (PyData.eqvAll (xs.map PyData.int) (ys.map PyData.int))) H
  rw [eq_ints]; exact k⟩
end
theorem r_Machine {C : Addr} {H : Hp} {Q : VK} {E : XK} {o l g : Int} (ho : 0 ≤ o ∧ o ≤ 1000000000) (hl : 0 ≤ l ∧ l ≤ 1000000000) (hg : 1 ≤ g ∧ g ≤ 1000000000) (hp : 0 < 2 * o + l) (k : ∀ m H', H m = none → MachAt C H' m o l g → Same H H' → Q (.ref m) H') :
    MakeAt C (spMachine C) ([.int o, .int l, .int g] ++ []) E H Q :=
  fun x dx nx nd _ => ⟨x, dx, o, l, g, rfl, upd_same, ho, hl, hg, hp, fun H' hm bt => ⟨rfl, k x H' nx hm (Same.made nx nd bt)⟩⟩

local macro_rules | `(tactic| walk_at "rd") => `(tactic| with_reducible first
  | (refine' r_gTup ?hp ?hl ?_; (case hp => walk_at "hp"); (case hl => with_unfolding_all exact rfl))
  | refine r_gCons ?_
  | refine r_gNil ?_
  | refine r_par ?_
  | refine r_par3 ?_
  | refine r_ex2 ?_
  | refine r_ex3 ?_
  | refine r_nDT rfl ?_
  | refine r_neB ?_
  | refine r_isB ?_
  | refine r_notB ?_
  | refine r_cmeth ?_
  | (refine' r_makeL ?he ?_; (case he => with_unfolding_all exact rfl))
  | refine r_isiB true (by decide +kernel) ?_
  | refine r_isiB false (by decide +kernel) ?_
  | refine r_callN ?_
  | refine r_andV ?_)

/-! ### enumerate over a tuple -/
open PySem.AutoSeq1 (wpAny_loadPart') in
theorem en_newT (p : Addr) (its : Array Value) (n : Nat) (dd : Option Addr) (sl : Array (Option Value)) :
    Meets (Builtin.«enumerate.__new__» ⟨[.type "enumerate", .ref p], []⟩) (fun _ R s => s.heap.get? p = some { cls := .type "tuple", dict := dd, data := .seq its n, slots := sl } ∧
      R (.ok (.ret (.ref (s.heap.push { cls := .type "tuple_iterator", data := .fields #[.ref p, .int 0 0] }).objs.size)))
        { s with heap := (s.heap.push { cls := .type "tuple_iterator", data := .fields #[.ref p, .int 0 0] }).push { cls := .type "enumerate", data := .fields #[.none, .bool false, .ref s.heap.objs.size, rawInt 0, .none, .none] } }) :=
  .of_wp fun prog w A R s h => by
    obtain ⟨hp, g, d, tk, os⟩ := s
    obtain ⟨hl, h⟩ := h
    have hsub := sub_enumerate
    have hT : Heap.IsTuple (Shared.heap ⟨hp, g, d, tk, os⟩) p its := ⟨_, hl, rfl, n, rfl⟩
    wp_walk using wpAny_loadPart' hl
    refine wpAny_stack_any fun st => wpAny_pure ?_
    split
    · rename_i c _ _ _ _ _
      cases (c == Value.type "enumerate") <;> (wp_walk using wpAny_loadPart' hl, wpAny_pyIter_tuple hT; exact ⟨_, rfl, h⟩)
    · wp_walk using wpAny_loadPart' hl, wpAny_pyIter_tuple hT
      exact ⟨_, rfl, h⟩
theorem en_callT {prog : Program} {w : World} {A : Around} {E : Value → Shared → Prop} {s : Shared} {p : Addr} {its : Array Value} {Q : Value → Shared → Prop} (hT : s.heap.IsTuple p its)
    (h : ∀ h', IsEnum h' (s.heap.objs.size + 1) s.heap.objs.size 0 .none → h'.IsTupleIter s.heap.objs.size p 0 → h'.objs.size = s.heap.objs.size + 2 →
      (∀ b o, s.heap.get? b = some o → h'.get? b = some o) → Q (.ref (s.heap.objs.size + 1)) { s with heap := h' }) : wpAny (model prog w) A (call (.type "enumerate") [.ref p]) Q E s := by
  obtain ⟨⟨c, dct, dt, sl⟩, hl, hc, n, hd⟩ := hT
  simp only at hc hd
  subst hc hd
  refine callType_new F.called_enumerate (by decide) (F.typeCall_enumerate_1 _) (F.newCall_enumerate_1 _) (fun obj => F.args_object_init_2 obj _) F.entry_enumerate_new (en_newT p its n dct sl) ⟨hl, ?_⟩
  generalize hg : s.heap.push { cls := .type "tuple_iterator", data := .fields #[.ref p, .int 0 0] } = g
  have hz : g.objs.size = s.heap.objs.size + 1 := by rw [← hg]; exact Heap.size_push ..
  show _ ∧ _
  rw [hz]
  have he : IsEnum (g.push { cls := .type "enumerate", data := .fields #[.none, .bool false, .ref s.heap.objs.size, rawInt 0, .none, .none] }) (s.heap.objs.size + 1) s.heap.objs.size 0 .none := by
    have q := Heap.get?_push_size g (o := { cls := .type "enumerate", data := .fields #[.none, .bool false, .ref s.heap.objs.size, rawInt 0, .none, .none] }) rfl
    rw [hz] at q
    exact q
  have hi : g.get? s.heap.objs.size = some { cls := .type "tuple_iterator", data := .fields #[.ref p, .int 0 0] } := by rw [← hg]; exact Heap.get?_push_size _ rfl
  refine ⟨⟨_, he, rfl⟩, h _ he ⟨_, Heap.get?_push_of_some _ hi, rfl, rfl⟩ (by rw [Heap.size_push, hz]) fun b o x => Heap.get?_push_of_some _ ?_⟩
  rw [← hg]
  exact Heap.get?_push_of_some _ x
/-- the tuple at a, each item in a new pair -/
def IteT (K : PySem.W.Frag) (a : Addr) : It :=
  ⟨fun i H => ∃ (xs : List V) (x : V), SqT K H a xs ∧ xs[i]? = some x, fun i H v H' => ∃ T x, v = .ref T ∧ H T = none ∧ H' = upd H T (.tup [.int (i : Nat), x]) ∧ ∀ xs, SqT K H a xs → xs[i]? = some x, fun i H => ∃ xs : List V, SqT K H a xs ∧ xs.length ≤ i⟩
theorem turn_enT {P : Program} {w : World} {K : PySem.W.Frag} {elts : List Expr} {kk : Nat} {tpos : Pos} (a e it : Addr) :
    Turn P w K (.Tuple elts kk tpos) (IteT K a) [e, it] e (fun i h => (∃ old, IsEnum h e it ((i : Nat) : Int) old) ∧ h.IsTupleIter it a i ∧ e ≠ it ∧ e ≠ a ∧ a ≠ it) where
  mem := by simp
  obj := fun i h st b hb => by
    obtain ⟨⟨old, he⟩, ⟨o, ho, hc, hd⟩, _⟩ := st
    rcases (by simpa using hb : b = e ∨ b = it) with z | z
    · rw [z]; exact ⟨_, he, fun v q => nomatch q⟩
    · rw [z]; exact ⟨o, ho, fun v q => by rw [hd] at q; cases q⟩
  keep := fun i h h' st k => let ⟨⟨old, he⟩, hi, hne⟩ := st; ⟨⟨old, k e (by simp) _ he⟩, hi.at fun o q => k it (by simp) o q, hne⟩
  item := by
    intro X hP hw hK hc i pins s σ H E I hf st hg
    subst hP hw hK
    obtain ⟨⟨old, he⟩, hit, hne, hea, hai⟩ := st
    obtain ⟨xs, x, hq, hx⟩ := hg
    obtain ⟨its, rv, p, hz⟩ := I.tuple hq
    obtain ⟨u, hu, ru⟩ := rv.get hx
    have hel : e < s.heap.objs.size := Heap.lt_size he
    have hil : it < s.heap.objs.size := by obtain ⟨_, q, _⟩ := hit; exact Heap.lt_size q
    have pT : s.heap.IsTuple a its.toArray := p
    have hlt : i < its.toArray.size := by
      have := (List.getElem?_eq_some_iff.mp hu).1
      simpa using this
    refine wpAny_pyNext_enum_itemD (Draws.tuple (A := X.A.in1) (show X.A.in1.handled = none from I.ok.hd hc) it a hai its.toArray) he ⟨hit, pT⟩ hlt hne (by simp [hne, hea]) fun v h' tk hv ho hst hT hsz hk => ?_
    have ev : v = u := by
      have q : its[i]? = some v := by simpa using hv
      rw [hu] at q
      exact (Option.some.inj q).symm
    subst ev
    refine ⟨_, rfl, wpAny_letOwnedTupleGo_enum (s := { s with heap := h', toks := tk + 1 }) ho fun h'' he' sb => ?_⟩
    have hT2 : h''.get? s.heap.objs.size = some { cls := .type "tuple", data := .seq #[.int i tk, v] } := (sb.2 _ (Nat.ne_of_gt hel)).trans hT
    have new : ObjOk X.prog X.w (upd H s.heap.objs.size (.tup [.int (i : Nat), x])) h'' s.heap.objs.size (.tup [.int (i : Nat), x]) :=
      ⟨by show 2 ≤ sizeLine; decide, [.int i tk, v], .cons ⟨_, rfl⟩ (.cons ru .nil), ⟨_, hT2, rfl, _, rfl⟩⟩
    have I1 : Inv X pins σ (upd H s.heap.objs.size (.tup [.int (i : Nat), x])) { s with heap := h'', toks := tk + 1 } :=
      I.turnedNew (ch := [e, it]) (fun b ob hb q => (sb.2 b (fun z => hb (by simp [z]))).trans (hk b ob (fun z => hb (by simp [z])) (fun z => hb (by simp [z])) q)) hf (Nat.le_refl _) new
    refine ⟨.ref s.heap.objs.size, _, I1, rfl, ⟨_, x, rfl, I.hok.fresh (Nat.le_refl _), rfl, fun ys hy => by rw [I.tuple_inj hy hq]; exact hx⟩, ⟨⟨v, ?_⟩, hst.1.at fun o q => (sb.2 it (Ne.symm hne)).trans q, hne, hea, hai⟩, fun b hb => ?_⟩
    · rw [show ((i + 1 : Nat) : Int) = (i : Int) + 1 by omega]; exact he'
    · have hb' : b < s.heap.objs.size := by
        rcases (by simpa using hb : b = e ∨ b = it) with z | z
        · rw [z]; exact hel
        · rw [z]; exact hil
      rw [upd_ne (Nat.ne_of_lt hb')]
      exact (hf b hb).1
  done := by
    intro X hP hw hK hc i pins s σ H E I hf st hg
    subst hP hw hK
    obtain ⟨⟨old, he⟩, hit, hne, hea, hai⟩ := st
    obtain ⟨xs, hq, hx⟩ := hg
    obtain ⟨its, rv, p, hz⟩ := I.tuple hq
    obtain ⟨f0, f1, f2, f3, f4, f5⟩ := hf it (by simp)
    have hl := rv.length
    have pT : s.heap.IsTuple a its.toArray := p
    unfold pyNext
    have hTy : s.TypeIs (.ref e) "enumerate" := ⟨_, he, rfl⟩
    refine wpAny_bind (wpAny_attempt (wpAny_callSpecial?_slot (name := Str.ofString "__next__") hTy F.slot_enumerate_next (wpAny_call_entry F.slot_enumerate_next hTy F.entry_enumerate_next ?_ (F.args_enumerate_next_1 _))))
    show wpAny _ _ (field (.ref e) 2 >>= _) _ _ _
    refine wpAny_bind (wpAny_field he rfl (x := .ref it) rfl ?_)
    refine wpAny_bind (wpAny_nextOf_tuple_end (I.ok.hd hc) hit pT (by simp; omega) fun h' x he' hx' => ?_)
    obtain ⟨o, ho, hcl⟩ := hx'
    refine wpAny_bind (wpAny_isInstance (T := "StopIteration") (b := true) ⟨o, ho, hcl⟩ isSubtype_stop ?_)
    exact wpAny_pure ⟨rfl, I.turned (t' := s.toks) (fun b o hb q => he' b o hb q) f0 f1 f3 f4 f5⟩
  self := fun A i s Q E st h => let ⟨⟨_, he⟩, _⟩ := st; wpAny_pyIter_enum he h
def iEnumS (K : PySem.W.Frag) (ta : TA) : TI := fun σ H R => ta σ H fun vs H1 => ∃ a xs, vs = [.ref a] ∧ ((SqL K H1 a xs ∧ R (Ite K a) H1) ∨ (SqT K H1 a xs ∧ R (IteT K a) H1))
theorem pi_enumS {X : Cx} {e : Expr} {ta : TA} {p pos tpos : Pos} {elts : List Expr} {kk : Nat} (hg : Gl X "enumerate") (hm : X.mg "enumerate" = none) (ha : PA X [e] ta) (hs : starEach [e] X.env = [(false, eval e X.env)] := by rfl) :
    PI X (.Tuple elts kk tpos) (.Call (.Name "enumerate" p) [e] [] pos) (iEnumS X.K ta) := by
  refine ⟨fun pins s σ H R I h => PyProof.Rows.Call_ (ld_blt I hg hm PyProof.Rows.boot_enumerate (PyProof.Rows.callWith_type1 (thn (ha.run pos pins s σ H _ I h) fun us s1 g => ?_) hs rfl))⟩
  obtain ⟨vs, H1, I1, r1, a, xs, rfl, g⟩ := g
  cases r1 with
  | cons r rr =>
    cases rr
    cases r
    have fresh : ∀ b ∈ [s1.heap.objs.size + 1, s1.heap.objs.size], s1.heap.objs.size ≤ b := fun b hb => by
      rcases (by simpa using hb : b = s1.heap.objs.size + 1 ∨ b = s1.heap.objs.size) with z | z <;> omega
    rcases g with ⟨hq, q⟩ | ⟨hq, q⟩
    · obtain ⟨its, rv, p', hz⟩ := I1.list hq
      refine call_enumerate_list p'.isList fun h' he hit hsz hk => wpAny_pyIter_enum he ?_
      exact ⟨s1.heap.objs.size + 1, [s1.heap.objs.size + 1, s1.heap.objs.size], _, _, H1, rfl, I1.kept (t' := s1.toks) hk, turn_enum a (s1.heap.objs.size + 1) s1.heap.objs.size, ⟨⟨.none, he⟩, hit, Nat.succ_ne_self _⟩, fun b hb => I1.fpOk (fresh b hb) (I1.hok.fresh (fresh b hb)), q⟩
    · obtain ⟨its, rv, p', hz⟩ := I1.tuple hq
      have pT : s1.heap.IsTuple a its.toArray := p'
      have hal : a < s1.heap.objs.size := by obtain ⟨o, ho, _⟩ := pT; exact Heap.lt_size ho
      refine en_callT pT fun h' he hit hsz hk => wpAny_pyIter_enum he ?_
      exact ⟨s1.heap.objs.size + 1, [s1.heap.objs.size + 1, s1.heap.objs.size], _, _, H1, rfl, I1.kept (t' := s1.toks) hk, turn_enT a (s1.heap.objs.size + 1) s1.heap.objs.size, ⟨⟨.none, he⟩, hit, Nat.succ_ne_self _, Nat.ne_of_gt (Nat.lt_succ_of_lt hal), Nat.ne_of_lt hal⟩, fun b hb => I1.fpOk (fresh b hb) (I1.hok.fresh (fresh b hb)), q⟩
theorem for_en {K : PySem.W.Frag} {a : Addr} {xs : List V} {g : TG} {tb : TS} {D : Ends} {σ : St} {H : Hp} (J : It) (Sq : Hp → List V → Prop) (hJ : J = Ite K a ∧ Sq = (fun H ys => SqL K H a ys) ∨ J = IteT K a ∧ Sq = (fun H ys => SqT K H a ys)) (Pv : Nat → St → Hp → Prop) (h0 : Pv 0 σ H) (hl : ∀ i σ H, i ≤ xs.length → Pv i σ H → Sq H xs)
    (hs : ∀ i x σ H T H', xs[i]? = some x → Pv i σ H → H T = none → H' = upd H T (.tup [.int (i : Nat), x]) → g (.ref T) σ H' fun σ2 H2 => tb { D with nx := Pv (i + 1), ct := Pv (i + 1), bk := D.nx } σ2 H2) (hd : ∀ σ H, Pv xs.length σ H → D.nx σ H) :
    ∃ W : Nat → Nat → St → Hp → Prop, (∃ m, W 0 m σ H) ∧ ∀ i m σ H, W i m σ H →
      (J.stop i H ∧ D.nx σ H) ∨ (J.go i H ∧ ∃ N : St → Hp → Prop, (∀ σ' H', N σ' H' → ∃ m', m' < m ∧ W (i + 1) m' σ' H') ∧ ∀ x H', J.yld i H x H' → g x σ H' fun σ2 H2 => tb { D with nx := N, ct := N, bk := D.nx } σ2 H2) := by
  refine ⟨fun i m σ H => m = xs.length - i ∧ i ≤ xs.length ∧ Pv i σ H, ⟨xs.length, by simp, Nat.zero_le _, h0⟩, ?_⟩
  rintro i m σ H ⟨rfl, hi, pv⟩
  have sq := hl i σ H hi pv
  by_cases hlt : i < xs.length
  · have hx : xs[i]? = some xs[i] := List.getElem?_eq_getElem hlt
    have hgo : J.go i H := by
      rcases hJ with ⟨rfl, rfl⟩ | ⟨rfl, rfl⟩
      · exact ⟨xs, _, sq, hx⟩
      · exact ⟨xs, _, sq, hx⟩
    refine .inr ⟨hgo, Pv (i + 1), fun σ' H' q => ⟨xs.length - (i + 1), by omega, rfl, hlt, q⟩, fun x H' y => ?_⟩
    have hy : ∃ T z, x = .ref T ∧ H T = none ∧ H' = upd H T (.tup [.int (i : Nat), z]) ∧ xs[i]? = some z := by
      rcases hJ with ⟨rfl, rfl⟩ | ⟨rfl, rfl⟩
      · obtain ⟨T, z, e1, e2, e3, e4⟩ := y; exact ⟨T, z, e1, e2, e3, e4 xs sq⟩
      · obtain ⟨T, z, e1, e2, e3, e4⟩ := y; exact ⟨T, z, e1, e2, e3, e4 xs sq⟩
    obtain ⟨T, z, rfl, e2, rfl, e4⟩ := hy
    exact hs i z σ H T _ e4 pv e2 rfl
  · have e : i = xs.length := by omega
    subst e
    refine .inl ⟨?_, hd σ H pv⟩
    rcases hJ with ⟨rfl, rfl⟩ | ⟨rfl, rfl⟩
    · exact ⟨xs, sq, Nat.le_refl _⟩
    · exact ⟨xs, sq, Nat.le_refl _⟩
theorem r_enS {K : PySem.W.Frag} {r : Addr} {xs : List V} {ta : TA} {g : TG} {tb : TS} {D : Ends} {σ : St} {H : Hp} (ha : ∀ QA : List V → Hp → Prop, QA [.ref r] H → ta σ H QA) (hq : SqL K H r xs ∨ SqT K H r xs) (Pv : Nat → St → Hp → Prop) (h0 : Pv 0 σ H) (hl : ∀ i σ H', Pv i σ H' → Same H H')
    (hs : ∀ i x σ H T H', xs[i]? = some x → Pv i σ H → H T = none → H' = upd H T (.tup [.int (i : Nat), x]) → g (.ref T) σ H' fun σ2 H2 => tb { D with nx := Pv (i + 1), ct := Pv (i + 1), bk := D.nx } σ2 H2) (hd : ∀ σ H, Pv xs.length σ H → D.nx σ H) :
    iEnumS K ta σ H fun J H1 => ∃ W : Nat → Nat → St → Hp → Prop, (∃ m, W 0 m σ H1) ∧ ∀ i m σ H, W i m σ H →
      (J.stop i H ∧ D.nx σ H) ∨ (J.go i H ∧ ∃ N : St → Hp → Prop, (∀ σ' H', N σ' H' → ∃ m', m' < m ∧ W (i + 1) m' σ' H') ∧ ∀ x H', J.yld i H x H' → g x σ H' fun σ2 H2 => tb { D with nx := N, ct := N, bk := D.nx } σ2 H2) := by
  refine ha _ ⟨r, xs, rfl, ?_⟩
  rcases hq with hq | hq
  · exact .inl ⟨hq, for_en _ _ (.inl ⟨rfl, rfl⟩) Pv h0 (fun i σ H' _ pv => Same.seq (hl i σ H' pv) hq) hs hd⟩
  · refine .inr ⟨hq, for_en _ _ (.inr ⟨rfl, rfl⟩) Pv h0 (fun i σ H' _ pv => ?_) hs hd⟩
    have s := hl i σ H' pv
    rcases hq with (h | ⟨o, h⟩) | h
    · exact .inl (.inl (s _ _ h))
    · exact .inl (.inr ⟨o, s _ _ h⟩)
    · exact .inr h

/-! ### the growing tree: rules, specifications -/
abbrev Turns := Option Nat
/-- turns as a value -/
abbrev tv : Turns → V
  | none => .non
  | some d => .int d
def TurnsIn (T : Turns) : Prop := match T with
  | none => True
  | some d => 1 ≤ d ∧ d ≤ 1000000000000
def depths (T : Turns) : Nat := match T with
  | none => 120
  | some _ => 40
theorem depths_le (T : Turns) : depths T ≤ 120 := by
  cases T with
  | none => exact Nat.le_refl _
  | some d => exact (by decide : (40 : Nat) ≤ 120)
/-- ascending times of roots -/
def RootsFrom : Int → List Int → Prop
  | _, [] => True
  | b, r :: rs => b ≤ r ∧ r ≤ 1000000000000 ∧ RootsFrom r rs
def RootsOk (rs : List Int) : Prop := 1 ≤ rs.length ∧ rs.length ≤ 6 ∧ RootsFrom 0 rs
theorem RootsFrom.get : ∀ {rs : List Int} {b : Int} {i : Nat} {r : Int}, RootsFrom b rs → rs[i]? = some r → b ≤ r ∧ r ≤ 1000000000000
  | [], _, _, _, _, h => by simp at h
  | a :: rs, b, 0, r, h, e => by
    have : a = r := by simpa using e
    subst this
    exact ⟨h.1, h.2.1⟩
  | a :: rs, b, i + 1, r, h, e => by
    have q := RootsFrom.get h.2.2 (by simpa using e : rs[i]? = some r)
    exact ⟨Int.le_trans h.1 q.1, q.2⟩
theorem RootsFrom.next : ∀ {rs : List Int} {b : Int} {i : Nat} {r s : Int}, RootsFrom b rs → rs[i]? = some r → rs[i + 1]? = some s → r ≤ s
  | [], _, _, _, _, _, h, _ => by simp at h
  | a :: rs, b, 0, r, s, h, e1, e2 => by
    have : a = r := by simpa using e1
    subst this
    exact (RootsFrom.get h.2.2 (by simpa using e2 : rs[0]? = some s)).1
  | a :: rs, b, i + 1, r, s, h, e1, e2 => RootsFrom.next h.2.2 (by simpa using e1) (by simpa using e2)
def SqR (K : PySem.W.Frag) (H : Hp) (r : Addr) (rs : List Int) : Prop := H r = some (.lst (rs.map V.int)) ∨ SqT K H r (rs.map V.int)
theorem SqR.keep {K : PySem.W.Frag} {H H' : Hp} {r : Addr} {rs : List Int} (h : SqR K H r rs) (s : Same H H') : SqR K H' r rs := by
  rcases h with h | h
  · exact .inl (s _ _ h)
  · refine .inr ?_
    rcases h with (h | ⟨o, h⟩) | h
    · exact .inl (.inl (s _ _ h))
    · exact .inl (.inr ⟨o, s _ _ h⟩)
    · exact .inr h
def tf (D G : Int) (T : Turns) (rt pw : Addr) : List (Str × V) := putF "powers" (.ref pw) (putF "horizon" (.int (depths T * D)) (putF "roots" (.ref rt) (putF "turns" (tv T) (putF "gap" (.int G) (putF "letter" (.int D) [])))))
theorem tf_letter {D G : Int} {T : Turns} {rt pw : Addr} : (tf D G T rt pw).lookup ("letter" : Str) = some (.int D) := by unfold tf; walk_at "lk"
theorem tf_gap {D G : Int} {T : Turns} {rt pw : Addr} : (tf D G T rt pw).lookup ("gap" : Str) = some (.int G) := by unfold tf; walk_at "lk"
theorem tf_turns {D G : Int} {T : Turns} {rt pw : Addr} : (tf D G T rt pw).lookup ("turns" : Str) = some (tv T) := by unfold tf; walk_at "lk"
theorem tf_roots {D G : Int} {T : Turns} {rt pw : Addr} : (tf D G T rt pw).lookup ("roots" : Str) = some (.ref rt) := by unfold tf; walk_at "lk"
theorem tf_horizon {D G : Int} {T : Turns} {rt pw : Addr} : (tf D G T rt pw).lookup ("horizon" : Str) = some (.int (depths T * D)) := by unfold tf; walk_at "lk"
theorem tf_powers {D G : Int} {T : Turns} {rt pw : Addr} : (tf D G T rt pw).lookup ("powers" : Str) = some (.ref pw) := by unfold tf; walk_at "lk"
theorem tf_no {D G : Int} {T : Turns} {rt pw : Addr} {m : Str} (h1 : ¬ m = "powers") (h2 : ¬ m = "horizon") (h3 : ¬ m = "roots") (h4 : ¬ m = "turns") (h5 : ¬ m = "gap") (h6 : ¬ m = "letter") : (tf D G T rt pw).lookup m = none := by
  unfold tf
  rw [lookup_putF, if_neg h1, lookup_putF, if_neg h2, lookup_putF, if_neg h3, lookup_putF, if_neg h4, lookup_putF, if_neg h5, lookup_putF, if_neg h6]
  rfl
/-- a tree at x -/
structure TreeAt (K : PySem.W.Frag) (C : Addr) (H : Hp) (x : Addr) (D G : Int) (T : Turns) (rs : List Int) : Prop where
  ex : ∃ dx rt pw, H x = some (.ins C dx (tf D G T rt pw)) ∧ SqT K H rt (rs.map V.int) ∧ ∀ d, T = some d → H pw = some (.tup (((List.range 41).map fun k => (d : Int) ^ k).map V.int))
  D0 : 0 < D
  D9 : D ≤ 3000000000
  G0 : 0 < G
  G9 : G ≤ 1000000000
  T0 : TurnsIn T
  R0 : RootsOk rs
theorem sqT_keep {K : PySem.W.Frag} {H H' : Hp} {r : Addr} {xs : List V} (h : SqT K H r xs) (s : Same H H') : SqT K H' r xs := by
  rcases h with (h | ⟨o, h⟩) | h
  · exact .inl (.inl (s _ _ h))
  · exact .inl (.inr ⟨o, s _ _ h⟩)
  · exact .inr h
theorem sqT_but {K : PySem.W.Frag} {H H' : Hp} {r p : Addr} {xs : List V} (h : SqT K H r xs) (s : But p H H') (n : r ≠ p) : SqT K H' r xs := by
  rcases h with (h | ⟨o, h⟩) | h
  · exact .inl (.inl (s _ _ h n))
  · exact .inl (.inr ⟨o, s _ _ h n⟩)
  · exact .inr h
theorem sqT_keep2 {K : PySem.W.Frag} {H : Hp} {r L : Addr} {xs ys zs : List V} (h : SqT K H r xs) (e : H L = some (.lst ys)) : SqT K (upd H L (.lst zs)) r xs := by
  rcases h with (h | ⟨o, h⟩) | h
  · exact .inl (.inl ((upd_ne (ne_of h e (by intro z; cases z))).trans h))
  · exact .inl (.inr ⟨o, (upd_ne (ne_of h e (by intro z; cases z))).trans h⟩)
  · exact .inr h
theorem SqR.but {K : PySem.W.Frag} {H H' : Hp} {r p : Addr} {rs : List Int} (h : SqR K H r rs) (s : But p H H') (n : r ≠ p) : SqR K H' r rs := by
  rcases h with h | h
  · exact .inl (s _ _ h n)
  · exact .inr (sqT_but h s n)
theorem sqT_butI {K : PySem.W.Frag} {H H' : Hp} {r x C dx : Addr} {fs : List (Str × V)} {xs : List V} (h : SqT K H r xs) (hx : H x = some (.ins C dx fs)) (s : But x H H') : SqT K H' r xs := by
  rcases h with (h | ⟨o, h⟩) | h
  · exact .inl (.inl (s _ _ h (ne_of h hx (by intro z; cases z))))
  · exact .inl (.inr ⟨o, s _ _ h (ne_of h hx (by intro z; cases z))⟩)
  · exact .inr h
theorem SqR.butI {K : PySem.W.Frag} {H H' : Hp} {r x C dx : Addr} {fs : List (Str × V)} {rs : List Int} (h : SqR K H r rs) (hx : H x = some (.ins C dx fs)) (s : But x H H') : SqR K H' r rs := by
  rcases h with h | h
  · exact .inl (s _ _ h (ne_of h hx (by intro z; cases z)))
  · exact .inr (sqT_butI h hx s)
theorem r_tupR {K : PySem.W.Frag} {H : Hp} {Q : VK} {r : Addr} {rs : List Int} (h : SqR K H r rs) (q : ∀ p H', Same H H' → SqT K H' p (rs.map V.int) → Q (.ref p) H') : rTupOf K [.ref r] H Q := by
  rcases h with h | h
  · exact r_tupL h fun p H' np s e => q p H' s (SqT.of e)
  · exact ⟨r, _, rfl, .inr ⟨h, q r H (Same.refl _) h⟩⟩
theorem TreeAt.keep {K : PySem.W.Frag} {C x : Addr} {H H' : Hp} {D G : Int} {T : Turns} {rs : List Int} (h : TreeAt K C H x D G T rs) (s : Same H H') : TreeAt K C H' x D G T rs :=
  { h with ex := let ⟨dx, rt, pw, e1, e2, e3⟩ := h.ex; ⟨dx, rt, pw, s _ _ e1, sqT_keep e2 s, fun d hd => s _ _ (e3 d hd)⟩ }
def spCheckTurns : Sp := fun vs H Q _ => ∃ T : Turns, vs = [tv T] ∧ TurnsIn T ∧ Q .non H
def spCheckRoots (K : PySem.W.Frag) : Sp := fun vs H Q _ => ∃ (r : Addr) (rs : List Int), vs = [.ref r] ∧ SqR K H r rs ∧ RootsOk rs ∧ ∀ H', Same H H' → Q .non H'
def spTree (K : PySem.W.Frag) (C M : Addr) : Sp := fun vs H Q _ => ∃ (x dx m r : Addr) (o l g : Int) (T : Turns) (rs : List Int), vs = [.ref x, .ref m, tv T, .ref r] ∧ H x = some (.ins C dx []) ∧ MachAt M H m o l g ∧ (0 ≤ o ∧ o ≤ 1000000000) ∧ (0 ≤ l ∧ l ≤ 1000000000) ∧ (1 ≤ g ∧ g ≤ 1000000000) ∧ 0 < 2 * o + l ∧
  TurnsIn T ∧ SqR K H r rs ∧ RootsOk rs ∧ ∀ H', TreeAt K C H' x (2 * o + l) (gapOf o g) T rs → But x H H' → Q .non H'
theorem r_Tree {K : PySem.W.Frag} {C M : Addr} {H : Hp} {Q : VK} {E : XK} {m r : Addr} {o l g : Int} {T : Turns} {rs : List Int} (hm : MachAt M H m o l g) (ho : 0 ≤ o ∧ o ≤ 1000000000) (hl : 0 ≤ l ∧ l ≤ 1000000000) (hg : 1 ≤ g ∧ g ≤ 1000000000) (hp : 0 < 2 * o + l) (hT : TurnsIn T) (hR : SqR K H r rs) (hRo : RootsOk rs)
    (k : ∀ x H', H x = none → TreeAt K C H' x (2 * o + l) (gapOf o g) T rs → Same H H' → Q (.ref x) H') : MakeAt C (spTree K C M) ([.ref m, tv T, .ref r] ++ []) E H Q :=
  fun x dx nx nd _ => by
    have s0 : Same H (upd (upd H dx (.own x)) x (.ins C dx [])) := Same.made0 nx nd
    exact ⟨x, dx, m, r, o, l, g, T, rs, rfl, upd_same, hm.keep s0, ho, hl, hg, hp, hT, hR.keep s0, hRo, fun H' ht bt => ⟨rfl, k x H' nx ht (Same.made nx nd bt)⟩⟩
theorem gap_pos {o g : Int} (h : 1 ≤ g) : 1 ≤ gapOf o g := by unfold gapOf; by_cases c : g > o <;> simp [c] <;> omega
theorem gap_le {o g : Int} (h : g ≤ 1000000000) (h2 : o ≤ 1000000000) : gapOf o g ≤ 1000000000 := by unfold gapOf; by_cases c : g > o <;> simp [c] <;> omega
theorem r_tyL {K : PySem.W.Frag} {H : Hp} {r : Addr} {rs : List Int} (h : SqR K H r rs) : TyX K H (.ref r) (.type "list") ∨ TyX K H (.ref r) (.type "tuple") := by
  rcases h with h | (h | ⟨o, h⟩) | ⟨o, its, n, h, hc, _⟩
  · exact .inl (.base (.lst h))
  · exact .inr (.base (.tup h))
  · exact .inr (.fTuple h)
  · exact .inr (.kTuple h hc)
local macro_rules | `(tactic| walk_at "no") => `(tactic| exact tf_no (by decide +kernel) (by decide +kernel) (by decide +kernel) (by decide +kernel) (by decide +kernel) (by decide +kernel))
local macro_rules | `(tactic| walk_at "lk") => `(tactic| first | exact tf_letter | exact tf_gap | exact tf_turns | exact tf_roots | exact tf_horizon | exact tf_powers)
local macro_rules | `(tactic| walk_at "rd") => `(tactic| with_reducible first
  | refine r_lenS (by assumption) ?_)
section
variable {P : Program} {w : World} {K : PySem.W.Frag} {mg : Str → Option Value} {base : Heap} {a : Adr}
theorem ok_check_turns (T : Txt K mg a) : FnOk P w K mg base CX0 3 a.a_check_turns a.d_check_turns ["turns"] spCheckTurns := by
  refine T.F_check_turns.ok sc_check_turns (fun vs H Q E h => ?_) (fun cdv A outer s H vs Q E hr h => ?_)
  · obtain ⟨d, rfl, _⟩ := h
    rfl
  · obtain ⟨d, rfl, hd, k⟩ := h
    refine ⟨_, (pss_one (ps_if (PW.pt (pw_and (pt_cmpR op_notNo (pv 0) pe_non (nomark _)) (pw_and1 (pt_not (pt_val (pe_call (ok_is_between T) (hr.mono (by decide)) (by rfl) T.g_is_between T.F_is_between.kp T.b_is_between .nil pass0 (pa_cons (pv 0) (pa_cons pe_int (pa_cons (pe_glob (v := .int 1000000000000) (by rfl) T.g_MOST_TURNS.choose_spec ⟨_, rfl⟩) pa_nil))))))))) (pss_one ps_never)
 pss_nil)), ?_⟩
    cases d with
    | none =>
      repeat walk_at "rd"
      exact k
    | some d =>
      repeat walk_at "rd"
      refine r_between ?_
      repeat walk_at "rd"
      refine r_nDT ⟨by have := hd.1; omega, by have := hd.2; omega⟩ ?_
      repeat walk_at "rd"
      exact k
theorem ok_check_roots (T : Txt K mg a) : FnOk P w K mg base CX0 3 a.a_check_roots a.d_check_roots ["roots"] (spCheckRoots K) := by
  refine T.F_check_roots.ok sc_check_roots (fun vs H Q E h => ?_) (fun cdv A outer s H vs Q E hr h => ?_)
  · obtain ⟨r, rs, rfl, _⟩ := h
    rfl
  · obtain ⟨r, rs, rfl, hS, ⟨l1, l6, hR⟩, k⟩ := h
    refine ⟨_, (pss_cons (ps_if (PW.pt (pw_or (pt_not (pt_val (pe_callB call_isiT (by rfl) T.n_isinstance (by decide +kernel) (pa_cons (pv 0) (pa_cons (pe_tup (pa_cons (pe_bltn (v := .ty "list") (u := .type "list") (by rfl) T.n_list (by decide +kernel) rfl) (pa_cons (pe_bltn (v := .ty "tuple") (u := .type "tuple") (by rfl) T.n_tuple (by decide +kernel) rfl) pa_nil))) pa_nil))))) (pw_or1 (pt_not (pt_chain op_le op_le pe_int (pe_callB call_len_seq (by rfl) T.n_len (by decide +kernel) (pa_cons (pv 0) pa_nil)) (pe_glob (v := .int 6) (by rfl) T.g_MOST_ROOTS.choose_spec ⟨_, rfl⟩)))))) (pss_one ps_never)
 pss_nil)
 (pss_cons (ps_set (i := 1) sc_check_roots.nd rfl (Or.inl rfl) pe_int)
 (pss_one (ps_for (by exact PassesOwn.never) rfl (pi_enumS (by rfl) T.n_enumerate (pa_cons (pv 0) pa_nil)) (pg_tup (by rfl) (pgs_cons (pg_name (i := 2) sc_check_roots.nd rfl (Or.inl rfl)) (pgs_cons (pg_name (i := 3) sc_check_roots.nd rfl (Or.inl rfl)) pgs_nil)))
 (pss_cons (ps_if (pt_not (pt_val (pe_call (ok_is_between T) (hr.mono (by decide)) (by rfl) T.g_is_between T.F_is_between.kp T.b_is_between .nil pass0 (pa_cons (pv 3) (pa_cons (pv 1) (pa_cons (pe_glob (v := .int 1000000000000) (by rfl) T.g_LATEST_ROOT.choose_spec ⟨_, rfl⟩) pa_nil)))))) (pss_one ps_never)
 pss_nil)
 (pss_one (ps_set (i := 1) sc_check_roots.nd rfl (Or.inl rfl) (pv 3)))))))), ?_⟩
    walk_at "rdi"
    repeat walk_at "rd"
    refine new_at (Nat.le_of_ble_eq_true rfl) (fun u H1 nu s1 e1 => ?_)
    have hS1 := hS.keep s1
    have hk : ∃ t, TyX K H1 (.ref r) t ∧ PySem.W.kitAny K t [.type "list", .type "tuple"] = some true := by
      rcases r_tyL hS1 with h | h
      · exact ⟨_, h, kitAny_cons (b := true) (kit_ty (by decide +kernel)) (fun z => Bool.noConfusion z) fun _ => rfl⟩
      · exact ⟨_, h, kitAny_cons (b := false) (kit_ty (by decide +kernel)) (fun _ => kitAny_cons (b := true) (kit_ty (by decide +kernel)) (fun z => Bool.noConfusion z) fun _ => rfl) (fun z => Bool.noConfusion z)⟩
    obtain ⟨t, ty, hk⟩ := hk
    repeat walk_at "rd"
    refine ⟨_, u, [.ty "list", .ty "tuple"], t, [.type "list", .type "tuple"], true, rfl, e1, .cons (.ty _) (.cons (.ty _) .nil), ty, hk, ?_⟩
    have hq : SqL K H1 r (rs.map V.int) ∨ SqT K H1 r (rs.map V.int) := hS1.imp SqL.of id
    repeat walk_at "rd"
    refine r_lenS hq ?_
    repeat walk_at "rd"
    refine ite_tt (by rw [List.length_map]; omega) ?_
    repeat walk_at "rd"
    refine r_nDT (by rw [List.length_map]; omega) ?_
    repeat walk_at "rd"
    refine r_enS (xs := rs.map V.int) (by intro QA q; (repeat walk_at "rd"); exact q) hq (fun i σ H' => ∃ (b : Int) (v2 v3 : Option V), σ = [some (.ref r), some (.int b), v2, v3] ∧ Same H1 H' ∧ (∀ r0, rs[i]? = some r0 → b ≤ r0)) ⟨0, _, _, rfl, Same.refl _, fun r0 h => (hR.get h).1⟩ (fun i σ H' ⟨_, _, _, _, s, _⟩ => s) ?_ ?_
    · rintro i x σ H2 u2 H3 hx ⟨b, v2, v3, rfl, s2, hb⟩ nu2 rfl
      obtain ⟨z, hz, rfl⟩ := int_of_get hx
      repeat walk_at "rd"
      walk_at "rdi"
      repeat walk_at "rd"
      refine r_between ?_
      repeat walk_at "rd"
      refine r_nDT ⟨hb z hz, (hR.get hz).2⟩ ?_
      repeat walk_at "rd"
      exact ⟨z, _, _, rfl, s2.trans (Same.new nu2), fun r0 h => hR.next hz h⟩
    · rintro σ H2 ⟨b, v2, v3, rfl, s2, _⟩
      exact k _ (s1.trans s2)

theorem ok_Tree_init (T : Txt K mg a) : FnOk P w K mg base CX0 4 a.a_Tree_init a.d_Tree_init ["self", "machine", "turns", "roots"] (spTree K a.c_Tree a.c_Machine) := by
  refine T.F_Tree_init.ok sc_Tree_init (fun vs H Q E h => ?_) (fun cdv A outer s H vs Q E hr h => ?_)
  · obtain ⟨x, dx, m, r, o, l, g, Tn, rs, rfl, _⟩ := h
    rfl
  · obtain ⟨x, dx, m, r, o, l, g, Tn, rs, rfl, hx, ⟨dm, hm⟩, ho, hl, hg, hp, hT, hR, hRo, k⟩ := h
    refine ⟨_, (pss_cons (ps_expr (pe_call (ok_check_turns T) (hr.mono (by decide)) (by rfl) T.g_check_turns T.F_check_turns.kp T.b_check_turns .nil pass0 (pa_cons (pv 2) pa_nil)))
 (pss_cons (ps_expr (pe_call (ok_check_roots T) (hr.mono (by decide)) (by rfl) T.g_check_roots T.F_check_roots.kp T.b_check_roots .nil pass0 (pa_cons (pv 3) pa_nil)))
 (pss_cons (ps_fld (pv 0) (pe_fld (pv 1) rfl) rfl)
 (pss_cons (ps_fld (pv 0) (pe_fld (pv 1) rfl) rfl)
 (pss_cons (ps_fld (pv 0) (pv 2) rfl)
 (pss_cons (ps_fld (pv 0) (pe_callTy cr_tup (by rfl) T.n_tuple (by decide +kernel) (pa_cons (pv 3) pa_nil)) rfl)
 (pss_one (ps_if (pt_cmpR op_isNo (pv 2) pe_non (nomark _)) (pss_cons (ps_fld (pv 0) (pe_op op_mul (pe_glob (v := .int 120) (by rfl) T.g_FREE_DEPTHS.choose_spec ⟨_, rfl⟩) (pe_fld (pv 0) rfl)) rfl)
 (pss_one (ps_fld (pv 0) (pe_tup pa_nil) rfl)))
 (pss_cons (ps_fld (pv 0) (pe_op op_mul (pe_glob (v := .int 40) (by rfl) T.g_TURNS_DEPTHS.choose_spec ⟨_, rfl⟩) (pe_fld (pv 0) rfl)) rfl)
 (pss_one (ps_fld (pv 0) (pe_callTy cr_tup (by rfl) T.n_tuple (by decide +kernel) (pa_cons (pe_lc (own := [("k", 4)]) (g := gName 4) (tt := tYes) rfl sc_Tree_init.nd (pi_range1 (by rfl) T.n_range (pa_cons pe_int pa_nil)) (blkOk_by (own := [("k", 4)]) (N := ["self", "machine", "turns", "roots", "k"]) (sc := defScope s_Tree_init) (by decide +kernel)) (fun _ _ _ _ _ => (pg_name (i := 4) sc_Tree_init.nd rfl (Or.inl rfl))) (fun _ _ _ _ _ => pts_nil) (fun _ _ _ _ _ => (pe_op op_pow (pv 2) (pv 4)))) pa_nil)) rfl))))))))))), ?_⟩
    repeat walk_at "rd"
    refine ⟨Tn, rfl, hT, ?_⟩
    repeat walk_at "rd"
    refine ⟨r, rs, rfl, hR, hRo, fun H1 s1 => ?_⟩
    have hx1 := s1 _ _ hx
    have hm1 := s1 _ _ hm
    have hR1 := hR.keep s1
    have nmx : m ≠ x := ne_of hm hx fun z => by
      have e := mf_o (o := o) (l := l) (g := g)
      rw [(HO.ins.inj z).2.2] at e
      cases e
    repeat walk_at "rd"
    refine r_tupR (hR1.butI hx1 (But.upd.trans (But.upd.trans But.upd))) (fun rt H2 s2 hrt => ?_)
    have e2 := s2 _ _ upd_same
    have b2 : But x H H2 := (But.of_same s1).trans (((But.upd.trans (But.upd.trans But.upd))).trans (But.of_same s2))
    clear hR1 hm1 hx1 s2
    repeat walk_at "rd"
    have hD0 : 0 < gapOf o g := by have := gap_pos (o := o) hg.1; omega
    have hG9 := gap_le (o := o) hg.2 ho.2
    cases Tn with
    | none =>
      repeat walk_at "rd"
      refine new_at (Nat.le_of_ble_eq_true rfl) (fun pw H3 npw s3 e3 => ?_)
      have e4 := s3 _ _ upd_same
      repeat walk_at "rd"
      have bz := (But.upd.trans (But.upd.trans ((But.of_same s3).trans (But.upd (p := x) (o := .ins a.c_Tree dx (tf (2 * o + l) (gapOf o g) none rt pw))))))
      refine k _ ⟨⟨dx, rt, pw, upd_same, sqT_butI hrt e2 bz, fun d hd => by cases hd⟩, hp, by omega, hD0, hG9, hT, hRo⟩ (b2.trans bz)
    | some d =>
      repeat walk_at "rd"
      refine ⟨by decide, by decide, fun L hL => lc_range (lo := 0) (n := 41) (fun i H' => H' L = some (.lst (((List.range i).map fun k => (d : Int) ^ k).map V.int)) ∧
        H' x = some (.ins a.c_Tree dx (putF "horizon" (.int (40 * (2 * o + l))) (putF "roots" (.ref rt) (putF "turns" (tv (some d)) (putF "gap" (.int (gapOf o g)) (putF "letter" (.int (2 * o + l)) [])))))) ∧ But x H2 H' ∧ L ≠ x ∧ H2 L = none) ?_ ?_ ?_⟩
      · have nxL : x ≠ L := ne_of_none upd_same hL
        refine ⟨upd_same, (upd_ne nxL).trans upd_same, But.upd.trans (But.upd.trans (But.new hL)), nxL.symm, ?_⟩
        rw [upd_ne nxL.symm, upd_ne nxL.symm] at hL
        exact hL
      · rintro i H3 hi ⟨h1, h2, h4, h5, h6⟩
        repeat walk_at "rd"
        refine ⟨rfl, ?_⟩
        repeat walk_at "rd"
        refine r_I (powOk (by omega) (by omega) (by have := hT.2; omega)) ?_
        refine ⟨_, h1, small1000 (by simp; omega), ?_, (upd_ne h5.symm).trans h2, h4.updOver h6 h1, h5, h6⟩
        rw [upd_same, List.range_succ, List.map_append, List.map_append, show ((0 + (i : Int)) : Int).toNat = i by omega]
        rfl
      · rintro H3 ⟨h1, h2, h4, h5, h6⟩
        repeat walk_at "rd"
        refine r_tupL h1 (fun pw H4 npw s4 e4 => ?_)
        have h2 := s4 _ _ h2
        have npx : pw ≠ x := (ne_of_none (show H3 x = some _ from by assumption) npw).symm
        repeat walk_at "rd"
        have bz := (h4.trans (But.of_same s4)).trans (But.upd (p := x) (o := .ins a.c_Tree dx (putF "powers" (.ref pw) (putF "horizon" (.int (40 * (2 * o + l))) (putF "roots" (.ref rt) (putF "turns" (tv (some d)) (putF "gap" (.int (gapOf o g)) (putF "letter" (.int (2 * o + l)) []))))))))
        refine k _ ⟨⟨dx, rt, pw, upd_same, sqT_butI hrt e2 bz, fun d' hd => ?_⟩, hp, by omega, hD0, hG9, hT, hRo⟩ (b2.trans bz)
        cases hd
        exact (upd_ne npx).trans e4
end

/-! ### sum of a tuple of ints -/
def rSumT (K : PySem.W.Frag) : List V → Hp → VK → Prop := fun vs H Q => ∃ (a : Addr) (ns : List Int), vs = [V.ref a] ∧ SqT K H a (ns.map V.int) ∧ Q (.int ns.sum) H
open PySem.W PyProof.Rows in
theorem cr_sumT {X : Cx} (hc : X.calm = true) : CallR X (.builtin "sum") (rSumT X.K) := by
  intro pins s σ H vs us Q I r h
  obtain ⟨a, ns, rfl, hs, q⟩ := h
  obtain ⟨its, rv, hl, _⟩ := I.tuple hs
  rw [Vals.ref1 r]
  have hi := rv.ints
  obtain ⟨xs, hx⟩ := hi.allInts.items
  have hn : numsOf its.toArray.toList = ns := by rw [show its.toArray.toList = its from rfl, hi.numsOf]
  rw [hx] at hl hn
  rw [nums_intItems] at hn
  refine ktm_sumG (I.ok.hd hc) hl fun h' tk t' hk => ?_
  rw [preSum_eq, List.take_of_length_le (by simp), hn]
  exact ⟨.int _, H, I.kept hk, ⟨_, rfl⟩, q⟩

/-! ### lines k * D + j * G = t -/
abbrev L3 := Int × Int × Int
def Solves (ls : List L3) (D G : Int) : Prop := ∀ l, l ∈ ls → l.1 * D + l.2.1 * G = l.2.2
/-- what lines of sightings are like -/
def LineIn (l : L3) : Prop := 0 ≤ l.1 ∧ l.1 ≤ 199 ∧ 0 ≤ l.2.1 ∧ l.2.1 ≤ 200000000000000000 ∧ (l.1 = 0 → l.2.1 = 0) ∧ 0 ≤ l.2.2 ∧ l.2.2 ≤ 100000000000000000000 ∧ l.2.2 ≤ (l.1 + l.2.1 + 1) * 3000000000
def LinesIn (ls : List L3) : Prop := ∀ l, l ∈ ls → LineIn l
def Zero (l : L3) : Prop := l.1 = 0 ∧ l.2.1 = 0 ∧ l.2.2 = 0
def Unl (a b : L3) : Prop := a.1 * b.2.1 ≠ b.1 * a.2.1
def Par (ls : List L3) : Prop := ∀ a b, a ∈ ls → b ∈ ls → a.1 * b.2.1 = b.1 * a.2.1
def No (ls : List L3) : Prop := ∀ D G : Int, 1 ≤ D → 1 ≤ G → ¬ Solves ls D G
def pos1 (l : L3) : Bool := decide (l.1 > 0)
def gcdI (a b : Int) : Int := ((Nat.gcd a.natAbs b.natAbs : Nat) : Int)
structure OneOk (ls : List L3) (D G : Int) : Prop where
  sol : Solves ls D G
  d1 : 1 ≤ D
  g1 : 1 ≤ G
  up : ∃ l, l ∈ ls ∧ 0 < l.1
  only : Par (ls.filter pos1) → ∀ l, (ls.filter pos1).head? = some l → D ≤ l.2.1 / gcdI l.1 l.2.1 ∧ G ≤ l.1 / gcdI l.1 l.2.1
structure LineOk (ls : List L3) (D G e f : Int) (c : Option Int) : Prop where
  sol : Solves ls D G
  d1 : 1 ≤ D
  g1 : 1 ≤ G
  up : ∃ l, l ∈ ls ∧ 0 < l.1
  par : Par ls
  one : gcdI e f = 1
  step : ∀ l, l ∈ ls → l.1 * e + l.2.1 * f = 0
  free : c = none → e = 0 ∧ f = 1 ∧ G = 1
  many : ∀ m, c = some m → 2 ≤ m ∧ m ≤ 1000000000000000000000 ∧ 1 ≤ e ∧ e ≤ 1000000000000000000 ∧ -1000 ≤ f ∧ f ≤ 1000 ∧ D ≤ e ∧ 1 ≤ G + (m - 1) * f ∧ G + (m - 1) * f + f < 1
theorem solves_step {ls : List L3} {D G e f m : Int} (h : Solves ls D G) (hs : ∀ l, l ∈ ls → l.1 * e + l.2.1 * f = 0) : Solves ls (D + m * e) (G + m * f) := fun l hl => by
  have h1 := h l hl
  have h2 := hs l hl
  have e1 : l.1 * (D + m * e) + l.2.1 * (G + m * f) = (l.1 * D + l.2.1 * G) + m * (l.1 * e + l.2.1 * f) := by
    rw [Int.mul_add, Int.mul_add, Int.mul_add, Int.mul_left_comm l.1 m e, Int.mul_left_comm l.2.1 m f]
    omega
  rw [e1, h1, h2, Int.mul_zero]
  omega
/-- of two unlike lines: at most one pair -/
theorem cramer {a b : L3} {D G : Int} (h1 : a.1 * D + a.2.1 * G = a.2.2) (h2 : b.1 * D + b.2.1 * G = b.2.2) : a.2.2 * b.2.1 - b.2.2 * a.2.1 = D * (a.1 * b.2.1 - b.1 * a.2.1) ∧ a.1 * b.2.2 - b.1 * a.2.2 = G * (a.1 * b.2.1 - b.1 * a.2.1) := by
  obtain ⟨k, j, t⟩ := a
  obtain ⟨m, i, u⟩ := b
  dsimp only at *
  subst h1
  subst h2
  constructor
  · rw [Int.add_mul, Int.add_mul, Int.mul_sub]
    rw [show k * D * i = D * (k * i) by rw [Int.mul_comm k D, Int.mul_assoc], show m * D * j = D * (m * j) by rw [Int.mul_comm m D, Int.mul_assoc], show i * G * j = j * G * i by rw [Int.mul_comm (i * G) j, Int.mul_comm i G, ← Int.mul_assoc]]
    omega
  · rw [Int.mul_add, Int.mul_add, Int.mul_sub]
    rw [show k * (i * G) = G * (k * i) by rw [← Int.mul_assoc, Int.mul_comm], show m * (j * G) = G * (m * j) by rw [← Int.mul_assoc, Int.mul_comm], show k * (m * D) = m * (k * D) by rw [Int.mul_left_comm]]
    omega
theorem ediv_of {x d y : Int} (hd : d ≠ 0) (h : x = y * d) : x / d = y := by
  rw [h]; exact Int.mul_ediv_cancel y hd
/-- the common divisor of a line -/
structure Com (k j c p q : Int) : Prop where
  c1 : 1 ≤ c
  hk : k = c * p
  hj : j = c * q
  p1 : 1 ≤ p
  q0 : 0 ≤ q
  co : ∀ m i : Int, k * i = m * j → 0 ≤ m → ∃ n, m = p * n ∧ i = q * n ∧ 0 ≤ n
  gc : gcdI p q = 1
theorem com_of {k j : Int} (hk : 0 < k) (hj : 0 ≤ j) : Com k j (gcdI k j) (k / gcdI k j) (j / gcdI k j) := by
  obtain ⟨K, rfl⟩ : ∃ K : Nat, k = K := ⟨k.toNat, by omega⟩
  obtain ⟨J, rfl⟩ : ∃ J : Nat, j = J := ⟨j.toNat, by omega⟩
  have e : gcdI (K : Int) (J : Int) = ((Nat.gcd K J : Nat) : Int) := rfl
  rw [e]
  have hK : 0 < K := by omega
  obtain ⟨C, hC⟩ : ∃ C, Nat.gcd K J = C := ⟨_, rfl⟩
  have hC0 : 0 < C := by rw [← hC]; exact Nat.gcd_pos_of_pos_left _ hK
  obtain ⟨p, hp⟩ : C ∣ K := by rw [← hC]; exact Nat.gcd_dvd_left _ _
  obtain ⟨q, hq⟩ : C ∣ J := by rw [← hC]; exact Nat.gcd_dvd_right _ _
  have hco : Nat.gcd p q = 1 := by
    have h1 : Nat.gcd (C * p) (C * q) = C * Nat.gcd p q := Nat.gcd_mul_left C p q
    rw [← hp, ← hq, hC] at h1
    exact (Nat.eq_of_mul_eq_mul_left hC0 (show C * 1 = C * Nat.gcd p q by omega)).symm
  rw [hC, hp, hq]
  have e1 : ((C * p : Nat) : Int) / (C : Int) = p := by rw [Int.natCast_mul]; exact Int.mul_ediv_cancel_left _ (by omega)
  have e2 : ((C * q : Nat) : Int) / (C : Int) = q := by rw [Int.natCast_mul]; exact Int.mul_ediv_cancel_left _ (by omega)
  rw [e1, e2]
  have hp0 : 0 < p := by
    rcases Nat.eq_zero_or_pos p with h | h
    · rw [h] at hp; omega
    · exact h
  refine ⟨by omega, Int.natCast_mul .., Int.natCast_mul .., by omega, by omega, fun m i h m0 => ?_, by show ((Nat.gcd p q : Nat) : Int) = 1; rw [hco]; rfl⟩
  obtain ⟨M, rfl⟩ : ∃ M : Nat, m = M := ⟨m.toNat, by omega⟩
  rw [Int.natCast_mul, Int.natCast_mul, Int.mul_assoc, Int.mul_left_comm (M : Int)] at h
  have h2 : (p : Int) * i = M * q := Int.eq_of_mul_eq_mul_left (show (C : Int) ≠ 0 by omega) h
  have hi0 : 0 ≤ i := by
    by_cases c : 0 ≤ i
    · exact c
    · have h3 : (p : Int) * i < 0 := Int.mul_neg_of_pos_of_neg (by omega) (by omega)
      have h4 : 0 ≤ (M : Int) * q := Int.mul_nonneg (by omega) (by omega)
      omega
  obtain ⟨I, rfl⟩ : ∃ I : Nat, i = I := ⟨i.toNat, by omega⟩
  have h3 : p * I = M * q := by
    have : ((p * I : Nat) : Int) = ((M * q : Nat) : Int) := by rw [Int.natCast_mul, Int.natCast_mul]; exact h2
    exact Int.ofNat.inj this
  have h4 : p ∣ M := (Nat.Coprime.dvd_of_dvd_mul_right (n := q) hco ⟨I, h3.symm⟩)
  obtain ⟨n, rfl⟩ := h4
  refine ⟨n, Int.natCast_mul .., ?_, by omega⟩
  have h5 : p * I = p * (q * n) := by rw [h3, Nat.mul_assoc, Nat.mul_comm n q]
  have := Nat.eq_of_mul_eq_mul_left hp0 h5
  rw [this]; exact Int.natCast_mul ..
theorem No.zero {ls : List L3} {l : L3} (hl : l ∈ ls) (h1 : l.1 = 0) (h2 : l.2.1 = 0) (h3 : l.2.2 ≠ 0) : No ls := fun D G _ _ h => by
  have := h l hl
  rw [h1, h2, Int.zero_mul, Int.zero_mul] at this
  omega
/-- the lines that are not (0, 0, 0) -/
def nz (l : L3) : Bool := decide (l ≠ (0, 0, 0))
theorem nz_iff {l : L3} : nz l = true ↔ l ≠ (0, 0, 0) := decide_eq_true_iff
theorem solves_nz {ls : List L3} {D G : Int} : Solves (ls.filter nz) D G ↔ Solves ls D G := by
  constructor
  · intro h l hl
    by_cases c : nz l = true
    · exact h l (List.mem_filter.mpr ⟨hl, c⟩)
    · have : l = (0, 0, 0) := Classical.byContradiction fun z => c (nz_iff.mpr z)
      rw [this]
      show 0 * D + 0 * G = 0
      simp
  · exact fun h l hl => h l (List.mem_filter.mp hl).1
theorem No.nz {ls : List L3} (h : No (ls.filter nz)) : No ls := fun D G d g hs => h D G d g (solves_nz.mpr hs)
theorem fdiv_of {x d y : Int} (hd : d ≠ 0) (h : x = y * d) : x.fdiv d = y := by
  rw [h]; exact Int.mul_fdiv_cancel y hd
/-- two unlike lines: what is told by them -/
theorem two_pair {ls : List L3} {a b : L3} {D G : Int} (ha : a ∈ ls) (hb : b ∈ ls) (hu : a.1 * b.2.1 - b.1 * a.2.1 ≠ 0) (hs : Solves ls D G) : (a.2.2 * b.2.1 - b.2.2 * a.2.1).fdiv (a.1 * b.2.1 - b.1 * a.2.1) = D ∧ (a.1 * b.2.2 - b.1 * a.2.2).fdiv (a.1 * b.2.1 - b.1 * a.2.1) = G := by
  obtain ⟨h1, h2⟩ := cramer (hs a ha) (hs b hb)
  exact ⟨fdiv_of hu h1, fdiv_of hu h2⟩
/-- one line: the pairs on it -/
theorem line_low {p q t D G : Int} (hq : 0 < q) (h : p * D + q * G = t) (hD : 1 ≤ D) (hp : 1 ≤ p) : G ≤ (t - p) / q := by
  rw [Int.le_ediv_iff_mul_le hq, Int.mul_comm]
  have : p * 1 ≤ p * D := Int.mul_le_mul_of_nonneg_left hD (by omega)
  omega
theorem line_high {p q t D G : Int} (hq : 0 < q) (h : p * D + q * G = t) (hp : 1 ≤ p) (hG : (t - p) / q - p < G) : D ≤ q := by
  have h1 := Int.lt_ediv_add_one_mul_self (t - p) hq
  have h2 : ((t - p) / q + 1) * q ≤ (G + p) * q := Int.mul_le_mul_of_nonneg_right (by omega) (by omega)
  have h3 : (G + p) * q = q * G + p * q := by rw [Int.add_mul, Int.mul_comm G]
  have h4 : p * D < p * (q + 1) := by rw [Int.mul_add, Int.mul_one]; omega
  have := Int.lt_of_mul_lt_mul_left h4 (by omega)
  omega
/-- among p gaps in a row one fits -/
theorem line_hit {p q t D G : Int} (hp : 1 ≤ p) (hq : 0 < q) (h : p * D + q * G = t) (hD : 1 ≤ D) (hG : 1 ≤ G) (m : Int) (hm : (t - p) / q = m) : ∃ g, (if m - p > 0 then m - p else 0) < g ∧ g ≤ m ∧ (t - q * g) % p = 0 := by
  have hle := line_low hq h hD hp
  rw [hm] at hle
  -- G lifted by a multiple of p
  have h1 := Int.ediv_mul_le (m - G) (show p ≠ 0 by omega)
  have h2 := Int.lt_ediv_add_one_mul_self (m - G) (show 0 < p by omega)
  have h0 : 0 ≤ (m - G) / p := Int.ediv_nonneg (by omega) (by omega)
  have h3 : 0 ≤ (m - G) / p * p := Int.mul_nonneg h0 (by omega)
  refine ⟨G + (m - G) / p * p, by rw [Int.add_mul] at h2; split <;> omega, by omega, ?_⟩
  have e : t - q * (G + (m - G) / p * p) = p * (D - q * ((m - G) / p)) := by
    rw [Int.mul_add, Int.mul_sub, ← h, ← Int.mul_assoc q, Int.mul_comm _ p, ← Int.mul_assoc p q]
    omega
  rw [e, Int.mul_emod_right]
/-- all lines are multiples of the first -/
theorem mult_solves {ls : List L3} {k j c p q w D G : Int} (hc : Com k j c p q) (hi : LinesIn ls) (hpar : ∀ l, l ∈ ls → k * l.2.1 = l.1 * j) (hw : ∀ l, l ∈ ls → w * (l.1 / p) = l.2.2) (h : p * D + q * G = w) : Solves ls D G := fun l hl => by
  obtain ⟨n, h1, h2, h3⟩ := hc.co l.1 l.2.1 (hpar l hl) (hi l hl).1
  have h4 := hw l hl
  rw [h1, Int.mul_ediv_cancel_left _ (show p ≠ 0 by have := hc.p1; omega)] at h4
  rw [← h4, ← h, h1, h2, Int.add_mul]
  rw [Int.mul_right_comm p n D, Int.mul_right_comm q n G]
theorem mult_of {ls : List L3} {k j t c p q D G : Int} (hc : Com k j c p q) (hi : LinesIn ls) (hpar : ∀ l, l ∈ ls → k * l.2.1 = l.1 * j) (hm : ((k, j, t) : L3) ∈ ls) (h : Solves ls D G) : p * D + q * G = t / c ∧ ∀ l, l ∈ ls → t / c * (l.1 / p) = l.2.2 := by
  have h1 := h _ hm
  dsimp only at h1
  have e : t = (p * D + q * G) * c := by
    rw [← h1, hc.hk, hc.hj, Int.add_mul, Int.mul_comm _ c, Int.mul_comm _ c, Int.mul_assoc, Int.mul_assoc]
  have e2 : t / c = p * D + q * G := by rw [e]; exact Int.mul_ediv_cancel _ (by have := hc.c1; omega)
  refine ⟨e2.symm, fun l hl => ?_⟩
  obtain ⟨n, g1, g2, g3⟩ := hc.co l.1 l.2.1 (hpar l hl) (hi l hl).1
  have g4 := h l hl
  rw [e2, ← g4, g1, g2, Int.mul_ediv_cancel_left _ (show p ≠ 0 by have := hc.p1; omega), Int.add_mul]
  rw [Int.mul_right_comm p n D, Int.mul_right_comm q n G]
inductive Told
  | any
  | no
  | one (D G : Int)
  | line (D G e f : Int) (c : Option Int)
structure OnLine (p q w D G e f : Int) (c : Option Int) : Prop where
  sol : p * D + q * G = w
  d1 : 1 ≤ D
  g1 : 1 ≤ G
  one : gcdI e f = 1
  step : p * e + q * f = 0
  free : c = none → e = 0 ∧ f = 1 ∧ G = 1
  many : ∀ m, c = some m → 2 ≤ m ∧ m ≤ 1000000000000000000000 ∧ 1 ≤ e ∧ e ≤ 1000000000000000000 ∧ -1000 ≤ f ∧ f ≤ 1000 ∧ D ≤ e ∧ 1 ≤ G + (m - 1) * f ∧ G + (m - 1) * f + f < 1
/-- what is told of one line -/
def LineTold (p q w : Int) : Told → Prop
  | .any => False
  | .no => ∀ D G : Int, 1 ≤ D → 1 ≤ G → p * D + q * G ≠ w
  | .one D G => p * D + q * G = w ∧ 1 ≤ D ∧ 1 ≤ G ∧ D ≤ q ∧ G ≤ p
  | .line D G e f c => OnLine p q w D G e f c
def ToldOk (ls : List L3) : Told → Prop
  | .any => ∀ l, l ∈ ls → l = (0, 0, 0)
  | .no => No ls ∧ ∃ l, l ∈ ls ∧ l ≠ (0, 0, 0)
  | .one D G => OneOk ls D G
  | .line D G e f c => LineOk ls D G e f c
theorem pos_of_nz {l : L3} (hi : LineIn l) (h1 : 0 < l.1) : nz l = true := nz_iff.mpr fun z => by rw [z] at h1; exact absurd h1 (by decide)
theorem gcdI_comm (a b : Int) : gcdI a b = gcdI b a := by unfold gcdI; rw [Nat.gcd_comm]
theorem gcdI_neg (a b : Int) : gcdI a (-b) = gcdI a b := by unfold gcdI; rw [Int.natAbs_neg]
/-- what is told of the common line, told of all lines -/
theorem told_mult {ls : List L3} {k j t c p q : Int} {r : Told} (hi : LinesIn ls) (hc : Com k j c p q) (hpos : ∀ l, l ∈ ls.filter nz → 0 < l.1) (hpar : ∀ l, l ∈ ls.filter nz → k * l.2.1 = l.1 * j) (hm : ((k, j, t) : L3) ∈ ls.filter nz) (hw : ∀ l, l ∈ ls.filter nz → t / c * (l.1 / p) = l.2.2) (h : LineTold p q (t / c) r) : ToldOk ls r := by
  have hif : LinesIn (ls.filter nz) := fun l hl => hi l (List.mem_filter.mp hl).1
  have hk : 0 < k := hpos _ hm
  have mfull := (List.mem_filter.mp hm).1
  have hfil : ls.filter pos1 = ls.filter nz := by
    refine List.filter_congr fun l hl => ?_
    by_cases c1 : nz l = true
    · rw [c1]
      exact decide_eq_true (hpos l (List.mem_filter.mpr ⟨hl, c1⟩))
    · have e : l = (0, 0, 0) := Classical.byContradiction fun z => c1 (nz_iff.mpr z)
      rw [e]; decide
  have mult : ∀ l, l ∈ ls → ∃ n, l.1 = p * n ∧ l.2.1 = q * n ∧ 0 ≤ n := fun l hl => by
    by_cases c1 : nz l = true
    · have hf := List.mem_filter.mpr ⟨hl, c1⟩
      exact hc.co l.1 l.2.1 (hpar l hf) (hi l hl).1
    · have e : l = (0, 0, 0) := Classical.byContradiction fun z => c1 (nz_iff.mpr z)
      rw [e]
      exact ⟨0, by simp, by simp, Int.le_refl _⟩
  have sol : ∀ D G : Int, p * D + q * G = t / c → Solves ls D G := fun D G h => solves_nz.mp (mult_solves hc hif hpar hw h)
  cases r with
  | any => exact h.elim
  | no =>
    refine ⟨fun D G d g hs => h D G d g (mult_of hc hif hpar hm (solves_nz.mpr hs)).1, _, mfull, fun z => ?_⟩
    have : k = 0 := congrArg Prod.fst z
    omega
  | one D G =>
    obtain ⟨h1, h2, h3, h4, h5⟩ := h
    refine ⟨sol D G h1, h2, h3, ⟨_, mfull, hk⟩, fun _ l hl => ?_⟩
    have hl1 : l ∈ ls.filter pos1 := List.mem_of_head? hl
    have hlp : 0 < l.1 := of_decide_eq_true (List.mem_filter.mp hl1).2
    obtain ⟨n, g1, g2, g3⟩ := mult l (List.mem_filter.mp hl1).1
    have hn : 1 ≤ n := by
      by_cases z : n = 0
      · rw [z, Int.mul_zero] at g1; omega
      · omega
    have eg : gcdI l.1 l.2.1 = n := by
      rw [g1, g2]
      have := hc.gc
      unfold gcdI at this ⊢
      rw [Int.natAbs_mul, Int.natAbs_mul, Nat.gcd_mul_right, Int.ofNat.inj (show ((Nat.gcd p.natAbs q.natAbs : Nat) : Int) = ((1 : Nat) : Int) from this), Nat.one_mul]
      omega
    rw [eg, g1, g2, Int.mul_ediv_cancel _ (show n ≠ 0 by omega), Int.mul_ediv_cancel _ (show n ≠ 0 by omega)]
    exact ⟨h4, h5⟩
  | line D G e f m =>
    refine ⟨sol D G h.sol, h.d1, h.g1, ⟨_, mfull, hk⟩, fun a b ha hb => ?_, h.one, fun l hl => ?_, h.free, h.many⟩
    · obtain ⟨n, g1, g2, _⟩ := mult a ha
      obtain ⟨i, f1, f2, _⟩ := mult b hb
      rw [g1, g2, f1, f2, Int.mul_assoc, Int.mul_assoc, Int.mul_left_comm n q i, Int.mul_left_comm i q n, Int.mul_comm n i]
    · obtain ⟨n, g1, g2, _⟩ := mult l hl
      rw [g1, g2, Int.mul_right_comm, Int.mul_right_comm q, ← Int.add_mul, h.step, Int.zero_mul]

theorem lay_ints : ∀ xs : List Int, PyData.canLayAll0 (xs.map PyData.int) = true
  | [] => rfl
  | x :: xs => by
    show (true && PyData.canLayAll0 (xs.map PyData.int)) = true
    rw [lay_ints xs]; rfl
theorem dep_ints : ∀ xs : List Int, PyData.depthAll (xs.map PyData.int) ≤ 1
  | [] => by decide
  | x :: xs => by
    have := dep_ints xs
    show max (PyData.depth (.int x)) (PyData.depthAll (xs.map PyData.int)) ≤ 1
    have h : PyData.depth (.int x) ≤ 1 := Nat.zero_le 1
    exact Nat.max_le.mpr ⟨h, this⟩
theorem sh_tints (xs : List Int) : SeqAt.shaped (.tuple (xs.map PyData.int)) = true := by
  have h1 := lay_ints xs
  have h2 := dep_ints xs
  have h3 : (PyData.tuple (xs.map PyData.int)).depth ≤ 64 := by
    show _ + _ ≤ 64
    omega
  show (PyData.canLayAll0 (xs.map PyData.int) && decide ((PyData.tuple (xs.map PyData.int)).depth ≤ 64)) = true
  rw [h1, decide_eq_true h3]; rfl
theorem r_neT0 {K : PySem.W.Frag} {H : Hp} {Q : VK} {p q : Addr} {xs : List Int} (h1 : H p = some (.tup (xs.map V.int))) (h2 : H q = some (.tup (xs.map V.int))) (k : Q (.bl false) H) : rNeD K (.ref p) (.ref q) H Q := by
  refine ⟨_, _, .tup (SqT.of h1) (dp_ints xs), .tup (SqT.of h2) (dp_ints xs), sh_tints xs, sh_tints xs, ?_⟩
  rw [show PyData.eqv (.tuple (xs.map PyData.int)) (.tuple (xs.map PyData.int)) = true from (eq_ints (xs := xs) (ys := xs)).trans (by simp)]
  exact k

/-! ### sightings, in a list or a tuple -/
theorem not_whole (z : V) (zs : List V) : ¬ (HT.sIx (z :: zs).length 0 (some 1) = 0 ∧ HT.sIx (z :: zs).length (z :: zs).length none = (z :: zs).length) := by
  intro h
  have h := h.1
  simp [HT.sIx] at h
theorem cut_one (z : V) (zs : List V) : cutV (z :: zs) (some 1) none = zs := by
  unfold cutV
  simp [HT.sIx]
theorem r_isiTu {K : PySem.W.Frag} {H : Hp} {Q : VK} {p : Addr} {xs : List V} {n : String} (b : Bool) (h : H p = some (.tup xs)) (hk : kitB "tuple" n = some b) (q : Q (.bl b) H) : rIsi K [.ref p, .ty n] H Q := r_isi (.base (.tup h)) (kit_ty hk) q
theorem sl_tupK {X : Cx} {K : PySem.W.Frag} (hK : X.K = K) : SlR X (rSlT K) := by subst hK; exact sl_tup
theorem cr_sumTK {X : Cx} {K : PySem.W.Frag} (hK : X.K = K) (hc : X.calm = true) : CallR X (.builtin "sum") (rSumT K) := by subst hK; exact cr_sumT hc
theorem op_neDK {X : Cx} {K : PySem.W.Frag} (hK : X.K = K) (hu : X.A.units + 64 < cLine) : OpR X (compareOp .NotEq) (rNeD K) := by subst hK; exact op_neD hu
def iSeq (K : PySem.W.Frag) (tl : TE) : TI := fun σ H R => iList K tl σ H R ∨ iTup K tl σ H R
theorem pi_seq {X : Cx} {tg l : Expr} {tl : TE} (hl : PE X l tl) : PI X tg l (iSeq X.K tl) := ⟨fun pins s σ H R I h => h.elim ((pi_list hl).run pins s σ H R I) ((pi_tup hl).run pins s σ H R I)⟩
/-- xs, in a list or a tuple -/
def SeqV (H : Hp) (p : Addr) (xs : List V) : Prop := H p = some (.lst xs) ∨ H p = some (.tup xs)
theorem SeqV.keep {H H' : Hp} {p : Addr} {xs : List V} (h : SeqV H p xs) (s : Same H H') : SeqV H' p xs := h.imp (s _ _) (s _ _)
theorem SeqV.sq {K : PySem.W.Frag} {H : Hp} {p : Addr} {xs : List V} (h : SeqV H p xs) : SqL K H p xs ∨ SqT K H p xs := h.imp SqL.of SqT.of
abbrev Row := List Int × Int
def lineOf (r : Row) : L3 := (r.1.length, r.1.sum, r.2)
structure RowOk (r : Row) : Prop where
  len : r.1.length ≤ 199
  items : ∀ z, z ∈ r.1 → 0 ≤ z ∧ z ≤ 1000000000000000
  t0 : 0 ≤ r.2
  t9 : r.2 ≤ 100000000000000000000
  small : r.2 ≤ ((r.1.length : Int) + r.1.sum + 1) * 3000000000
def RowAt (H : Hp) (x : V) (r : Row) : Prop := ∃ t p : Addr, x = .ref t ∧ H t = some (.tup [.ref p, .int r.2]) ∧ H p = some (.tup (.int 0 :: r.1.map V.int))
theorem RowAt.keep {H H' : Hp} {x : V} {r : Row} (h : RowAt H x r) (s : Same H H') : RowAt H' x r := let ⟨t, p, e, h1, h2⟩ := h; ⟨t, p, e, s _ _ h1, s _ _ h2⟩
def RowsAt (H : Hp) (xs : List V) (rs : List Row) : Prop := xs.length = rs.length ∧ ∀ (i : Nat) (r : Row), rs[i]? = some r → ∃ x, xs[i]? = some x ∧ RowAt H x r
theorem RowsAt.keep {H H' : Hp} {xs : List V} {rs : List Row} (h : RowsAt H xs rs) (s : Same H H') : RowsAt H' xs rs := ⟨h.1, fun i r hr => let ⟨x, e, z⟩ := h.2 i r hr; ⟨x, e, z.keep s⟩⟩
theorem RowsAt.get {H : Hp} {xs : List V} {rs : List Row} {i : Nat} {x : V} (h : RowsAt H xs rs) (hx : xs[i]? = some x) : ∃ r, rs[i]? = some r ∧ RowAt H x r := by
  obtain ⟨r, hr⟩ : ∃ r, rs[i]? = some r := ⟨_, List.getElem?_eq_getElem (by have := (List.getElem?_eq_some_iff.mp hx).1; rw [h.1] at this; exact this)⟩
  obtain ⟨y, e, z⟩ := h.2 i r hr
  obtain rfl : x = y := Option.some.inj (hx.symm.trans e)
  exact ⟨r, hr, z⟩
theorem sum_rng : ∀ zs : List Int, (∀ z, z ∈ zs → 0 ≤ z ∧ z ≤ 1000000000000000) → 0 ≤ zs.sum ∧ zs.sum ≤ zs.length * 1000000000000000
  | [], _ => ⟨Int.le_refl _, by simp⟩
  | z :: zs, h => by
    obtain ⟨h1, h2⟩ := sum_rng zs fun y hy => h y (List.mem_cons_of_mem _ hy)
    have h3 := h z (List.mem_cons_self ..)
    rw [List.sum_cons, List.length_cons, Int.natCast_add, Int.add_mul]
    omega
theorem RowOk.line {r : Row} (h : RowOk r) : LineIn (lineOf r) := by
  have h1 := sum_rng r.1 h.items
  have h2 := h.len
  refine ⟨by show (0 : Int) ≤ (r.1.length : Int); omega, by show ((r.1.length : Nat) : Int) ≤ 199; omega, h1.1, by show r.1.sum ≤ _; omega, fun e => ?_, h.t0, h.t9, h.small⟩
  have e : ((r.1.length : Nat) : Int) = 0 := e
  have : r.1 = [] := List.length_eq_zero_iff.mp (by omega)
  show r.1.sum = 0
  rw [this]; rfl
def triV (l : L3) : List V := [.int l.1, .int l.2.1, .int l.2.2]
def TrisAt (H : Hp) (xs : List V) (ls : List L3) : Prop := xs.length = ls.length ∧ ∀ (i : Nat) (l : L3), ls[i]? = some l → ∃ t : Addr, xs[i]? = some (.ref t) ∧ H t = some (.tup (triV l))
theorem TrisAt.keep {H H' : Hp} {xs : List V} {ls : List L3} (h : TrisAt H xs ls) (s : Same H H') : TrisAt H' xs ls := ⟨h.1, fun i g hg => let ⟨t, e, z⟩ := h.2 i g hg; ⟨t, e, s _ _ z⟩⟩
theorem TrisAt.upd {H : Hp} {L : Addr} {zs xs : List V} {o : HO} {ls : List L3} (h : TrisAt H xs ls) (e : H L = some (.lst zs)) : TrisAt (L2.upd H L o) xs ls := ⟨h.1, fun i g hg => let ⟨t, e1, z⟩ := h.2 i g hg; ⟨t, e1, (upd_ne (fun y => by rw [y, e] at z; cases z)).trans z⟩⟩
theorem TrisAt.nil {H : Hp} : TrisAt H [] [] := ⟨rfl, fun i g h => by simp at h⟩
theorem TrisAt.snoc {H : Hp} {xs : List V} {ls : List L3} {t : Addr} {g : L3} (h : TrisAt H xs ls) (e : H t = some (.tup (triV g))) : TrisAt H (xs ++ [.ref t]) (ls ++ [g]) := ⟨by rw [List.length_append, List.length_append, h.1]; rfl, fun i g' hg => by
  by_cases hi : i < ls.length
  · rw [List.getElem?_append_left hi] at hg
    rw [List.getElem?_append_left (by rw [h.1]; exact hi)]
    exact h.2 i g' hg
  · have hl := (List.getElem?_eq_some_iff.mp hg).1
    rw [List.length_append, List.length_singleton] at hl
    obtain rfl : i = ls.length := by omega
    rw [List.getElem?_append_right (Nat.le_refl _), Nat.sub_self] at hg
    obtain rfl : g = g' := by simpa using hg
    exact ⟨t, by rw [← h.1, List.getElem?_append_right (Nat.le_refl _), Nat.sub_self]; rfl, e⟩⟩
theorem TrisAt.get {H : Hp} {xs : List V} {ls : List L3} {i : Nat} {x : V} (h : TrisAt H xs ls) (hx : xs[i]? = some x) : ∃ (t : Addr) (l : L3), x = .ref t ∧ ls[i]? = some l ∧ H t = some (.tup [.int l.1, .int l.2.1, .int l.2.2]) := by
  obtain ⟨l, hl⟩ : ∃ l, ls[i]? = some l := ⟨_, List.getElem?_eq_getElem (by have := (List.getElem?_eq_some_iff.mp hx).1; rw [h.1] at this; exact this)⟩
  obtain ⟨t, e, z⟩ := h.2 i l hl
  exact ⟨t, l, Option.some.inj (hx.symm.trans e), hl, z⟩
def spWrongN (K : PySem.W.Frag) : Sp := fun vs H Q _ => ∃ (p r : Addr) (zs : List Int), vs = [.ref p, .non, .ref r] ∧ H p = some (.tup (.int 0 :: zs.map V.int)) ∧ SqT K H r [.int 0] ∧ zs.length ≤ 199 ∧ (∀ z, z ∈ zs → 0 ≤ z ∧ z ≤ 1000000000000000) ∧ ∀ H', Same H H' → Q .non H'
def spIsSight : Sp := fun vs H Q _ => ∃ (x : V) (r : Row), vs = [x] ∧ RowAt H x r ∧ RowOk r ∧ ∀ H', Same H H' → Q (.bl true) H'
def spCheckS : Sp := fun vs H Q _ => ∃ (p : Addr) (xs : List V) (rs : List Row), vs = [.ref p] ∧ SeqV H p xs ∧ RowsAt H xs rs ∧ (∀ r, r ∈ rs → RowOk r) ∧ rs.length ≤ 60 ∧ ∀ H', Same H H' → Q .non H'
def spSums : Sp := fun vs H Q _ => ∃ (p : Addr) (xs : List V) (rs : List Row), vs = [.ref p] ∧ SeqV H p xs ∧ RowsAt H xs rs ∧ (∀ r, r ∈ rs → RowOk r) ∧ rs.length ≤ 60 ∧ ∀ q ys H', Same H H' → H' q = some (.lst ys) → TrisAt H' ys (rs.map lineOf) → Q (.ref q) H'
def spFits : Sp := fun vs H Q _ => ∃ (p : Addr) (xs : List V) (ls : List L3) (D G : Int), vs = [.ref p, .int D, .int G] ∧ H p = some (.lst xs) ∧ TrisAt H xs ls ∧ LinesIn ls ∧ ∀ b : Bool, (b = true ↔ Solves ls D G) → Q (.bl b) H
section
variable {P : Program} {w : World} {K : PySem.W.Frag} {mg : Str → Option Value} {base : Heap} {a : Adr}
theorem ok_wrong_in_name (T : Txt K mg a) : FnOk P w K mg base CX0 4 a.a_wrong_in_name a.d_wrong_in_name ["thing", "turns", "roots"] (spWrongN K) := by
  refine T.F_wrong_in_name.ok sc_wrong_in_name (fun vs H Q E h => ?_) (fun cdv A outer s H vs Q E hr h => ?_)
  · obtain ⟨p, r, zs, rfl, _⟩ := h
    rfl
  · obtain ⟨p, r, zs, rfl, ep, er, hl, hz, k⟩ := h
    refine ⟨_, (pss_cons (ps_if (PW.pt (pw_or (pt_not (pt_val (pe_callB call_isi (by rfl) T.n_isinstance (by decide +kernel) (pa_cons (pv 0) (pa_cons (pe_bltn (v := .ty "tuple") (u := .type "tuple") (by rfl) T.n_tuple (by decide +kernel) rfl) pa_nil))))) (pw_or1 (pt_not (pt_chain op_le op_le pe_int (pe_callB call_len_seq (by rfl) T.n_len (by decide +kernel) (pa_cons (pv 0) pa_nil)) (pe_glob (v := .int 200) (by rfl) T.g_LONGEST_NAME.choose_spec ⟨_, rfl⟩)))))) (pss_one (ps_ret (pe_un un_neg pe_int)))
 pss_nil)
 (pss_cons (ps_set (i := 3) sc_wrong_in_name.nd rfl (Or.inl rfl) (pe_ifExp (pt_cmpR op_isNo (pv 1) pe_non (nomark _)) (pe_glob (v := .int 1000000000000000) (by rfl) T.g_GREATEST_ITEM.choose_spec ⟨_, rfl⟩) (pe_op op_sub (pv 1) pe_int)))
 (pss_cons (ps_for (by exact PassesOwn.never) rfl (pi_enumS (by rfl) T.n_enumerate (pa_cons (pv 0) pa_nil)) (pg_tup (by rfl) (pgs_cons (pg_name (i := 4) sc_wrong_in_name.nd rfl (Or.inl rfl)) (pgs_cons (pg_name (i := 5) sc_wrong_in_name.nd rfl (Or.inl rfl)) pgs_nil)))
 (pss_one (ps_if (pt_not (pt_val (pe_call (ok_is_between T) (hr.mono (by decide)) (by rfl) T.g_is_between T.F_is_between.kp T.b_is_between .nil pass0 (pa_cons (pv 5) (pa_cons pe_int (pa_cons (pe_ifExp (pt_cmpR op_eq (pv 4) pe_int (nomark _)) (pe_op op_sub (pe_callB call_len_seq (by rfl) T.n_len (by decide +kernel) (pa_cons (pv 2) pa_nil)) pe_int) (pv 3)) pa_nil)))))) (pss_one (ps_ret (pv 4)))
 pss_nil)))
 (pss_one (ps_ret pe_non))))), ?_⟩
    walk_at "rdi"
    repeat walk_at "rd"
    refine r_isiTu true ep (by decide +kernel) ?_
    repeat walk_at "rd"
    have hlen : ((V.int 0 :: zs.map V.int).length : Int) = zs.length + 1 := by rw [List.length_cons, List.length_map]; omega
    rw [hlen]
    refine ite_tt (by omega) ?_
    repeat walk_at "rd"
    refine r_nDT (by omega) ?_
    repeat walk_at "rd"
    refine r_enS (xs := .int 0 :: zs.map V.int) (by intro QA q; (repeat walk_at "rd"); exact q) (.inr (SqT.of ep)) (fun i σ H1 => ∃ v5 v6 : Option V, σ = [some (.ref p), some .non, some (.ref r), some (.int 1000000000000000), v5, v6] ∧ Same H H1) ⟨_, _, rfl, Same.refl _⟩ (fun i σ H' ⟨_, _, _, s⟩ => s) ?_ ?_
    · rintro i x σ H2 u2 H3 hx ⟨v5, v6, rfl, s2⟩ nu2 rfl
      have s3 : Same H (upd H2 u2 (.tup [.int (i : Nat), x])) := s2.trans (Same.new nu2)
      have er := sqT_keep er s3
      obtain ⟨z, hz1, rfl⟩ := int_of_get (ns := 0 :: zs) hx
      repeat walk_at "rd"
      refine ite_d (fun i0 => ?_) (fun i0 => ?_)
      · obtain rfl : i = 0 := by omega
        obtain rfl : 0 = z := by simpa using hz1
        repeat walk_at "rd"
        refine r_lenS (.inr er) ?_
        repeat walk_at "rd"
        refine r_between ?_
        repeat walk_at "rd"
        refine r_nDT (by decide) ?_
        repeat first | exact ⟨_, _, rfl, s3⟩ | walk_at "rd"
      · have hzz : z ∈ zs := by
          cases i with
          | zero => exact absurd rfl i0
          | succ i => exact List.mem_iff_getElem?.mpr ⟨i, by simpa using hz1⟩
        repeat walk_at "rd"
        refine r_between ?_
        repeat walk_at "rd"
        refine r_nDT (hz z hzz) ?_
        repeat first | exact ⟨_, _, rfl, s3⟩ | walk_at "rd"
    · rintro σ H2 ⟨v5, v6, rfl, s2⟩
      repeat first | exact k _ s2 | walk_at "rd"
theorem ok_is_sighting (T : Txt K mg a) : FnOk P w K mg base CX0 5 a.a_is_sighting a.d_is_sighting ["thing"] spIsSight := by
  refine T.F_is_sighting.ok sc_is_sighting (fun vs H Q E h => ?_) (fun cdv A outer s H vs Q E hr h => ?_)
  · obtain ⟨x, r, rfl, _⟩ := h
    rfl
  · obtain ⟨x, r, rfl, ⟨t, p, rfl, e1, e2⟩, hok, k⟩ := h
    refine ⟨_, (pss_cons (ps_if (PW.pt (pw_or (pt_not (pt_val (pe_callB call_isi (by rfl) T.n_isinstance (by decide +kernel) (pa_cons (pv 0) (pa_cons (pe_bltn (v := .ty "tuple") (u := .type "tuple") (by rfl) T.n_tuple (by decide +kernel) rfl) pa_nil))))) (pw_or1 (pt_cmpR op_ne (pe_callB call_len_seq (by rfl) T.n_len (by decide +kernel) (pa_cons (pv 0) pa_nil)) pe_int (nomark _))))) (pss_one (ps_ret pe_bl))
 pss_nil)
 (pss_cons (ps_asg (pv 0) (pg_tup (by rfl) (pgs_cons (pg_name (i := 1) sc_is_sighting.nd rfl (Or.inl rfl)) (pgs_cons (pg_name (i := 2) sc_is_sighting.nd rfl (Or.inl rfl)) pgs_nil))))
 (pss_one (ps_ret (pe_and (pe_cmpR op_isNo (pe_call (ok_wrong_in_name T) (hr.mono (by decide)) (by rfl) T.g_wrong_in_name T.F_wrong_in_name.kp T.b_wrong_in_name .nil pass0 (pa_cons (pv 1) (pa_cons pe_non (pa_cons (pe_tup (pa_cons pe_int pa_nil)) pa_nil)))) pe_non (nomark _)) (pe_one (pe_call (ok_is_between T) (hr.mono (by decide)) (by rfl) T.g_is_between T.F_is_between.kp T.b_is_between .nil pass0 (pa_cons (pv 2) (pa_cons pe_int (pa_cons (pe_glob (v := .int 100000000000000000000) (by rfl) T.g_LATEST_SIGHTING.choose_spec ⟨_, rfl⟩) pa_nil)))))))))), ?_⟩
    walk_at "rdi"
    repeat walk_at "rd"
    refine r_isiTu true e1 (by decide +kernel) ?_
    repeat walk_at "rd"
    refine new_at (Nat.le_of_ble_eq_true rfl) (fun u H1 nu s1 eu => ?_)
    repeat walk_at "rd"
    refine ⟨p, u, r.1, rfl, s1 _ _ e2, SqT.of eu, hok.len, hok.items, fun H2 s2 => ?_⟩
    repeat walk_at "rd"
    refine r_between ?_
    rw [decide_eq_true (show 0 ≤ r.2 ∧ r.2 ≤ 100000000000000000000 from ⟨hok.t0, hok.t9⟩)]
    exact k _ (s1.trans s2)
theorem ok_check_sightings (T : Txt K mg a) : FnOk P w K mg base CX0 6 a.a_check_sightings a.d_check_sightings ["rows"] spCheckS := by
  refine T.F_check_sightings.ok sc_check_sightings (fun vs H Q E h => ?_) (fun cdv A outer s H vs Q E hr h => ?_)
  · obtain ⟨p, xs, rs, rfl, _⟩ := h
    rfl
  · obtain ⟨p, xs, rs, rfl, ep, hA, hok, hl, k⟩ := h
    refine ⟨_, (pss_cons (ps_if (PW.pt (pw_or (pt_not (pt_val (pe_callB call_isiT (by rfl) T.n_isinstance (by decide +kernel) (pa_cons (pv 0) (pa_cons (pe_tup (pa_cons (pe_bltn (v := .ty "list") (u := .type "list") (by rfl) T.n_list (by decide +kernel) rfl) (pa_cons (pe_bltn (v := .ty "tuple") (u := .type "tuple") (by rfl) T.n_tuple (by decide +kernel) rfl) pa_nil))) pa_nil))))) (pw_or1 (pt_cmpR op_gt (pe_callB call_len_seq (by rfl) T.n_len (by decide +kernel) (pa_cons (pv 0) pa_nil)) (pe_glob (v := .int 60) (by rfl) T.g_MOST_SIGHTINGS.choose_spec ⟨_, rfl⟩) (nomark _))))) (pss_one ps_never)
 pss_nil)
 (pss_one (ps_for (by exact PassesOwn.never) rfl (pi_enumS (by rfl) T.n_enumerate (pa_cons (pv 0) pa_nil)) (pg_tup (by rfl) (pgs_cons (pg_name (i := 1) sc_check_sightings.nd rfl (Or.inl rfl)) (pgs_cons (pg_name (i := 2) sc_check_sightings.nd rfl (Or.inl rfl)) pgs_nil)))
 (pss_one (ps_if (pt_not (pt_val (pe_call (ok_is_sighting T) (hr.mono (by decide)) (by rfl) T.g_is_sighting T.F_is_sighting.kp T.b_is_sighting .nil pass0 (pa_cons (pv 2) pa_nil)))) (pss_one ps_never)
 pss_nil))))), ?_⟩
    walk_at "rdi"
    repeat walk_at "rd"
    refine new_at (Nat.le_of_ble_eq_true rfl) (fun u H1 nu s1 e1 => ?_)
    have ep1 := ep.keep s1
    have hk : ∃ t, TyX K H1 (.ref p) t ∧ PySem.W.kitAny K t [.type "list", .type "tuple"] = some true := by
      rcases ep1 with h | h
      · exact ⟨_, .base (.lst h), kitAny_cons (b := true) (kit_ty (by decide +kernel)) (fun z => Bool.noConfusion z) fun _ => rfl⟩
      · exact ⟨_, .base (.tup h), kitAny_cons (b := false) (kit_ty (by decide +kernel)) (fun _ => kitAny_cons (b := true) (kit_ty (by decide +kernel)) (fun z => Bool.noConfusion z) fun _ => rfl) (fun z => Bool.noConfusion z)⟩
    obtain ⟨ty_, tyx, hk⟩ := hk
    repeat walk_at "rd"
    refine ⟨_, u, [.ty "list", .ty "tuple"], ty_, [.type "list", .type "tuple"], true, rfl, e1, .cons (.ty _) (.cons (.ty _) .nil), tyx, hk, ?_⟩
    repeat walk_at "rd"
    refine r_lenS ep1.sq ?_
    repeat walk_at "rd"
    refine ite_ff (by have := hA.1; omega) ?_
    repeat walk_at "rd"
    refine r_enS (xs := xs) (by intro QA q; (repeat walk_at "rd"); exact q) ep1.sq (fun i σ H2 => ∃ v1 v2 : Option V, σ = [some (.ref p), v1, v2] ∧ Same H1 H2) ⟨_, _, rfl, Same.refl _⟩ (fun i σ H' ⟨_, _, _, s⟩ => s) ?_ ?_
    · rintro i x σ H2 u2 H3 hx ⟨v1, v2, rfl, s2⟩ nu2 rfl
      have s3 : Same H1 (upd H2 u2 (.tup [.int (i : Nat), x])) := s2.trans (Same.new nu2)
      obtain ⟨r, hr1, hR⟩ := (hA.keep (s1.trans s3)).get hx
      repeat walk_at "rd"
      refine ⟨x, r, rfl, hR, hok r (List.mem_iff_getElem?.mpr ⟨i, hr1⟩), fun H4 s4 => ?_⟩
      repeat first | exact ⟨_, _, rfl, s3.trans s4⟩ | walk_at "rd"
    · rintro σ H2 ⟨v1, v2, rfl, s2⟩
      repeat first | exact k _ (s1.trans s2) | walk_at "rd"
theorem ok_sums_of (T : Txt K mg a) : FnOk P w K mg base CX0 1 a.a_sums_of a.d_sums_of ["rows"] spSums := by
  refine T.F_sums_of.ok sc_sums_of (fun vs H Q E h => ?_) (fun cdv A outer s H vs Q E hr h => ?_)
  · obtain ⟨p, xs, rs, rfl, _⟩ := h
    rfl
  · obtain ⟨p, xs, rs, rfl, ep, hA, hok, hl, k⟩ := h
    refine ⟨_, (pss_one (ps_ret (pe_lc (own := [("name", 1), ("time", 2)]) (g := gTup K 2 (gCons (gName 1) (gCons (gName 2) (gNil)))) (tt := tYes) rfl sc_sums_of.nd (pi_seq (pv 0)) (blkOk_by (own := [("name", 1), ("time", 2)]) (N := ["rows", "name", "time"]) (sc := defScope s_sums_of) (by decide +kernel)) (fun _ _ _ _ _ => (pg_tupK (K := K) (n := 2) rfl (by rfl) (pgs_cons (pg_name (i := 1) sc_sums_of.nd rfl (Or.inl rfl)) (pgs_cons (pg_name (i := 2) sc_sums_of.nd rfl (Or.inl rfl)) pgs_nil)))) (fun _ _ _ _ _ => pts_nil) (fun _ _ _ _ _ => (pe_tup (pa_cons (pe_op op_sub (pe_callB (call_len_seqK (K := K) rfl) (by rfl) T.n_len (by decide +kernel) (pa_cons (pv 1) pa_nil)) pe_int) (pa_cons (pe_callB (cr_sumTK (K := K) rfl rfl) (by rfl) T.n_sum (by decide +kernel) (pa_cons (pe_slice (sl_tupK (K := K) rfl) (pv 1) (po_some pe_int) po_none) pa_nil)) (pa_cons (pv 2) pa_nil)))))))), ?_⟩
    repeat walk_at "rd"
    rcases ep with ep | ep
    · refine .inl ?_
      repeat walk_at "rd"
      refine ⟨p, rfl, ⟨_, SqL.of ep⟩, fun L hL => lc_list (K := K) (a := p) (xs := xs) (fun i H' => ∃ acc : List V, H' L = some (.lst acc) ∧ TrisAt H' acc ((rs.take i).map lineOf) ∧ H' p = some (.lst xs) ∧ Same H H') ?_ (fun i H' _ ⟨_, _, _, h, _⟩ => SqL.of h) ?_ ?_⟩
      · exact ⟨[], upd_same, TrisAt.nil, (upd_ne (ne_of_none ep hL)).trans ep, Same.new hL⟩
      · rintro i y H6 hi ⟨acc, h1, h2, h3, h4⟩
        obtain ⟨r, hr1, t, q, rfl, e1, e2⟩ := (hA.keep h4).get hi
        have hi9 : i < 60 := by have := (List.getElem?_eq_some_iff.mp hi).1; have := hA.1; omega
        have hok1 := hok r (List.mem_iff_getElem?.mpr ⟨i, hr1⟩)
        repeat walk_at "rd"
        refine ⟨rfl, ?_⟩
        repeat walk_at "rd"
        rw [show ((V.int 0 :: r.1.map V.int).length : Int) - 1 = r.1.length by rw [List.length_cons, List.length_map]; omega]
        refine r_slT (SqT.of e2) (not_whole _ _) (fun q7 H7 n7 s7 e7 => ?_)
        rw [cut_one] at e7
        repeat walk_at "rd"
        refine ⟨q7, r.1, rfl, SqT.of e7, ?_⟩
        repeat walk_at "rd"
        refine new_at (Nat.le_of_ble_eq_true rfl) (fun q8 H8 n8 s8 e8 => ?_)
        have s78 := s7.trans s8
        refine ⟨_, s78 _ _ h1, small1000 (by have := h2.1; rw [List.length_map, List.length_take] at this; omega), acc ++ [.ref q8], upd_same, ?_, (upd_ne (ne_of_none ep hL)).trans (s78 _ _ h3), (h4.trans s78).over hL (s78 _ _ h1)⟩
        rw [take_more hr1, List.map_append]
        exact ((h2.keep s78).snoc (g := lineOf r) e8).upd (s78 _ _ h1)
      · rintro H6 ⟨acc, h1, h2, h3, h4⟩
        rw [hA.1, List.take_length] at h2
        repeat first | exact k L acc H6 h4 h1 h2 | walk_at "rd"
    · refine .inr ?_
      repeat walk_at "rd"
      refine ⟨p, rfl, ⟨_, SqT.of ep⟩, fun L hL => lc_tup (K := K) (a := p) (xs := xs) (fun i H' => ∃ acc : List V, H' L = some (.lst acc) ∧ TrisAt H' acc ((rs.take i).map lineOf) ∧ H' p = some (.tup xs) ∧ Same H H') ?_ (fun i H' _ ⟨_, _, _, h, _⟩ => SqT.of h) ?_ ?_⟩
      · exact ⟨[], upd_same, TrisAt.nil, (upd_ne (ne_of_none ep hL)).trans ep, Same.new hL⟩
      · rintro i y H6 hi ⟨acc, h1, h2, h3, h4⟩
        obtain ⟨r, hr1, t, q, rfl, e1, e2⟩ := (hA.keep h4).get hi
        have hi9 : i < 60 := by have := (List.getElem?_eq_some_iff.mp hi).1; have := hA.1; omega
        have hok1 := hok r (List.mem_iff_getElem?.mpr ⟨i, hr1⟩)
        repeat walk_at "rd"
        refine ⟨rfl, ?_⟩
        repeat walk_at "rd"
        rw [show ((V.int 0 :: r.1.map V.int).length : Int) - 1 = r.1.length by rw [List.length_cons, List.length_map]; omega]
        refine r_slT (SqT.of e2) (not_whole _ _) (fun q7 H7 n7 s7 e7 => ?_)
        rw [cut_one] at e7
        repeat walk_at "rd"
        refine ⟨q7, r.1, rfl, SqT.of e7, ?_⟩
        repeat walk_at "rd"
        refine new_at (Nat.le_of_ble_eq_true rfl) (fun q8 H8 n8 s8 e8 => ?_)
        have s78 := s7.trans s8
        refine ⟨_, s78 _ _ h1, small1000 (by have := h2.1; rw [List.length_map, List.length_take] at this; omega), acc ++ [.ref q8], upd_same, ?_, (upd_ne (ne_of_none ep hL)).trans (s78 _ _ h3), (h4.trans s78).over hL (s78 _ _ h1)⟩
        rw [take_more hr1, List.map_append]
        exact ((h2.keep s78).snoc (g := lineOf r) e8).upd (s78 _ _ h1)
      · rintro H6 ⟨acc, h1, h2, h3, h4⟩
        rw [hA.1, List.take_length] at h2
        repeat first | exact k L acc H6 h4 h1 h2 | walk_at "rd"
theorem ok_fits (T : Txt K mg a) : FnOk P w K mg base CX0 1 a.a_fits a.d_fits ["sums", "letter", "gap"] spFits := by
  refine T.F_fits.ok sc_fits (fun vs H Q E h => ?_) (fun cdv A outer s H vs Q E hr h => ?_)
  · obtain ⟨p, xs, ls, D, G, rfl, _⟩ := h
    rfl
  · obtain ⟨p, xs, ls, D, G, rfl, ep, hA, hl, k⟩ := h
    refine ⟨_, (pss_cons (ps_for (by exact PassesOwn.never) rfl (pi_list (pv 0)) (pg_tup (by rfl) (pgs_cons (pg_name (i := 3) sc_fits.nd rfl (Or.inl rfl)) (pgs_cons (pg_name (i := 4) sc_fits.nd rfl (Or.inl rfl)) (pgs_cons (pg_name (i := 5) sc_fits.nd rfl (Or.inl rfl)) pgs_nil))))
 (pss_one (ps_if (pt_cmpR op_ne (pe_op op_add (pe_op op_mul (pv 3) (pv 1)) (pe_op op_mul (pv 4) (pv 2))) (pv 5) (nomark _)) (pss_one (ps_ret pe_bl))
 pss_nil)))
 (pss_one (ps_ret pe_bl))), ?_⟩
    repeat walk_at "rd"
    refine ⟨p, rfl, ⟨_, SqL.of ep⟩, for_list (K := K) (a := p) (xs := xs) (fun i σ H' => ∃ v3 v4 v5 : Option V, σ = [some (.ref p), some (.int D), some (.int G), v3, v4, v5] ∧ H' = H ∧ Solves (ls.take i) D G) ⟨_, _, _, rfl, rfl, fun l hl => by simp at hl⟩ (fun i σ H' _ ⟨_, _, _, _, e, _⟩ => by rw [e]; exact SqL.of ep) ?_ ?_⟩
    · rintro i x σ H2 hi ⟨v3, v4, v5, rfl, rfl, hs⟩
      obtain ⟨t, l, rfl, hl1, et⟩ := hA.get hi
      obtain ⟨a0, a1, a2, a3, _, _, _, _⟩ := hl l (List.mem_iff_getElem?.mpr ⟨i, hl1⟩)
      repeat walk_at "rd"
      refine r_nD (fun hc => ?_) (fun hc => ?_)
      · repeat walk_at "rd"
        exact k false ⟨fun z => Bool.noConfusion z, fun h => absurd (h l (List.mem_iff_getElem?.mpr ⟨i, hl1⟩)) hc⟩
      · repeat first | exact ⟨_, _, _, rfl, rfl, fun l' hl' => by
          rw [take_more hl1] at hl'
          rcases List.mem_append.mp hl' with h | h
          · exact hs l' h
          · rw [List.mem_singleton] at h
            subst h
            exact hc⟩ | walk_at "rd"
    · rintro σ H2 ⟨v3, v4, v5, rfl, rfl, hs⟩
      rw [hA.1, List.take_length] at hs
      repeat first | exact k true ⟨fun _ => hs, fun _ => rfl⟩ | walk_at "rd"
end

/-! ### told_back -/
def CDivX (_ j : Int) : Prop := j ≠ 0 ∧ j.natAbs.log2 < 9000
open PySem.Spec PyProof.Rows in
theorem op_fdivX {X : Cx} : OpR X (binaryOp .FloorDiv) (rI CDivX fun i j => .int (i.fdiv j)) := opI fun i j _ _ _ _ _ hc q => floordiv_int hc.1 q (.inl (PyProof.noPylong_of_log2 hc.2))
theorem r_fdivX {H : Hp} {Q : VK} {i j : Int} (h : j ≠ 0) (h1 : -(2 ^ 100) < j) (h2 : j < 2 ^ 100) (q : Q (.int (i.fdiv j)) H) : rI CDivX (fun i j => .int (i.fdiv j)) (.int i) (.int j) H Q := ⟨i, j, rfl, rfl, ⟨h, Nat.lt_of_lt_of_le (PySem.Flt.log2_lt_of (k := 100) (by decide) (by omega)) (by decide)⟩, q⟩
def optV : Option Int → V
  | none => .non
  | some m => .int m
def ToldAt (H : Hp) (p : Addr) : Told → Prop
  | .any => H p = some (.tup [.str "any"])
  | .no => H p = some (.tup [.str "none"])
  | .one D G => ∃ q, H p = some (.tup [.str "one", .ref q]) ∧ H q = some (.tup [.int D, .int G])
  | .line D G e f c => ∃ q r, H p = some (.tup [.str "line", .ref q, .ref r, optV c]) ∧ H q = some (.tup [.int D, .int G]) ∧ H r = some (.tup [.int e, .int f])
def TwoTold (ls : List L3) : Told → Prop
  | .no => No ls
  | .one D G => Solves ls D G ∧ 1 ≤ D ∧ 1 ≤ G
  | _ => False
def spTwo : Sp := fun vs H Q _ => ∃ (a b p : Addr) (l m : L3) (xs : List V) (fs : List L3), vs = [.ref a, .ref b, .ref p] ∧ H a = some (.tup [.int l.1, .int l.2.1, .int l.2.2]) ∧ H b = some (.tup [.int m.1, .int m.2.1, .int m.2.2]) ∧ H p = some (.lst xs) ∧ TrisAt H xs fs ∧ LinesIn fs ∧ l ∈ fs ∧ m ∈ fs ∧ l.1 * m.2.1 - m.1 * l.2.1 ≠ 0 ∧
  ∀ p' r H', TwoTold fs r → Same H H' → ToldAt H' p' r → Q (.ref p') H'
def spLine : Sp := fun vs H Q _ => ∃ p q w : Int, vs = [.int p, .int q, .int w] ∧ 1 ≤ p ∧ p ≤ 199 ∧ 0 ≤ q ∧ q ≤ 200000000000000000 ∧ 0 ≤ w ∧ w ≤ 100000000000000000000 ∧ w ≤ (p + q + 1) * 3000000000 ∧ gcdI p q = 1 ∧ ∀ p' r H', LineTold p q w r → Same H H' → ToldAt H' p' r → Q (.ref p') H'
def tTru (K : PySem.W.Frag) (ta : TE) : TT := fun σ H Q => ta σ H fun x H' => ∃ k, TruV K x H' k ∧ Q k H'
theorem pt_tru {X : Cx} {a : Expr} {ta : TE} (ha : PE X a ta) (he : ∀ whole, isTrue a X.env whole = (do let v ← whole; standAt a.pos; holding [v] (truthy v)) := by intro _; rfl) : PT X a (tTru X.K ta) := pt_truth ha he
def spMult : Sp := fun vs H Q _ => ∃ (p : Addr) (xs : List V) (ls : List L3) (f : L3), vs = [.ref p] ∧ H p = some (.lst xs) ∧ TrisAt H xs (ls.filter nz) ∧ LinesIn ls ∧ (ls.filter nz)[0]? = some f ∧ (∀ l, l ∈ ls.filter nz → 0 < l.1) ∧ (∀ l, l ∈ ls.filter nz → f.1 * l.2.1 = l.1 * f.2.1) ∧ ∀ p' r H', ToldOk ls r → Same H H' → ToldAt H' p' r → Q (.ref p') H'
def spBack : Sp := fun vs H Q _ => ∃ (p : Addr) (xs : List V) (rs : List Row), vs = [.ref p] ∧ SeqV H p xs ∧ RowsAt H xs rs ∧ (∀ r, r ∈ rs → RowOk r) ∧ rs.length ≤ 60 ∧ ∀ p' r H', ToldOk (rs.map lineOf) r → Same H H' → ToldAt H' p' r → Q (.ref p') H'
theorem r_iR3 {ta : TA} {σ : St} {H : Hp} {R : It → Hp → Prop} (h : ta σ H fun vs H1 => ∃ (i j c : Int) (n : Nat), vs = [.int i, .int j, .int c] ∧ RgC i j c n ∧ R (Itc i c n) H1) : iRng3 ta σ H R := h
section
variable {P : Program} {w : World} {K : PySem.W.Frag} {mg : Str → Option Value} {base : Heap} {a : Adr}
set_option maxHeartbeats 0 in
theorem ok_told_by_two (T : Txt K mg a) : FnOk P w K mg base CX0 2 a.a_told_by_two a.d_told_by_two ["first", "other", "sums"] spTwo := by
  refine T.F_told_by_two.ok sc_told_by_two (fun vs H Q E h => ?_) (fun cdv A outer s H vs Q E hr h => ?_)
  · obtain ⟨x, y, p, l, m, xs, fs, rfl, _⟩ := h
    rfl
  · obtain ⟨x, y, p, l, m, xs, fs, rfl, e1, e2, e3, hA, hi, hl, hm, hu, k⟩ := h
    obtain ⟨a0, a1, a2, a3, _, a4, a5⟩ := hi l hl
    obtain ⟨b0, b1, b2, b3, _, b4, b5⟩ := hi m hm
    have m1 : 0 ≤ l.1 * m.2.1 ∧ l.1 * m.2.1 ≤ 199 * 200000000000000000 := ⟨Int.mul_nonneg a0 b2, Int.mul_le_mul a1 b3 b2 (by decide)⟩
    have m2 : 0 ≤ m.1 * l.2.1 ∧ m.1 * l.2.1 ≤ 199 * 200000000000000000 := ⟨Int.mul_nonneg b0 a2, Int.mul_le_mul b1 a3 a2 (by decide)⟩
    refine ⟨_, (pss_cons (ps_asg (pv 0) (pg_tup (by rfl) (pgs_cons (pg_name (i := 3) sc_told_by_two.nd rfl (Or.inl rfl)) (pgs_cons (pg_name (i := 4) sc_told_by_two.nd rfl (Or.inl rfl)) (pgs_cons (pg_name (i := 5) sc_told_by_two.nd rfl (Or.inl rfl)) pgs_nil)))))
 (pss_cons (ps_asg (pv 1) (pg_tup (by rfl) (pgs_cons (pg_name (i := 6) sc_told_by_two.nd rfl (Or.inl rfl)) (pgs_cons (pg_name (i := 7) sc_told_by_two.nd rfl (Or.inl rfl)) (pgs_cons (pg_name (i := 8) sc_told_by_two.nd rfl (Or.inl rfl)) pgs_nil)))))
 (pss_cons (ps_set (i := 9) sc_told_by_two.nd rfl (Or.inl rfl) (pe_op op_sub (pe_op op_mul (pv 3) (pv 7)) (pe_op op_mul (pv 6) (pv 4))))
 (pss_cons (ps_set (i := 10) sc_told_by_two.nd rfl (Or.inl rfl) (pe_op op_fdivX (pe_op op_sub (pe_op op_mul (pv 5) (pv 7)) (pe_op op_mul (pv 8) (pv 4))) (pv 9)))
 (pss_cons (ps_set (i := 11) sc_told_by_two.nd rfl (Or.inl rfl) (pe_op op_fdivX (pe_op op_sub (pe_op op_mul (pv 3) (pv 8)) (pe_op op_mul (pv 6) (pv 5))) (pv 9)))
 (pss_cons (ps_if (PW.pt (pw_or (pt_cmpR op_lt (pv 10) pe_int (nomark _)) (pw_or (pt_cmpR op_lt (pv 11) pe_int (nomark _)) (pw_or1 (pt_not (pt_val (pe_call (ok_fits T) (hr.mono (by decide)) (by rfl) T.g_fits T.F_fits.kp T.b_fits .nil pass0 (pa_cons (pv 2) (pa_cons (pv 10) (pa_cons (pv 11) pa_nil)))))))))) (pss_one (ps_ret (pe_tup (pa_cons pe_str pa_nil))))
 pss_nil)
 (pss_one (ps_ret (pe_tup (pa_cons pe_str (pa_cons (pe_tup (pa_cons (pv 10) (pa_cons (pv 11) pa_nil))) pa_nil))))))))))), ?_⟩
    repeat walk_at "rd"
    refine r_fdivX hu (by omega) (by omega) ?_
    repeat walk_at "rd"
    refine r_fdivX hu (by omega) (by omega) ?_
    repeat walk_at "rd"
    obtain ⟨D, hD⟩ : ∃ D, (l.2.2 * m.2.1 - m.2.2 * l.2.1).fdiv (l.1 * m.2.1 - m.1 * l.2.1) = D := ⟨_, rfl⟩
    obtain ⟨G, hG⟩ : ∃ G, (l.1 * m.2.2 - m.1 * l.2.2).fdiv (l.1 * m.2.1 - m.1 * l.2.1) = G := ⟨_, rfl⟩
    have huniq : ∀ D' G', Solves fs D' G' → D' = D ∧ G' = G := fun D' G' hs => by
      have := two_pair hl hm hu hs
      exact ⟨by rw [← this.1, hD], by rw [← this.2, hG]⟩
    rw [hD, hG]
    have no : (∀ D' G', Solves fs D' G' → 1 ≤ D' → 1 ≤ G' → False) → ∀ p' H', Same H H' → H' p' = some (.tup [.str "none"]) → Q (.ref p') H' := fun h p' H' s' e => k p' .no H' (fun D' G' d g hs => h D' G' hs d g) s' e
    repeat first | walk_at "rd" | walk_at "rdi"
    refine ite_d (fun hc => ?_) (fun hc => ?_)
    · repeat walk_at "rd"
      refine new_at (Nat.le_of_ble_eq_true rfl) (fun u H1 nu s1 e1 => ?_)
      exact no (fun D' G' hs d g => by have := (huniq D' G' hs).1; omega) u H1 s1 e1
    · repeat first | walk_at "rd" | walk_at "rdi"
      refine ite_d (fun hc2 => ?_) (fun hc2 => ?_)
      · repeat walk_at "rd"
        refine new_at (Nat.le_of_ble_eq_true rfl) (fun u H1 nu s1 e1 => ?_)
        exact no (fun D' G' hs d g => by have := (huniq D' G' hs).2; omega) u H1 s1 e1
      · repeat first | walk_at "rd" | walk_at "rdi"
        refine ⟨p, xs, fs, D, G, rfl, e3, hA, hi, fun b hb => ?_⟩
        cases b with
        | false =>
          repeat walk_at "rd"
          refine new_at (Nat.le_of_ble_eq_true rfl) (fun u H1 nu s1 e1 => ?_)
          exact no (fun D' G' hs d g => by
            obtain ⟨z1, z2⟩ := huniq D' G' hs
            rw [z1, z2] at hs
            exact Bool.false_ne_true (hb.mpr hs)) u H1 s1 e1
        | true =>
          repeat walk_at "rd"
          refine new_at (Nat.le_of_ble_eq_true rfl) (fun u H1 nu s1 e1 => ?_)
          repeat walk_at "rd"
          refine new_at (Nat.le_of_ble_eq_true rfl) (fun v H2 nv s2 e2 => ?_)
          exact k v (.one D G) H2 ⟨hb.mp rfl, by omega, by omega⟩ (s1.trans s2) ⟨u, e2, s2 _ _ e1⟩
set_option maxHeartbeats 0 in
theorem ok_told_by_line (T : Txt K mg a) : FnOk P w K mg base CX0 1 a.a_told_by_line a.d_told_by_line ["k", "j", "time"] spLine := by
  refine T.F_told_by_line.ok sc_told_by_line (fun vs H Q E h => ?_) (fun cdv A outer s H vs Q E hr h => ?_)
  · obtain ⟨p, q, w, rfl, _⟩ := h
    rfl
  · obtain ⟨p, q, t, rfl, p1, p9, q0, q9, t0, t9, ts, hg0, k⟩ := h
    refine ⟨_, (pss_cons (ps_if (pt_cmpR op_eq (pv 1) pe_int (nomark _)) (pss_one (ps_ret (pe_ifExp (pt_cmpR op_gt (pv 2) pe_int (nomark _)) (pe_tup (pa_cons pe_str (pa_cons (pe_tup (pa_cons (pv 2) (pa_cons pe_int pa_nil))) (pa_cons (pe_tup (pa_cons pe_int (pa_cons pe_int pa_nil))) (pa_cons pe_non pa_nil))))) (pe_tup (pa_cons pe_str pa_nil)))))
 pss_nil)
 (pss_cons (ps_set (i := 3) sc_told_by_line.nd rfl (Or.inl rfl) (pe_op op_fdivW (pe_op op_sub (pv 2) (pv 0)) (pv 1)))
 (pss_cons (ps_for (by exact PassesOwn.never) rfl (pi_range3 (by rfl) T.n_range (pa_cons (pv 3) (pa_cons (pe_callB (call_max2 rfl) (by rfl) T.n_max (by decide +kernel) (pa_cons pe_int (pa_cons (pe_op op_sub (pv 3) (pv 0)) pa_nil))) (pa_cons (pe_un un_neg pe_int) pa_nil)))) (pg_name (i := 4) sc_told_by_line.nd rfl (Or.inl rfl))
 (pss_one (ps_if (pt_cmpR op_eq (pe_op op_modN (pe_op op_sub (pv 2) (pe_op op_mul (pv 1) (pv 4))) (pv 0)) pe_int (nomark _)) (pss_cons (ps_set (i := 5) sc_told_by_line.nd rfl (Or.inl rfl) (pe_tup (pa_cons (pe_op op_fdivW (pe_op op_sub (pv 2) (pe_op op_mul (pv 1) (pv 4))) (pv 0)) (pa_cons (pv 4) pa_nil))))
 (pss_cons (ps_set (i := 6) sc_told_by_line.nd rfl (Or.inl rfl) (pe_op op_add (pe_op op_fdivW (pe_op op_sub (pv 4) pe_int) (pv 0)) pe_int))
 (pss_one (ps_ret (pe_ifExp (pt_cmpR op_eq (pv 6) pe_int (nomark _)) (pe_tup (pa_cons pe_str (pa_cons (pv 5) pa_nil))) (pe_tup (pa_cons pe_str (pa_cons (pv 5) (pa_cons (pe_tup (pa_cons (pv 1) (pa_cons (pe_un un_neg (pv 0)) pa_nil))) (pa_cons (pv 6) pa_nil))))))))))
 pss_nil)))
 (pss_one (ps_ret (pe_tup (pa_cons pe_str pa_nil))))))), ?_⟩
    repeat first | walk_at "rd" | walk_at "rdi"
    refine ite_d (fun hc => ?_) (fun hc => ?_)
    · subst hc
      have hp : p = 1 := by
        unfold gcdI at hg0
        rw [show (0 : Int).natAbs = 0 from rfl, Nat.gcd_zero_right] at hg0
        omega
      subst hp
      repeat first | walk_at "rd" | walk_at "rdi"
      refine ite_d (fun hc => ?_) (fun hc => ?_)
      · repeat walk_at "rd"
        refine new_at (Nat.le_of_ble_eq_true rfl) (fun u H1 nu s1 e1 => ?_)
        repeat walk_at "rd"
        refine new_at (Nat.le_of_ble_eq_true rfl) (fun v H2 nv s2 e2 => ?_)
        repeat walk_at "rd"
        refine new_at (Nat.le_of_ble_eq_true rfl) (fun x H3 nx s3 e3 => ?_)
        exact k x (.line t 1 0 1 none) H3 ⟨by omega, by omega, by omega, rfl, by omega, fun _ => ⟨rfl, rfl, rfl⟩, fun m e => nomatch e⟩ ((s1.trans s2).trans s3) ⟨u, v, e3, s3 _ _ (s2 _ _ e1), s3 _ _ e2⟩
      · repeat walk_at "rd"
        refine new_at (Nat.le_of_ble_eq_true rfl) (fun u H1 nu s1 e1 => ?_)
        exact k u .no H1 (fun D G d g => by omega) s1 e1
    · have q1 : 1 ≤ q := by omega
      repeat walk_at "rd"
      obtain ⟨most, hmost⟩ : ∃ m, (t - p) / q = m := ⟨_, rfl⟩
      rw [hmost]
      have hle1 : most * q ≤ t - p := by rw [← hmost]; exact Int.ediv_mul_le _ (by omega)
      have hm9 : most ≤ 1000000000000 := by
        by_cases c : most ≤ 1000000000000
        · exact c
        · have : 1000000000001 * q ≤ most * q := Int.mul_le_mul_of_nonneg_right (by omega) (by omega)
          omega
      have hm0 : -200 ≤ most := by
        rw [← hmost]
        have := Int.le_ediv_of_mul_le (a := -200) (b := t - p) (c := q) (by omega) (by omega)
        exact this
      refine r_iR3 ?_
      repeat walk_at "rd"
      obtain ⟨mx, hmx, x1, x2⟩ : ∃ mx, (if most - p > 0 then most - p else 0) = mx ∧ most - p ≤ mx ∧ 0 ≤ mx := ⟨_, rfl, by split <;> omega, by split <;> omega⟩
      have x3 : mx ≤ 1000000000000 := by rw [← hmx]; split <;> omega
      rw [hmx]
      refine ⟨most, mx, -1, (most - mx).toNat, rfl, RgC.neg (by omega) (by omega) (by omega) (by omega), for_rangeC (lo := most) (c := -1) (n := (most - mx).toNat) (fun i σ H' => ∃ v4 v5 v6 : Option V, σ = [some (.int p), some (.int q), some (.int t), some (.int most), v4, v5, v6] ∧ H' = H ∧ ∀ g, most - i < g → g ≤ most → (t - q * g) % p ≠ 0) ⟨_, _, _, rfl, rfl, fun g h1 h2 => by omega⟩ ?_ ?_⟩
      · rintro i σ H1 hi ⟨v4, v5, v6, rfl, rfl, hno⟩
        obtain ⟨g, hg⟩ : ∃ g, most - (i : Int) = g := ⟨_, rfl⟩
        rw [show most + (i : Nat) * -1 = g by omega]
        have g1 : mx < g := by omega
        have g2 : g ≤ most := by omega
        repeat first | walk_at "rd" | walk_at "rdi"
        rw [Int.fmod_eq_emod_of_nonneg _ (show 0 ≤ p by omega)]
        refine ite_d (fun hc => ?_) (fun hc => ?_)
        · have hd : p * ((t - q * g) / p) = t - q * g := Int.mul_ediv_cancel' (Int.dvd_of_emod_eq_zero hc)
          obtain ⟨D, hD⟩ : ∃ D, (t - q * g) / p = D := ⟨_, rfl⟩
          obtain ⟨c, hcc⟩ : ∃ c, (g - 1) / p = c := ⟨_, rfl⟩
          have hsol : p * D + q * g = t := by rw [hD] at hd; omega
          have hqg : q * g ≤ t - p := by
            have : g * q ≤ most * q := Int.mul_le_mul_of_nonneg_right g2 (by omega)
            rw [Int.mul_comm g q] at this
            omega
          have hD1 : 1 ≤ D := by
            rw [hD] at hd
            have : p * 1 ≤ p * D := by omega
            exact Int.le_of_mul_le_mul_left this (by omega)
          have hDq : D ≤ q := line_high (by omega) hsol p1 (by rw [hmost]; omega)
          have c1 := Int.ediv_mul_le (g - 1) (show p ≠ 0 by omega)
          have c2 := Int.lt_ediv_add_one_mul_self (g - 1) (show 0 < p by omega)
          have c0 : 0 ≤ (g - 1) / p := Int.ediv_nonneg (by omega) (by omega)
          rw [hcc] at c0 c1 c2
          repeat walk_at "rd"
          rw [hD]
          refine new_at (Nat.le_of_ble_eq_true rfl) (fun u H2 nu s1 e1 => ?_)
          repeat first | walk_at "rd" | walk_at "rdi"
          rw [hcc]
          refine ite_d (fun hc1 => ?_) (fun hc1 => ?_)
          · repeat walk_at "rd"
            refine new_at (Nat.le_of_ble_eq_true rfl) (fun v H3 nv s2 e2 => ?_)
            have : c = 0 := by omega
            subst this
            exact k v (.one D g) H3 ⟨hsol, hD1, by omega, hDq, by omega⟩ (s1.trans s2) ⟨u, e2, s2 _ _ e1⟩
          · repeat walk_at "rd"
            refine new_at (Nat.le_of_ble_eq_true rfl) (fun v H3 nv s2 e2 => ?_)
            repeat walk_at "rd"
            refine new_at (Nat.le_of_ble_eq_true rfl) (fun x H4 nx s3 e3 => ?_)
            have hc9 : c ≤ 1000000000000 := by
              have : c * 1 ≤ c * p := Int.mul_le_mul_of_nonneg_left p1 c0
              omega
            refine k x (.line D g q (-p) (some (c + 1))) H4 ⟨hsol, hD1, by omega, by rw [gcdI_neg, gcdI_comm]; exact hg0, by rw [Int.mul_neg, Int.mul_comm q p]; omega, (fun e => nomatch e), fun m e => ?_⟩ ((s1.trans s2).trans s3) ⟨u, v, e3, s3 _ _ (s2 _ _ e1), s3 _ _ e2⟩
            obtain rfl : c + 1 = m := Option.some.inj e
            rw [show c + 1 - 1 = c by omega, Int.mul_neg]
            rw [Int.add_mul] at c2
            refine ⟨by omega, by omega, q1, by omega, by omega, by omega, hDq, by omega, by omega⟩
        · repeat first | exact ⟨_, _, _, rfl, rfl, fun g' h1 h2 => by
            by_cases e : g' = g
            · rw [e]; exact hc
            · exact hno g' (by omega) h2⟩ | walk_at "rd"
      · rintro σ H1 ⟨v4, v5, v6, rfl, rfl, hno⟩
        repeat walk_at "rd"
        refine new_at (Nat.le_of_ble_eq_true rfl) (fun u H1 nu s1 e1 => ?_)
        refine k u .no H1 (fun D G d g h => ?_) s1 e1
        obtain ⟨g', y1, y2, y3⟩ := line_hit p1 (by omega) h d g most hmost
        rw [hmx] at y1
        exact hno g' (by omega) y2 y3
set_option maxHeartbeats 0 in
theorem ok_told_by_multiples (T : Txt K mg a) : FnOk P w K mg base CX0 2 a.a_told_by_multiples a.d_told_by_multiples ["sums"] spMult := by
  refine T.F_told_by_multiples.ok sc_told_by_multiples (fun vs H Q E h => ?_) (fun cdv A outer s H vs Q E hr h => ?_)
  · obtain ⟨p, xs, ls, f, rfl, _⟩ := h
    rfl
  · obtain ⟨p, xs, ls, ⟨k, j, t⟩, rfl, ep, hA, hi, hf, hpos, hpar, kk⟩ := h
    have hm : ((k, j, t) : L3) ∈ ls.filter nz := List.mem_iff_getElem?.mpr ⟨0, hf⟩
    have hk : 0 < k := hpos _ hm
    obtain ⟨a0, a1, a2, a3, _, a4, a5, a6⟩ := hi _ (List.mem_filter.mp hm).1
    dsimp only at a0 a1 a2 a3 a4 a5 a6
    have hc := com_of hk a2
    obtain ⟨c, hcd⟩ : ∃ c, gcdI k j = c := ⟨_, rfl⟩
    rw [hcd] at hc
    obtain ⟨p1, hp1⟩ : ∃ p1, k / c = p1 := ⟨_, rfl⟩
    obtain ⟨q1, hq1⟩ : ∃ q1, j / c = q1 := ⟨_, rfl⟩
    obtain ⟨t1, ht1⟩ : ∃ t1, t / c = t1 := ⟨_, rfl⟩
    rw [hp1, hq1] at hc
    have c1 := hc.c1
    have hp0 := hc.p1
    have hq0 := hc.q0
    have hpk : p1 ≤ k := by
      have : 1 * p1 ≤ c * p1 := Int.mul_le_mul_of_nonneg_right c1 (by omega)
      have := hc.hk; omega
    have hqj : q1 ≤ j := by
      have : 1 * q1 ≤ c * q1 := Int.mul_le_mul_of_nonneg_right c1 (by omega)
      have := hc.hj; omega
    have hck : c ≤ k := by
      have : c * 1 ≤ c * p1 := Int.mul_le_mul_of_nonneg_left hp0 (by omega)
      have := hc.hk; omega
    have ht0 : 0 ≤ t1 := by rw [← ht1]; exact Int.ediv_nonneg a4 (by omega)
    have htt : t1 * c ≤ t := by rw [← ht1]; exact Int.ediv_mul_le _ (by omega)
    have ht9 : t1 ≤ t := by
      have : t1 * 1 ≤ t1 * c := Int.mul_le_mul_of_nonneg_left c1 ht0
      omega
    have hts : t1 ≤ (p1 + q1 + 1) * 3000000000 := by
      by_cases z : t1 ≤ (p1 + q1 + 1) * 3000000000
      · exact z
      · have h1 : ((p1 + q1 + 1) * 3000000000 + 1) * c ≤ t1 * c := Int.mul_le_mul_of_nonneg_right (by omega) (by omega)
        have h2 : ((p1 + q1 + 1) * 3000000000 + 1) * c = (c * p1 + c * q1 + c) * 3000000000 + c := by
          rw [Int.add_mul, Int.one_mul, Int.mul_right_comm, Int.add_mul (p1 + q1), Int.add_mul p1, Int.one_mul, Int.mul_comm p1, Int.mul_comm q1]
        rw [← hc.hk, ← hc.hj] at h2
        omega
    refine ⟨_, (pss_cons (ps_asg (pe_ix ix_list (pv 0) pe_int (fun _ _ => rfl)) (pg_tup (by rfl) (pgs_cons (pg_name (i := 1) sc_told_by_multiples.nd rfl (Or.inl rfl)) (pgs_cons (pg_name (i := 2) sc_told_by_multiples.nd rfl (Or.inl rfl)) (pgs_cons (pg_name (i := 3) sc_told_by_multiples.nd rfl (Or.inl rfl)) pgs_nil)))))
 (pss_cons (ps_set (i := 4) sc_told_by_multiples.nd rfl (Or.inl rfl) (pe_callBfun cr_gcd (by rfl) T.g_gcd (pa_cons (pv 1) (pa_cons (pv 2) pa_nil))))
 (pss_cons (ps_set (i := 5) sc_told_by_multiples.nd rfl (Or.inl rfl) (pe_op op_fdivW (pv 1) (pv 4)))
 (pss_cons (ps_set (i := 6) sc_told_by_multiples.nd rfl (Or.inl rfl) (pe_op op_fdivW (pv 3) (pv 4)))
 (pss_cons (ps_for (by exact PassesOwn.never) rfl (pi_list (pv 0)) (pg_tup (by rfl) (pgs_cons (pg_name (i := 7) sc_told_by_multiples.nd rfl (Or.inl rfl)) (pgs_cons (pg_name (i := 8) sc_told_by_multiples.nd rfl (Or.inl rfl)) (pgs_cons (pg_name (i := 9) sc_told_by_multiples.nd rfl (Or.inl rfl)) pgs_nil))))
 (pss_one (ps_if (pt_cmpR op_ne (pe_op op_mul (pv 6) (pe_op op_fdivW (pv 7) (pv 5))) (pv 9) (nomark _)) (pss_one (ps_ret (pe_tup (pa_cons pe_str pa_nil))))
 pss_nil)))
 (pss_one (ps_ret (pe_call (ok_told_by_line T) (hr.mono (by decide)) (by rfl) T.g_told_by_line T.F_told_by_line.kp T.b_told_by_line .nil pass0 (pa_cons (pv 5) (pa_cons (pe_op op_fdivW (pv 2) (pv 4)) (pa_cons (pv 6) pa_nil))))))))))), ?_⟩
    repeat walk_at "rd"
    obtain ⟨tr, ea, et⟩ := hA.2 0 _ hf
    have et : H tr = some (.tup [.int k, .int j, .int t]) := et
    refine r_ixL ep (v := .ref tr) (atI_nat (j := 0) ea) ?_
    repeat walk_at "rd"
    refine ⟨k, j, rfl, ?_⟩
    have eg : ((Nat.gcd k.natAbs j.natAbs : Nat) : Int) = c := hcd
    rw [eg]
    have dc : CDivW k c ∧ CDivW t c ∧ CDivW j c := by
      have : CDivW k c := wide_div (b := 64) (by omega) (by omega) (by decide) (by decide)
      exact ⟨this, this, this⟩
    repeat walk_at "rd"
    rw [hp1]
    repeat walk_at "rd"
    rw [ht1]
    repeat walk_at "rd"
    refine ⟨p, rfl, ⟨_, SqL.of ep⟩, for_list (K := K) (a := p) (xs := xs) (fun i σ H' => ∃ v7 v8 v9 : Option V, σ = [some (.ref p), some (.int k), some (.int j), some (.int t), some (.int c), some (.int p1), some (.int t1), v7, v8, v9] ∧ H' = H ∧ ∀ l, l ∈ (ls.filter nz).take i → t1 * (l.1 / p1) = l.2.2) ⟨_, _, _, rfl, rfl, fun l hl => by simp at hl⟩ (fun i σ H' _ ⟨_, _, _, _, e, _⟩ => by rw [e]; exact SqL.of ep) ?_ ?_⟩
    · rintro i x σ H2 hx ⟨v7, v8, v9, rfl, rfl, hs⟩
      obtain ⟨tl, l, rfl, hl1, etl⟩ := hA.get hx
      have hlm : l ∈ ls.filter nz := List.mem_iff_getElem?.mpr ⟨i, hl1⟩
      obtain ⟨b0, b1, b2, b3, _, b4, b5, b6⟩ := hi _ (List.mem_filter.mp hlm).1
      have d0 : 0 ≤ l.1 / p1 := Int.ediv_nonneg b0 (by omega)
      have d9 : l.1 / p1 ≤ 199 := by
        have h1 := Int.ediv_mul_le l.1 (show p1 ≠ 0 by omega)
        have h2 : l.1 / p1 * 1 ≤ l.1 / p1 * p1 := Int.mul_le_mul_of_nonneg_left hp0 d0
        omega
      repeat first | walk_at "rd" | walk_at "rdi"
      refine r_nD (fun hne => ?_) (fun heq => ?_)
      · repeat walk_at "rd"
        refine new_at (Nat.le_of_ble_eq_true rfl) (fun u H1 nu s1 e1 => ?_)
        refine kk u .no H1 ⟨fun D G d g hsol => ?_, _, (List.mem_filter.mp hm).1, nz_iff.mp (List.mem_filter.mp hm).2⟩ s1 e1
        have := (mult_of hc (fun l hl => hi l (List.mem_filter.mp hl).1) hpar hm (solves_nz.mpr hsol)).2 l hlm
        rw [ht1] at this
        exact hne this
      · repeat first | exact ⟨_, _, _, rfl, rfl, fun l' hl' => by
          rw [take_more hl1] at hl'
          rcases List.mem_append.mp hl' with h | h
          · exact hs l' h
          · rw [List.mem_singleton] at h
            subst h
            exact heq⟩ | walk_at "rd"
    · rintro σ H2 ⟨v7, v8, v9, rfl, rfl, hs⟩
      rw [hA.1, List.take_length] at hs
      repeat walk_at "rd"
      rw [hq1]
      refine ⟨p1, q1, t1, rfl, hp0, by omega, hq0, by omega, ht0, by omega, hts, hc.gc, fun p' r H' hT s' e' => ?_⟩
      rw [← ht1] at hT hs
      exact kk p' r H' (told_mult hi hc hpos hpar hm hs hT) s' e'
theorem r_neT3 {K : PySem.W.Frag} {H : Hp} {Q : VK} {p q : Addr} {xs ys : List Int} (h1 : H p = some (.tup (xs.map V.int))) (h2 : H q = some (.tup (ys.map V.int))) (k : Q (.bl (!decide (xs = ys))) H) : rNeD K (.ref p) (.ref q) H Q := by
  refine ⟨_, _, .tup (SqT.of h1) (dp_ints xs), .tup (SqT.of h2) (dp_ints ys), sh_tints xs, sh_tints ys, ?_⟩
  rw [show PyData.eqv (.tuple (xs.map PyData.int)) (.tuple (ys.map PyData.int)) = decide (xs = ys) from eq_ints (xs := xs) (ys := ys)]
  exact k
set_option maxHeartbeats 0 in
theorem ok_told_back (T : Txt K mg a) : FnOk P w K mg base CX0 7 a.a_told_back a.d_told_back ["rows"] spBack := by
  refine T.F_told_back.ok sc_told_back (fun vs H Q E h => ?_) (fun cdv A outer s H vs Q E hr h => ?_)
  · obtain ⟨p, xs, rs, rfl, _⟩ := h
    rfl
  · obtain ⟨p, xs, rs, rfl, ep, hR, hok, hl, kk⟩ := h
    have hi : LinesIn (rs.map lineOf) := fun l hl => by
      obtain ⟨r, hr, rfl⟩ := List.mem_map.mp hl
      exact (hok r hr).line
    refine ⟨_, (pss_cons (ps_expr (pe_call (ok_check_sightings T) (hr.mono (by decide)) (by rfl) T.g_check_sightings T.F_check_sightings.kp T.b_check_sightings .nil pass0 (pa_cons (pv 0) pa_nil)))
 (pss_cons (ps_setLc (i := 1) (own := [("parts", 8)]) (g := gName 8) rfl sc_told_back.nd rfl rfl (sw_true rfl rfl rfl (by decide +kernel)) (pi_list (pe_call (ok_sums_of T) (hr.mono (by decide)) (by rfl) T.g_sums_of T.F_sums_of.kp T.b_sums_of .nil pass0 (pa_cons (pv 0) pa_nil))) (blkOk_by (own := [("parts", 8)]) (N := ["rows", "sums", "k", "j", "_", "m", "i", "time", "parts"]) (sc := defScope s_told_back) (by decide +kernel)) (fun _ _ _ _ _ => (pg_name (i := 8) sc_told_back.nd rfl (Or.inl rfl))) (fun _ _ _ _ _ => pts_one (pt_cmpR (op_neDK (K := K) rfl hr.units) (pv 8) (pe_tup (pa_cons pe_int (pa_cons pe_int (pa_cons pe_int pa_nil)))) (nomark _))) (fun _ _ _ _ _ => (pv 8)))
 (pss_cons (ps_if (pt_not (pt_tru (pv 1))) (pss_one (ps_ret (pe_tup (pa_cons pe_str pa_nil))))
 pss_nil)
 (pss_cons (ps_asg (pe_ix ix_list (pv 1) pe_int (fun _ _ => rfl)) (pg_tup (by rfl) (pgs_cons (pg_name (i := 2) sc_told_back.nd rfl (Or.inl rfl)) (pgs_cons (pg_name (i := 3) sc_told_back.nd rfl (Or.inl rfl)) (pgs_cons (pg_name (i := 4) sc_told_back.nd rfl (Or.inl rfl)) pgs_nil)))))
 (pss_cons (ps_for (by exact PassesOwn.never) rfl (pi_list (pv 1)) (pg_tup (by rfl) (pgs_cons (pg_name (i := 5) sc_told_back.nd rfl (Or.inl rfl)) (pgs_cons (pg_name (i := 6) sc_told_back.nd rfl (Or.inl rfl)) (pgs_cons (pg_name (i := 7) sc_told_back.nd rfl (Or.inl rfl)) pgs_nil))))
 (pss_cons (ps_if (pt_cmpR op_eq (pv 5) pe_int (nomark _)) (pss_one (ps_ret (pe_tup (pa_cons pe_str pa_nil))))
 pss_nil)
 (pss_one (ps_if (pt_cmpR op_ne (pe_op op_mul (pv 2) (pv 6)) (pe_op op_mul (pv 5) (pv 3)) (nomark _)) (pss_one (ps_ret (pe_call (ok_told_by_two T) (hr.mono (by decide)) (by rfl) T.g_told_by_two T.F_told_by_two.kp T.b_told_by_two .nil pass0 (pa_cons (pe_ix ix_list (pv 1) pe_int (fun _ _ => rfl)) (pa_cons (pe_tup (pa_cons (pv 5) (pa_cons (pv 6) (pa_cons (pv 7) pa_nil)))) (pa_cons (pv 1) pa_nil))))))
 pss_nil))))
 (pss_one (ps_ret (pe_call (ok_told_by_multiples T) (hr.mono (by decide)) (by rfl) T.g_told_by_multiples T.F_told_by_multiples.kp T.b_told_by_multiples .nil pass0 (pa_cons (pv 1) pa_nil))))))))), ?_⟩
    repeat walk_at "rd"
    refine ⟨p, xs, rs, rfl, ep, hR, hok, hl, fun H1 s1 => ?_⟩
    repeat walk_at "rd"
    refine ⟨p, xs, rs, rfl, ep.keep s1, hR.keep s1, hok, hl, fun q ys H2 s2 eq hA => ?_⟩
    have s12 := s1.trans s2
    have hll : (rs.map lineOf).length ≤ 60 := by rw [List.length_map]; exact hl
    generalize rs.map lineOf = ls at hi hA kk hll
    repeat walk_at "rd"
    refine ⟨q, rfl, ⟨_, SqL.of eq⟩, fun L hL => lc_list (K := K) (a := q) (xs := ys) (fun i H' => ∃ acc : List V, H' L = some (.lst acc) ∧ acc.length ≤ i ∧ TrisAt H' acc ((ls.take i).filter nz) ∧ H' q = some (.lst ys) ∧ Same H2 H') ?_ (fun i H' _ ⟨_, _, _, _, h, _⟩ => SqL.of h) ?_ ?_⟩
    · exact ⟨[], upd_same, Nat.le_refl _, TrisAt.nil, (upd_ne (ne_of_none eq hL)).trans eq, Same.new hL⟩
    · rintro i y H6 hiy ⟨acc, h1, h2, h3, h4, h5⟩
      obtain ⟨t, l, rfl, hl1, et⟩ := (hA.keep h5).get hiy
      have hi9 : i < 60 := by have := (List.getElem?_eq_some_iff.mp hl1).1; omega
      repeat walk_at "rd"
      refine ⟨rfl, ?_⟩
      repeat walk_at "rd"
      refine new_at (Nat.le_of_ble_eq_true rfl) (fun q8 H8 n8 s8 e8 => ?_)
      refine r_neT3 (xs := [l.1, l.2.1, l.2.2]) (ys := [0, 0, 0]) (s8 _ _ et) e8 ?_
      have hf : (ls.take (i + 1)).filter nz = (ls.take i).filter nz ++ (if nz l = true then [l] else []) := by
        rw [take_more hl1, List.filter_append]
        congr 1
        by_cases c : nz l = true
        · rw [if_pos c, List.filter_cons_of_pos c]; rfl
        · rw [if_neg c, List.filter_cons_of_neg c]; rfl
      have e0 : (!decide ([l.1, l.2.1, l.2.2] = [0, 0, 0])) = nz l := by
        obtain ⟨z1, z2, z3⟩ := l
        show (!decide ([z1, z2, z3] = [0, 0, 0])) = decide ((z1, z2, z3) ≠ (0, 0, 0))
        rw [Bool.eq_iff_iff, Bool.not_eq_true', decide_eq_false_iff_not, decide_eq_true_iff]
        simp
      rw [e0]
      have h1 := s8 _ _ h1
      refine ⟨_, rfl, ite_b (fun hc => ?_) (fun hc => ?_)⟩
      · rw [if_pos hc] at hf
        repeat walk_at "rd"
        refine ⟨_, h1, small1000 (by omega), acc ++ [.ref t], upd_same, by rw [List.length_append, List.length_singleton]; omega, by rw [hf]; exact ((h3.keep s8).snoc (s8 _ _ et)).upd h1, (upd_ne (ne_of_none eq hL)).trans (s8 _ _ h4), (h5.trans s8).over hL h1⟩
      · rw [hc, if_neg Bool.false_ne_true, List.append_nil] at hf
        exact ⟨acc, h1, by omega, by rw [hf]; exact h3.keep s8, s8 _ _ h4, h5.trans s8⟩
    · rintro H6 ⟨acc, h1, h2, h3, h4, h5⟩
      rw [hA.1, List.take_length] at h3
      have s16 := s12.trans h5
      repeat walk_at "rd"
      refine ⟨.ref L, rfl, !acc.isEmpty, .inl ⟨acc, SqL.of h1, rfl⟩, ?_⟩
      cases hfe : ls.filter nz with
      | nil =>
        rw [hfe] at h3
        obtain rfl : acc = [] := List.length_eq_zero_iff.mp h3.1
        repeat walk_at "rd"
        refine new_at (Nat.le_of_ble_eq_true rfl) (fun u H7 nu s7 e7 => ?_)
        refine kk u .any H7 (fun l hl => Classical.byContradiction fun z => ?_) (s16.trans s7) e7
        have : l ∈ ls.filter nz := List.mem_filter.mpr ⟨hl, nz_iff.mpr z⟩
        rw [hfe] at this
        cases this
      | cons f fs =>
        have hne : acc.isEmpty = false := by
          have := h3.1
          rw [hfe] at this
          cases acc with
          | nil => cases this
          | cons _ _ => rfl
        rw [hne]
        have hf0 : (ls.filter nz)[0]? = some f := by rw [hfe]; rfl
        obtain ⟨tf, eaf, etf⟩ := h3.2 0 f hf0
        have etf : H6 tf = some (.tup [.int f.1, .int f.2.1, .int f.2.2]) := etf
        have hfm : f ∈ ls.filter nz := by rw [hfe]; exact List.mem_cons_self ..
        clear hfe fs
        rw [if_neg (show ¬ ((!!false) = true) by decide)]
        repeat walk_at "rd"
        refine r_ixL h1 (v := .ref tf) (atI_nat (j := 0) eaf) ?_
        repeat walk_at "rd"
        obtain ⟨f0, f1, f2, f3, _, f4, f5, f6⟩ := hi f (List.mem_filter.mp hfm).1
        refine ⟨L, rfl, ⟨_, SqL.of h1⟩, for_list (K := K) (a := L) (xs := acc) (fun i σ H' => ∃ v5 v6 v7 v8 : Option V, σ = [some (.ref p), some (.ref L), some (.int f.1), some (.int f.2.1), some (.int f.2.2), v5, v6, v7, v8] ∧ H' = H6 ∧ ∀ l, l ∈ (ls.filter nz).take i → 0 < l.1 ∧ f.1 * l.2.1 = l.1 * f.2.1) ⟨_, _, _, _, rfl, rfl, fun l hl => by simp at hl⟩ (fun i σ H' _ ⟨_, _, _, _, _, e, _⟩ => by rw [e]; exact SqL.of h1) ?_ ?_⟩
        · rintro i x σ H7 hx ⟨v5, v6, v7, v8, rfl, rfl, hs⟩
          obtain ⟨tl, l, rfl, hl1, etl⟩ := h3.get hx
          have hlm : l ∈ ls.filter nz := List.mem_iff_getElem?.mpr ⟨i, hl1⟩
          obtain ⟨b0, b1, b2, b3, b7, b4, b5, b6⟩ := hi _ (List.mem_filter.mp hlm).1
          repeat first | walk_at "rd" | walk_at "rdi"
          refine ite_d (fun hc => ?_) (fun hc => ?_)
          · repeat walk_at "rd"
            refine new_at (Nat.le_of_ble_eq_true rfl) (fun u H8 nu s8 e8 => ?_)
            have hz := nz_iff.mp (List.mem_filter.mp hlm).2
            refine kk u .no H8 ⟨No.zero (List.mem_filter.mp hlm).1 hc (b7 hc) (fun z => hz (Prod.ext hc (Prod.ext (b7 hc) z))), l, (List.mem_filter.mp hlm).1, hz⟩ (s16.trans s8) e8
          · repeat first | walk_at "rd" | walk_at "rdi"
            refine r_nD (fun hne2 => ?_) (fun heq => ?_)
            · repeat walk_at "rd"
              refine r_ixL h1 (v := .ref tf) (atI_nat (j := 0) eaf) ?_
              repeat walk_at "rd"
              refine new_at (Nat.le_of_ble_eq_true rfl) (fun u H8 nu s8 e8 => ?_)
              repeat walk_at "rd"
              have hif : LinesIn (ls.filter nz) := fun l hl => hi l (List.mem_filter.mp hl).1
              refine ⟨tf, u, L, f, l, acc, ls.filter nz, rfl, s8 _ _ etf, e8, s8 _ _ h1, h3.keep s8, hif, hfm, hlm, by omega, fun p' r H9 hT s9 e9 => ?_⟩
              refine kk p' r H9 ?_ ((s16.trans s8).trans s9) e9
              cases r with
              | any => exact hT.elim
              | no => exact ⟨No.nz hT, l, (List.mem_filter.mp hlm).1, nz_iff.mp (List.mem_filter.mp hlm).2⟩
              | one D G =>
                obtain ⟨t1, t2, t3⟩ := hT
                refine ⟨solves_nz.mp t1, t2, t3, ⟨l, (List.mem_filter.mp hlm).1, by omega⟩, fun hpar => absurd ?_ hne2⟩
                have hf1 : 0 < f.1 := by
                  by_cases z : 0 < f.1
                  · exact z
                  · have e1 : f.1 = 0 := by omega
                    have := (hi f (List.mem_filter.mp hfm).1).2.2.2.2.1 e1
                    rw [e1, this] at hne2
                    simp at hne2
                exact hpar f l (List.mem_filter.mpr ⟨(List.mem_filter.mp hfm).1, decide_eq_true hf1⟩) (List.mem_filter.mpr ⟨(List.mem_filter.mp hlm).1, decide_eq_true (show l.1 > 0 by omega)⟩)
              | line D G e f c => exact hT.elim
            · repeat first | exact ⟨_, _, _, _, rfl, rfl, fun l' hl' => by
                rw [take_more hl1] at hl'
                rcases List.mem_append.mp hl' with h | h
                · exact hs l' h
                · rw [List.mem_singleton] at h
                  subst h
                  exact ⟨by omega, heq⟩⟩ | walk_at "rd"
        · rintro σ H7 ⟨v5, v6, v7, v8, rfl, rfl, hs⟩
          rw [h3.1, List.take_length] at hs
          repeat walk_at "rd"
          exact ⟨L, acc, ls, f, rfl, h1, h3, hi, hf0, fun l hl => (hs l hl).1, fun l hl => (hs l hl).2, fun p' r H8 hT s8 e8 => kk p' r H8 hT (s16.trans s8) e8⟩
end

/-! ### the time at which a name is known: one root at 0, no turns, a right name -/
theorem at_roots {rs : List Int} {z : Int} (h0 : 0 ≤ z) (h1 : z ≤ rs.length - 1) : atI (rs.map V.int) z = some (.int (rs.getD z.toNat 0)) := by
  obtain ⟨i, rfl⟩ : ∃ i : Nat, z = i := ⟨z.toNat, by omega⟩
  have hi : i < rs.length := by omega
  refine atI_nat ?_
  rw [List.getElem?_map, List.getElem?_eq_getElem hi, Int.toNat_natCast, List.getD_eq_getElem?_getD, List.getElem?_eq_getElem hi]
  rfl
theorem ok1 : RootsOk [0] := ⟨by decide, by decide, by decide, by decide, trivial⟩
theorem bd_known_at {K : PySem.W.Frag} {mg : Str → Option Value} {a : Adr} (T : Txt K mg a) : ∃ ds : List Value, Vals [.non, .ref a.t_known_at_roots] ds ∧ Binds K a.d_known_at ["machine", "name", "turns", "roots"] ds :=
  FunD.binds0 T.F_known_at 2 (by simp) rfl fun D doc pm an cdv ct us ks h1 h2 => match us, ks, h1, h2 with
    | [_, _], [_, _], _, _ => ⟨_, _, _, _, _, _, rfl, rfl, _, _, _, _, _, _, rfl, rfl, rfl⟩
def spTime0 (K : PySem.W.Frag) (C : Addr) : Sp := fun vs H Q _ => ∃ (t p : Addr) (D G : Int) (zs : List Int), vs = [.ref t, .ref p] ∧ TreeAt K C H t D G none [0] ∧ H p = some (.tup (.int 0 :: zs.map V.int)) ∧ zs.length ≤ 199 ∧ (∀ z, z ∈ zs → 0 ≤ z ∧ z ≤ 1000000000000000) ∧ ∀ H', Same H H' → Q (.int (zs.length * D + zs.sum * G)) H'
def spKnown0 (K : PySem.W.Frag) (M : Addr) : Sp := fun vs H Q _ => ∃ (m p r : Addr) (o l g : Int) (zs : List Int), vs = [.ref m, .ref p, .non, .ref r] ∧ MachAt M H m o l g ∧ (0 ≤ o ∧ o ≤ 1000000000) ∧ (0 ≤ l ∧ l ≤ 1000000000) ∧ (1 ≤ g ∧ g ≤ 1000000000) ∧ 0 < 2 * o + l ∧ H p = some (.tup (.int 0 :: zs.map V.int)) ∧ SqT K H r [.int 0] ∧ zs.length ≤ 199 ∧ (∀ z, z ∈ zs → 0 ≤ z ∧ z ≤ 1000000000000000) ∧ ∀ H', Same H H' → Q (.int (zs.length * (2 * o + l) + zs.sum * gapOf o g)) H'
section
variable {P : Program} {w : World} {K : PySem.W.Frag} {mg : Str → Option Value} {base : Heap} {a : Adr}
theorem ok_check_name (T : Txt K mg a) : FnOk P w K mg base CX0 5 a.a_check_name a.d_check_name ["thing", "turns", "roots"] (spWrongN K) := by
  refine T.F_check_name.ok sc_check_name (fun vs H Q E h => ?_) (fun cdv A outer s H vs Q E hr h => ?_)
  · obtain ⟨p, r, zs, rfl, _⟩ := h
    rfl
  · obtain ⟨p, r, zs, rfl, ep, er, hl, hz, k⟩ := h
    refine ⟨_, (pss_cons (ps_set (i := 3) sc_check_name.nd rfl (Or.inl rfl) (pe_call (ok_wrong_in_name T) (hr.mono (by decide)) (by rfl) T.g_wrong_in_name T.F_wrong_in_name.kp T.b_wrong_in_name .nil pass0 (pa_cons (pv 0) (pa_cons (pv 1) (pa_cons (pv 2) pa_nil)))))
 (pss_one (ps_if (pt_cmpR op_notNo (pv 3) pe_non (nomark _)) (pss_one ps_never)
 pss_nil))), ?_⟩
    repeat walk_at "rd"
    refine ⟨p, r, zs, rfl, ep, er, hl, hz, fun H1 s1 => ?_⟩
    repeat first | exact k _ s1 | walk_at "rd" | walk_at "rdi"
theorem ok_time_of (T : Txt K mg a) : FnOk P w K mg base CX0 1 a.a_time_of a.d_time_of ["tree", "name"] (spTime0 K a.c_Tree) := by
  refine T.F_time_of.ok sc_time_of (fun vs H Q E h => ?_) (fun cdv A outer s H vs Q E hr h => ?_)
  · obtain ⟨t, p, D, G, zs, rfl, _⟩ := h
    rfl
  · obtain ⟨t, p, D, G, zs, rfl, ⟨⟨dx, rt, pw, ht, hrt, hpw⟩, D0, D9, G0, G9, T0, R0⟩, hp, hl, hz, k⟩ := h
    refine ⟨_, (pss_one (ps_ret (pe_op op_add (pe_op op_add (pe_ix ix_tup (pe_fld (pv 0) rfl) (pe_ix ix_tup (pv 1) pe_int (fun _ _ => rfl)) (fun _ _ => rfl)) (pe_op op_mul (pe_op op_sub (pe_callB call_len_seq (by rfl) T.n_len (by decide +kernel) (pa_cons (pv 1) pa_nil)) pe_int) (pe_fld (pv 0) rfl))) (pe_op op_mul (pe_callB (cr_sumT rfl) (by rfl) T.n_sum (by decide +kernel) (pa_cons (pe_slice sl_tup (pv 1) (po_some pe_int) po_none) pa_nil)) (pe_fld (pv 0) rfl))))), ?_⟩
    repeat walk_at "rd"
    refine r_ixT hp (v := .int 0) (atI_nat (j := 0) rfl) ?_
    refine ⟨rt, _, 0, _, rfl, rfl, hrt, at_roots (by decide) (by decide), ?_⟩
    repeat walk_at "rd"
    refine r_slT (SqT.of hp) (not_whole _ _) (fun q H1 nq s1 e1 => ?_)
    rw [cut_one] at e1
    repeat walk_at "rd"
    refine ⟨q, zs, rfl, SqT.of e1, ?_⟩
    have hs := sum_rng zs hz
    have ht := s1 _ _ ht
    repeat walk_at "rd"
    rw [show ((V.int 0 :: zs.map V.int).length : Int) - 1 = zs.length by rw [List.length_cons, List.length_map]; omega, show ([0] : List Int).getD (0 : Int).toNat 0 = 0 from rfl, Int.zero_add]
    exact k _ s1
theorem ok_known_at (T : Txt K mg a) : FnOk P w K mg base CX0 6 a.a_known_at a.d_known_at ["machine", "name", "turns", "roots"] (spKnown0 K a.c_Machine) := by
  refine T.F_known_at.ok sc_known_at (fun vs H Q E h => ?_) (fun cdv A outer s H vs Q E hr h => ?_)
  · obtain ⟨m, p, r, o, l, g, zs, rfl, _⟩ := h
    rfl
  · obtain ⟨m, p, r, o, l, g, zs, rfl, hm, ho, hl, hg, hp, ep, er, hl9, hz, k⟩ := h
    refine ⟨_, (pss_cons (ps_set (i := 4) sc_known_at.nd rfl (Or.inl rfl) (pe_make T.mk_Tree (ok_Tree_init T) (hr.mono (by decide)) (by rfl) T.g_Tree T.b_Tree_init .nil pass0 (pa_cons (pv 0) (pa_cons (pv 2) (pa_cons (pv 3) pa_nil)))))
 (pss_cons (ps_expr (pe_call (ok_check_name T) (hr.mono (by decide)) (by rfl) T.g_check_name T.F_check_name.kp T.b_check_name .nil pass0 (pa_cons (pv 1) (pa_cons (pv 2) (pa_cons (pv 3) pa_nil)))))
 (pss_one (ps_ret (pe_call (ok_time_of T) (hr.mono (by decide)) (by rfl) T.g_time_of T.F_time_of.kp T.b_time_of .nil pass0 (pa_cons (pv 4) (pa_cons (pv 1) pa_nil))))))), ?_⟩
    repeat walk_at "rd"
    refine r_Tree (T := none) (rs := [0]) hm ho hl hg hp trivial (.inr er) ok1 (fun t H1 nt ht s1 => ?_)
    repeat walk_at "rd"
    refine ⟨p, r, zs, rfl, s1 _ _ ep, sqT_keep er s1, hl9, hz, fun H2 s2 => ?_⟩
    have s12 := s1.trans s2
    repeat walk_at "rd"
    refine ⟨t, p, _, _, zs, rfl, ht.keep s2, s12 _ _ ep, hl9, hz, fun H3 s3 => ?_⟩
    exact k _ (s12.trans s3)
end

/-! ### the law of k63: lines, pairs that solve them; explains -/
def spSolvesL : Sp := fun vs H Q _ => ∃ (p u : Addr) (xs : List V) (ls : List L3) (D G : Int), vs = [.ref p, .ref u] ∧ H p = some (.lst xs) ∧ TrisAt H xs ls ∧ LinesIn ls ∧ H u = some (.tup [.int D, .int G]) ∧ ∀ b : Bool, (b = true ↔ Solves ls D G ∧ 1 ≤ D ∧ 1 ≤ G) → Q (.bl b) H
def spLinesL : Sp := fun vs H Q _ => ∃ (p : Addr) (xs : List V) (rs : List Row), vs = [.ref p] ∧ H p = some (.lst xs) ∧ RowsAt H xs rs ∧ (∀ r, r ∈ rs → RowOk r) ∧ rs.length ≤ 60 ∧ ∀ q ys H', Same H H' → H' q = some (.lst ys) → TrisAt H' ys (rs.map lineOf) → Q (.ref q) H'
def spExplains : Sp := fun vs H Q _ => ∃ (p : Addr) (xs : List V) (rs : List Row) (D G : Int), vs = [.ref p, .int D, .int G] ∧ SeqV H p xs ∧ RowsAt H xs rs ∧ (∀ r, r ∈ rs → RowOk r) ∧ rs.length ≤ 60 ∧ (1 ≤ D ∧ D ≤ 100000000000000000000) ∧ (1 ≤ G ∧ G ≤ 100000000000000000000) ∧ ∀ (b : Bool) (H' : Hp), (b = true ↔ Solves (rs.map lineOf) D G) → Same H H' → Q (.bl b) H'
section
variable {P : Program} {w : World} {K : PySem.W.Frag} {mg : Str → Option Value} {base : Heap} {a : Adr}
theorem ok__law_integer (T : Txt K mg a) : FnOk P w K mg base CX0 1 a.a__law_integer a.d__law_integer ["_law_thing"] (spIsInteger K) := by
  refine T.F__law_integer.ok sc__law_integer (fun vs H Q E h => ?_) (fun cdv A outer s H vs Q E hr h => ?_)
  · obtain ⟨x, b, rfl, _⟩ := h
    rfl
  · obtain ⟨x, b, rfl, ⟨t, b1, b2, ty, h1, h2, rfl⟩, k⟩ := h
    refine ⟨_, (pss_one (ps_ret (pe_and (pe_callB call_isi (by rfl) T.n_isinstance (by decide +kernel) (pa_cons (pv 0) (pa_cons (pe_bltn (v := .ty "int") (u := .type "int") (by rfl) T.n_int (by decide +kernel) rfl) pa_nil))) (pe_one (pe_not (pe_callB call_isi (by rfl) T.n_isinstance (by decide +kernel) (pa_cons (pv 0) (pa_cons (pe_bltn (v := .ty "bool") (u := .type "bool") (by rfl) T.n_bool (by decide +kernel) rfl) pa_nil)))))))), ?_⟩
    repeat walk_at "rd"
    refine r_isi ty h1 ?_
    refine ⟨b1, rfl, ?_⟩
    cases b1 with
    | false => exact iteF k
    | true =>
      repeat walk_at "rd"
      refine r_isi ty h2 ?_
      exact ⟨b2, rfl, k⟩
theorem ok_explains (T : Txt K mg a) : FnOk P w K mg base CX0 7 a.a_explains a.d_explains ["rows", "letter", "gap"] spExplains := by
  refine T.F_explains.ok sc_explains (fun vs H Q E h => ?_) (fun cdv A outer s H vs Q E hr h => ?_)
  · obtain ⟨p, xs, rs, D, G, rfl, _⟩ := h
    rfl
  · obtain ⟨p, xs, rs, D, G, rfl, ep, hR, hok, hl, hD, hG, k⟩ := h
    have hi : LinesIn (rs.map lineOf) := fun l hl => by
      obtain ⟨r, hr, rfl⟩ := List.mem_map.mp hl
      exact (hok r hr).line
    refine ⟨_, (pss_cons (ps_expr (pe_call (ok_check_sightings T) (hr.mono (by decide)) (by rfl) T.g_check_sightings T.F_check_sightings.kp T.b_check_sightings .nil pass0 (pa_cons (pv 0) pa_nil)))
 (pss_cons (ps_if (pt_not (pt_val (pe_call (ok_is_between T) (hr.mono (by decide)) (by rfl) T.g_is_between T.F_is_between.kp T.b_is_between .nil pass0 (pa_cons (pv 1) (pa_cons pe_int (pa_cons (pe_glob (v := .int 100000000000000000000) (by rfl) T.g_GREATEST_TOLD.choose_spec ⟨_, rfl⟩) pa_nil)))))) (pss_one ps_never)
 pss_nil)
 (pss_cons (ps_if (pt_not (pt_val (pe_call (ok_is_between T) (hr.mono (by decide)) (by rfl) T.g_is_between T.F_is_between.kp T.b_is_between .nil pass0 (pa_cons (pv 2) (pa_cons pe_int (pa_cons (pe_glob (v := .int 100000000000000000000) (by rfl) T.g_GREATEST_TOLD.choose_spec ⟨_, rfl⟩) pa_nil)))))) (pss_one ps_never)
 pss_nil)
 (pss_one (ps_ret (pe_call (ok_fits T) (hr.mono (by decide)) (by rfl) T.g_fits T.F_fits.kp T.b_fits .nil pass0 (pa_cons (pe_call (ok_sums_of T) (hr.mono (by decide)) (by rfl) T.g_sums_of T.F_sums_of.kp T.b_sums_of .nil pass0 (pa_cons (pv 0) pa_nil)) (pa_cons (pv 1) (pa_cons (pv 2) pa_nil))))))))), ?_⟩
    repeat walk_at "rd"
    refine ⟨p, xs, rs, rfl, ep, hR, hok, hl, fun H1 s1 => ?_⟩
    repeat first | walk_at "rd" | walk_at "rdi"
    refine r_between ?_
    repeat walk_at "rd"
    refine r_nDT hD ?_
    repeat first | walk_at "rd" | walk_at "rdi"
    refine r_between ?_
    repeat walk_at "rd"
    refine r_nDT hG ?_
    repeat first | walk_at "rd" | walk_at "rdi"
    refine ⟨p, xs, rs, rfl, ep.keep s1, hR.keep s1, hok, hl, fun q ys H2 s2 eq hA => ?_⟩
    repeat walk_at "rd"
    refine ⟨q, ys, rs.map lineOf, D, G, rfl, eq, hA, hi, fun b hb => ?_⟩
    exact k b H2 hb (s1.trans s2)
end

/-! ### what is told are all the pairs -/
theorem com_diff {k j c p q D G D' G' : Int} (hc : Com k j c p q) (h : k * D + j * G = k * D' + j * G') : (∃ n, 0 ≤ n ∧ D' = D + n * q ∧ G' = G - n * p) ∨ ∃ n, 1 ≤ n ∧ D' = D - n * q ∧ G' = G + n * p := by
  by_cases c1 : G' ≤ G
  · obtain ⟨n, h1, h2, h3⟩ := hc.co (G - G') (D' - D) (by rw [Int.mul_sub, Int.sub_mul, Int.mul_comm G j, Int.mul_comm G' j]; omega) (by omega)
    exact .inl ⟨n, h3, by rw [Int.mul_comm n q]; omega, by rw [Int.mul_comm n p]; omega⟩
  · obtain ⟨n, h1, h2, h3⟩ := hc.co (G' - G) (D - D') (by rw [Int.mul_sub, Int.sub_mul, Int.mul_comm G j, Int.mul_comm G' j]; omega) (by omega)
    refine .inr ⟨n, ?_, by rw [Int.mul_comm n q]; omega, by rw [Int.mul_comm n p]; omega⟩
    by_cases z : n = 0
    · rw [z, Int.mul_zero] at h1; omega
    · omega
theorem one_only {ls : List L3} {D G D' G' : Int} (hi : LinesIn ls) (h : OneOk ls D G) (hs : Solves ls D' G') (d : 1 ≤ D') (g : 1 ≤ G') : D' = D ∧ G' = G := by
  obtain ⟨l0, hl0, hp0⟩ := h.up
  have hl0p : l0 ∈ ls.filter pos1 := List.mem_filter.mpr ⟨hl0, decide_eq_true hp0⟩
  by_cases hpar : Par (ls.filter pos1)
  · obtain ⟨f, hf⟩ : ∃ f, (ls.filter pos1).head? = some f := by
      cases e : ls.filter pos1 with
      | nil => rw [e] at hl0p; cases hl0p
      | cons f fs => exact ⟨f, rfl⟩
    obtain ⟨o1, o2⟩ := h.only hpar f hf
    have hfm := List.mem_of_head? hf
    have hfl := (List.mem_filter.mp hfm).1
    have hf1 : 0 < f.1 := of_decide_eq_true (List.mem_filter.mp hfm).2
    have hc := com_of hf1 (hi f hfl).2.2.1
    have hp := hc.p1
    have hq := hc.q0
    rcases com_diff hc ((h.sol f hfl).trans (hs f hfl).symm) with ⟨n, n0, e1, e2⟩ | ⟨n, n1, e1, e2⟩
    · by_cases z : n = 0
      · rw [z, Int.zero_mul] at e1 e2; omega
      · have : 1 * (f.1 / gcdI f.1 f.2.1) ≤ n * (f.1 / gcdI f.1 f.2.1) := Int.mul_le_mul_of_nonneg_right (by omega) (by omega)
        omega
    · have : 1 * (f.2.1 / gcdI f.1 f.2.1) ≤ n * (f.2.1 / gcdI f.1 f.2.1) := Int.mul_le_mul_of_nonneg_right n1 hq
      omega
  · obtain ⟨a, b, ha, hb, hu⟩ : ∃ a b, a ∈ ls.filter pos1 ∧ b ∈ ls.filter pos1 ∧ a.1 * b.2.1 ≠ b.1 * a.2.1 := Classical.byContradiction fun z => hpar fun a b ha hb => Classical.byContradiction fun y => z ⟨a, b, ha, hb, y⟩
    have ha' := (List.mem_filter.mp ha).1
    have hb' := (List.mem_filter.mp hb).1
    obtain ⟨h1, h2⟩ := two_pair ha' hb' (by omega) h.sol
    obtain ⟨h3, h4⟩ := two_pair ha' hb' (by omega) hs
    exact ⟨h3.symm.trans h1, h4.symm.trans h2⟩
theorem line_only {ls : List L3} {D G D' G' e f m : Int} (hi : LinesIn ls) (h : LineOk ls D G e f (some m)) (hs : Solves ls D' G') (d : 1 ≤ D') (g : 1 ≤ G') : ∃ n : Int, 0 ≤ n ∧ n < m ∧ D' = D + n * e ∧ G' = G + n * f := by
  obtain ⟨l0, hl0, hp0⟩ := h.up
  obtain ⟨m1, _, e1, _, _, _, hDe, hl, hh⟩ := h.many m rfl
  have hf : f < 0 := by omega
  have hc := com_of hp0 (hi l0 hl0).2.2.1
  obtain ⟨p, hp⟩ : ∃ p, l0.1 / gcdI l0.1 l0.2.1 = p := ⟨_, rfl⟩
  obtain ⟨q, hq⟩ : ∃ q, l0.2.1 / gcdI l0.1 l0.2.1 = q := ⟨_, rfl⟩
  rw [hp, hq] at hc
  have hp1 := hc.p1
  have hq0 := hc.q0
  obtain ⟨n, h1, h2, h3⟩ := hc.co (-f) e (by have := h.step l0 hl0; rw [Int.neg_mul, Int.mul_comm f]; omega) (by omega)
  have hn : n = 1 := by
    have hone := h.one
    have hgc := hc.gc
    rw [← gcdI_neg, h1, h2, gcdI_comm] at hone
    unfold gcdI at hone hgc
    rw [Int.natAbs_mul, Int.natAbs_mul, Nat.gcd_mul_right, Int.ofNat.inj (show ((Nat.gcd p.natAbs q.natAbs : Nat) : Int) = ((1 : Nat) : Int) from hgc), Nat.one_mul] at hone
    omega
  rw [hn, Int.mul_one] at h1 h2
  obtain rfl : f = -p := by omega
  subst h2
  rcases com_diff hc ((h.sol l0 hl0).trans (hs l0 hl0).symm) with ⟨n', n0, x1, x2⟩ | ⟨n', n1, x1, x2⟩
  · refine ⟨n', n0, ?_, x1, by rw [Int.mul_neg]; omega⟩
    by_cases z : n' < m
    · exact z
    · have : m * p ≤ n' * p := Int.mul_le_mul_of_nonneg_right (by omega) (by omega)
      rw [Int.mul_neg, Int.sub_mul] at hh
      omega
  · have : 1 * e ≤ n' * e := Int.mul_le_mul_of_nonneg_right n1 (by omega)
    omega
/-- some answer is right for a line -/
theorem line_told_ex {p q w : Int} (hp : 1 ≤ p) (hp9 : p ≤ 199) (hq : 0 ≤ q) (hq9 : q ≤ 200000000000000000) (hw : w ≤ 100000000000000000000) (hg : gcdI p q = 1) : ∃ r, LineTold p q w r := by
  by_cases hs : ∃ D G : Int, 1 ≤ D ∧ 1 ≤ G ∧ p * D + q * G = w
  · obtain ⟨D0, G0, d0, g0, e0⟩ := hs
    by_cases hq0 : q = 0
    · subst hq0
      have hp1 : p = 1 := by
        unfold gcdI at hg
        rw [show (0 : Int).natAbs = 0 from rfl, Nat.gcd_zero_right] at hg
        omega
      exact ⟨.line D0 1 0 1 none, ⟨by omega, d0, by decide, rfl, by omega, fun _ => ⟨rfl, rfl, rfl⟩, fun m e => nomatch e⟩⟩
    · have hq1 : 1 ≤ q := by omega
      -- D0 brought into 1..q
      obtain ⟨i, hi⟩ : ∃ i, (D0 - 1) / q = i := ⟨_, rfl⟩
      have i0 : 0 ≤ i := by rw [← hi]; exact Int.ediv_nonneg (by omega) (by omega)
      have h1 := Int.ediv_mul_le (D0 - 1) (show q ≠ 0 by omega)
      have h2 := Int.lt_ediv_add_one_mul_self (D0 - 1) (show 0 < q by omega)
      rw [hi] at h1 h2
      rw [Int.add_mul, Int.one_mul] at h2
      obtain ⟨D, hD⟩ : ∃ D, D0 - i * q = D := ⟨_, rfl⟩
      obtain ⟨G, hG⟩ : ∃ G, G0 + i * p = G := ⟨_, rfl⟩
      have hip : 0 ≤ i * p := Int.mul_nonneg i0 (by omega)
      have hsol : p * D + q * G = w := by
        rw [← hD, ← hG, Int.mul_sub, Int.mul_add, ← e0, show p * (i * q) = q * (i * p) by rw [Int.mul_left_comm, Int.mul_left_comm q i p, Int.mul_comm p q]]
        omega
      obtain ⟨c, hc⟩ : ∃ c, (G - 1) / p = c := ⟨_, rfl⟩
      have c1 := Int.ediv_mul_le (G - 1) (show p ≠ 0 by omega)
      have c2 := Int.lt_ediv_add_one_mul_self (G - 1) (show 0 < p by omega)
      have c0 : 0 ≤ (G - 1) / p := Int.ediv_nonneg (by omega) (by omega)
      rw [hc] at c0 c1 c2
      rw [Int.add_mul, Int.one_mul] at c2
      by_cases z : c = 0
      · subst z
        exact ⟨.one D G, hsol, by omega, by omega, by omega, by omega⟩
      · have hqG : q * G ≤ w := by
          have : 0 ≤ p * D := Int.mul_nonneg (by omega) (by omega)
          omega
        have hG9 : G ≤ w := by
          have : 1 * G ≤ q * G := Int.mul_le_mul_of_nonneg_right hq1 (by omega)
          omega
        have hc9 : c ≤ G := by
          have : c * 1 ≤ c * p := Int.mul_le_mul_of_nonneg_left hp c0
          omega
        refine ⟨.line D G q (-p) (some (c + 1)), ⟨hsol, by omega, by omega, by rw [gcdI_neg, gcdI_comm]; exact hg, by rw [Int.mul_neg, Int.mul_comm q p]; omega, (fun e => nomatch e), fun m e => ?_⟩⟩
        obtain rfl : c + 1 = m := Option.some.inj e
        rw [show c + 1 - 1 = c by omega, Int.mul_neg]
        exact ⟨by omega, by omega, hq1, by omega, by omega, by omega, by omega, by omega, by omega⟩
  · exact ⟨.no, fun D G d g h => hs ⟨D, G, d, g, h⟩⟩
/-- some answer is right for any lines -/
theorem told_ex {ls : List L3} (hi : LinesIn ls) : ∃ r, ToldOk ls r := by
  cases hfe : ls.filter nz with
  | nil =>
    refine ⟨.any, fun l hl => Classical.byContradiction fun z => ?_⟩
    have : l ∈ ls.filter nz := List.mem_filter.mpr ⟨hl, nz_iff.mpr z⟩
    rw [hfe] at this
    cases this
  | cons f fs =>
    have hfm : f ∈ ls.filter nz := by rw [hfe]; exact List.mem_cons_self ..
    have hfl := (List.mem_filter.mp hfm).1
    have hfz := nz_iff.mp (List.mem_filter.mp hfm).2
    by_cases hpos : ∀ l, l ∈ ls.filter nz → 0 < l.1
    · by_cases hpar : ∀ l, l ∈ ls.filter nz → f.1 * l.2.1 = l.1 * f.2.1
      · obtain ⟨k, j, t⟩ := f
        have hk := hpos _ hfm
        obtain ⟨a0, a1, a2, a3, _, a4, a5, _⟩ := hi _ hfl
        dsimp only at hk a0 a1 a2 a3 a4 a5
        have hc := com_of hk a2
        have c1 := hc.c1
        have hpk : k / gcdI k j ≤ k := Int.ediv_le_self _ (by omega)
        have hqj : j / gcdI k j ≤ j := Int.ediv_le_self _ a2
        have htt : t / gcdI k j ≤ t := Int.ediv_le_self _ a4
        by_cases hw : ∀ l, l ∈ ls.filter nz → t / gcdI k j * (l.1 / (k / gcdI k j)) = l.2.2
        · obtain ⟨r, hr⟩ := line_told_ex (w := t / gcdI k j) hc.p1 (by omega) hc.q0 (by omega) (by omega) hc.gc
          exact ⟨r, told_mult hi hc hpos hpar hfm hw hr⟩
        · refine ⟨.no, fun D G d g hsol => hw (mult_of hc (fun l hl => hi l (List.mem_filter.mp hl).1) hpar hfm (solves_nz.mpr hsol)).2, _, hfl, hfz⟩
      · by_cases hs : ∃ D G : Int, 1 ≤ D ∧ 1 ≤ G ∧ Solves ls D G
        · obtain ⟨D, G, d, g, hsol⟩ := hs
          refine ⟨.one D G, hsol, d, g, ⟨f, hfl, hpos f hfm⟩, fun hp => absurd (fun l hl => ?_) hpar⟩
          exact hp f l (List.mem_filter.mpr ⟨hfl, decide_eq_true (hpos f hfm)⟩) (List.mem_filter.mpr ⟨(List.mem_filter.mp hl).1, decide_eq_true (hpos l hl)⟩)
        · exact ⟨.no, fun D G d g h => hs ⟨D, G, d, g, h⟩, f, hfl, hfz⟩
    · obtain ⟨l, hl, hl1⟩ : ∃ l, l ∈ ls.filter nz ∧ ¬ 0 < l.1 := Classical.byContradiction fun z => hpos fun l hl => Classical.byContradiction fun y => z ⟨l, hl, y⟩
      have hll := (List.mem_filter.mp hl).1
      have hlz := nz_iff.mp (List.mem_filter.mp hl).2
      obtain ⟨a0, _, _, _, a1, _⟩ := hi l hll
      have e1 : l.1 = 0 := by omega
      exact ⟨.no, No.zero hll e1 (a1 e1) (fun z => hlz (Prod.ext e1 (Prod.ext (a1 e1) z))), l, hll, hlz⟩
theorem line_two {ls : List L3} {D G e f : Int} {c : Option Int} (h : LineOk ls D G e f c) : Solves ls (D + e) (G + f) ∧ 1 ≤ D + e ∧ 1 ≤ G + f := by
  have hs := solves_step (m := 1) h.sol h.step
  rw [Int.one_mul, Int.one_mul] at hs
  have d := h.d1
  have g := h.g1
  cases c with
  | none => obtain ⟨e0, f1, g1⟩ := h.free rfl; exact ⟨hs, by omega, by omega⟩
  | some m =>
    obtain ⟨m1, _, e1, _, _, _, _, hl, hh⟩ := h.many m rfl
    refine ⟨hs, by omega, ?_⟩
    have : (m - 1) * f ≤ 1 * f := Int.mul_le_mul_of_nonpos_right (by omega) (by omega)
    omega
theorem one_line {ls : List L3} {D G D' G' e f : Int} {c : Option Int} (hi : LinesIn ls) (h : OneOk ls D G) (k : LineOk ls D' G' e f c) : False := by
  obtain ⟨s2, d2, g2⟩ := line_two k
  have h1 := one_only hi h k.sol k.d1 k.g1
  have h2 := one_only hi h s2 d2 g2
  have he : e = 0 := by omega
  have hf : f = 0 := by omega
  have := k.one
  rw [he, hf] at this
  exact absurd this (by decide)
theorem line_line {ls : List L3} {D G e f m D' G' e' f' m' : Int} (hi : LinesIn ls) (h : LineOk ls D G e f (some m)) (k : LineOk ls D' G' e' f' (some m')) : D = D' ∧ G = G' ∧ e = e' ∧ f = f' ∧ m = m' := by
  obtain ⟨a1, _, a2, _, _, _, _, a3, a4⟩ := h.many m rfl
  obtain ⟨b1, _, b2, _, _, _, _, b3, b4⟩ := k.many m' rfl
  obtain ⟨n, n0, _, x1, x2⟩ := line_only hi h k.sol k.d1 k.g1
  obtain ⟨n', n0', _, y1, y2⟩ := line_only hi k h.sol h.d1 h.g1
  have p1 : 0 ≤ n * e := Int.mul_nonneg n0 (by omega)
  have p2 : 0 ≤ n' * e' := Int.mul_nonneg n0' (by omega)
  have hD : D = D' := by omega
  have hn : n = 0 := by
    have : n * e = 0 := by omega
    rcases Int.mul_eq_zero.mp this with z | z
    · exact z
    · omega
  rw [hn, Int.zero_mul] at x2
  obtain ⟨s2, d2, g2⟩ := line_two k
  obtain ⟨t2, c2, f2⟩ := line_two h
  obtain ⟨a, a0, _, u1, u2⟩ := line_only hi h s2 d2 g2
  obtain ⟨b, b0, _, v1, v2⟩ := line_only hi k t2 c2 f2
  have ha1 : 1 ≤ a := by
    by_cases z : a = 0
    · rw [z, Int.zero_mul] at u1; omega
    · omega
  have hb1 : 1 ≤ b := by
    by_cases z : b = 0
    · rw [z, Int.zero_mul] at v1; omega
    · omega
  have q1 : 1 * e ≤ a * e := Int.mul_le_mul_of_nonneg_right ha1 (by omega)
  have q2 : 1 * e' ≤ b * e' := Int.mul_le_mul_of_nonneg_right hb1 (by omega)
  have he : e = e' := by omega
  have ha : a = 1 := by
    have z0 : (a - 1) * e = 0 := by rw [Int.sub_mul]; omega
    rcases Int.mul_eq_zero.mp z0 with z | z
    · omega
    · omega
  rw [ha, Int.one_mul] at u2
  have hf : f = f' := by omega
  refine ⟨hD, by omega, he, hf, ?_⟩
  subst hf
  have hG : G' = G := by omega
  rw [hG] at b3 b4
  have hf0 : f < 0 := by omega
  by_cases c1 : m < m'
  · have : (m' - 1) * f ≤ m * f := Int.mul_le_mul_of_nonpos_right (by omega) (by omega)
    rw [Int.sub_mul] at a4
    omega
  · by_cases c2 : m' < m
    · have : (m - 1) * f ≤ m' * f := Int.mul_le_mul_of_nonpos_right (by omega) (by omega)
      rw [Int.sub_mul] at b4
      omega
    · omega
/-- only one answer is right -/
theorem told_unique {ls : List L3} {r r' : Told} (hi : LinesIn ls) (h : ToldOk ls r) (k : ToldOk ls r') : r = r' := by
  have zero : (∀ l, l ∈ ls → l = (0, 0, 0)) → ¬ ∃ l, l ∈ ls ∧ 0 < l.1 := fun z ⟨l, hl, h⟩ => by rw [z l hl] at h; exact absurd h (by decide)
  cases r with
  | any =>
    cases r' with
    | any => rfl
    | no => obtain ⟨l, hl, hz⟩ := k.2; exact absurd (h l hl) hz
    | one D G => exact absurd k.up (zero h)
    | line D G e f c => exact absurd k.up (zero h)
  | no =>
    cases r' with
    | any => obtain ⟨l, hl, hz⟩ := h.2; exact absurd (k l hl) hz
    | no => rfl
    | one D G => exact absurd k.sol (h.1 D G k.d1 k.g1)
    | line D G e f c => exact absurd k.sol (h.1 D G k.d1 k.g1)
  | one D G =>
    cases r' with
    | any => exact absurd h.up (zero k)
    | no => exact absurd h.sol (k.1 D G h.d1 h.g1)
    | one D' G' => obtain ⟨rfl, rfl⟩ := one_only hi h k.sol k.d1 k.g1; rfl
    | line D' G' e f c => exact (one_line hi h k).elim
  | line D G e f c =>
    cases r' with
    | any => exact absurd h.up (zero k)
    | no => exact absurd h.sol (k.1 D G h.d1 h.g1)
    | one D' G' => exact (one_line hi k h).elim
    | line D' G' e' f' c' =>
      obtain ⟨l, hl, hl1⟩ := h.up
      cases c with
      | none =>
        obtain ⟨rfl, rfl, rfl⟩ := h.free rfl
        have h1 := h.step l hl
        have hj : l.2.1 = 0 := by rw [Int.mul_zero, Int.mul_one] at h1; omega
        cases c' with
        | none =>
          obtain ⟨rfl, rfl, rfl⟩ := k.free rfl
          have h2 := (h.sol l hl).trans (k.sol l hl).symm
          have : D = D' := Int.eq_of_mul_eq_mul_left (show l.1 ≠ 0 by omega) (by omega)
          rw [this]
        | some m =>
          have h2 := k.step l hl
          have h3 := k.many m rfl
          rw [hj, Int.zero_mul] at h2
          rcases Int.mul_eq_zero.mp (show l.1 * e' = 0 by omega) with z | z
          · omega
          · omega
      | some m =>
        cases c' with
        | none =>
          obtain ⟨rfl, rfl, rfl⟩ := k.free rfl
          have h1 := k.step l hl
          have hj : l.2.1 = 0 := by rw [Int.mul_zero, Int.mul_one] at h1; omega
          have h2 := h.step l hl
          have h3 := h.many m rfl
          rw [hj, Int.zero_mul] at h2
          rcases Int.mul_eq_zero.mp (show l.1 * e = 0 by omega) with z | z
          · omega
          · omega
        | some m' => obtain ⟨rfl, rfl, rfl, rfl, rfl⟩ := line_line hi h k; rfl
/-- where the pairs lie -/
theorem sol_box {ls : List L3} {most D G : Int} (hi : LinesIn ls) (hm : ∀ l, l ∈ ls → l.2.2 ≤ most) (hs : Solves ls D G) (d : 1 ≤ D) (g : 1 ≤ G) : ((∃ l, l ∈ ls ∧ 0 < l.1) → D ≤ most) ∧ ((∃ l, l ∈ ls ∧ 0 < l.2.1) → G ≤ most) := by
  refine ⟨fun ⟨l, hl, h⟩ => ?_, fun ⟨l, hl, h⟩ => ?_⟩
  · have h1 := hs l hl
    have h2 := hm l hl
    have h3 : 1 * D ≤ l.1 * D := Int.mul_le_mul_of_nonneg_right (by omega) (by omega)
    have h4 : 0 ≤ l.2.1 * G := Int.mul_nonneg (hi l hl).2.2.1 (by omega)
    omega
  · have h1 := hs l hl
    have h2 := hm l hl
    have h3 : 1 * G ≤ l.2.1 * G := Int.mul_le_mul_of_nonneg_right (by omega) (by omega)
    have h4 : 0 ≤ l.1 * D := Int.mul_nonneg (hi l hl).1 (by omega)
    omega

/-! ### rows, as the heap changes -/
theorem tup_but {H H' : Hp} {p q f : Addr} {xs : List V} (e : H f = some (.tup xs)) (hs : SrcAt H p q) (b : But p H H') : H' f = some (.tup xs) := b _ _ e (fun z => by
  obtain ⟨cs, i, big, cnt, st, h1, _⟩ := hs
  rw [z, h1] at e; cases e)
theorem lst_ne {H : Hp} {p f : Addr} {xs ys : List V} (e : H f = some (.tup xs)) (h : H p = some (.lst ys)) : f ≠ p := fun z => by rw [z, h] at e; cases e
theorem RowAt.but {H H' : Hp} {x : V} {r : Row} {p q : Addr} (h : RowAt H x r) (hs : SrcAt H p q) (b : But p H H') : RowAt H' x r := let ⟨t, z, e, h1, h2⟩ := h; ⟨t, z, e, tup_but h1 hs b, tup_but h2 hs b⟩
theorem RowsAt.but {H H' : Hp} {xs : List V} {rs : List Row} {p q : Addr} (h : RowsAt H xs rs) (hs : SrcAt H p q) (b : But p H H') : RowsAt H' xs rs := ⟨h.1, fun i r hr => let ⟨x, e, z⟩ := h.2 i r hr; ⟨x, e, z.but hs b⟩⟩
theorem RowAt.upd {H : Hp} {L : Addr} {ys : List V} {o : HO} {x : V} {r : Row} (h : RowAt H x r) (e : H L = some (.lst ys)) : RowAt (L2.upd H L o) x r := let ⟨t, z, e0, h1, h2⟩ := h; ⟨t, z, e0, (upd_ne (lst_ne h1 e)).trans h1, (upd_ne (lst_ne h2 e)).trans h2⟩
theorem RowsAt.upd {H : Hp} {L : Addr} {ys xs : List V} {o : HO} {rs : List Row} (h : RowsAt H xs rs) (e : H L = some (.lst ys)) : RowsAt (L2.upd H L o) xs rs := ⟨h.1, fun i r hr => let ⟨x, e1, z⟩ := h.2 i r hr; ⟨x, e1, z.upd e⟩⟩
theorem RowsAt.nil {H : Hp} : RowsAt H [] [] := ⟨rfl, fun i r h => by simp at h⟩
theorem RowsAt.snoc {H : Hp} {xs : List V} {rs : List Row} {x : V} {r : Row} (h : RowsAt H xs rs) (hx : RowAt H x r) : RowsAt H (xs ++ [x]) (rs ++ [r]) := ⟨by rw [List.length_append, List.length_append, h.1]; rfl, fun i r' hr => by
  by_cases hi : i < rs.length
  · rw [List.getElem?_append_left hi] at hr
    rw [List.getElem?_append_left (by rw [h.1]; exact hi)]
    exact h.2 i r' hr
  · have hl := (List.getElem?_eq_some_iff.mp hr).1
    rw [List.length_append, List.length_singleton] at hl
    obtain rfl : i = rs.length := by omega
    rw [List.getElem?_append_right (Nat.le_refl _), Nat.sub_self] at hr
    obtain rfl : r = r' := by simpa using hr
    exact ⟨x, by rw [← h.1, List.getElem?_append_right (Nat.le_refl _), Nat.sub_self]; rfl, hx⟩⟩
theorem RowsAt.set {H : Hp} {xs : List V} {rs : List Row} {x : V} {r : Row} {i : Nat} (h : RowsAt H xs rs) (hx : RowAt H x r) : RowsAt H (xs.set i x) (rs.set i r) := ⟨by rw [List.length_set, List.length_set, h.1], fun j r' hr => by
  rw [List.getElem?_set] at hr ⊢
  by_cases c : i = j
  · rw [if_pos c] at hr ⊢
    split at hr
    · rename_i hlt
      rw [if_pos (by rw [h.1]; exact hlt)]
      obtain rfl := Option.some.inj hr
      exact ⟨x, rfl, hx⟩
    · cases hr
  · rw [if_neg c] at hr ⊢
    exact h.2 j r' hr⟩
def ItIn (zs : List Int) : Prop := ∀ z, z ∈ zs → 0 ≤ z ∧ z ≤ 1000000000000000
theorem ItIn.app {xs ys : List Int} (h : ItIn xs) (k : ItIn ys) : ItIn (xs ++ ys) := fun z hz => (List.mem_append.mp hz).elim (h z) (k z)
theorem r_catA {K : PySem.W.Frag} {H : Hp} {Q : VK} {a b : Addr} {xs ys : List V} (h1 : H a = some (.tup xs)) (h2 : H b = some (.tup ys)) (n1 : xs ≠ []) (hl : xs.length + ys.length ≤ 1000) (q : ∀ p H', Same H H' → H' p = some (.tup (xs ++ ys)) → Q (.ref p) H') : rCatT K (.ref a) (.ref b) H Q := by
  refine ⟨a, b, xs, ys, rfl, rfl, SqT.of h1, SqT.of h2, n1, Nat.le_trans hl (by decide), fun he => ?_, fun _ p hp => q p _ (Same.new hp) upd_same⟩
  subst he
  exact q a H (Same.refl H) (by rw [List.append_nil]; exact h1)

/-! ### compares of strings -/
theorem r_eqStr {H : Hp} {Q : VK} {x y : Str} (b : Bool) (h : decide (V.str x = V.str y) = b) (q : Q (.bl b) H) : rEq (.str x) (.str y) H Q := ⟨rfl, by rw [h]; exact q⟩
theorem r_neStr {H : Hp} {Q : VK} {x y : Str} (b : Bool) (h : decide (V.str x = V.str y) = b) (q : Q (.bl (!b)) H) : rNe (.str x) (.str y) H Q := ⟨rfl, by rw [h]; exact q⟩
theorem r_isNs {H : Hp} {Q : VK} {s : Str} (q : Q (.bl false) H) : rIsNo (.str s) .non H Q := ⟨rfl, q⟩
theorem r_notNs {H : Hp} {Q : VK} {s : Str} (q : Q (.bl true) H) : rNotNo (.str s) .non H Q := ⟨rfl, q⟩

/-! ### the same values, in two places: none, ints, texts, tuples of such -/
inductive Leaf : V → Prop
  | non : Leaf .non
  | int (i : Int) : Leaf (.int i)
  | str (s : Str) : Leaf (.str s)
def SamA (R : V → V → Prop) : List V → List V → Prop
  | [], [] => True
  | x :: xs, y :: ys => R x y ∧ SamA R xs ys
  | _, _ => False
theorem SamA.len {R : V → V → Prop} : ∀ {xs ys : List V}, SamA R xs ys → xs.length = ys.length
  | [], [], _ => rfl
  | _ :: _, _ :: _, h => congrArg (· + 1) h.2.len
  | [], _ :: _, h => h.elim
  | _ :: _, [], h => h.elim
theorem SamA.get {R : V → V → Prop} : ∀ {xs ys : List V} {i : Nat} {x y : V}, SamA R xs ys → xs[i]? = some x → ys[i]? = some y → R x y
  | [], [], _, _, _, _, h, _ => by simp at h
  | x :: xs, y :: ys, 0, _, _, h, h1, h2 => by
    obtain rfl := Option.some.inj h1
    obtain rfl := Option.some.inj h2
    exact h.1
  | x :: xs, y :: ys, i + 1, _, _, h, h1, h2 => h.2.get (i := i) h1 h2
  | [], _ :: _, _, _, _, h, _, _ => h.elim
  | _ :: _, [], _, _, _, h, _, _ => h.elim
def SamV : Nat → Hp → V → V → Prop
  | 0, _, _, _ => False
  | n + 1, H, v, w => (v = w ∧ Leaf v) ∨ ∃ (p q : Addr) (xs ys : List V), v = .ref p ∧ w = .ref q ∧ H p = some (.tup xs) ∧ H q = some (.tup ys) ∧ xs.length ≤ 1000 ∧ SamA (SamV n H) xs ys
def spSame (n : Nat) : Sp := fun vs H Q _ => ∃ v w : V, vs = [v, w] ∧ SamV n H v w ∧ Q (.bl true) H
section
variable {P : Program} {w : World} {K : PySem.W.Frag} {mg : Str → Option Value} {base : Heap} {a : Adr}
theorem no__law_same (T : Txt K mg a) : FnOk P w K mg base CX0 2 a.a__law_same a.d__law_same ["_law_told", "_law_due"] (spSame 0) := by
  refine T.F__law_same.ok sc__law_same (fun vs H Q E h => ?_) (fun cdv A outer s H vs Q E hr h => ?_)
  · obtain ⟨_, _, _, h, _⟩ := h; exact h.elim
  · obtain ⟨_, _, _, h, _⟩ := h; exact h.elim
theorem same_step (T : Txt K mg a) {n m : Nat} (hc : FnOk P w K mg base CX0 (m + 2) a.a__law_same a.d__law_same ["_law_told", "_law_due"] (spSame n)) : FnOk P w K mg base CX0 (m + 3) a.a__law_same a.d__law_same ["_law_told", "_law_due"] (spSame (n + 1)) := by
  have ok__law_same : Txt K mg a → FnOk P w K mg base CX0 (m + 2) a.a__law_same a.d__law_same ["_law_told", "_law_due"] (spSame n) := fun _ => hc
  refine T.F__law_same.ok sc__law_same (fun vs H Q E h => ?_) (fun cdv A outer s H vs Q E hr h => ?_)
  · obtain ⟨v, w, rfl, _⟩ := h
    rfl
  · obtain ⟨v, w, rfl, hs, k⟩ := h
    refine ⟨_, (pss_cons (ps_if (pt_cmpR op_isNo (pv 1) pe_non (nomark _)) (pss_one (ps_ret (pe_cmpR op_isNo (pv 0) pe_non (nomark _))))
 pss_nil)
 (pss_cons (ps_if (pt_val (pe_callB call_isi (by rfl) T.n_isinstance (by decide +kernel) (pa_cons (pv 1) (pa_cons (pe_bltn (v := .ty "bool") (u := .type "bool") (by rfl) T.n_bool (by decide +kernel) rfl) pa_nil)))) (pss_one (ps_ret (pe_and (pe_callB call_isi (by rfl) T.n_isinstance (by decide +kernel) (pa_cons (pv 0) (pa_cons (pe_bltn (v := .ty "bool") (u := .type "bool") (by rfl) T.n_bool (by decide +kernel) rfl) pa_nil))) (pe_one (pe_cmpR op_eq (pv 0) (pv 1) (nomark _))))))
 pss_nil)
 (pss_cons (ps_if (pt_val (pe_callB call_isi (by rfl) T.n_isinstance (by decide +kernel) (pa_cons (pv 1) (pa_cons (pe_bltn (v := .ty "int") (u := .type "int") (by rfl) T.n_int (by decide +kernel) rfl) pa_nil)))) (pss_one (ps_ret (pe_and (pe_call (ok__law_integer T) (hr.mono (by omega)) (by rfl) T.g__law_integer T.F__law_integer.kp T.b__law_integer .nil pass0 (pa_cons (pv 0) pa_nil)) (pe_one (pe_cmpR op_eq (pv 0) (pv 1) (nomark _))))))
 pss_nil)
 (pss_cons (ps_if (pt_val (pe_callB call_isi (by rfl) T.n_isinstance (by decide +kernel) (pa_cons (pv 1) (pa_cons (pe_bltn (v := .ty "str") (u := .type "str") (by rfl) T.n_str (by decide +kernel) rfl) pa_nil)))) (pss_one (ps_ret (pe_and (pe_callB call_isi (by rfl) T.n_isinstance (by decide +kernel) (pa_cons (pv 0) (pa_cons (pe_bltn (v := .ty "str") (u := .type "str") (by rfl) T.n_str (by decide +kernel) rfl) pa_nil))) (pe_one (pe_cmpR op_eq (pv 0) (pv 1) (nomark _))))))
 pss_nil)
 (pss_cons (ps_if (PW.pt (pw_and (pt_val (pe_callB call_isi (by rfl) T.n_isinstance (by decide +kernel) (pa_cons (pv 1) (pa_cons (pe_bltn (v := .ty "list") (u := .type "list") (by rfl) T.n_list (by decide +kernel) rfl) pa_nil)))) (pw_and1 (pt_not (pt_val (pe_callB call_isi (by rfl) T.n_isinstance (by decide +kernel) (pa_cons (pv 0) (pa_cons (pe_bltn (v := .ty "list") (u := .type "list") (by rfl) T.n_list (by decide +kernel) rfl) pa_nil)))))))) (pss_one (ps_ret pe_bl))
 pss_nil)
 (pss_cons (ps_if (PW.pt (pw_and (pt_val (pe_callB call_isi (by rfl) T.n_isinstance (by decide +kernel) (pa_cons (pv 1) (pa_cons (pe_bltn (v := .ty "tuple") (u := .type "tuple") (by rfl) T.n_tuple (by decide +kernel) rfl) pa_nil)))) (pw_and1 (pt_not (pt_val (pe_callB call_isi (by rfl) T.n_isinstance (by decide +kernel) (pa_cons (pv 0) (pa_cons (pe_bltn (v := .ty "tuple") (u := .type "tuple") (by rfl) T.n_tuple (by decide +kernel) rfl) pa_nil)))))))) (pss_one (ps_ret pe_bl))
 pss_nil)
 (pss_cons (ps_if (pt_cmpR op_ne (pe_callB call_len_seq (by rfl) T.n_len (by decide +kernel) (pa_cons (pv 0) pa_nil)) (pe_callB call_len_seq (by rfl) T.n_len (by decide +kernel) (pa_cons (pv 1) pa_nil)) (nomark _)) (pss_one (ps_ret pe_bl))
 pss_nil)
 (pss_cons (ps_for (by exact PassesOwn.never) rfl (pi_range1 (by rfl) T.n_range (pa_cons (pe_callB call_len_seq (by rfl) T.n_len (by decide +kernel) (pa_cons (pv 1) pa_nil)) pa_nil)) (pg_name (i := 2) sc__law_same.nd rfl (Or.inl rfl))
 (pss_one (ps_if (pt_not (pt_val (pe_call (ok__law_same T) (hr.mono (by omega)) (by rfl) T.g__law_same T.F__law_same.kp T.b__law_same .nil pass0 (pa_cons (pe_ix ix_seq (pv 0) (pv 2) (fun _ _ => rfl)) (pa_cons (pe_ix ix_seq (pv 1) (pv 2) (fun _ _ => rfl)) pa_nil))))) (pss_one (ps_ret pe_bl))
 pss_nil)))
 (pss_one (ps_ret pe_bl)))))))))), ?_⟩
    rcases hs with ⟨rfl, lf⟩ | ⟨p, q, xs, ys, rfl, rfl, hp, hq, hl, hx⟩
    · cases lf with
      | non =>
        repeat first | walk_at "rd" | walk_at "rdi"
        exact k
      | int i =>
        repeat first | walk_at "rd" | walk_at "rdi"
        refine ⟨_, true, rfl, IntV.int, ?_⟩
        repeat first | walk_at "rd" | walk_at "rdi"
        rw [decide_eq_true rfl]
        exact k
      | str s =>
        repeat first | refine r_isNs ?_ | refine r_isi (n := "bool") (b := false) (.base (.str _)) (kit_ty (by decide +kernel)) ?_ | refine r_isi (n := "int") (b := false) (.base (.str _)) (kit_ty (by decide +kernel)) ?_ | refine r_isi (n := "str") (b := true) (.base (.str _)) (kit_ty (by decide +kernel)) ?_ | walk_at "rd" | walk_at "rdi"
        refine r_eqStr true (decide_eq_true rfl) ?_
        exact k
    · repeat first | refine r_isiTu false hq (by decide +kernel) ?_ | refine r_isiTu true hq (by decide +kernel) ?_ | refine r_isiTu true hp (by decide +kernel) ?_ | walk_at "rd" | walk_at "rdi"
      refine r_nDT (show ((xs.length : Nat) : Int) = ys.length by rw [hx.len]) ?_
      have hyl := hx.len
      repeat first | walk_at "rd" | walk_at "rdi"
      refine ⟨by omega, by omega, ?_⟩
      rw [Int.toNat_natCast]
      refine for_range (lo := 0) (n := ys.length) (fun i σ H' => ∃ v : Option V, σ = [some (.ref p), some (.ref q), v] ∧ H' = H) ⟨_, rfl, rfl⟩ ?_ ?_
      · rintro i σ H1 hi ⟨v, rfl, rfl⟩
        have g1 : xs[i]? = some xs[i] := List.getElem?_eq_getElem (by omega)
        have g2 : ys[i]? = some ys[i] := List.getElem?_eq_getElem hi
        have a1 : atI xs (0 + (i : Int)) = some xs[i] := by rw [show 0 + (i : Int) = i by omega]; exact atI_nat g1
        have a2 : atI ys (0 + (i : Int)) = some ys[i] := by rw [show 0 + (i : Int) = i by omega]; exact atI_nat g2
        repeat first | walk_at "rd" | walk_at "rdi"
        refine Or.inr (Or.inl (r_ixT hp a1 ?_))
        repeat walk_at "rd"
        refine Or.inr (Or.inl (r_ixT hq a2 ?_))
        repeat walk_at "rd"
        refine ⟨_, _, rfl, hx.get g1 g2, ?_⟩
        repeat first | exact ⟨_, rfl, rfl⟩ | walk_at "rd" | walk_at "rdi"
      · rintro σ H1 ⟨v, rfl, rfl⟩
        repeat walk_at "rd"
        exact k
theorem ok__law_same (T : Txt K mg a) : FnOk P w K mg base CX0 5 a.a__law_same a.d__law_same ["_law_told", "_law_due"] (spSame 3) := same_step T (same_step T (same_step T (no__law_same T)))
end

/-! ### what is told does not depend on the order -/
theorem par_red {a b : L3} (ha : 0 < a.1) (hb : 0 < b.1) (ha2 : 0 ≤ a.2.1) (hb2 : 0 ≤ b.2.1) (h : a.1 * b.2.1 = b.1 * a.2.1) : b.1 / gcdI b.1 b.2.1 = a.1 / gcdI a.1 a.2.1 ∧ b.2.1 / gcdI b.1 b.2.1 = a.2.1 / gcdI a.1 a.2.1 := by
  have hc := com_of ha ha2
  obtain ⟨p, hp⟩ : ∃ p, a.1 / gcdI a.1 a.2.1 = p := ⟨_, rfl⟩
  obtain ⟨q, hq⟩ : ∃ q, a.2.1 / gcdI a.1 a.2.1 = q := ⟨_, rfl⟩
  rw [hp, hq] at hc ⊢
  obtain ⟨n, h1, h2, h3⟩ := hc.co b.1 b.2.1 h (by omega)
  have hp1 := hc.p1
  have hn : 0 < n := by
    by_cases z : n = 0
    · rw [z, Int.mul_zero] at h1; omega
    · omega
  have hg : gcdI b.1 b.2.1 = n := by
    have hgc := hc.gc
    rw [h1, h2]
    unfold gcdI at hgc ⊢
    rw [Int.natAbs_mul, Int.natAbs_mul, Nat.gcd_mul_right, Int.ofNat.inj (show ((Nat.gcd p.natAbs q.natAbs : Nat) : Int) = ((1 : Nat) : Int) from hgc), Nat.one_mul]
    omega
  rw [hg, h1, h2]
  exact ⟨Int.mul_ediv_cancel _ (by omega), Int.mul_ediv_cancel _ (by omega)⟩
theorem told_mem {ls ls' : List L3} {r : Told} (hi : LinesIn ls) (hm : ∀ l, l ∈ ls ↔ l ∈ ls') (h : ToldOk ls r) : ToldOk ls' r := by
  have hs : ∀ D G, Solves ls' D G ↔ Solves ls D G := fun D G => ⟨fun z l hl => z l ((hm l).mp hl), fun z l hl => z l ((hm l).mpr hl)⟩
  cases r with
  | any => exact fun l hl => h l ((hm l).mpr hl)
  | no => exact ⟨fun D G d g z => h.1 D G d g ((hs D G).mp z), by obtain ⟨l, hl, hz⟩ := h.2; exact ⟨l, (hm l).mp hl, hz⟩⟩
  | one D G =>
    have h : OneOk ls D G := h
    have hf : ∀ l, l ∈ ls.filter pos1 ↔ l ∈ ls'.filter pos1 := fun l => by rw [List.mem_filter, List.mem_filter, hm]
    refine ⟨(hs D G).mpr h.sol, h.d1, h.g1, by obtain ⟨l, hl, hz⟩ := h.up; exact ⟨l, (hm l).mp hl, hz⟩, fun hp l hl => ?_⟩
    have hl' : l ∈ ls.filter pos1 := (hf l).mpr (List.mem_of_head? hl)
    have hP : Par (ls.filter pos1) := fun a b ha hb => hp a b ((hf a).mp ha) ((hf b).mp hb)
    cases e : ls.filter pos1 with
    | nil => rw [e] at hl'; cases hl'
    | cons x t =>
      have hx : x ∈ ls.filter pos1 := by rw [e]; exact List.mem_cons_self ..
      have h1 := h.only hP x (by rw [e]; rfl)
      have hxp := List.mem_filter.mp hx
      have hlp := List.mem_filter.mp hl'
      have h2 := par_red (a := x) (b := l) (of_decide_eq_true hxp.2) (of_decide_eq_true hlp.2) (hi x hxp.1).2.2.1 (hi l hlp.1).2.2.1 (hP x l hx hl')
      rw [h2.1, h2.2]
      exact h1
  | line D G e f c =>
    have h : LineOk ls D G e f c := h
    exact ⟨(hs D G).mpr h.sol, h.d1, h.g1, by obtain ⟨l, hl, hz⟩ := h.up; exact ⟨l, (hm l).mp hl, hz⟩, fun a b ha hb => h.par a b ((hm a).mpr ha) ((hm b).mpr hb), h.one, fun l hl => h.step l ((hm l).mpr hl), h.free, h.many⟩
/-- two unlike lines: one pair -/
theorem told_unlike {ls : List L3} {r : Told} {a b : L3} {D G : Int} (hi : LinesIn ls) (h : ToldOk ls r) (ha : a ∈ ls) (hb : b ∈ ls) (hpos : 0 < a.1) (hu : b.2.1 * a.1 ≠ a.2.1 * b.1) (hs : Solves ls D G) (d : 1 ≤ D) (g : 1 ≤ G) : r = .one D G := by
  cases r with
  | any => have := h a ha; rw [this] at hpos; exact absurd hpos (by decide)
  | no => exact absurd hs (h.1 D G d g)
  | one D' G' => obtain ⟨rfl, rfl⟩ := one_only hi h hs d g; rfl
  | line D' G' e f c =>
    exfalso
    have h1 := h.par a b ha hb
    rw [Int.mul_comm a.1, Int.mul_comm b.1] at h1
    exact hu h1
def ToldSol (ls : List L3) (r : Told) : Prop := ∃ D G : Int, Solves ls D G ∧ 1 ≤ D ∧ 1 ≤ G

/-! ### the law of k65: pairs and what is told -/
theorem r_mulW {H : Hp} {Q : VK} {i j : Int} (h1 : i.natAbs < 2 ^ 130) (h2 : j.natAbs < 2 ^ 100) (q : Q (.int (i * j)) H) : rI CMulW (fun i j => .int (i * j)) (.int i) (.int j) H Q := ⟨i, j, rfl, rfl, wide_mul h1 h2 (by decide) (by decide) (by decide), q⟩
theorem r_eqT0 {K : PySem.W.Frag} {H : Hp} {Q : VK} {p q : Addr} {xs : List Int} (h1 : H p = some (.tup (xs.map V.int))) (h2 : H q = some (.tup (xs.map V.int))) (k : Q (.bl true) H) : rEqD K (.ref p) (.ref q) H Q := by
  refine ⟨_, _, .tup (SqT.of h1) (dp_ints xs), .tup (SqT.of h2) (dp_ints xs), sh_tints xs, sh_tints xs, ?_⟩
  rw [show PyData.eqv (.tuple (xs.map PyData.int)) (.tuple (xs.map PyData.int)) = true from (eq_ints (xs := xs) (ys := xs)).trans (by simp)]
  exact k
def PairsAt (H : Hp) (xs : List V) (ps : List (Int × Int)) : Prop := xs.length = ps.length ∧ ∀ (i : Nat) (g : Int × Int), ps[i]? = some g → ∃ t : Addr, xs[i]? = some (.ref t) ∧ H t = some (.tup [.int g.1, .int g.2])
theorem PairsAt.keep {H H' : Hp} {xs : List V} {ls : List (Int × Int)} (h : PairsAt H xs ls) (s : Same H H') : PairsAt H' xs ls := ⟨h.1, fun i g hg => let ⟨t, e, z⟩ := h.2 i g hg; ⟨t, e, s _ _ z⟩⟩
theorem PairsAt.upd {H : Hp} {L : Addr} {zs xs : List V} {o : HO} {ls : List (Int × Int)} (h : PairsAt H xs ls) (e : H L = some (.lst zs)) : PairsAt (L2.upd H L o) xs ls := ⟨h.1, fun i g hg => let ⟨t, e1, z⟩ := h.2 i g hg; ⟨t, e1, (upd_ne (fun y => by rw [y, e] at z; cases z)).trans z⟩⟩
theorem PairsAt.nil {H : Hp} : PairsAt H [] [] := ⟨rfl, fun i g h => by simp at h⟩
theorem PairsAt.snoc {H : Hp} {xs : List V} {ls : List (Int × Int)} {t : Addr} {g : Int × Int} (h : PairsAt H xs ls) (e : H t = some (.tup [.int g.1, .int g.2])) : PairsAt H (xs ++ [.ref t]) (ls ++ [g]) := ⟨by rw [List.length_append, List.length_append, h.1]; rfl, fun i g' hg => by
  by_cases hi : i < ls.length
  · rw [List.getElem?_append_left hi] at hg
    rw [List.getElem?_append_left (by rw [h.1]; exact hi)]
    exact h.2 i g' hg
  · have hl := (List.getElem?_eq_some_iff.mp hg).1
    rw [List.length_append, List.length_singleton] at hl
    obtain rfl : i = ls.length := by omega
    rw [List.getElem?_append_right (Nat.le_refl _), Nat.sub_self] at hg
    obtain rfl : g = g' := by simpa using hg
    exact ⟨t, by rw [← h.1, List.getElem?_append_right (Nat.le_refl _), Nat.sub_self]; rfl, e⟩⟩
theorem PairsAt.get {H : Hp} {xs : List V} {ls : List (Int × Int)} {i : Nat} {x : V} (h : PairsAt H xs ls) (hx : xs[i]? = some x) : ∃ (t : Addr) (g : Int × Int), x = .ref t ∧ ls[i]? = some g ∧ H t = some (.tup [.int g.1, .int g.2]) := by
  obtain ⟨l, hl⟩ : ∃ l, ls[i]? = some l := ⟨_, List.getElem?_eq_getElem (by have := (List.getElem?_eq_some_iff.mp hx).1; rw [h.1] at this; exact this)⟩
  obtain ⟨t, e, z⟩ := h.2 i l hl
  exact ⟨t, l, Option.some.inj (hx.symm.trans e), hl, z⟩
def spHolds : Sp := fun vs H Q _ => ∃ (p u : Addr) (ls : List L3) (r : Told) (D G : Int), vs = [.ref p, .ref u] ∧ ToldAt H p r ∧ ToldOk ls r ∧ LinesIn ls ∧ H u = some (.tup [.int D, .int G]) ∧ Solves ls D G ∧ 1 ≤ D ∧ 1 ≤ G ∧ ∀ H', Same H H' → Q (.bl true) H'
def spSomeP : Sp := fun vs H Q _ => ∃ (p : Addr) (ls : List L3) (r : Told), vs = [.ref p] ∧ ToldAt H p r ∧ ToldOk ls r ∧ ∀ (L : Addr) (xs : List V) (ps : List (Int × Int)) (H' : Hp), Same H H' → H' L = some (.lst xs) → PairsAt H' xs ps → ps.length ≤ 4 → (∀ g : Int × Int, g ∈ ps → Solves ls g.1 g.2 ∧ 1 ≤ g.1 ∧ 1 ≤ g.2) → Q (.ref L) H'
section
variable {P : Program} {w : World} {K : PySem.W.Frag} {mg : Str → Option Value} {base : Heap} {a : Adr}
set_option maxHeartbeats 0 in
theorem ok__law_holds (T : Txt K mg a) : FnOk P w K mg base CX0 1 a.a__law_holds a.d__law_holds ["_law_told", "_law_pair"] spHolds := by
  refine T.F__law_holds.ok sc__law_holds (fun vs H Q E h => ?_) (fun cdv A outer s H vs Q E hr h => ?_)
  · obtain ⟨p, u, ls, r, D, G, rfl, _⟩ := h
    rfl
  · obtain ⟨p, u, ls, r, D, G, rfl, et, hT, hi, eu, hs, d1, g1, k⟩ := h
    refine ⟨_, (pss_cons (ps_if (pt_cmpR op_eq (pe_ix ix_tup (pv 0) pe_int (fun _ _ => rfl)) pe_str (nomark _)) (pss_one (ps_ret pe_bl))
 pss_nil)
 (pss_cons (ps_if (pt_cmpR op_eq (pe_ix ix_tup (pv 0) pe_int (fun _ _ => rfl)) pe_str (nomark _)) (pss_one (ps_ret (pe_cmpR (op_eqD hr.units) (pe_ix ix_tup (pv 0) pe_int (fun _ _ => rfl)) (pv 1) (nomark _))))
 pss_nil)
 (pss_cons (ps_if (pt_cmpR op_ne (pe_ix ix_tup (pv 0) pe_int (fun _ _ => rfl)) pe_str (nomark _)) (pss_one (ps_ret pe_bl))
 pss_nil)
 (pss_cons (ps_par3 (i := 2) (j := 3) (l := 4) rfl sc__law_holds.nd rfl rfl rfl (by decide) (by decide) (by decide) rfl rfl rfl (pa_cons (pe_ix ix_tup (pv 0) pe_int (fun _ _ => rfl)) (pa_cons (pe_ix ix_tup (pv 0) pe_int (fun _ _ => rfl)) (pa_cons (pe_ix ix_tup (pv 0) pe_int (fun _ _ => rfl)) pa_nil))) rfl)
 (pss_cons (ps_if (pt_cmpR op_eq (pe_ix ix_tup (pv 3) pe_int (fun _ _ => rfl)) pe_int (nomark _)) (pss_one (ps_ret (pe_and (pe_cmpR op_eq (pe_ix ix_tup (pv 1) pe_int (fun _ _ => rfl)) (pe_ix ix_tup (pv 2) pe_int (fun _ _ => rfl)) (nomark _)) (pe_one (pe_cmpR op_ge (pe_ix ix_tup (pv 1) pe_int (fun _ _ => rfl)) pe_int (nomark _))))))
 pss_nil)
 (pss_cons (ps_set (i := 5) sc__law_holds.nd rfl (Or.inl rfl) (pe_op op_fdivX (pe_op op_sub (pe_ix ix_tup (pv 1) pe_int (fun _ _ => rfl)) (pe_ix ix_tup (pv 2) pe_int (fun _ _ => rfl))) (pe_ix ix_tup (pv 3) pe_int (fun _ _ => rfl))))
 (pss_one (ps_ret (pe_and (pe_chain op_le op_lt pe_int (pv 5) (pv 4)) (pe_one (pe_cmpR (op_eqD hr.units) (pv 1) (pe_tup (pa_cons (pe_op op_add (pe_ix ix_tup (pv 2) pe_int (fun _ _ => rfl)) (pe_op op_mulW (pv 5) (pe_ix ix_tup (pv 3) pe_int (fun _ _ => rfl)))) (pa_cons (pe_op op_add (pe_ix ix_tup (pv 2) pe_int (fun _ _ => rfl)) (pe_op op_mulW (pv 5) (pe_ix ix_tup (pv 3) pe_int (fun _ _ => rfl)))) pa_nil))) (nomark _)))))))))))), ?_⟩
    cases r with
    | any =>
      have et : H p = some (.tup [.str "any"]) := et
      repeat first | walk_at "rd" | walk_at "rdi"
      refine r_eqStr true (by decide) ?_
      repeat first | exact k _ (Same.refl _) | walk_at "rd" | walk_at "rdi"
    | no => exact absurd hs (hT.1 D G d1 g1)
    | one D' G' =>
      obtain ⟨v, et, ev⟩ := et
      obtain ⟨rfl, rfl⟩ := one_only hi hT hs d1 g1
      repeat first | walk_at "rd" | walk_at "rdi"
      refine r_eqStr false (by decide) ?_
      repeat first | walk_at "rd" | walk_at "rdi"
      refine r_eqStr true (by decide) ?_
      repeat first | walk_at "rd" | walk_at "rdi"
      refine r_eqT0 (xs := [D, G]) ev eu ?_
      exact k _ (Same.refl _)
    | line D' G' e f c =>
      obtain ⟨v, x, et, ev, ex⟩ := et
      have hL : LineOk ls D' G' e f c := hT
      repeat first | walk_at "rd" | walk_at "rdi"
      refine r_eqStr false (by decide) ?_
      repeat first | walk_at "rd" | walk_at "rdi"
      refine r_eqStr false (by decide) ?_
      repeat first | walk_at "rd" | walk_at "rdi"
      refine r_neStr true (by decide) ?_
      repeat walk_at "rd"
      have s1 := Same.refl H
      cases c with
      | none =>
        obtain ⟨rfl, rfl, rfl⟩ := hL.free rfl
        have hD : D = D' := by
          obtain ⟨l, hl, hl1⟩ := hL.up
          have h1 := hL.step l hl
          have hj : l.2.1 = 0 := by rw [Int.mul_zero, Int.mul_one] at h1; omega
          have h2 := hL.sol l hl
          have h3 := hs l hl
          rw [hj, Int.zero_mul] at h2 h3
          exact Int.eq_of_mul_eq_mul_left (show l.1 ≠ 0 by omega) (by omega)
        dsimp only [optV]
        repeat first | walk_at "rd" | walk_at "rdi"
        refine ite_tt rfl ?_
        repeat first | walk_at "rd" | walk_at "rdi"
        refine ite_tt hD ?_
        repeat first | walk_at "rd" | walk_at "rdi"
        rw [decide_eq_true (show G ≥ 1 from g1)]
        exact k _ s1
      | some m =>
        obtain ⟨m1, m9, e1, e9, f1, f9, hDe, hl, hh⟩ := hL.many m rfl
        obtain ⟨n, n0, n1, x1, x2⟩ := line_only hi hL hs d1 g1
        have hat : (D - D').fdiv e = n := by rw [x1, show D' + n * e - D' = n * e by omega]; exact Int.mul_fdiv_cancel n (by omega)
        dsimp only [optV]
        repeat first | walk_at "rd" | walk_at "rdi"
        refine ite_ff (by omega) ?_
        repeat first | walk_at "rd" | walk_at "rdi"
        refine r_fdivX (by omega) (by omega) (by omega) ?_
        rw [hat]
        repeat first | walk_at "rd" | walk_at "rdi"
        refine ite_tt n0 ?_
        repeat first | walk_at "rd" | walk_at "rdi"
        refine ite_tt n1 ?_
        repeat first | walk_at "rd" | walk_at "rdi"
        refine r_mulW (by omega) (by omega) ?_
        repeat first | walk_at "rd" | walk_at "rdi"
        refine r_mulW (by omega) (by omega) ?_
        repeat first | walk_at "rd" | walk_at "rdi"
        rw [← x1, ← x2]
        refine new_at (Nat.le_of_ble_eq_true rfl) (fun y H2 ny s2 ey => ?_)
        refine r_eqT0 (xs := [D, G]) (s2 _ _ (s1 _ _ eu)) ey ?_
        exact k _ (s1.trans s2)
set_option maxHeartbeats 0 in
theorem ok__law_some_pairs (T : Txt K mg a) : FnOk P w K mg base CX0 1 a.a__law_some_pairs a.d__law_some_pairs ["_law_told"] spSomeP := by
  refine T.F__law_some_pairs.ok sc__law_some_pairs (fun vs H Q E h => ?_) (fun cdv A outer s H vs Q E hr h => ?_)
  · obtain ⟨p, ls, r, rfl, _⟩ := h
    rfl
  · obtain ⟨p, ls, r, rfl, et, hT, k⟩ := h
    refine ⟨_, (pss_cons (ps_if (pt_cmpR op_eq (pe_ix ix_tup (pv 0) pe_int (fun _ _ => rfl)) pe_str (nomark _)) (pss_one (ps_ret (pe_lst (pa_cons (pe_ix ix_tup (pv 0) pe_int (fun _ _ => rfl)) pa_nil))))
 pss_nil)
 (pss_cons (ps_if (pt_cmpR op_ne (pe_ix ix_tup (pv 0) pe_int (fun _ _ => rfl)) pe_str (nomark _)) (pss_one (ps_ret (pe_lst pa_nil)))
 pss_nil)
 (pss_cons (ps_par3 (i := 1) (j := 2) (l := 3) rfl sc__law_some_pairs.nd rfl rfl rfl (by decide) (by decide) (by decide) rfl rfl rfl (pa_cons (pe_ix ix_tup (pv 0) pe_int (fun _ _ => rfl)) (pa_cons (pe_ix ix_tup (pv 0) pe_int (fun _ _ => rfl)) (pa_cons (pe_ix ix_tup (pv 0) pe_int (fun _ _ => rfl)) pa_nil))) rfl)
 (pss_cons (ps_if (pt_cmpR op_isNo (pv 3) pe_non (nomark _)) (pss_one (ps_set (i := 3) sc__law_some_pairs.nd rfl (Or.inl rfl) (pe_powN (z := 1000000000) ⟨by decide, by decide, by decide⟩ (by decide +kernel))))
 pss_nil)
 (pss_cons (ps_set (i := 4) sc__law_some_pairs.nd rfl (Or.inl rfl) (pe_lst pa_nil))
 (pss_cons (ps_for (by exact PassesOwn.never) rfl (pi_tup (pe_tup (pa_cons pe_int (pa_cons pe_int (pa_cons (pe_op op_fdivX (pv 3) pe_int) (pa_cons (pe_op op_sub (pv 3) pe_int) pa_nil)))))) (pg_name (i := 5) sc__law_some_pairs.nd rfl (Or.inl rfl))
 (pss_one (ps_expr (pe_bm PySem.F.plainAttrs_list PySem.F.slot_list_append PySem.F.type_list_append mt_append (pv 4) (pa_cons (pe_tup (pa_cons (pe_op op_add (pe_ix ix_tup (pv 1) pe_int (fun _ _ => rfl)) (pe_op op_mulW (pv 5) (pe_ix ix_tup (pv 2) pe_int (fun _ _ => rfl)))) (pa_cons (pe_op op_add (pe_ix ix_tup (pv 1) pe_int (fun _ _ => rfl)) (pe_op op_mulW (pv 5) (pe_ix ix_tup (pv 2) pe_int (fun _ _ => rfl)))) pa_nil))) pa_nil)))))
 (pss_one (ps_ret (pv 4))))))))), ?_⟩
    cases r with
    | any =>
      have et : H p = some (.tup [.str "any"]) := et
      repeat first | walk_at "rd" | walk_at "rdi"
      refine r_eqStr false (by decide) ?_
      repeat first | walk_at "rd" | walk_at "rdi"
      refine r_neStr false (by decide) ?_
      repeat first | walk_at "rd" | walk_at "rdi"
      refine new_at (Nat.zero_le _) (fun L H1 nL s1 eL => ?_)
      exact k L [] [] H1 s1 eL PairsAt.nil (Nat.zero_le _) (fun g hg => nomatch hg)
    | no =>
      have et : H p = some (.tup [.str "none"]) := et
      repeat first | walk_at "rd" | walk_at "rdi"
      refine r_eqStr false (by decide) ?_
      repeat first | walk_at "rd" | walk_at "rdi"
      refine r_neStr false (by decide) ?_
      repeat first | walk_at "rd" | walk_at "rdi"
      refine new_at (Nat.zero_le _) (fun L H1 nL s1 eL => ?_)
      exact k L [] [] H1 s1 eL PairsAt.nil (Nat.zero_le _) (fun g hg => nomatch hg)
    | one D G =>
      obtain ⟨v, et, ev⟩ := et
      have hO : OneOk ls D G := hT
      repeat first | walk_at "rd" | walk_at "rdi"
      refine r_eqStr true (by decide) ?_
      repeat first | walk_at "rd" | walk_at "rdi"
      refine new_at (Nat.le_of_ble_eq_true rfl) (fun L H1 nL s1 eL => ?_)
      refine k L _ [(D, G)] H1 s1 eL (PairsAt.nil.snoc (g := (D, G)) (s1 _ _ ev)) (Nat.le_of_ble_eq_true rfl) (fun g hg => ?_)
      rw [List.mem_singleton] at hg
      subst hg
      exact ⟨hO.sol, hO.d1, hO.g1⟩
    | line D G e f c =>
      obtain ⟨v, x, et, ev, ex⟩ := et
      have hL : LineOk ls D G e f c := hT
      repeat first | walk_at "rd" | walk_at "rdi"
      refine r_eqStr false (by decide) ?_
      repeat first | walk_at "rd" | walk_at "rdi"
      refine r_neStr true (by decide) ?_
      repeat walk_at "rd"
      have bounds : -1000 ≤ f ∧ f ≤ 1000 ∧ 0 ≤ e ∧ e ≤ 1000000000000000000 := by
        cases c with
        | none => obtain ⟨rfl, rfl, _⟩ := hL.free rfl; decide
        | some m => have := hL.many m rfl; omega
      with_reducible refine seq_with (fun σ H' => ∃ m : Int, σ = [some (.ref p), some (.ref v), some (.ref x), some (.int m), none, none] ∧ H' = H ∧ 2 ≤ m ∧ m ≤ 1000000000000000000000 ∧ ∀ n : Int, 0 ≤ n → n < m → Solves ls (D + n * e) (G + n * f) ∧ 1 ≤ D + n * e ∧ 1 ≤ G + n * f) ?_ (fun rest => ?_)
      · rintro σ H ⟨m, rfl, rfl, m2, m9, hall⟩
        repeat walk_at "rd"
        refine new_at (Nat.zero_le _) (fun L H2 nL s2 eL => ?_)
        repeat walk_at "rd"
        refine r_fdivX (by decide) (by decide) (by decide) ?_
        obtain ⟨hh, hhe⟩ : ∃ hh, m.fdiv 2 = hh := ⟨_, rfl⟩
        have hh1 : 0 ≤ hh ∧ hh < m := by rw [← hhe, Int.fdiv_eq_ediv_of_nonneg _ (by decide)]; omega
        rw [hhe]
        repeat walk_at "rd"
        refine new_at (Nat.le_of_ble_eq_true rfl) (fun y H3 ny s3 ey => ?_)
        have nyL : y ≠ L := (ne_of_none eL ny).symm
        repeat walk_at "rd"
        refine ⟨y, rfl, ⟨_, SqT.of ey⟩, for_tup (K := K) (a := y) (xs := [.int 0, .int 1, .int hh, .int (m - 1)]) (fun i σ H' => ∃ (v5 : Option V) (xs : List V) (ps : List (Int × Int)), σ = [some (.ref p), some (.ref v), some (.ref x), some (.int m), some (.ref L), v5] ∧ H' L = some (.lst xs) ∧ PairsAt H' xs ps ∧ ps.length = i ∧ (∀ g : Int × Int, g ∈ ps → Solves ls g.1 g.2 ∧ 1 ≤ g.1 ∧ 1 ≤ g.2) ∧ Same H H' ∧ H' y = some (.tup [.int 0, .int 1, .int hh, .int (m - 1)])) ⟨_, [], [], rfl, s3 _ _ eL, PairsAt.nil, rfl, (fun g hg => nomatch hg), s2.trans s3, ey⟩ (fun i σ H' _ ⟨_, _, _, _, _, _, _, _, _, h⟩ => SqT.of h) ?_ ?_⟩
        · rintro i w0 σ H4 hi4 ⟨v5, xs, ps, rfl, f1, f2, f3, f4, f5, f6⟩
          obtain ⟨n, rfl, n0, n1⟩ : ∃ n : Int, w0 = .int n ∧ 0 ≤ n ∧ n < m := by
            match i, hi4 with
            | 0, h => exact ⟨0, (Option.some.inj h).symm, by omega, by omega⟩
            | 1, h => exact ⟨1, (Option.some.inj h).symm, by omega, by omega⟩
            | 2, h => exact ⟨hh, (Option.some.inj h).symm, by omega, by omega⟩
            | 3, h => exact ⟨m - 1, (Option.some.inj h).symm, by omega, by omega⟩
            | i + 4, h => simp at h
          have hi9 : i < 4 := (List.getElem?_eq_some_iff.mp hi4).1
          have ev4 := f5 _ _ ev
          have ex4 := f5 _ _ ex
          repeat walk_at "rd"
          refine ⟨.inl ⟨rfl, _, SqL.of f1⟩, ?_⟩
          repeat walk_at "rd"
          refine r_mulW (by omega) (by omega) ?_
          repeat walk_at "rd"
          refine r_mulW (by omega) (by omega) ?_
          repeat walk_at "rd"
          refine new_at (Nat.le_of_ble_eq_true rfl) (fun u H5 nu s5 eu => ?_)
          have f1 := s5 _ _ f1
          repeat walk_at "rd"
          refine r_app f1 (small1000 (by rw [f2.1]; omega)) ?_
          refine ⟨_, xs ++ [.ref u], ps ++ [(D + n * e, G + n * f)], rfl, upd_same, ((f2.keep s5).snoc (g := (D + n * e, G + n * f)) eu).upd f1, by rw [List.length_append, List.length_singleton]; omega, fun g hg => ?_, ?_, (upd_ne nyL).trans (s5 _ _ f6)⟩
          · rcases List.mem_append.mp hg with hg | hg
            · exact f4 g hg
            · rw [List.mem_singleton] at hg
              subst hg
              exact hall n n0 n1
          · exact (f5.trans s5).over nL f1
        · rintro σ H4 ⟨v5, xs, ps, rfl, f1, f2, f3, f4, f5, f6⟩
          have f3 : ps.length = 4 := f3
          repeat walk_at "rd"
          exact k L xs ps H4 f5 f1 f2 (by omega) f4
      · cases c with
        | none =>
          obtain ⟨rfl, rfl, rfl⟩ := hL.free rfl
          dsimp only [optV]
          repeat first | exact rest _ _ ⟨1000000000, rfl, rfl, by decide, by decide, fun n n0 n1 => ⟨solves_step hL.sol hL.step, by have := hL.d1; omega, by omega⟩⟩ | walk_at "rd" | walk_at "rdi"
        | some m =>
          obtain ⟨m1, m9, e1, e9, f1, f9, hDe, hl, hh⟩ := hL.many m rfl
          have hd := hL.d1
          dsimp only [optV]
          repeat first | exact rest _ _ ⟨m, rfl, rfl, m1, m9, fun n n0 n1 => ⟨solves_step hL.sol hL.step, by have : 0 ≤ n * e := Int.mul_nonneg n0 (by omega); omega, by have : (m - 1) * f ≤ n * f := Int.mul_le_mul_of_nonpos_right (by omega) (by omega); omega⟩⟩ | walk_at "rd" | walk_at "rdi"
end

/-! ### the law of k65: names, shuffled lists -/
theorem perm_erase {α : Type} : ∀ (l : List α) (i : Nat) (y : α), l[i]? = some y → l.Perm (y :: l.eraseIdx i)
  | [], _, _, h => by simp at h
  | x :: l, 0, y, h => by
    obtain rfl := Option.some.inj h
    exact List.Perm.refl _
  | x :: l, i + 1, y, h => ((perm_erase l i y h).cons x).trans (List.Perm.swap y x _)
theorem RowsAt.cons {H : Hp} {x : V} {xs : List V} {r : Row} {rs : List Row} (h1 : RowAt H x r) (h : RowsAt H xs rs) : RowsAt H (x :: xs) (r :: rs) := ⟨by rw [List.length_cons, List.length_cons, h.1], fun i r' hr => by
  cases i with
  | zero => obtain rfl := Option.some.inj hr; exact ⟨x, rfl, h1⟩
  | succ i => exact h.2 i r' hr⟩
theorem RowsAt.uncons {H : Hp} {x : V} {xs : List V} {rs : List Row} (h : RowsAt H (x :: xs) rs) : ∃ r rs', rs = r :: rs' ∧ RowAt H x r ∧ RowsAt H xs rs' := by
  cases rs with
  | nil => exact absurd h.1 (by simp)
  | cons r rs =>
    obtain ⟨y, e, hy⟩ := h.2 0 r rfl
    obtain rfl : x = y := Option.some.inj e
    exact ⟨r, rs, rfl, hy, by have := h.1; simpa using this, fun i r' hr => h.2 (i + 1) r' hr⟩
theorem RowsAt.perm {H : Hp} {xs ys : List V} (hp : xs.Perm ys) : ∀ {rs : List Row}, RowsAt H xs rs → ∃ rs', rs.Perm rs' ∧ RowsAt H ys rs' := by
  induction hp with
  | nil => intro rs h; exact ⟨rs, List.Perm.refl _, h⟩
  | cons x _ ih =>
    intro rs h
    obtain ⟨r, rs', rfl, h1, h2⟩ := h.uncons
    obtain ⟨rs2, p, h3⟩ := ih h2
    exact ⟨r :: rs2, p.cons r, h3.cons h1⟩
  | swap x y l =>
    intro rs h
    obtain ⟨r, rs', rfl, h1, h2⟩ := h.uncons
    obtain ⟨r2, rs2, rfl, h3, h4⟩ := h2.uncons
    exact ⟨r2 :: r :: rs2, List.Perm.swap r2 r rs2, (h4.cons h1).cons h3⟩
  | trans _ _ ih1 ih2 =>
    intro rs h
    obtain ⟨rs1, p1, h1⟩ := ih1 h
    obtain ⟨rs2, p2, h2⟩ := ih2 h1
    exact ⟨rs2, p1.trans p2, h2⟩
def spShuf : Sp := fun vs H Q _ => ∃ (p q L : Addr) (xs : List V), vs = [.ref p, .ref L] ∧ SrcAt H p q ∧ H L = some (.lst xs) ∧ L ≠ p ∧ L ≠ q ∧ xs.length ≤ 900 ∧ ∀ (M : Addr) (ys : List V) (H' : Hp), xs.Perm ys → H' M = some (.lst ys) → SrcAt H' p q → But p H H' → Q (.ref M) H'
def spName65 : Sp := fun vs H Q _ => ∃ (p q : Addr), vs = [.ref p] ∧ SrcAt H p q ∧ ∀ (t : Addr) (zs : List Int) (H' : Hp), H' t = some (.tup (.int 0 :: zs.map V.int)) → zs.length ≤ 5 → (∀ z, z ∈ zs → 0 ≤ z ∧ z ≤ 10000) → SrcAt H' p q → But p H H' → Q (.ref t) H'
theorem at_sizes {d : Int} (d0 : 0 ≤ d) (d1 : d < 6) : ∃ z : Int, atI [V.int 1, .int 2, .int 1, .int 3, .int 0, .int 5] d = some (.int z) ∧ 0 ≤ z ∧ z ≤ 5 := by
  have hk : d = 0 ∨ d = 1 ∨ d = 2 ∨ d = 3 ∨ d = 4 ∨ d = 5 := by omega
  rcases hk with rfl | rfl | rfl | rfl | rfl | rfl
  all_goals exact ⟨_, rfl, by decide, by decide⟩
theorem at_kinds {d x y : Int} (d0 : 0 ≤ d) (d1 : d < 3) (x0 : 0 ≤ x) (x9 : x < 4) (y0 : 0 ≤ y) (y9 : y < 10001) : ∃ z : Int, atI [V.int 0, .int x, .int y] d = some (.int z) ∧ 0 ≤ z ∧ z ≤ 10000 := by
  have hk : d = 0 ∨ d = 1 ∨ d = 2 := by omega
  rcases hk with rfl | rfl | rfl
  all_goals exact ⟨_, rfl, by omega, by omega⟩
section
variable {P : Program} {w : World} {K : PySem.W.Frag} {mg : Str → Option Value} {base : Heap} {a : Adr}
theorem ok__law_shuffled (T : Txt K mg a) : FnOk P w K mg base CX0 3 a.a__law_shuffled a.d__law_shuffled ["_law_source_here", "_law_things"] spShuf := by
  refine T.F__law_shuffled.ok sc__law_shuffled (fun vs H Q E h => ?_) (fun cdv A outer s H vs Q E hr h => ?_)
  · obtain ⟨p, q, L, xs, rfl, _⟩ := h
    rfl
  · obtain ⟨p, q, L, xs, rfl, hs, eL, nLp, nLq, hl, k⟩ := h
    refine ⟨_, (pss_cons (ps_set (i := 2) sc__law_shuffled.nd rfl (Or.inl rfl) (pe_callTy cr_list (by rfl) T.n_list (by decide +kernel) (pa_cons (pv 1) pa_nil)))
 (pss_cons (ps_set (i := 3) sc__law_shuffled.nd rfl (Or.inl rfl) (pe_lst pa_nil))
 (pss_cons (ps_for (by exact PassesOwn.never) rfl (pi_range1 (by rfl) T.n_range (pa_cons (pe_callB call_len_seq (by rfl) T.n_len (by decide +kernel) (pa_cons (pv 1) pa_nil)) pa_nil)) (pg_name (i := 4) sc__law_shuffled.nd rfl (Or.inl rfl))
 (pss_one (ps_expr (pe_bm PySem.F.plainAttrs_list PySem.F.slot_list_append PySem.F.type_list_append mt_append (pv 3) (pa_cons (pe_bm PySem.F.plainAttrs_list PySem.F.slot_list_pop PySem.F.type_list_pop mt_popAt (pv 2) (pa_cons (pe_call (ok__law_draw T) (hr.mono (by decide)) (by rfl) T.g__law_draw T.F__law_draw.kp T.b__law_draw .nil pass0 (pa_cons (pv 0) (pa_cons (pe_callB call_len_seq (by rfl) T.n_len (by decide +kernel) (pa_cons (pv 2) pa_nil)) pa_nil))) pa_nil)) pa_nil)))))
 (pss_one (ps_ret (pv 3)))))), ?_⟩
    repeat walk_at "rd"
    refine r_listL eL (fun A1 H1 nA s1 eA => ?_)
    have nAp := hs.ne nA
    have nAq := hs.neq nA
    have nAL : A1 ≠ L := (ne_of_none eL nA).symm
    repeat walk_at "rd"
    refine new_at (Nat.zero_le _) (fun M H2 nM s2 eM => ?_)
    have nMp := (hs.keep s1).ne nM
    have nMq := (hs.keep s1).neq nM
    have nMA : M ≠ A1 := (ne_of_none eA nM).symm
    have nML : M ≠ L := (ne_of_none (s1 _ _ eL) nM).symm
    have nMH : H M = none := s1.free nM
    have eL2 := s2 _ _ (s1 _ _ eL)
    repeat walk_at "rd"
    refine ⟨by omega, by omega, for_range (lo := 0) (n := ((xs.length : Nat) : Int).toNat) (fun i σ H' => ∃ (v4 : Option V) (ps fs : List V), σ = [some (.ref p), some (.ref L), some (.ref A1), some (.ref M), v4] ∧ SrcAt H' p q ∧ But p H H' ∧ H' A1 = some (.lst ps) ∧ H' M = some (.lst fs) ∧ (fs ++ ps).Perm xs ∧ fs.length = i ∧ fs.length + ps.length = xs.length) ⟨_, xs, [], rfl, (hs.keep s1).keep s2, But.of_same (s1.trans s2), s2 _ _ eA, eM, List.Perm.refl _, rfl, by simp⟩ ?_ ?_⟩
    · clear eA eM eL2
      rintro i σ H3 hi ⟨v4, ps, fs, rfl, hs3, b3, eA, eM, hp, hf, hlen⟩
      rw [Int.toNat_natCast] at hi
      repeat walk_at "rd"
      refine ⟨.inl ⟨rfl, _, SqL.of eM⟩, ?_⟩
      repeat walk_at "rd"
      refine ⟨.inl ⟨rfl, _, SqL.of eA⟩, ?_⟩
      repeat walk_at "rd"
      refine ⟨p, q, _, rfl, hs3, by omega, by omega, fun d H4 d0 d1 hs4 b4 => ?_⟩
      have eA := b4 _ _ eA nAp
      have eM := b4 _ _ eM nMp
      repeat walk_at "rd"
      have hdl : d.toNat < ps.length := by omega
      refine ⟨A1, ps, d, d.toNat, ps[d.toNat], rfl, rfl, eA, by omega, by omega, by rw [seqIndex_of d0 (by omega)], List.getElem?_eq_getElem hdl, ?_⟩
      have eM5 : L2.upd H4 A1 (.lst (ps.eraseIdx d.toNat)) M = some (.lst fs) := (upd_ne nMA).trans eM
      have eA5 : L2.upd H4 A1 (.lst (ps.eraseIdx d.toNat)) A1 = some (.lst (ps.eraseIdx d.toNat)) := upd_same
      have hs5 : SrcAt (L2.upd H4 A1 (.lst (ps.eraseIdx d.toNat))) p q := hs4.upd nAp nAq
      have b5 : But p H (L2.upd H4 A1 (.lst (ps.eraseIdx d.toNat))) := (b3.trans b4).updNone nA
      generalize L2.upd H4 A1 (.lst (ps.eraseIdx d.toNat)) = H5 at eM5 eA5 hs5 b5 ⊢
      repeat walk_at "rd"
      refine r_app eM5 (small1000 (by omega)) ?_
      have hel : (ps.eraseIdx d.toNat).length = ps.length - 1 := by rw [List.length_eraseIdx, if_pos hdl]
      refine ⟨_, ps.eraseIdx d.toNat, fs ++ [ps[d.toNat]], rfl, hs5.upd nMp nMq, b5.updNone nMH, (upd_ne nMA.symm).trans eA5, upd_same, ?_, by rw [List.length_append, List.length_singleton]; omega, by rw [List.length_append, List.length_singleton, hel]; omega⟩
      rw [List.append_assoc]
      exact ((perm_erase ps d.toNat _ (List.getElem?_eq_getElem hdl)).symm.append_left fs).trans hp
    · clear eA eM eL2
      rintro σ H3 ⟨v4, ps, fs, rfl, hs3, b3, eA, eM, hp, hf, hlen⟩
      rw [Int.toNat_natCast] at hf
      obtain rfl : ps = [] := List.length_eq_zero_iff.mp (by omega)
      rw [List.append_nil] at hp
      repeat walk_at "rd"
      exact k M fs H3 hp.symm eM hs3 b3
theorem ok__law_name (T : Txt K mg a) : FnOk P w K mg base CX0 3 a.a__law_name a.d__law_name ["_law_source_here"] spName65 := by
  refine T.F__law_name.ok sc__law_name (fun vs H Q E h => ?_) (fun cdv A outer s H vs Q E hr h => ?_)
  · obtain ⟨p, q, rfl, _⟩ := h
    rfl
  · obtain ⟨p, q, rfl, hs, k⟩ := h
    refine ⟨_, (pss_cons (ps_set (i := 1) sc__law_name.nd rfl (Or.inl rfl) (pe_ix ix_list (pe_lst (pa_cons pe_int (pa_cons pe_int (pa_cons pe_int (pa_cons pe_int (pa_cons pe_int (pa_cons pe_int pa_nil))))))) (pe_call (ok__law_draw T) (hr.mono (by decide)) (by rfl) T.g__law_draw T.F__law_draw.kp T.b__law_draw .nil pass0 (pa_cons (pv 0) (pa_cons pe_int pa_nil))) (fun _ _ => rfl)))
 (pss_cons (ps_set (i := 2) sc__law_name.nd rfl (Or.inl rfl) (pe_call (ok__law_draw T) (hr.mono (by decide)) (by rfl) T.g__law_draw T.F__law_draw.kp T.b__law_draw .nil pass0 (pa_cons (pv 0) (pa_cons pe_int pa_nil))))
 (pss_cons (ps_set (i := 3) sc__law_name.nd rfl (Or.inl rfl) (pe_lst (pa_cons pe_int pa_nil)))
 (pss_cons (ps_for (by exact PassesOwn.never) rfl (pi_range1 (by rfl) T.n_range (pa_cons (pv 1) pa_nil)) (pg_name (i := 4) sc__law_name.nd rfl (Or.inl rfl))
 (pss_one (ps_expr (pe_bm PySem.F.plainAttrs_list PySem.F.slot_list_append PySem.F.type_list_append mt_append (pv 3) (pa_cons (pe_ix ix_list (pe_lst (pa_cons pe_int (pa_cons (pe_call (ok__law_draw T) (hr.mono (by decide)) (by rfl) T.g__law_draw T.F__law_draw.kp T.b__law_draw .nil pass0 (pa_cons (pv 0) (pa_cons pe_int pa_nil))) (pa_cons (pe_call (ok__law_draw T) (hr.mono (by decide)) (by rfl) T.g__law_draw T.F__law_draw.kp T.b__law_draw .nil pass0 (pa_cons (pv 0) (pa_cons pe_int pa_nil))) pa_nil)))) (pv 2) (fun _ _ => rfl)) pa_nil)))))
 (pss_one (ps_ret (pe_callTy cr_tup (by rfl) T.n_tuple (by decide +kernel) (pa_cons (pv 3) pa_nil)))))))), ?_⟩
    repeat walk_at "rd"
    refine new_at (Nat.le_of_ble_eq_true rfl) (fun A1 H1 nA s1 eA => ?_)
    repeat walk_at "rd"
    refine ⟨p, q, 6, rfl, hs.keep s1, by decide, by decide, fun d H2 d0 d1 hs2 b2 => ?_⟩
    obtain ⟨size, hat, z0, z9⟩ := at_sizes d0 d1
    refine r_ixL (b2 _ _ eA (hs.ne nA)) hat ?_
    have b2 := (But.of_same s1).trans b2
    clear eA hat nA s1 d0 d1 hs
    repeat walk_at "rd"
    refine ⟨p, q, 3, rfl, hs2, by decide, by decide, fun kind H3 k0 k1 hs3 b3 => ?_⟩
    repeat walk_at "rd"
    refine new_at (Nat.le_of_ble_eq_true rfl) (fun L H4 nL s4 eL => ?_)
    have nLp := hs3.ne nL
    have nLq := hs3.neq nL
    have b4 := (b2.trans b3).trans (But.of_same s4)
    have nLH : H L = none := (b2.trans b3).free hs3 nL
    repeat walk_at "rd"
    refine ⟨by omega, by omega, for_range (lo := 0) (n := size.toNat) (fun i σ H' => ∃ (v4 : Option V) (zs : List Int), σ = [some (.ref p), some (.int size), some (.int kind), some (.ref L), v4] ∧ SrcAt H' p q ∧ But p H H' ∧ H' L = some (.lst (.int 0 :: zs.map V.int)) ∧ zs.length = i ∧ ∀ z, z ∈ zs → 0 ≤ z ∧ z ≤ 10000) ⟨_, [], rfl, hs3.keep s4, b4, eL, rfl, fun z hz => nomatch hz⟩ ?_ ?_⟩
    · clear eL b4 s4 hs3 b3 b2 hs2
      rintro i σ H5 hi ⟨v4, zs, rfl, hs5, b5, eL, hzl, hz⟩
      repeat walk_at "rd"
      refine ⟨.inl ⟨rfl, _, SqL.of eL⟩, ?_⟩
      repeat walk_at "rd"
      refine ⟨p, q, 4, rfl, hs5, by decide, by decide, fun x H6 x0 x1 hs6 b6 => ?_⟩
      repeat walk_at "rd"
      refine ⟨p, q, 10001, rfl, hs6, by decide, by decide, fun y H7 y0 y1 hs7 b7 => ?_⟩
      have b67 := b6.trans b7
      have eL := b67 _ _ eL nLp
      repeat walk_at "rd"
      refine new_at (Nat.le_of_ble_eq_true rfl) (fun B H8 nB s8 eB => ?_)
      have eL := s8 _ _ eL
      obtain ⟨z, hat, z0', z9'⟩ := at_kinds k0 k1 x0 x1 y0 y1
      repeat walk_at "rd"
      refine r_ixL eB hat ?_
      repeat walk_at "rd"
      refine r_app eL (small1000 (by rw [List.length_cons, List.length_map]; omega)) ?_
      refine ⟨_, zs ++ [z], rfl, (hs7.keep s8).upd nLp nLq, ((b5.trans b67).trans (But.of_same s8)).updNone nLH, by rw [upd_same, List.map_append]; rfl, by rw [List.length_append, List.length_singleton]; omega, fun y hy => ?_⟩
      rcases List.mem_append.mp hy with hy | hy
      · exact hz y hy
      · rw [List.mem_singleton] at hy
        subst hy
        exact ⟨z0', z9'⟩
    · clear eL b4 s4 hs3 b3 b2 hs2
      rintro σ H5 ⟨v4, zs, rfl, hs5, b5, eL, hzl, hz⟩
      repeat walk_at "rd"
      refine r_tupL eL (fun t H6 n6 s6 et => ?_)
      exact k t zs H6 et (by omega) hz (hs5.keep s6) (b5.trans (But.of_same s6))
end

/-! ### the law of k65 -/
def NamesAt (H : Hp) (ns : List V) (zss : List (List Int)) : Prop := ns.length = zss.length ∧ ∀ (i : Nat) (zs : List Int), zss[i]? = some zs → ∃ t : Addr, ns[i]? = some (.ref t) ∧ H t = some (.tup (.int 0 :: zs.map V.int))
theorem NamesAt.keep {H H' : Hp} {xs : List V} {ls : List (List Int)} (h : NamesAt H xs ls) (s : Same H H') : NamesAt H' xs ls := ⟨h.1, fun i g hg => let ⟨t, e, z⟩ := h.2 i g hg; ⟨t, e, s _ _ z⟩⟩
theorem NamesAt.but {H H' : Hp} {xs : List V} {ls : List (List Int)} {p q : Addr} (h : NamesAt H xs ls) (hs : SrcAt H p q) (b : But p H H') : NamesAt H' xs ls := ⟨h.1, fun i g hg => let ⟨t, e, z⟩ := h.2 i g hg; ⟨t, e, tup_but z hs b⟩⟩
theorem NamesAt.upd {H : Hp} {L : Addr} {zs xs : List V} {o : HO} {ls : List (List Int)} (h : NamesAt H xs ls) (e : H L = some (.lst zs)) : NamesAt (L2.upd H L o) xs ls := ⟨h.1, fun i g hg => let ⟨t, e1, z⟩ := h.2 i g hg; ⟨t, e1, (upd_ne (fun y => by rw [y, e] at z; cases z)).trans z⟩⟩
theorem NamesAt.nil {H : Hp} : NamesAt H [] [] := ⟨rfl, fun i g h => by simp at h⟩
theorem NamesAt.snoc {H : Hp} {xs : List V} {ls : List (List Int)} {t : Addr} {g : List Int} (h : NamesAt H xs ls) (e : H t = some (.tup (.int 0 :: g.map V.int))) : NamesAt H (xs ++ [.ref t]) (ls ++ [g]) := ⟨by rw [List.length_append, List.length_append, h.1]; rfl, fun i g' hg => by
  by_cases hi : i < ls.length
  · rw [List.getElem?_append_left hi] at hg
    rw [List.getElem?_append_left (by rw [h.1]; exact hi)]
    exact h.2 i g' hg
  · have hl := (List.getElem?_eq_some_iff.mp hg).1
    rw [List.length_append, List.length_singleton] at hl
    obtain rfl : i = ls.length := by omega
    rw [List.getElem?_append_right (Nat.le_refl _), Nat.sub_self] at hg
    obtain rfl : g = g' := by simpa using hg
    exact ⟨t, by rw [← h.1, List.getElem?_append_right (Nat.le_refl _), Nat.sub_self]; rfl, e⟩⟩
theorem NamesAt.get {H : Hp} {xs : List V} {ls : List (List Int)} {i : Nat} {x : V} (h : NamesAt H xs ls) (hx : xs[i]? = some x) : ∃ (t : Addr) (g : List Int), x = .ref t ∧ ls[i]? = some g ∧ H t = some (.tup (.int 0 :: g.map V.int)) := by
  obtain ⟨l, hl⟩ : ∃ l, ls[i]? = some l := ⟨_, List.getElem?_eq_getElem (by have := (List.getElem?_eq_some_iff.mp hx).1; rw [h.1] at this; exact this)⟩
  obtain ⟨t, e, z⟩ := h.2 i l hl
  exact ⟨t, l, Option.some.inj (hx.symm.trans e), hl, z⟩
theorem ToldAt.keep {H H' : Hp} {p : Addr} {r : Told} (h : ToldAt H p r) (s : Same H H') : ToldAt H' p r := by
  cases r with
  | any => exact s _ _ h
  | no => exact s _ _ h
  | one D G => obtain ⟨q, h1, h2⟩ := h; exact ⟨q, s _ _ h1, s _ _ h2⟩
  | line D G e f c => obtain ⟨q, r, h1, h2, h3⟩ := h; exact ⟨q, r, s _ _ h1, s _ _ h2, s _ _ h3⟩
theorem ToldAt.upd {H : Hp} {L p : Addr} {zs : List V} {o : HO} {r : Told} (h : ToldAt H p r) (e : H L = some (.lst zs)) : ToldAt (L2.upd H L o) p r := by
  have n : ∀ {x : Addr} {ys : List V}, H x = some (.tup ys) → L2.upd H L o x = some (.tup ys) := fun {x ys} hx => (upd_ne (fun y => by rw [y, e] at hx; cases hx)).trans hx
  cases r with
  | any => exact n h
  | no => exact n h
  | one D G => obtain ⟨q, h1, h2⟩ := h; exact ⟨q, n h1, n h2⟩
  | line D G e f c => obtain ⟨q, r, h1, h2, h3⟩ := h; exact ⟨q, r, n h1, n h2, n h3⟩
theorem ToldAt.but {H H' : Hp} {p x q : Addr} {r : Told} (h : ToldAt H x r) (hs : SrcAt H p q) (b : But p H H') : ToldAt H' x r := by
  cases r with
  | any => exact tup_but h hs b
  | no => exact tup_but h hs b
  | one D G => obtain ⟨q, h1, h2⟩ := h; exact ⟨q, tup_but h1 hs b, tup_but h2 hs b⟩
  | line D G e f c => obtain ⟨q, r, h1, h2, h3⟩ := h; exact ⟨q, r, tup_but h1 hs b, tup_but h2 hs b, tup_but h3 hs b⟩
theorem opt_leaf (c : Option Int) : Leaf (optV c) := by
  cases c with
  | none => exact .non
  | some m => exact .int m
theorem pair_sam {H : Hp} {u v : Addr} {D G : Int} (h : H u = some (.tup [.int D, .int G])) (k : H v = some (.tup [.int D, .int G])) : SamV 2 H (.ref u) (.ref v) := .inr ⟨u, v, _, _, rfl, rfl, h, k, Nat.le_of_ble_eq_true rfl, .inl ⟨rfl, .int _⟩, .inl ⟨rfl, .int _⟩, trivial⟩
theorem told_sam {H : Hp} {p q : Addr} {r : Told} (h : ToldAt H p r) (k : ToldAt H q r) : SamV 3 H (.ref p) (.ref q) := by
  cases r with
  | any => exact .inr ⟨p, q, _, _, rfl, rfl, h, k, Nat.le_of_ble_eq_true rfl, .inl ⟨rfl, .str _⟩, trivial⟩
  | no => exact .inr ⟨p, q, _, _, rfl, rfl, h, k, Nat.le_of_ble_eq_true rfl, .inl ⟨rfl, .str _⟩, trivial⟩
  | one D G =>
    obtain ⟨u, h1, h2⟩ := h
    obtain ⟨v, k1, k2⟩ := k
    exact .inr ⟨p, q, _, _, rfl, rfl, h1, k1, Nat.le_of_ble_eq_true rfl, .inl ⟨rfl, .str _⟩, pair_sam h2 k2, trivial⟩
  | line D G e f c =>
    obtain ⟨u, u2, h1, h2, h3⟩ := h
    obtain ⟨v, v2, k1, k2, k3⟩ := k
    exact .inr ⟨p, q, _, _, rfl, rfl, h1, k1, Nat.le_of_ble_eq_true rfl, .inl ⟨rfl, .str _⟩, pair_sam h2 k2, pair_sam h3 k3, .inl ⟨rfl, opt_leaf c⟩, trivial⟩
def wordT : Told → Str
  | .any => "any"
  | .no => "none"
  | .one _ _ => "one"
  | .line _ _ _ _ _ => "line"
theorem ToldAt.head {H : Hp} {p : Addr} {r : Told} (h : ToldAt H p r) : ∃ its : List V, H p = some (.tup (.str (wordT r) :: its)) := by
  cases r with
  | any => exact ⟨_, h⟩
  | no => exact ⟨_, h⟩
  | one D G => obtain ⟨q, h1, h2⟩ := h; exact ⟨_, h1⟩
  | line D G e f c => obtain ⟨q, r, h1, h2, h3⟩ := h; exact ⟨_, h1⟩
theorem word_any {r : Told} : decide (V.str (wordT r) = V.str "any") = true ↔ r = .any := by
  cases r <;> simp [wordT] <;> decide
/-- a row that the machine tells -/
structure RowM (D G : Int) (r : Row) : Prop where
  len : r.1.length ≤ 5
  items : ∀ z, z ∈ r.1 → 0 ≤ z ∧ z ≤ 10000
  time : r.2 = r.1.length * D + r.1.sum * G
theorem sum_5 : ∀ zs : List Int, (∀ z, z ∈ zs → 0 ≤ z ∧ z ≤ 10000) → 0 ≤ zs.sum ∧ zs.sum ≤ zs.length * 10000
  | [], _ => ⟨Int.le_refl _, by simp⟩
  | z :: zs, h => by
    obtain ⟨h1, h2⟩ := sum_5 zs fun y hy => h y (List.mem_cons_of_mem _ hy)
    have h3 := h z (List.mem_cons_self ..)
    rw [List.sum_cons, List.length_cons, Int.natCast_add, Int.add_mul]
    omega
theorem RowM.ok {D G : Int} {r : Row} (h : RowM D G r) (d : 1 ≤ D ∧ D ≤ 3000000000) (g : 1 ≤ G ∧ G ≤ 1000000000) : RowOk r := by
  have hs := sum_5 r.1 h.items
  have hl := h.len
  have m1 : 0 ≤ (r.1.length : Int) * D := Int.mul_nonneg (by omega) (by omega)
  have m2 : 0 ≤ r.1.sum * G := Int.mul_nonneg hs.1 (by omega)
  have m3 : (r.1.length : Int) * D ≤ r.1.length * 3000000000 := Int.mul_le_mul_of_nonneg_left (by omega) (by omega)
  have m4 : r.1.sum * G ≤ r.1.sum * 1000000000 := Int.mul_le_mul_of_nonneg_left (by omega) (by omega)
  have ht := h.time
  exact ⟨by omega, fun z hz => by have := h.items z hz; omega, by omega, by omega, by omega⟩
theorem RowM.sol {D G : Int} {rs : List Row} (h : ∀ r, r ∈ rs → RowM D G r) : Solves (rs.map lineOf) D G := fun l hl => by
  obtain ⟨r, hr, rfl⟩ := List.mem_map.mp hl
  exact (h r hr).time.symm
structure Sg (M p q m u L N : Addr) (o l g : Int) (xs ns : List V) (rs : List Row) (H : Hp) : Prop where
  hs : SrcAt H p q
  hm : MachAt M H m o l g
  eu : H u = some (.tup [.int (2 * o + l), .int (gapOf o g)])
  eL : H L = some (.lst xs)
  hR : RowsAt H xs rs
  eN : H N = some (.lst ns)
  hN : NamesAt H ns (rs.map (·.1))
theorem Sg.keep {M p q m u L N : Addr} {o l g : Int} {xs ns : List V} {rs : List Row} {H H' : Hp} (h : Sg M p q m u L N o l g xs ns rs H) (s : Same H H') : Sg M p q m u L N o l g xs ns rs H' := ⟨h.hs.keep s, h.hm.keep s, s _ _ h.eu, s _ _ h.eL, h.hR.keep s, s _ _ h.eN, h.hN.keep s⟩
theorem Sg.but {M p q m u L N : Addr} {o l g : Int} {xs ns : List V} {rs : List Row} {H H' : Hp} (h : Sg M p q m u L N o l g xs ns rs H) (hs : SrcAt H' p q) (b : But p H H') (nL : L ≠ p) (nN : N ≠ p) (nm : m ≠ p) : Sg M p q m u L N o l g xs ns rs H' := ⟨hs, h.hm.but b nm, tup_but h.eu h.hs b, b _ _ h.eL nL, h.hR.but h.hs b, b _ _ h.eN nN, h.hN.but h.hs b⟩
def spLaw (K : PySem.W.Frag) : Sp := fun vs H Q _ => ∃ (b : Addr) (ns : List Int), vs = [.ref b] ∧ SqL K H b (ns.map V.int) ∧ ns.length ≤ 63 ∧ ∀ H', Q (.bl true) H'
section
variable {P : Program} {w : World} {K : PySem.W.Frag} {mg : Str → Option Value} {base : Heap} {a : Adr}
set_option maxHeartbeats 0 in
theorem ok_law (T : Txt K mg a) : FnOk P w K mg base CX0 9 a.a_law a.d_law ["_law_script"] (spLaw K) := by
  refine T.F_law.ok sc_law (fun vs H Q E h => ?_) (fun cdv A0 outer s H vs Q E hr h => ?_)
  · obtain ⟨b, ns, rfl, _⟩ := h
    rfl
  · obtain ⟨b, ns, rfl, hS, hn, k⟩ := h
    refine ⟨_, (pss_cons (ps_set (i := 1) sc_law.nd rfl (Or.inl rfl) (pe_call (ok__law_source T) (hr.mono (by decide)) (by rfl) T.g__law_source T.F__law_source.kp T.b__law_source .nil pass0 (pa_cons (pv 0) pa_nil)))
 (pss_cons (ps_asg (pe_call (ok__law_numbers T) (hr.mono (by decide)) (by rfl) T.g__law_numbers T.F__law_numbers.kp T.b__law_numbers .nil pass0 (pa_cons (pv 1) pa_nil)) (pg_tup (by rfl) (pgs_cons (pg_name (i := 2) sc_law.nd rfl (Or.inl rfl)) (pgs_cons (pg_name (i := 3) sc_law.nd rfl (Or.inl rfl)) (pgs_cons (pg_name (i := 4) sc_law.nd rfl (Or.inl rfl)) pgs_nil)))))
 (pss_cons (ps_set (i := 5) sc_law.nd rfl (Or.inl rfl) (pe_make T.mk_Machine (ok_Machine_init T) (hr.mono (by decide)) (by rfl) T.g_Machine T.b_Machine_init .nil pass0 (pa_cons (pv 2) (pa_cons (pv 3) (pa_cons (pv 4) pa_nil)))))
 (pss_cons (ps_set (i := 6) sc_law.nd rfl (Or.inl rfl) (pe_tup (pa_cons (pe_op op_add (pe_op op_mul pe_int (pv 2)) (pv 3)) (pa_cons (pe_callB (call_max2 rfl) (by rfl) T.n_max (by decide +kernel) (pa_cons (pv 2) (pa_cons (pv 4) pa_nil))) pa_nil))))
 (pss_cons (ps_set (i := 7) sc_law.nd rfl (Or.inl rfl) (pe_lst pa_nil))
 (pss_cons (ps_set (i := 8) sc_law.nd rfl (Or.inr rfl) (pe_call (ok_told_back T) (hr.mono (by decide)) (by rfl) T.g_told_back T.F_told_back.kp T.b_told_back .nil pass0 (pa_cons (pv 7) pa_nil)))
 (pss_cons (ps_if (pt_not (pt_val (pe_call (ok__law_same T) (hr.mono (by decide)) (by rfl) T.g__law_same T.F__law_same.kp T.b__law_same .nil pass0 (pa_cons (pv 8) (pa_cons (pe_tup (pa_cons pe_str pa_nil)) pa_nil))))) (pss_one (ps_ret pe_bl))
 pss_nil)
 (pss_cons (ps_set (i := 9) sc_law.nd rfl (Or.inr rfl) (pe_lst pa_nil))
 (pss_cons (ps_for (by exact PassesOwn.never) rfl (pi_range1 (by rfl) T.n_range (pa_cons (pe_op op_add pe_int (pe_call (ok__law_draw T) (hr.mono (by decide)) (by rfl) T.g__law_draw T.F__law_draw.kp T.b__law_draw .nil pass0 (pa_cons (pv 1) (pa_cons pe_int pa_nil)))) pa_nil)) (pg_name (i := 10) sc_law.nd rfl (Or.inl rfl))
 (pss_cons (ps_set (i := 11) sc_law.nd rfl (Or.inl rfl) (pe_call (ok__law_name T) (hr.mono (by decide)) (by rfl) T.g__law_name T.F__law_name.kp T.b__law_name .nil pass0 (pa_cons (pv 1) pa_nil)))
 (pss_cons (ps_expr (pe_bm PySem.F.plainAttrs_list PySem.F.slot_list_append PySem.F.type_list_append mt_append (pv 9) (pa_cons (pv 11) pa_nil)))
 (pss_cons (ps_set (i := 12) sc_law.nd rfl (Or.inl rfl) (pe_op op_add (pe_op op_mul (pe_op op_sub (pe_callB call_len_seq (by rfl) T.n_len (by decide +kernel) (pa_cons (pv 11) pa_nil)) pe_int) (pe_ix ix_tup (pv 6) pe_int (fun _ _ => rfl))) (pe_op op_mul (pe_callB (cr_sumTK (K := K) rfl rfl) (by rfl) T.n_sum (by decide +kernel) (pa_cons (pv 11) pa_nil)) (pe_ix ix_tup (pv 6) pe_int (fun _ _ => rfl)))))
 (pss_cons (ps_if (pt_not (pt_val (pe_call (ok__law_same T) (hr.mono (by decide)) (by rfl) T.g__law_same T.F__law_same.kp T.b__law_same .nil pass0 (pa_cons (pe_call (ok_known_at T) (hr.mono (by decide)) (by rfl) T.g_known_at T.F_known_at.kp (bd_known_at T).choose_spec.2 (bd_known_at T).choose_spec.1 pass0 (pa_cons (pv 5) (pa_cons (pv 11) pa_nil))) (pa_cons (pv 12) pa_nil))))) (pss_one (ps_ret pe_bl))
 pss_nil)
 (pss_cons (ps_expr (pe_bm PySem.F.plainAttrs_list PySem.F.slot_list_append PySem.F.type_list_append mt_append (pv 7) (pa_cons (pe_tup (pa_cons (pv 11) (pa_cons (pv 12) pa_nil))) pa_nil)))
 (pss_cons (ps_if (pt_cmpR op_notBl (pe_call (ok_explains T) (hr.mono (by decide)) (by rfl) T.g_explains T.F_explains.kp T.b_explains .nil pass0 (pa_cons (pe_callTy cr_list (by rfl) T.n_list (by decide +kernel) (pa_cons (pv 7) pa_nil)) (pa_cons (pe_ix ix_tup (pv 6) pe_int (fun _ _ => rfl)) (pa_cons (pe_ix ix_tup (pv 6) pe_int (fun _ _ => rfl)) pa_nil)))) pe_bl (nomark _)) (pss_one (ps_ret pe_bl))
 pss_nil)
 (pss_cons (ps_set (i := 13) sc_law.nd rfl (Or.inl rfl) (pe_call (ok_told_back T) (hr.mono (by decide)) (by rfl) T.g_told_back T.F_told_back.kp T.b_told_back .nil pass0 (pa_cons (pe_callTy cr_list (by rfl) T.n_list (by decide +kernel) (pa_cons (pv 7) pa_nil)) pa_nil)))
 (pss_cons (ps_if (PW.pt (pw_or (pt_not (pt_val (pe_call (ok__law_holds T) (hr.mono (by decide)) (by rfl) T.g__law_holds T.F__law_holds.kp T.b__law_holds .nil pass0 (pa_cons (pv 13) (pa_cons (pv 6) pa_nil))))) (pw_or1 (pt_not (pt_val (pe_callB (cr_all rfl) (by rfl) T.n_all (by decide +kernel) (pa_cons (pe_lc (own := [("_law_some", 15)]) (g := gName 15) (tt := tYes) rfl sc_law.nd (pi_list (pe_call (ok__law_some_pairs T) (hr.mono (by decide)) (by rfl) T.g__law_some_pairs T.F__law_some_pairs.kp T.b__law_some_pairs .nil pass0 (pa_cons (pv 13) pa_nil))) (blkOk_by (own := [("_law_some", 15)]) (N := ["_law_script", "_law_source_here", "_law_o", "_law_l", "_law_g", "_law_machine", "_law_pair", "_law_rows", "_law_told", "_law_names", "_law_k", "_law_name_here", "_law_time", "_law_fewer", "_law_unlike", "_law_some"]) (sc := defScope s_law) (by decide +kernel)) (fun _ _ _ _ _ => (pg_name (i := 15) sc_law.nd rfl (Or.inl rfl))) (fun _ _ _ _ _ => pts_nil) (fun _ _ _ _ _ => (pe_call (ok__law_holds T) (hr.mono (by decide)) (by rfl) T.g__law_holds T.F__law_holds.kp T.b__law_holds .nil pass0 (pa_cons (pv 8) (pa_cons (pv 15) pa_nil))))) pa_nil))))))) (pss_one (ps_ret pe_bl))
 pss_nil)
 (pss_cons (ps_if (PW.pt (pw_and (pt_cmpR op_ne (pe_ix ix_tup (pv 8) pe_int (fun _ _ => rfl)) pe_str (nomark _)) (pw_and1 (pt_cmpR op_eq (pe_ix ix_tup (pv 13) pe_int (fun _ _ => rfl)) pe_str (nomark _))))) (pss_one (ps_ret pe_bl))
 pss_nil)
 (pss_one (ps_set (i := 8) sc_law.nd rfl (Or.inr rfl) (pv 13)))))))))))))
 (pss_cons (ps_setLc (i := 14) (own := [("_law_name_here", 11)]) (g := gName 11) rfl sc_law.nd rfl rfl (sw_true rfl rfl rfl (by decide +kernel)) (pi_list (pv 9)) (blkOk_by (own := [("_law_name_here", 11)]) (N := ["_law_script", "_law_source_here", "_law_o", "_law_l", "_law_g", "_law_machine", "_law_pair", "_law_rows", "_law_told", "_law_names", "_law_k", "_law_name_here", "_law_time", "_law_fewer", "_law_unlike", "_law_some"]) (sc := defScope s_law) (by decide +kernel)) (fun _ _ _ _ _ => (pg_name (i := 11) sc_law.nd rfl (Or.inl rfl))) (fun _ _ _ _ _ => pts_one (PW.pt (pw_and (pt_cmpR op_gt (pe_callB (call_len_seqK (K := K) rfl) (by rfl) T.n_len (by decide +kernel) (pa_cons (pv 11) pa_nil)) pe_int (nomark _)) (pw_and1 (pt_cmpR op_ne (pe_op op_mul (pe_callB (cr_sumTK (K := K) rfl rfl) (by rfl) T.n_sum (by decide +kernel) (pa_cons (pv 11) pa_nil)) (pe_op op_sub (pe_callB (call_len_seqK (K := K) rfl) (by rfl) T.n_len (by decide +kernel) (pa_cons (pe_ix (ix_listK (K := K) rfl) (pv 9) pe_int (fun _ _ => rfl)) pa_nil)) pe_int)) (pe_op op_mul (pe_callB (cr_sumTK (K := K) rfl rfl) (by rfl) T.n_sum (by decide +kernel) (pa_cons (pe_ix (ix_listK (K := K) rfl) (pv 9) pe_int (fun _ _ => rfl)) pa_nil)) (pe_op op_sub (pe_callB (call_len_seqK (K := K) rfl) (by rfl) T.n_len (by decide +kernel) (pa_cons (pv 11) pa_nil)) pe_int)) (nomark _)))))) (fun _ _ _ _ _ => (pv 11)))
 (pss_cons (ps_if (PW.pt (pw_and (pt_cmpR op_gt (pe_callB call_len_seq (by rfl) T.n_len (by decide +kernel) (pa_cons (pe_ix ix_list (pv 9) pe_int (fun _ _ => rfl)) pa_nil)) pe_int (nomark _)) (pw_and (pt_cmpR op_gt (pe_callB call_len_seq (by rfl) T.n_len (by decide +kernel) (pa_cons (pv 14) pa_nil)) pe_int (nomark _)) (pw_and1 (pt_not (pt_val (pe_call (ok__law_same T) (hr.mono (by decide)) (by rfl) T.g__law_same T.F__law_same.kp T.b__law_same .nil pass0 (pa_cons (pv 8) (pa_cons (pe_tup (pa_cons pe_str (pa_cons (pv 6) pa_nil))) pa_nil))))))))) (pss_one (ps_ret pe_bl))
 pss_nil)
 (pss_one (ps_ret (pe_call (ok__law_same T) (hr.mono (by decide)) (by rfl) T.g__law_same T.F__law_same.kp T.b__law_same .nil pass0 (pa_cons (pe_call (ok_told_back T) (hr.mono (by decide)) (by rfl) T.g_told_back T.F_told_back.kp T.b_told_back .nil pass0 (pa_cons (pe_call (ok__law_shuffled T) (hr.mono (by decide)) (by rfl) T.g__law_shuffled T.F__law_shuffled.kp T.b__law_shuffled .nil pass0 (pa_cons (pv 1) (pa_cons (pv 7) pa_nil))) pa_nil)) (pa_cons (pv 8) pa_nil)))))))))))))))), ?_⟩
    repeat walk_at "rd"
    refine ⟨b, ns, rfl, hS, hn, fun p q H1 hs1 np nq s1 => ?_⟩
    repeat walk_at "rd"
    refine ⟨p, q, rfl, hs1, fun t o l g H2 hN nt hs2 b2 => ?_⟩
    have ht := hN.at_
    repeat walk_at "rd"
    refine r_Machine ⟨hN.o0, hN.o9⟩ ⟨hN.l0, hN.l9⟩ ⟨hN.g1, hN.g9⟩ hN.pos (fun m H3 nm hm s3 => ?_)
    have hs3 := hs2.keep s3
    have nmp := hs2.ne nm
    have hD : 1 ≤ 2 * o + l ∧ 2 * o + l ≤ 3000000000 := by have := hN.pos; have := hN.o9; have := hN.l9; omega
    have hG : 1 ≤ gapOf o g ∧ gapOf o g ≤ 1000000000 := by
      have := hN.g1; have := hN.g9; have := hN.o9
      unfold gapOf; split <;> omega
    have ho : 0 ≤ o ∧ o ≤ 1000000000 := ⟨hN.o0, hN.o9⟩
    have hl : 0 ≤ l ∧ l ≤ 1000000000 := ⟨hN.l0, hN.l9⟩
    have hg : 1 ≤ g ∧ g ≤ 1000000000 := ⟨hN.g1, hN.g9⟩
    have hp := hN.pos
    clear hs1 b2 ht hN nt s1 hs2 nm s3
    repeat walk_at "rd"
    refine new_at (Nat.le_of_ble_eq_true rfl) (fun u H4 nu s4 eu => ?_)
    have eu : H4 u = some (.tup [.int (2 * o + l), .int (gapOf o g)]) := eu
    have hs4 := hs3.keep s4
    have hm := hm.keep s4
    clear hs3 s4 nu
    repeat walk_at "rd"
    refine new_at (Nat.zero_le _) (fun L H5 nL s5 eL => ?_)
    have nLp := hs4.ne nL
    have nLq := hs4.neq nL
    have hs5 := hs4.keep s5
    have hm := hm.keep s5
    have eu := s5 _ _ eu
    clear hs4 s5 nL
    repeat walk_at "rd"
    refine ⟨L, [], [], rfl, .inl eL, RowsAt.nil, (fun r hr => nomatch hr), Nat.zero_le _, fun d r H6 hz s6 ed => ?_⟩
    obtain rfl : r = .any := told_unique (ls := []) (fun l hl => nomatch hl) hz (fun l hl => nomatch hl)
    have hs6 := hs5.keep s6
    have hm := hm.keep s6
    have eu := s6 _ _ eu
    have eL := s6 _ _ eL
    clear hs5 s6 hz
    repeat first | walk_at "rd" | walk_at "rdi"
    refine new_at (Nat.le_of_ble_eq_true rfl) (fun z7 H7 n7 s7 e7 => ?_)
    have ed := ed.keep s7
    have hs7 := hs6.keep s7
    have hm := hm.keep s7
    have eu := s7 _ _ eu
    have eL := s7 _ _ eL
    clear hs6 s7
    repeat first | walk_at "rd" | walk_at "rdi"
    refine ⟨_, _, rfl, told_sam (r := .any) ed e7, ?_⟩
    clear e7 n7
    repeat first | walk_at "rd" | walk_at "rdi"
    refine new_at (Nat.zero_le _) (fun N H8 nN s8 eN => ?_)
    have nNp := hs7.ne nN
    have nNq := hs7.neq nN
    have nNL : N ≠ L := (ne_of_none eL nN).symm
    have S : Sg a.c_Machine p q m u L N o l g [] [] [] H8 := ⟨hs7.keep s8, hm.keep s8, s8 _ _ eu, s8 _ _ eL, RowsAt.nil, eN, NamesAt.nil⟩
    have ed := ed.keep s8
    clear hs7 hm eu eL eN s8 nN
    repeat walk_at "rd"
    refine ⟨p, q, 12, rfl, S.hs, by decide, by decide, fun many H9 m0 m9 hs9 b9 => ?_⟩
    have ed := ed.but S.hs b9
    have S := S.but hs9 b9 nLp nNp nmp
    clear hs9 b9
    repeat walk_at "rd"
    refine ⟨by omega, by omega, for_range (lo := 0) (n := (1 + many).toNat) (fun i σ H' => ∃ (d : Addr) (r : Told) (xs ns : List V) (rs : List Row) (v10 v11 v12 v13 v15 : Option V), σ = [some (.ref b), some (.ref p), some (.int o), some (.int l), some (.int g), some (.ref m), some (.ref u), some (.ref L), some (.ref d), some (.ref N), v10, v11, v12, v13, none, v15] ∧ Sg a.c_Machine p q m u L N o l g xs ns rs H' ∧ rs.length = i ∧ (∀ r, r ∈ rs → RowM (2 * o + l) (gapOf o g) r) ∧ ToldAt H' d r ∧ ToldOk (rs.map lineOf) r) ⟨d, .any, [], [], [], _, _, _, _, _, rfl, S, rfl, (fun r hr => nomatch hr), ed, fun l hl => nomatch hl⟩ ?_ ?_⟩
    · clear S ed
      rintro i σ H10 hi ⟨d, r, xs, ns, rs, v10, v11, v12, v13, v15, rfl, S, hlen, hM, ed, hT⟩
      have hi12 : i < 12 := by omega
      repeat walk_at "rd"
      refine ⟨p, q, rfl, S.hs, fun t zs H11 et hzl hz hs11 b11 => ?_⟩
      have ed := ed.but S.hs b11
      have S := S.but hs11 b11 nLp nNp nmp
      clear hs11 b11
      repeat walk_at "rd"
      refine ⟨.inl ⟨rfl, _, SqL.of S.eN⟩, ?_⟩
      repeat walk_at "rd"
      refine r_app S.eN (small1000 (by have := S.hN.1; rw [List.length_map] at this; omega)) ?_
      have nuN : ∀ {x : Addr} {ys : List V}, H11 x = some (.tup ys) → L2.upd H11 N (.lst (ns ++ [.ref t])) x = some (.tup ys) := fun {x ys} hx => (upd_ne (fun y => by rw [y, S.eN] at hx; cases hx)).trans hx
      have hN12 := (S.hN.snoc et).upd (o := .lst (ns ++ [.ref t])) S.eN
      have hR12 := S.hR.upd (o := .lst (ns ++ [.ref t])) S.eN
      have ed := ed.upd (o := .lst (ns ++ [.ref t])) S.eN
      have hm12 : MachAt a.c_Machine (L2.upd H11 N (.lst (ns ++ [.ref t]))) m o l g := by
        obtain ⟨dx, e⟩ := S.hm
        exact ⟨dx, (upd_ne (fun y => by rw [y, S.eN] at e; cases e)).trans e⟩
      have et := nuN et
      have eu12 := nuN S.eu
      have eL12 : L2.upd H11 N (.lst (ns ++ [.ref t])) L = some (.lst xs) := (upd_ne nNL.symm).trans S.eL
      have eN12 : L2.upd H11 N (.lst (ns ++ [.ref t])) N = some (.lst (ns ++ [.ref t])) := upd_same
      have hs12 : SrcAt (L2.upd H11 N (.lst (ns ++ [.ref t]))) p q := S.hs.upd nNp nNq
      generalize L2.upd H11 N (.lst (ns ++ [.ref t])) = H12 at hN12 hR12 ed hm12 et eu12 eL12 eN12 hs12 ⊢
      clear S nuN
      have hsr := sum_5 zs hz
      have m1 : 0 ≤ (zs.length : Int) * (2 * o + l) := Int.mul_nonneg (by omega) (by omega)
      have m2 : 0 ≤ zs.sum * gapOf o g := Int.mul_nonneg hsr.1 (by omega)
      have m3 : (zs.length : Int) * (2 * o + l) ≤ zs.length * 3000000000 := Int.mul_le_mul_of_nonneg_left (by omega) (by omega)
      have m4 : zs.sum * gapOf o g ≤ zs.sum * 1000000000 := Int.mul_le_mul_of_nonneg_left (by omega) (by omega)
      repeat walk_at "rd"
      refine ⟨t, 0 :: zs, rfl, SqT.of et, ?_⟩
      rw [show ((V.int 0 :: zs.map V.int).length : Int) - 1 = zs.length by rw [List.length_cons, List.length_map]; omega, show (0 :: zs).sum = zs.sum by rw [List.sum_cons]; omega]
      repeat first | walk_at "rd" | walk_at "rdi"
      refine ⟨m, t, _, o, l, g, zs, rfl, hm12, ho, hl, hg, hp, et, T.t_known_at_roots _, by omega, fun z hz' => by have := hz z hz'; omega, fun H13 s13 => ?_⟩
      repeat first | walk_at "rd" | walk_at "rdi"
      refine ⟨_, _, rfl, .inl ⟨rfl, .int _⟩, ?_⟩
      have eL13 := s13 _ _ eL12
      repeat first | walk_at "rd" | walk_at "rdi"
      refine ⟨.inl ⟨rfl, _, SqL.of eL13⟩, ?_⟩
      repeat walk_at "rd"
      refine new_at (Nat.le_of_ble_eq_true rfl) (fun u1 H14 n14 s14 e14 => ?_)
      have s34 := s13.trans s14
      have eL14 := s14 _ _ eL13
      repeat walk_at "rd"
      refine r_app eL14 (small1000 (by have := hR12.1; omega)) ?_
      have nuL : ∀ {x : Addr} {ys : List V}, H14 x = some (.tup ys) → L2.upd H14 L (.lst (xs ++ [.ref u1])) x = some (.tup ys) := fun {x ys} hx => (upd_ne (fun y => by rw [y, eL14] at hx; cases hx)).trans hx
      have S : Sg a.c_Machine p q m u L N o l g (xs ++ [.ref u1]) (ns ++ [.ref t]) (rs ++ [(zs, (zs.length : Int) * (2 * o + l) + zs.sum * gapOf o g)]) (L2.upd H14 L (.lst (xs ++ [.ref u1]))) := by
        refine ⟨(hs12.keep s34).upd nLp nLq, ?_, nuL (s34 _ _ eu12), upd_same, ((hR12.keep s34).snoc ⟨u1, t, rfl, e14, s34 _ _ et⟩).upd eL14, (upd_ne nNL).trans (s34 _ _ eN12), ?_⟩
        · obtain ⟨dx, e⟩ := hm12.keep s34
          exact ⟨dx, (upd_ne (fun y => by rw [y, eL14] at e; cases e)).trans e⟩
        · rw [List.map_append]
          exact (hN12.keep s34).upd eL14
      have ed := (ed.keep s34).upd (o := .lst (xs ++ [.ref u1])) eL14
      generalize L2.upd H14 L (.lst (xs ++ [.ref u1])) = H15 at S ed ⊢
      clear s34 s13 s14 eL14 eL13 e14 n14 hs12 hm12 eu12 eL12 hR12 eN12 hN12 et nuL
      have hM' : ∀ r, r ∈ rs ++ [(zs, (zs.length : Int) * (2 * o + l) + zs.sum * gapOf o g)] → RowM (2 * o + l) (gapOf o g) r := fun r hr => by
        rcases List.mem_append.mp hr with hr | hr
        · exact hM r hr
        · rw [List.mem_singleton] at hr
          subst hr
          exact ⟨hzl, hz, rfl⟩
      have hlen' : (rs ++ [(zs, (zs.length : Int) * (2 * o + l) + zs.sum * gapOf o g)]).length = i + 1 := by rw [List.length_append, List.length_singleton, hlen]
      have hsub : ∀ D G, Solves ((rs ++ [(zs, (zs.length : Int) * (2 * o + l) + zs.sum * gapOf o g)]).map lineOf) D G → Solves (rs.map lineOf) D G := fun D G h l hl => h l (by rw [List.map_append]; exact List.mem_append_left _ hl)
      have hall : (∀ c : L3, c ∈ (rs ++ [(zs, (zs.length : Int) * (2 * o + l) + zs.sum * gapOf o g)]).map lineOf → c = (0, 0, 0)) → ∀ c : L3, c ∈ rs.map lineOf → c = (0, 0, 0) := fun h c hc => h c (by rw [List.map_append]; exact List.mem_append_left _ hc)
      generalize rs ++ [(zs, (zs.length : Int) * (2 * o + l) + zs.sum * gapOf o g)] = rs2 at S hM' hlen' hsub hall
      generalize xs ++ [V.ref u1] = xs2 at S
      generalize ns ++ [V.ref t] = ns2 at S
      clear m1 m2 m3 m4 hsr hz hzl
      have hok := fun r hr => (hM' r hr).ok hD hG
      have hi1 : LinesIn (rs.map lineOf) := fun l hl => by
        obtain ⟨r, hr, rfl⟩ := List.mem_map.mp hl
        exact ((hM r hr).ok hD hG).line
      have hi2 : LinesIn (rs2.map lineOf) := fun l hl => by
        obtain ⟨r, hr, rfl⟩ := List.mem_map.mp hl
        exact (hok r hr).line
      have hsol := RowM.sol hM'
      have eu := S.eu
      repeat first | walk_at "rd" | walk_at "rdi"
      refine r_listL S.eL (fun A1 H16 n16 s16 eA => ?_)
      have S := S.keep s16
      have ed := ed.keep s16
      have eu := s16 _ _ eu
      clear s16 n16
      repeat first | walk_at "rd" | walk_at "rdi"
      refine ⟨A1, xs2, rs2, _, _, rfl, .inl eA, S.hR, hok, by omega, ⟨hD.1, by omega⟩, ⟨hG.1, by omega⟩, fun b' H17 hb s17 => ?_⟩
      obtain rfl : b' = true := hb.mpr hsol
      have S := S.keep s17
      have ed := ed.keep s17
      clear s17 eA eu
      repeat first | walk_at "rd" | walk_at "rdi"
      refine r_listL S.eL (fun A2 H18 n18 s18 eA => ?_)
      have S := S.keep s18
      have ed := ed.keep s18
      clear s18 n18
      repeat first | walk_at "rd" | walk_at "rdi"
      refine ⟨A2, xs2, rs2, rfl, .inl eA, S.hR, hok, by omega, fun f r2 H19 hT2 s19 ef => ?_⟩
      have S := S.keep s19
      have ed := ed.keep s19
      clear s19 eA
      repeat first | walk_at "rd" | walk_at "rdi"
      refine ⟨f, u, _, r2, _, _, rfl, ef, hT2, hi2, S.eu, hsol, hD.1, hG.1, fun H20 s20 => ?_⟩
      have S := S.keep s20
      have ed := ed.keep s20
      have ef := ef.keep s20
      clear s20
      repeat first | walk_at "rd" | walk_at "rdi"
      refine ⟨f, _, r2, rfl, ef, hT2, fun C zs3 ps H21 s21 eC hC hC4 hCs => ?_⟩
      have S := S.keep s21
      have ed := ed.keep s21
      have ef := ef.keep s21
      clear s21
      repeat first | walk_at "rd" | walk_at "rdi"
      refine ⟨C, rfl, ⟨_, SqL.of eC⟩, fun B hB => lc_list (K := K) (a := C) (xs := zs3) (fun j H' => H' B = some (.lst ((List.replicate j true).map V.bl)) ∧ H' C = some (.lst zs3) ∧ Same H21 H') ?_ (fun j H' _ h => SqL.of h.2.1) ?_ ?_⟩
      · exact ⟨upd_same, (upd_ne (ne_of_none eC hB)).trans eC, Same.new hB⟩
      · rintro j y H22 hj ⟨g1, g2, g3⟩
        obtain ⟨t2, pr, rfl, hp2, et2⟩ := (hC.keep g3).get hj
        have hj9 : j < 4 := by have := (List.getElem?_eq_some_iff.mp hp2).1; omega
        obtain ⟨c1, c2, c3⟩ := hCs pr (List.mem_iff_getElem?.mpr ⟨j, hp2⟩)
        repeat walk_at "rd"
        refine ⟨rfl, ?_⟩
        repeat walk_at "rd"
        refine ⟨d, t2, _, r, _, _, rfl, ed.keep g3, hT, hi1, et2, hsub _ _ c1, c2, c3, fun H23 s23 => ?_⟩
        refine ⟨_, s23 _ _ g1, small1000 (by rw [List.length_map, List.length_replicate]; omega), by rw [upd_same, List.replicate_succ', List.map_append]; rfl, (upd_ne (ne_of_none eC hB)).trans (s23 _ _ g2), (g3.trans s23).over hB (s23 _ _ g1)⟩
      · rintro H22 ⟨g1, g2, g3⟩
        have S := S.keep g3
        have ed := ed.keep g3
        have ef := ef.keep g3
        repeat first | walk_at "rd" | walk_at "rdi"
        refine ⟨B, List.replicate zs3.length true, rfl, SqL.of g1, ?_⟩
        rw [show (List.replicate zs3.length true).all id = true by rw [List.all_eq_true]; intro x hx; rw [List.eq_of_mem_replicate hx]; rfl]
        clear g1 g2 g3 eC hC hCs hC4 hB
        obtain ⟨its1, e1⟩ := ed.head
        obtain ⟨its2, e2⟩ := ef.head
        repeat first | walk_at "rd" | walk_at "rdi"
        refine r_ixT e1 (v := .str (wordT r)) (atI_nat (j := 0) rfl) ?_
        repeat first | walk_at "rd" | walk_at "rdi"
        have fin : ∃ (d' : Addr) (r' : Told) (xs ns : List V) (rs : List Row) (w10 w11 w12 w13 w15 : Option V), [some (.ref b), some (.ref p), some (.int o), some (.int l), some (.int g), some (.ref m), some (.ref u), some (.ref L), some (.ref f), some (.ref N), some (.int (0 + (i : Nat))), some (.ref t), some (.int ((zs.length : Int) * (2 * o + l) + zs.sum * gapOf o g)), some (.ref f), none, v15] = [some (.ref b), some (.ref p), some (.int o), some (.int l), some (.int g), some (.ref m), some (.ref u), some (.ref L), some (.ref d'), some (.ref N), w10, w11, w12, w13, none, w15] ∧ Sg a.c_Machine p q m u L N o l g xs ns rs H22 ∧ rs.length = i + 1 ∧ (∀ r, r ∈ rs → RowM (2 * o + l) (gapOf o g) r) ∧ ToldAt H22 d' r' ∧ ToldOk (rs.map lineOf) r' := ⟨f, r2, xs2, ns2, rs2, _, _, _, _, _, rfl, S, hlen', hM', ef, hT2⟩
        by_cases hr : r = .any
        · refine r_neStr true (word_any.mpr hr) ?_
          repeat first | exact fin | walk_at "rd" | walk_at "rdi"
        · refine r_neStr false (Bool.eq_false_iff.mpr fun z => hr (word_any.mp z)) ?_
          repeat first | walk_at "rd" | walk_at "rdi"
          refine r_ixT e2 (v := .str (wordT r2)) (atI_nat (j := 0) rfl) ?_
          repeat first | walk_at "rd" | walk_at "rdi"
          have hr2 : r2 ≠ .any := fun z => by
            rw [z] at hT2
            exact hr (told_unique (r' := .any) hi1 hT (hall hT2))
          refine r_eqStr false (Bool.eq_false_iff.mpr fun z => hr2 (word_any.mp z)) ?_
          repeat first | exact fin | walk_at "rd" | walk_at "rdi"
    · clear S ed
      rintro σ H10 ⟨d, r, xs, ns, rs, v10, v11, v12, v13, v15, rfl, S, hlen, hM, ed, hT⟩
      have hl12 : 1 ≤ rs.length ∧ rs.length ≤ 12 := by omega
      have hok := fun r hr => (hM r hr).ok hD hG
      have hi1 : LinesIn (rs.map lineOf) := fun l hl => by
        obtain ⟨r, hr, rfl⟩ := List.mem_map.mp hl
        exact (hok r hr).line
      have hsol := RowM.sol hM
      have hnl : ns.length = rs.length := by have := S.hN.1; rw [List.length_map] at this; exact this
      obtain ⟨r0, hr0⟩ : ∃ r0, rs[0]? = some r0 := ⟨rs[0], List.getElem?_eq_getElem (by omega)⟩
      obtain ⟨t0, en0, et0⟩ := S.hN.2 0 r0.1 (by rw [List.getElem?_map, hr0]; rfl)
      have ea0 : atI ns 0 = some (.ref t0) := atI_nat (j := 0) en0
      have hs0 := sum_5 r0.1 (hM r0 (List.mem_iff_getElem?.mpr ⟨0, hr0⟩)).items
      have hl0 := (hM r0 (List.mem_iff_getElem?.mpr ⟨0, hr0⟩)).len
      have eN := S.eN
      repeat walk_at "rd"
      refine ⟨N, rfl, ⟨_, SqL.of S.eN⟩, fun B hB => lc_list (K := K) (a := N) (xs := ns) (fun j H' => ∃ acc : List V, H' B = some (.lst acc) ∧ acc.length ≤ j ∧ (0 < acc.length → ∃ rx, rx ∈ rs ∧ rx.1.sum * r0.1.length ≠ r0.1.sum * rx.1.length) ∧ Same H10 H') ?_ (fun j H' _ ⟨_, _, _, _, h⟩ => SqL.of (h _ _ eN)) ?_ ?_⟩
      · exact ⟨[], upd_same, Nat.le_refl _, fun z => absurd z (by decide), Same.new hB⟩
      · rintro j y H11 hj ⟨acc, g1, g2, g3, g4⟩
        obtain ⟨tx, zx, rfl, hx, etx⟩ := (S.hN.keep g4).get hj
        rw [List.getElem?_map] at hx
        obtain ⟨rx, hrx, hrz⟩ : ∃ rx, rs[j]? = some rx ∧ rx.1 = zx := by
          cases e : rs[j]? with
          | none => rw [e] at hx; cases hx
          | some rx => rw [e] at hx; exact ⟨rx, rfl, Option.some.inj hx⟩
        subst hrz
        have hj9 : j < 12 := by have := (List.getElem?_eq_some_iff.mp hrx).1; omega
        have hmx := hM rx (List.mem_iff_getElem?.mpr ⟨j, hrx⟩)
        have hsx := sum_5 rx.1 hmx.items
        have hlx := hmx.len
        have eN11 := g4 _ _ eN
        have et011 := g4 _ _ et0
        have keep : ∃ acc : List V, H11 B = some (.lst acc) ∧ acc.length ≤ j + 1 ∧ (0 < acc.length → ∃ rx, rx ∈ rs ∧ rx.1.sum * r0.1.length ≠ r0.1.sum * rx.1.length) ∧ Same H10 H11 := ⟨acc, g1, by omega, g3, g4⟩
        have c1 : ((V.int 0 :: r0.1.map V.int).length : Int) - 1 = r0.1.length := by rw [List.length_cons, List.length_map]; omega
        have c2 : ((V.int 0 :: rx.1.map V.int).length : Int) - 1 = rx.1.length := by rw [List.length_cons, List.length_map]; omega
        have c3 : (0 :: r0.1).sum = r0.1.sum := by rw [List.sum_cons]; omega
        have c4 : (0 :: rx.1).sum = rx.1.sum := by rw [List.sum_cons]; omega
        repeat walk_at "rd"
        refine ⟨rfl, ?_⟩
        repeat first | walk_at "rd" | walk_at "rdi"
        refine ite_d (fun hc => ?_) (fun hc => ?_)
        · repeat first | walk_at "rd" | walk_at "rdi"
          refine ⟨tx, 0 :: rx.1, rfl, SqT.of etx, ?_⟩
          rw [c4]
          repeat first | walk_at "rd" | walk_at "rdi"
          refine r_ixL eN11 ea0 ?_
          repeat first | walk_at "rd" | walk_at "rdi"
          rw [c1]
          repeat first | walk_at "rd" | walk_at "rdi"
          refine r_ixL eN11 ea0 ?_
          repeat first | walk_at "rd" | walk_at "rdi"
          refine ⟨t0, 0 :: r0.1, rfl, SqT.of et011, ?_⟩
          rw [c3]
          repeat first | walk_at "rd" | walk_at "rdi"
          rw [c2]
          repeat first | walk_at "rd" | walk_at "rdi"
          refine r_nD (fun hne => ?_) (fun heq => ?_)
          · repeat walk_at "rd"
            exact ⟨_, g1, small1000 (by omega), acc ++ [.ref tx], upd_same, by rw [List.length_append, List.length_singleton]; omega, fun _ => ⟨rx, List.mem_iff_getElem?.mpr ⟨j, hrx⟩, hne⟩, g4.over hB g1⟩
          · exact keep
        · exact keep
      · rintro H11 ⟨acc, g1, g2, g3, g4⟩
        have S := S.keep g4
        have ed := ed.keep g4
        have et0 := g4 _ _ et0
        have eN := S.eN
        repeat walk_at "rd"
        with_reducible refine seq_with (fun σ H' => σ = [some (.ref b), some (.ref p), some (.int o), some (.int l), some (.int g), some (.ref m), some (.ref u), some (.ref L), some (.ref d), some (.ref N), v10, v11, v12, v13, some (.ref B), v15] ∧ ToldAt H' d r ∧ Sg a.c_Machine p q m u L N o l g xs ns rs H') ?_ (fun rest => ?_)
        · clear S ed et0 eN g1 g2 g3 g4
          rintro σ H12 ⟨rfl, ed, S⟩
          repeat walk_at "rd"
          refine ⟨p, q, L, xs, rfl, S.hs, S.eL, nLp, nLq, by have := S.hR.1; omega, fun M ys H13 hperm eM hs13 b13 => ?_⟩
          obtain ⟨rs', hpr, hR'⟩ := (S.hR.but S.hs b13).perm hperm
          have ed := ed.but S.hs b13
          have hmem : ∀ l, l ∈ rs.map lineOf ↔ l ∈ rs'.map lineOf := fun l => (hpr.map lineOf).mem_iff
          repeat walk_at "rd"
          refine ⟨M, ys, rs', rfl, .inl eM, hR', fun r hr => hok r (hpr.mem_iff.mpr hr), by rw [← hpr.length_eq]; omega, fun f r2 H14 hT2 s14 ef => ?_⟩
          obtain rfl := told_unique (fun l hl => hi1 l ((hmem l).mpr hl)) (told_mem hi1 hmem hT) hT2
          repeat walk_at "rd"
          refine ⟨_, _, rfl, told_sam ef (ed.keep s14), ?_⟩
          exact k _
        · have stay := rest _ _ ⟨rfl, ed, S⟩
          have c1 : ((V.int 0 :: r0.1.map V.int).length : Int) = r0.1.length + 1 := by rw [List.length_cons, List.length_map]; omega
          repeat first | walk_at "rd" | walk_at "rdi"
          refine r_ixL eN ea0 ?_
          repeat first | walk_at "rd" | walk_at "rdi"
          rw [c1]
          refine ite_d (fun hc => ?_) (fun hc => ?_)
          · repeat first | walk_at "rd" | walk_at "rdi"
            refine ite_d (fun hc2 => ?_) (fun hc2 => ?_)
            · obtain ⟨rx, hrx, hne⟩ := g3 (by omega)
              obtain rfl := told_unlike (a := lineOf r0) (b := lineOf rx) hi1 hT (List.mem_map.mpr ⟨r0, List.mem_iff_getElem?.mpr ⟨0, hr0⟩, rfl⟩) (List.mem_map.mpr ⟨rx, hrx, rfl⟩) (show 0 < (r0.1.length : Int) by omega) hne hsol hD.1 hG.1
              repeat first | walk_at "rd" | walk_at "rdi"
              refine new_at (Nat.le_of_ble_eq_true rfl) (fun z H12 nz s12 ez => ?_)
              have ed := ed.keep s12
              repeat first | walk_at "rd" | walk_at "rdi"
              refine ⟨_, _, rfl, told_sam ed ⟨u, ez, s12 _ _ S.eu⟩, ?_⟩
              have go := rest _ _ ⟨rfl, ed, S.keep s12⟩
              repeat first | exact go | walk_at "rd" | walk_at "rdi"
            · repeat first | exact stay | walk_at "rd" | walk_at "rdi"
          · repeat first | exact stay | walk_at "rd" | walk_at "rdi"
end

theorem all_mk {P : Program} {w : World} {K : PySem.W.Frag} {h : Heap} {mg : Str → Option Value} {fa : Addr} (X : K.In h) (G : h.Ns mainGlobals mg) (hfa : mg "law" = some (.ref fa))
    {c_Tree : Addr} {c_Machine : Addr} {oc_is_integer : Value} {od_is_integer : Option Addr} {an_is_integer : Option Addr} {sl_is_integer : Array (Option Value)} {kV_is_integer : Value} {dc_is_integer : Value} {pm_is_integer : Value} {cd_is_integer : Value} {ct_is_integer : Value} {f_is_integer : Addr} {oc_is_between : Value} {od_is_between : Option Addr} {an_is_between : Option Addr} {sl_is_between : Array (Option Value)} {kV_is_between : Value} {dc_is_between : Value} {pm_is_between : Value} {cd_is_between : Value} {ct_is_between : Value} {f_is_between : Addr} {oc_check_turns : Value} {od_check_turns : Option Addr} {an_check_turns : Option Addr} {sl_check_turns : Array (Option Value)} {kV_check_turns : Value} {dc_check_turns : Value} {pm_check_turns : Value} {cd_check_turns : Value} {ct_check_turns : Value} {f_check_turns : Addr} {oc_check_roots : Value} {od_check_roots : Option Addr} {an_check_roots : Option Addr} {sl_check_roots : Array (Option Value)} {kV_check_roots : Value} {dc_check_roots : Value} {pm_check_roots : Value} {cd_check_roots : Value} {ct_check_roots : Value} {f_check_roots : Addr} {oc_wrong_in_name : Value} {od_wrong_in_name : Option Addr} {an_wrong_in_name : Option Addr} {sl_wrong_in_name : Array (Option Value)} {kV_wrong_in_name : Value} {dc_wrong_in_name : Value} {pm_wrong_in_name : Value} {cd_wrong_in_name : Value} {ct_wrong_in_name : Value} {f_wrong_in_name : Addr} {oc_check_name : Value} {od_check_name : Option Addr} {an_check_name : Option Addr} {sl_check_name : Array (Option Value)} {kV_check_name : Value} {dc_check_name : Value} {pm_check_name : Value} {cd_check_name : Value} {ct_check_name : Value} {f_check_name : Addr} {oc_is_sighting : Value} {od_is_sighting : Option Addr} {an_is_sighting : Option Addr} {sl_is_sighting : Array (Option Value)} {kV_is_sighting : Value} {dc_is_sighting : Value} {pm_is_sighting : Value} {cd_is_sighting : Value} {ct_is_sighting : Value} {f_is_sighting : Addr} {oc_check_sightings : Value} {od_check_sightings : Option Addr} {an_check_sightings : Option Addr} {sl_check_sightings : Array (Option Value)} {kV_check_sightings : Value} {dc_check_sightings : Value} {pm_check_sightings : Value} {cd_check_sightings : Value} {ct_check_sightings : Value} {f_check_sightings : Addr} {oc_sums_of : Value} {od_sums_of : Option Addr} {an_sums_of : Option Addr} {sl_sums_of : Array (Option Value)} {kV_sums_of : Value} {dc_sums_of : Value} {pm_sums_of : Value} {cd_sums_of : Value} {ct_sums_of : Value} {f_sums_of : Addr} {oc_fits : Value} {od_fits : Option Addr} {an_fits : Option Addr} {sl_fits : Array (Option Value)} {kV_fits : Value} {dc_fits : Value} {pm_fits : Value} {cd_fits : Value} {ct_fits : Value} {f_fits : Addr} {oc_explains : Value} {od_explains : Option Addr} {an_explains : Option Addr} {sl_explains : Array (Option Value)} {kV_explains : Value} {dc_explains : Value} {pm_explains : Value} {cd_explains : Value} {ct_explains : Value} {f_explains : Addr} {oc_told_by_two : Value} {od_told_by_two : Option Addr} {an_told_by_two : Option Addr} {sl_told_by_two : Array (Option Value)} {kV_told_by_two : Value} {dc_told_by_two : Value} {pm_told_by_two : Value} {cd_told_by_two : Value} {ct_told_by_two : Value} {f_told_by_two : Addr} {oc_told_by_line : Value} {od_told_by_line : Option Addr} {an_told_by_line : Option Addr} {sl_told_by_line : Array (Option Value)} {kV_told_by_line : Value} {dc_told_by_line : Value} {pm_told_by_line : Value} {cd_told_by_line : Value} {ct_told_by_line : Value} {f_told_by_line : Addr} {oc_told_by_multiples : Value} {od_told_by_multiples : Option Addr} {an_told_by_multiples : Option Addr} {sl_told_by_multiples : Array (Option Value)} {kV_told_by_multiples : Value} {dc_told_by_multiples : Value} {pm_told_by_multiples : Value} {cd_told_by_multiples : Value} {ct_told_by_multiples : Value} {f_told_by_multiples : Addr} {oc_told_back : Value} {od_told_back : Option Addr} {an_told_back : Option Addr} {sl_told_back : Array (Option Value)} {kV_told_back : Value} {dc_told_back : Value} {pm_told_back : Value} {cd_told_back : Value} {ct_told_back : Value} {f_told_back : Addr} {oc_Machine_init : Value} {od_Machine_init : Option Addr} {an_Machine_init : Option Addr} {sl_Machine_init : Array (Option Value)} {kV_Machine_init : Value} {dc_Machine_init : Value} {pm_Machine_init : Value} {cd_Machine_init : Value} {ct_Machine_init : Value} {f_Machine_init : Addr} {oc_Tree_init : Value} {od_Tree_init : Option Addr} {an_Tree_init : Option Addr} {sl_Tree_init : Array (Option Value)} {kV_Tree_init : Value} {dc_Tree_init : Value} {pm_Tree_init : Value} {cd_Tree_init : Value} {ct_Tree_init : Value} {f_Tree_init : Addr} {oc_time_of : Value} {od_time_of : Option Addr} {an_time_of : Option Addr} {sl_time_of : Array (Option Value)} {kV_time_of : Value} {dc_time_of : Value} {pm_time_of : Value} {cd_time_of : Value} {ct_time_of : Value} {f_time_of : Addr} {oc_known_at : Value} {od_known_at : Option Addr} {an_known_at : Option Addr} {sl_known_at : Array (Option Value)} {dc_known_at : Value} {pm_known_at : Value} {cd_known_at : Value} {ct_known_at : Value} {f_known_at : Addr} {D_known_at : Addr} {t_known_at_roots : Addr} {td_known_at_roots : Option Addr} {tn_known_at_roots : Nat} {ts_known_at_roots : Array (Option Value)} {tk0_known_at_roots : Tok} {oc__law_source : Value} {od__law_source : Option Addr} {an__law_source : Option Addr} {sl__law_source : Array (Option Value)} {kV__law_source : Value} {dc__law_source : Value} {pm__law_source : Value} {cd__law_source : Value} {ct__law_source : Value} {f__law_source : Addr} {oc__law_draw : Value} {od__law_draw : Option Addr} {an__law_draw : Option Addr} {sl__law_draw : Array (Option Value)} {kV__law_draw : Value} {dc__law_draw : Value} {pm__law_draw : Value} {cd__law_draw : Value} {ct__law_draw : Value} {f__law_draw : Addr} {oc__law_wide : Value} {od__law_wide : Option Addr} {an__law_wide : Option Addr} {sl__law_wide : Array (Option Value)} {kV__law_wide : Value} {dc__law_wide : Value} {pm__law_wide : Value} {cd__law_wide : Value} {ct__law_wide : Value} {f__law_wide : Addr} {oc__law_numbers : Value} {od__law_numbers : Option Addr} {an__law_numbers : Option Addr} {sl__law_numbers : Array (Option Value)} {kV__law_numbers : Value} {dc__law_numbers : Value} {pm__law_numbers : Value} {cd__law_numbers : Value} {ct__law_numbers : Value} {f__law_numbers : Addr} {oc__law_integer : Value} {od__law_integer : Option Addr} {an__law_integer : Option Addr} {sl__law_integer : Array (Option Value)} {kV__law_integer : Value} {dc__law_integer : Value} {pm__law_integer : Value} {cd__law_integer : Value} {ct__law_integer : Value} {f__law_integer : Addr} {oc__law_same : Value} {od__law_same : Option Addr} {an__law_same : Option Addr} {sl__law_same : Array (Option Value)} {kV__law_same : Value} {dc__law_same : Value} {pm__law_same : Value} {cd__law_same : Value} {ct__law_same : Value} {f__law_same : Addr} {oc__law_shuffled : Value} {od__law_shuffled : Option Addr} {an__law_shuffled : Option Addr} {sl__law_shuffled : Array (Option Value)} {kV__law_shuffled : Value} {dc__law_shuffled : Value} {pm__law_shuffled : Value} {cd__law_shuffled : Value} {ct__law_shuffled : Value} {f__law_shuffled : Addr} {oc__law_name : Value} {od__law_name : Option Addr} {an__law_name : Option Addr} {sl__law_name : Array (Option Value)} {kV__law_name : Value} {dc__law_name : Value} {pm__law_name : Value} {cd__law_name : Value} {ct__law_name : Value} {f__law_name : Addr} {oc__law_holds : Value} {od__law_holds : Option Addr} {an__law_holds : Option Addr} {sl__law_holds : Array (Option Value)} {kV__law_holds : Value} {dc__law_holds : Value} {pm__law_holds : Value} {cd__law_holds : Value} {ct__law_holds : Value} {f__law_holds : Addr} {oc__law_some_pairs : Value} {od__law_some_pairs : Option Addr} {an__law_some_pairs : Option Addr} {sl__law_some_pairs : Array (Option Value)} {kV__law_some_pairs : Value} {dc__law_some_pairs : Value} {pm__law_some_pairs : Value} {cd__law_some_pairs : Value} {ct__law_some_pairs : Value} {f__law_some_pairs : Addr} {oc_law : Value} {od_law : Option Addr} {an_law : Option Addr} {sl_law : Array (Option Value)} {kV_law : Value} {dc_law : Value} {pm_law : Value} {cd_law : Value} {ct_law : Value} {f_law : Addr} {t_MOST_TURNS : Tok} {t_MOST_ROOTS : Tok} {t_LATEST_ROOT : Tok} {t_LONGEST_NAME : Tok} {t_GREATEST_ITEM : Tok} {t_MOST_SIGHTINGS : Tok} {t_LATEST_SIGHTING : Tok} {t_GREATEST_TOLD : Tok} {t_GREATEST_PART : Tok} {t_FREE_DEPTHS : Tok} {t_TURNS_DEPTHS : Tok}
    (H_g_Tree : PySem.W.nsIn K mainGlobals "Tree" = some (some (.ref c_Tree)))
    (H_g_Machine : PySem.W.nsIn K mainGlobals "Machine" = some (some (.ref c_Machine)))
    (H_a_is_integer : PySem.W.nsIn K mainGlobals "is_integer" = some (some (.ref f_is_integer)))
    (H_l_is_integer : K.lookup f_is_integer = some ⟨oc_is_integer, od_is_integer, .func (PySem.W.fnOf "is_integer" "is_integer" (defArgs s_is_integer) (defBody s_is_integer) (defScope s_is_integer) .none kV_is_integer dc_is_integer pm_is_integer an_is_integer cd_is_integer ct_is_integer), sl_is_integer⟩)
    (H_c_is_integer : PySem.W.codeIn K cd_is_integer "is_integer" = true)
    (H_k_is_integer : PySem.W.keepIn K (.ref f_is_integer) = true)
    (H_a_is_between : PySem.W.nsIn K mainGlobals "is_between" = some (some (.ref f_is_between)))
    (H_l_is_between : K.lookup f_is_between = some ⟨oc_is_between, od_is_between, .func (PySem.W.fnOf "is_between" "is_between" (defArgs s_is_between) (defBody s_is_between) (defScope s_is_between) .none kV_is_between dc_is_between pm_is_between an_is_between cd_is_between ct_is_between), sl_is_between⟩)
    (H_c_is_between : PySem.W.codeIn K cd_is_between "is_between" = true)
    (H_k_is_between : PySem.W.keepIn K (.ref f_is_between) = true)
    (H_a_check_turns : PySem.W.nsIn K mainGlobals "check_turns" = some (some (.ref f_check_turns)))
    (H_l_check_turns : K.lookup f_check_turns = some ⟨oc_check_turns, od_check_turns, .func (PySem.W.fnOf "check_turns" "check_turns" (defArgs s_check_turns) (defBody s_check_turns) (defScope s_check_turns) .none kV_check_turns dc_check_turns pm_check_turns an_check_turns cd_check_turns ct_check_turns), sl_check_turns⟩)
    (H_c_check_turns : PySem.W.codeIn K cd_check_turns "check_turns" = true)
    (H_k_check_turns : PySem.W.keepIn K (.ref f_check_turns) = true)
    (H_a_check_roots : PySem.W.nsIn K mainGlobals "check_roots" = some (some (.ref f_check_roots)))
    (H_l_check_roots : K.lookup f_check_roots = some ⟨oc_check_roots, od_check_roots, .func (PySem.W.fnOf "check_roots" "check_roots" (defArgs s_check_roots) (defBody s_check_roots) (defScope s_check_roots) .none kV_check_roots dc_check_roots pm_check_roots an_check_roots cd_check_roots ct_check_roots), sl_check_roots⟩)
    (H_c_check_roots : PySem.W.codeIn K cd_check_roots "check_roots" = true)
    (H_k_check_roots : PySem.W.keepIn K (.ref f_check_roots) = true)
    (H_a_wrong_in_name : PySem.W.nsIn K mainGlobals "wrong_in_name" = some (some (.ref f_wrong_in_name)))
    (H_l_wrong_in_name : K.lookup f_wrong_in_name = some ⟨oc_wrong_in_name, od_wrong_in_name, .func (PySem.W.fnOf "wrong_in_name" "wrong_in_name" (defArgs s_wrong_in_name) (defBody s_wrong_in_name) (defScope s_wrong_in_name) .none kV_wrong_in_name dc_wrong_in_name pm_wrong_in_name an_wrong_in_name cd_wrong_in_name ct_wrong_in_name), sl_wrong_in_name⟩)
    (H_c_wrong_in_name : PySem.W.codeIn K cd_wrong_in_name "wrong_in_name" = true)
    (H_k_wrong_in_name : PySem.W.keepIn K (.ref f_wrong_in_name) = true)
    (H_a_check_name : PySem.W.nsIn K mainGlobals "check_name" = some (some (.ref f_check_name)))
    (H_l_check_name : K.lookup f_check_name = some ⟨oc_check_name, od_check_name, .func (PySem.W.fnOf "check_name" "check_name" (defArgs s_check_name) (defBody s_check_name) (defScope s_check_name) .none kV_check_name dc_check_name pm_check_name an_check_name cd_check_name ct_check_name), sl_check_name⟩)
    (H_c_check_name : PySem.W.codeIn K cd_check_name "check_name" = true)
    (H_k_check_name : PySem.W.keepIn K (.ref f_check_name) = true)
    (H_a_is_sighting : PySem.W.nsIn K mainGlobals "is_sighting" = some (some (.ref f_is_sighting)))
    (H_l_is_sighting : K.lookup f_is_sighting = some ⟨oc_is_sighting, od_is_sighting, .func (PySem.W.fnOf "is_sighting" "is_sighting" (defArgs s_is_sighting) (defBody s_is_sighting) (defScope s_is_sighting) .none kV_is_sighting dc_is_sighting pm_is_sighting an_is_sighting cd_is_sighting ct_is_sighting), sl_is_sighting⟩)
    (H_c_is_sighting : PySem.W.codeIn K cd_is_sighting "is_sighting" = true)
    (H_k_is_sighting : PySem.W.keepIn K (.ref f_is_sighting) = true)
    (H_a_check_sightings : PySem.W.nsIn K mainGlobals "check_sightings" = some (some (.ref f_check_sightings)))
    (H_l_check_sightings : K.lookup f_check_sightings = some ⟨oc_check_sightings, od_check_sightings, .func (PySem.W.fnOf "check_sightings" "check_sightings" (defArgs s_check_sightings) (defBody s_check_sightings) (defScope s_check_sightings) .none kV_check_sightings dc_check_sightings pm_check_sightings an_check_sightings cd_check_sightings ct_check_sightings), sl_check_sightings⟩)
    (H_c_check_sightings : PySem.W.codeIn K cd_check_sightings "check_sightings" = true)
    (H_k_check_sightings : PySem.W.keepIn K (.ref f_check_sightings) = true)
    (H_a_sums_of : PySem.W.nsIn K mainGlobals "sums_of" = some (some (.ref f_sums_of)))
    (H_l_sums_of : K.lookup f_sums_of = some ⟨oc_sums_of, od_sums_of, .func (PySem.W.fnOf "sums_of" "sums_of" (defArgs s_sums_of) (defBody s_sums_of) (defScope s_sums_of) .none kV_sums_of dc_sums_of pm_sums_of an_sums_of cd_sums_of ct_sums_of), sl_sums_of⟩)
    (H_c_sums_of : PySem.W.codeIn K cd_sums_of "sums_of" = true)
    (H_k_sums_of : PySem.W.keepIn K (.ref f_sums_of) = true)
    (H_a_fits : PySem.W.nsIn K mainGlobals "fits" = some (some (.ref f_fits)))
    (H_l_fits : K.lookup f_fits = some ⟨oc_fits, od_fits, .func (PySem.W.fnOf "fits" "fits" (defArgs s_fits) (defBody s_fits) (defScope s_fits) .none kV_fits dc_fits pm_fits an_fits cd_fits ct_fits), sl_fits⟩)
    (H_c_fits : PySem.W.codeIn K cd_fits "fits" = true)
    (H_k_fits : PySem.W.keepIn K (.ref f_fits) = true)
    (H_a_explains : PySem.W.nsIn K mainGlobals "explains" = some (some (.ref f_explains)))
    (H_l_explains : K.lookup f_explains = some ⟨oc_explains, od_explains, .func (PySem.W.fnOf "explains" "explains" (defArgs s_explains) (defBody s_explains) (defScope s_explains) .none kV_explains dc_explains pm_explains an_explains cd_explains ct_explains), sl_explains⟩)
    (H_c_explains : PySem.W.codeIn K cd_explains "explains" = true)
    (H_k_explains : PySem.W.keepIn K (.ref f_explains) = true)
    (H_a_told_by_two : PySem.W.nsIn K mainGlobals "told_by_two" = some (some (.ref f_told_by_two)))
    (H_l_told_by_two : K.lookup f_told_by_two = some ⟨oc_told_by_two, od_told_by_two, .func (PySem.W.fnOf "told_by_two" "told_by_two" (defArgs s_told_by_two) (defBody s_told_by_two) (defScope s_told_by_two) .none kV_told_by_two dc_told_by_two pm_told_by_two an_told_by_two cd_told_by_two ct_told_by_two), sl_told_by_two⟩)
    (H_c_told_by_two : PySem.W.codeIn K cd_told_by_two "told_by_two" = true)
    (H_k_told_by_two : PySem.W.keepIn K (.ref f_told_by_two) = true)
    (H_a_told_by_line : PySem.W.nsIn K mainGlobals "told_by_line" = some (some (.ref f_told_by_line)))
    (H_l_told_by_line : K.lookup f_told_by_line = some ⟨oc_told_by_line, od_told_by_line, .func (PySem.W.fnOf "told_by_line" "told_by_line" (defArgs s_told_by_line) (defBody s_told_by_line) (defScope s_told_by_line) .none kV_told_by_line dc_told_by_line pm_told_by_line an_told_by_line cd_told_by_line ct_told_by_line), sl_told_by_line⟩)
    (H_c_told_by_line : PySem.W.codeIn K cd_told_by_line "told_by_line" = true)
    (H_k_told_by_line : PySem.W.keepIn K (.ref f_told_by_line) = true)
    (H_a_told_by_multiples : PySem.W.nsIn K mainGlobals "told_by_multiples" = some (some (.ref f_told_by_multiples)))
    (H_l_told_by_multiples : K.lookup f_told_by_multiples = some ⟨oc_told_by_multiples, od_told_by_multiples, .func (PySem.W.fnOf "told_by_multiples" "told_by_multiples" (defArgs s_told_by_multiples) (defBody s_told_by_multiples) (defScope s_told_by_multiples) .none kV_told_by_multiples dc_told_by_multiples pm_told_by_multiples an_told_by_multiples cd_told_by_multiples ct_told_by_multiples), sl_told_by_multiples⟩)
    (H_c_told_by_multiples : PySem.W.codeIn K cd_told_by_multiples "told_by_multiples" = true)
    (H_k_told_by_multiples : PySem.W.keepIn K (.ref f_told_by_multiples) = true)
    (H_a_told_back : PySem.W.nsIn K mainGlobals "told_back" = some (some (.ref f_told_back)))
    (H_l_told_back : K.lookup f_told_back = some ⟨oc_told_back, od_told_back, .func (PySem.W.fnOf "told_back" "told_back" (defArgs s_told_back) (defBody s_told_back) (defScope s_told_back) .none kV_told_back dc_told_back pm_told_back an_told_back cd_told_back ct_told_back), sl_told_back⟩)
    (H_c_told_back : PySem.W.codeIn K cd_told_back "told_back" = true)
    (H_k_told_back : PySem.W.keepIn K (.ref f_told_back) = true)
    (H_a_Machine_init : PySem.W.findIn K (.ref c_Machine) "__init__" = some (some (.ref f_Machine_init)))
    (H_i_Machine_init : PySem.W.isFn K (.ref f_Machine_init) = true)
    (H_l_Machine_init : K.lookup f_Machine_init = some ⟨oc_Machine_init, od_Machine_init, .func (PySem.W.fnOf "__init__" "Machine.__init__" (defArgs s_Machine_init) (defBody s_Machine_init) (defScope s_Machine_init) .none kV_Machine_init dc_Machine_init pm_Machine_init an_Machine_init cd_Machine_init ct_Machine_init), sl_Machine_init⟩)
    (H_c_Machine_init : PySem.W.codeIn K cd_Machine_init "Machine.__init__" = true)
    (H_k_Machine_init : PySem.W.keepIn K (.ref f_Machine_init) = true)
    (H_a_Tree_init : PySem.W.findIn K (.ref c_Tree) "__init__" = some (some (.ref f_Tree_init)))
    (H_i_Tree_init : PySem.W.isFn K (.ref f_Tree_init) = true)
    (H_l_Tree_init : K.lookup f_Tree_init = some ⟨oc_Tree_init, od_Tree_init, .func (PySem.W.fnOf "__init__" "Tree.__init__" (defArgs s_Tree_init) (defBody s_Tree_init) (defScope s_Tree_init) .none kV_Tree_init dc_Tree_init pm_Tree_init an_Tree_init cd_Tree_init ct_Tree_init), sl_Tree_init⟩)
    (H_c_Tree_init : PySem.W.codeIn K cd_Tree_init "Tree.__init__" = true)
    (H_k_Tree_init : PySem.W.keepIn K (.ref f_Tree_init) = true)
    (H_a_time_of : PySem.W.nsIn K mainGlobals "time_of" = some (some (.ref f_time_of)))
    (H_l_time_of : K.lookup f_time_of = some ⟨oc_time_of, od_time_of, .func (PySem.W.fnOf "time_of" "time_of" (defArgs s_time_of) (defBody s_time_of) (defScope s_time_of) .none kV_time_of dc_time_of pm_time_of an_time_of cd_time_of ct_time_of), sl_time_of⟩)
    (H_c_time_of : PySem.W.codeIn K cd_time_of "time_of" = true)
    (H_k_time_of : PySem.W.keepIn K (.ref f_time_of) = true)
    (H_a_known_at : PySem.W.nsIn K mainGlobals "known_at" = some (some (.ref f_known_at)))
    (H_l_known_at : K.lookup f_known_at = some ⟨oc_known_at, od_known_at, .func (PySem.W.fnOf "known_at" "known_at" (defArgs s_known_at) (defBody s_known_at) (defScope s_known_at) .none (.ref D_known_at) dc_known_at pm_known_at an_known_at cd_known_at ct_known_at), sl_known_at⟩)
    (H_kw_known_at_turns : PySem.W.nsIn K D_known_at "turns" = some (some .none))
    (H_kw_known_at_roots : PySem.W.nsIn K D_known_at "roots" = some (some (.ref t_known_at_roots)))
    (H_tp_known_at_roots : K.lookup t_known_at_roots = some ⟨.type "tuple", td_known_at_roots, .seq #[.int 0 tk0_known_at_roots] tn_known_at_roots, ts_known_at_roots⟩)
    (H_c_known_at : PySem.W.codeIn K cd_known_at "known_at" = true)
    (H_k_known_at : PySem.W.keepIn K (.ref f_known_at) = true)
    (H_a__law_source : PySem.W.nsIn K mainGlobals "_law_source" = some (some (.ref f__law_source)))
    (H_l__law_source : K.lookup f__law_source = some ⟨oc__law_source, od__law_source, .func (PySem.W.fnOf "_law_source" "_law_source" (defArgs s__law_source) (defBody s__law_source) (defScope s__law_source) .none kV__law_source dc__law_source pm__law_source an__law_source cd__law_source ct__law_source), sl__law_source⟩)
    (H_c__law_source : PySem.W.codeIn K cd__law_source "_law_source" = true)
    (H_k__law_source : PySem.W.keepIn K (.ref f__law_source) = true)
    (H_a__law_draw : PySem.W.nsIn K mainGlobals "_law_draw" = some (some (.ref f__law_draw)))
    (H_l__law_draw : K.lookup f__law_draw = some ⟨oc__law_draw, od__law_draw, .func (PySem.W.fnOf "_law_draw" "_law_draw" (defArgs s__law_draw) (defBody s__law_draw) (defScope s__law_draw) .none kV__law_draw dc__law_draw pm__law_draw an__law_draw cd__law_draw ct__law_draw), sl__law_draw⟩)
    (H_c__law_draw : PySem.W.codeIn K cd__law_draw "_law_draw" = true)
    (H_k__law_draw : PySem.W.keepIn K (.ref f__law_draw) = true)
    (H_a__law_wide : PySem.W.nsIn K mainGlobals "_law_wide" = some (some (.ref f__law_wide)))
    (H_l__law_wide : K.lookup f__law_wide = some ⟨oc__law_wide, od__law_wide, .func (PySem.W.fnOf "_law_wide" "_law_wide" (defArgs s__law_wide) (defBody s__law_wide) (defScope s__law_wide) .none kV__law_wide dc__law_wide pm__law_wide an__law_wide cd__law_wide ct__law_wide), sl__law_wide⟩)
    (H_c__law_wide : PySem.W.codeIn K cd__law_wide "_law_wide" = true)
    (H_k__law_wide : PySem.W.keepIn K (.ref f__law_wide) = true)
    (H_a__law_numbers : PySem.W.nsIn K mainGlobals "_law_numbers" = some (some (.ref f__law_numbers)))
    (H_l__law_numbers : K.lookup f__law_numbers = some ⟨oc__law_numbers, od__law_numbers, .func (PySem.W.fnOf "_law_numbers" "_law_numbers" (defArgs s__law_numbers) (defBody s__law_numbers) (defScope s__law_numbers) .none kV__law_numbers dc__law_numbers pm__law_numbers an__law_numbers cd__law_numbers ct__law_numbers), sl__law_numbers⟩)
    (H_c__law_numbers : PySem.W.codeIn K cd__law_numbers "_law_numbers" = true)
    (H_k__law_numbers : PySem.W.keepIn K (.ref f__law_numbers) = true)
    (H_a__law_integer : PySem.W.nsIn K mainGlobals "_law_integer" = some (some (.ref f__law_integer)))
    (H_l__law_integer : K.lookup f__law_integer = some ⟨oc__law_integer, od__law_integer, .func (PySem.W.fnOf "_law_integer" "_law_integer" (defArgs s__law_integer) (defBody s__law_integer) (defScope s__law_integer) .none kV__law_integer dc__law_integer pm__law_integer an__law_integer cd__law_integer ct__law_integer), sl__law_integer⟩)
    (H_c__law_integer : PySem.W.codeIn K cd__law_integer "_law_integer" = true)
    (H_k__law_integer : PySem.W.keepIn K (.ref f__law_integer) = true)
    (H_a__law_same : PySem.W.nsIn K mainGlobals "_law_same" = some (some (.ref f__law_same)))
    (H_l__law_same : K.lookup f__law_same = some ⟨oc__law_same, od__law_same, .func (PySem.W.fnOf "_law_same" "_law_same" (defArgs s__law_same) (defBody s__law_same) (defScope s__law_same) .none kV__law_same dc__law_same pm__law_same an__law_same cd__law_same ct__law_same), sl__law_same⟩)
    (H_c__law_same : PySem.W.codeIn K cd__law_same "_law_same" = true)
    (H_k__law_same : PySem.W.keepIn K (.ref f__law_same) = true)
    (H_a__law_shuffled : PySem.W.nsIn K mainGlobals "_law_shuffled" = some (some (.ref f__law_shuffled)))
    (H_l__law_shuffled : K.lookup f__law_shuffled = some ⟨oc__law_shuffled, od__law_shuffled, .func (PySem.W.fnOf "_law_shuffled" "_law_shuffled" (defArgs s__law_shuffled) (defBody s__law_shuffled) (defScope s__law_shuffled) .none kV__law_shuffled dc__law_shuffled pm__law_shuffled an__law_shuffled cd__law_shuffled ct__law_shuffled), sl__law_shuffled⟩)
    (H_c__law_shuffled : PySem.W.codeIn K cd__law_shuffled "_law_shuffled" = true)
    (H_k__law_shuffled : PySem.W.keepIn K (.ref f__law_shuffled) = true)
    (H_a__law_name : PySem.W.nsIn K mainGlobals "_law_name" = some (some (.ref f__law_name)))
    (H_l__law_name : K.lookup f__law_name = some ⟨oc__law_name, od__law_name, .func (PySem.W.fnOf "_law_name" "_law_name" (defArgs s__law_name) (defBody s__law_name) (defScope s__law_name) .none kV__law_name dc__law_name pm__law_name an__law_name cd__law_name ct__law_name), sl__law_name⟩)
    (H_c__law_name : PySem.W.codeIn K cd__law_name "_law_name" = true)
    (H_k__law_name : PySem.W.keepIn K (.ref f__law_name) = true)
    (H_a__law_holds : PySem.W.nsIn K mainGlobals "_law_holds" = some (some (.ref f__law_holds)))
    (H_l__law_holds : K.lookup f__law_holds = some ⟨oc__law_holds, od__law_holds, .func (PySem.W.fnOf "_law_holds" "_law_holds" (defArgs s__law_holds) (defBody s__law_holds) (defScope s__law_holds) .none kV__law_holds dc__law_holds pm__law_holds an__law_holds cd__law_holds ct__law_holds), sl__law_holds⟩)
    (H_c__law_holds : PySem.W.codeIn K cd__law_holds "_law_holds" = true)
    (H_k__law_holds : PySem.W.keepIn K (.ref f__law_holds) = true)
    (H_a__law_some_pairs : PySem.W.nsIn K mainGlobals "_law_some_pairs" = some (some (.ref f__law_some_pairs)))
    (H_l__law_some_pairs : K.lookup f__law_some_pairs = some ⟨oc__law_some_pairs, od__law_some_pairs, .func (PySem.W.fnOf "_law_some_pairs" "_law_some_pairs" (defArgs s__law_some_pairs) (defBody s__law_some_pairs) (defScope s__law_some_pairs) .none kV__law_some_pairs dc__law_some_pairs pm__law_some_pairs an__law_some_pairs cd__law_some_pairs ct__law_some_pairs), sl__law_some_pairs⟩)
    (H_c__law_some_pairs : PySem.W.codeIn K cd__law_some_pairs "_law_some_pairs" = true)
    (H_k__law_some_pairs : PySem.W.keepIn K (.ref f__law_some_pairs) = true)
    (H_a_law : PySem.W.nsIn K mainGlobals "law" = some (some (.ref f_law)))
    (H_l_law : K.lookup f_law = some ⟨oc_law, od_law, .func (PySem.W.fnOf "law" "law" (defArgs s_law) (defBody s_law) (defScope s_law) .none kV_law dc_law pm_law an_law cd_law ct_law), sl_law⟩)
    (H_c_law : PySem.W.codeIn K cd_law "law" = true)
    (H_k_law : PySem.W.keepIn K (.ref f_law) = true)
    (H_pg_Machine : PySem.W.plainGet K c_Machine Str.empty = true)
    (H_hd_Machine : PySem.W.hasDictIn K c_Machine = true)
    (H_po_Machine : PySem.W.plainOver K c_Machine = true)
    (H_sa_Machine : PySem.W.findIn K (.ref c_Machine) "__setattr__" = some (some (.builtin "object.__setattr__")))
    (H_mk_Machine : PySem.W.makesIn K c_Machine = true)
    (H_kc_Machine : PySem.W.keepIn K (.ref c_Machine) = true)
    (H_nF_Machine_o : PySem.W.findIn K (.ref c_Machine) "o" = some none)
    (H_nF_Machine_l : PySem.W.findIn K (.ref c_Machine) "l" = some none)
    (H_nF_Machine_g : PySem.W.findIn K (.ref c_Machine) "g" = some none)
    (H_nF_Machine_letter : PySem.W.findIn K (.ref c_Machine) "letter" = some none)
    (H_nF_Machine_gap : PySem.W.findIn K (.ref c_Machine) "gap" = some none)
    (H_pg_Tree : PySem.W.plainGet K c_Tree Str.empty = true)
    (H_hd_Tree : PySem.W.hasDictIn K c_Tree = true)
    (H_po_Tree : PySem.W.plainOver K c_Tree = true)
    (H_sa_Tree : PySem.W.findIn K (.ref c_Tree) "__setattr__" = some (some (.builtin "object.__setattr__")))
    (H_mk_Tree : PySem.W.makesIn K c_Tree = true)
    (H_kc_Tree : PySem.W.keepIn K (.ref c_Tree) = true)
    (H_nF_Tree_letter : PySem.W.findIn K (.ref c_Tree) "letter" = some none)
    (H_nF_Tree_gap : PySem.W.findIn K (.ref c_Tree) "gap" = some none)
    (H_nF_Tree_turns : PySem.W.findIn K (.ref c_Tree) "turns" = some none)
    (H_nF_Tree_roots : PySem.W.findIn K (.ref c_Tree) "roots" = some none)
    (H_nF_Tree_horizon : PySem.W.findIn K (.ref c_Tree) "horizon" = some none)
    (H_nF_Tree_powers : PySem.W.findIn K (.ref c_Tree) "powers" = some none)
    (H_n_all : PySem.W.nsIn K mainGlobals "all" = some none)
    (H_n_bool : PySem.W.nsIn K mainGlobals "bool" = some none)
    (H_n_enumerate : PySem.W.nsIn K mainGlobals "enumerate" = some none)
    (H_n_int : PySem.W.nsIn K mainGlobals "int" = some none)
    (H_n_isinstance : PySem.W.nsIn K mainGlobals "isinstance" = some none)
    (H_n_len : PySem.W.nsIn K mainGlobals "len" = some none)
    (H_n_list : PySem.W.nsIn K mainGlobals "list" = some none)
    (H_n_max : PySem.W.nsIn K mainGlobals "max" = some none)
    (H_n_range : PySem.W.nsIn K mainGlobals "range" = some none)
    (H_n_str : PySem.W.nsIn K mainGlobals "str" = some none)
    (H_n_sum : PySem.W.nsIn K mainGlobals "sum" = some none)
    (H_n_tuple : PySem.W.nsIn K mainGlobals "tuple" = some none)
    (H_x_MOST_TURNS : PySem.W.nsIn K mainGlobals "MOST_TURNS" = some (some (.int 1000000000000 t_MOST_TURNS)))
    (H_x_MOST_ROOTS : PySem.W.nsIn K mainGlobals "MOST_ROOTS" = some (some (.int 6 t_MOST_ROOTS)))
    (H_x_LATEST_ROOT : PySem.W.nsIn K mainGlobals "LATEST_ROOT" = some (some (.int 1000000000000 t_LATEST_ROOT)))
    (H_x_LONGEST_NAME : PySem.W.nsIn K mainGlobals "LONGEST_NAME" = some (some (.int 200 t_LONGEST_NAME)))
    (H_x_GREATEST_ITEM : PySem.W.nsIn K mainGlobals "GREATEST_ITEM" = some (some (.int 1000000000000000 t_GREATEST_ITEM)))
    (H_x_MOST_SIGHTINGS : PySem.W.nsIn K mainGlobals "MOST_SIGHTINGS" = some (some (.int 60 t_MOST_SIGHTINGS)))
    (H_x_LATEST_SIGHTING : PySem.W.nsIn K mainGlobals "LATEST_SIGHTING" = some (some (.int 100000000000000000000 t_LATEST_SIGHTING)))
    (H_x_GREATEST_TOLD : PySem.W.nsIn K mainGlobals "GREATEST_TOLD" = some (some (.int 100000000000000000000 t_GREATEST_TOLD)))
    (H_x_GREATEST_PART : PySem.W.nsIn K mainGlobals "GREATEST_PART" = some (some (.int 1000000000 t_GREATEST_PART)))
    (H_x_FREE_DEPTHS : PySem.W.nsIn K mainGlobals "FREE_DEPTHS" = some (some (.int 120 t_FREE_DEPTHS)))
    (H_x_TURNS_DEPTHS : PySem.W.nsIn K mainGlobals "TURNS_DEPTHS" = some (some (.int 40 t_TURNS_DEPTHS)))
    (H_gcd : PySem.W.nsIn K mainGlobals "gcd" = some (some (.builtin "math.gcd")))
    : ∃ fd : FuncData, (∀ (s : Shared) (v : Value), BindsTo s fd ⟨[v], []⟩ [("_law_script", v)]) ∧ ∀ base : Heap, K.In base → base.Ns mainGlobals mg → FnOk P w K mg base CX0 9 fa fd ["_law_script"] (spLaw K) := by
  have e := hfa.symm.trans (PySem.W.mg_of X G H_a_law)
  cases e
  let a : Adr := { a_is_integer := f_is_integer, d_is_integer := PySem.W.fnOf "is_integer" "is_integer" (defArgs s_is_integer) (defBody s_is_integer) (defScope s_is_integer) .none kV_is_integer dc_is_integer pm_is_integer an_is_integer cd_is_integer ct_is_integer, a_is_between := f_is_between, d_is_between := PySem.W.fnOf "is_between" "is_between" (defArgs s_is_between) (defBody s_is_between) (defScope s_is_between) .none kV_is_between dc_is_between pm_is_between an_is_between cd_is_between ct_is_between, a_check_turns := f_check_turns, d_check_turns := PySem.W.fnOf "check_turns" "check_turns" (defArgs s_check_turns) (defBody s_check_turns) (defScope s_check_turns) .none kV_check_turns dc_check_turns pm_check_turns an_check_turns cd_check_turns ct_check_turns, a_check_roots := f_check_roots, d_check_roots := PySem.W.fnOf "check_roots" "check_roots" (defArgs s_check_roots) (defBody s_check_roots) (defScope s_check_roots) .none kV_check_roots dc_check_roots pm_check_roots an_check_roots cd_check_roots ct_check_roots, a_wrong_in_name := f_wrong_in_name, d_wrong_in_name := PySem.W.fnOf "wrong_in_name" "wrong_in_name" (defArgs s_wrong_in_name) (defBody s_wrong_in_name) (defScope s_wrong_in_name) .none kV_wrong_in_name dc_wrong_in_name pm_wrong_in_name an_wrong_in_name cd_wrong_in_name ct_wrong_in_name, a_check_name := f_check_name, d_check_name := PySem.W.fnOf "check_name" "check_name" (defArgs s_check_name) (defBody s_check_name) (defScope s_check_name) .none kV_check_name dc_check_name pm_check_name an_check_name cd_check_name ct_check_name, a_is_sighting := f_is_sighting, d_is_sighting := PySem.W.fnOf "is_sighting" "is_sighting" (defArgs s_is_sighting) (defBody s_is_sighting) (defScope s_is_sighting) .none kV_is_sighting dc_is_sighting pm_is_sighting an_is_sighting cd_is_sighting ct_is_sighting, a_check_sightings := f_check_sightings, d_check_sightings := PySem.W.fnOf "check_sightings" "check_sightings" (defArgs s_check_sightings) (defBody s_check_sightings) (defScope s_check_sightings) .none kV_check_sightings dc_check_sightings pm_check_sightings an_check_sightings cd_check_sightings ct_check_sightings, a_sums_of := f_sums_of, d_sums_of := PySem.W.fnOf "sums_of" "sums_of" (defArgs s_sums_of) (defBody s_sums_of) (defScope s_sums_of) .none kV_sums_of dc_sums_of pm_sums_of an_sums_of cd_sums_of ct_sums_of, a_fits := f_fits, d_fits := PySem.W.fnOf "fits" "fits" (defArgs s_fits) (defBody s_fits) (defScope s_fits) .none kV_fits dc_fits pm_fits an_fits cd_fits ct_fits, a_explains := f_explains, d_explains := PySem.W.fnOf "explains" "explains" (defArgs s_explains) (defBody s_explains) (defScope s_explains) .none kV_explains dc_explains pm_explains an_explains cd_explains ct_explains, a_told_by_two := f_told_by_two, d_told_by_two := PySem.W.fnOf "told_by_two" "told_by_two" (defArgs s_told_by_two) (defBody s_told_by_two) (defScope s_told_by_two) .none kV_told_by_two dc_told_by_two pm_told_by_two an_told_by_two cd_told_by_two ct_told_by_two, a_told_by_line := f_told_by_line, d_told_by_line := PySem.W.fnOf "told_by_line" "told_by_line" (defArgs s_told_by_line) (defBody s_told_by_line) (defScope s_told_by_line) .none kV_told_by_line dc_told_by_line pm_told_by_line an_told_by_line cd_told_by_line ct_told_by_line, a_told_by_multiples := f_told_by_multiples, d_told_by_multiples := PySem.W.fnOf "told_by_multiples" "told_by_multiples" (defArgs s_told_by_multiples) (defBody s_told_by_multiples) (defScope s_told_by_multiples) .none kV_told_by_multiples dc_told_by_multiples pm_told_by_multiples an_told_by_multiples cd_told_by_multiples ct_told_by_multiples, a_told_back := f_told_back, d_told_back := PySem.W.fnOf "told_back" "told_back" (defArgs s_told_back) (defBody s_told_back) (defScope s_told_back) .none kV_told_back dc_told_back pm_told_back an_told_back cd_told_back ct_told_back, a_Machine_init := f_Machine_init, d_Machine_init := PySem.W.fnOf "__init__" "Machine.__init__" (defArgs s_Machine_init) (defBody s_Machine_init) (defScope s_Machine_init) .none kV_Machine_init dc_Machine_init pm_Machine_init an_Machine_init cd_Machine_init ct_Machine_init, a_Tree_init := f_Tree_init, d_Tree_init := PySem.W.fnOf "__init__" "Tree.__init__" (defArgs s_Tree_init) (defBody s_Tree_init) (defScope s_Tree_init) .none kV_Tree_init dc_Tree_init pm_Tree_init an_Tree_init cd_Tree_init ct_Tree_init, a_time_of := f_time_of, d_time_of := PySem.W.fnOf "time_of" "time_of" (defArgs s_time_of) (defBody s_time_of) (defScope s_time_of) .none kV_time_of dc_time_of pm_time_of an_time_of cd_time_of ct_time_of, a_known_at := f_known_at, d_known_at := PySem.W.fnOf "known_at" "known_at" (defArgs s_known_at) (defBody s_known_at) (defScope s_known_at) .none (.ref D_known_at) dc_known_at pm_known_at an_known_at cd_known_at ct_known_at, t_known_at_roots := t_known_at_roots, a__law_source := f__law_source, d__law_source := PySem.W.fnOf "_law_source" "_law_source" (defArgs s__law_source) (defBody s__law_source) (defScope s__law_source) .none kV__law_source dc__law_source pm__law_source an__law_source cd__law_source ct__law_source, a__law_draw := f__law_draw, d__law_draw := PySem.W.fnOf "_law_draw" "_law_draw" (defArgs s__law_draw) (defBody s__law_draw) (defScope s__law_draw) .none kV__law_draw dc__law_draw pm__law_draw an__law_draw cd__law_draw ct__law_draw, a__law_wide := f__law_wide, d__law_wide := PySem.W.fnOf "_law_wide" "_law_wide" (defArgs s__law_wide) (defBody s__law_wide) (defScope s__law_wide) .none kV__law_wide dc__law_wide pm__law_wide an__law_wide cd__law_wide ct__law_wide, a__law_numbers := f__law_numbers, d__law_numbers := PySem.W.fnOf "_law_numbers" "_law_numbers" (defArgs s__law_numbers) (defBody s__law_numbers) (defScope s__law_numbers) .none kV__law_numbers dc__law_numbers pm__law_numbers an__law_numbers cd__law_numbers ct__law_numbers, a__law_integer := f__law_integer, d__law_integer := PySem.W.fnOf "_law_integer" "_law_integer" (defArgs s__law_integer) (defBody s__law_integer) (defScope s__law_integer) .none kV__law_integer dc__law_integer pm__law_integer an__law_integer cd__law_integer ct__law_integer, a__law_same := f__law_same, d__law_same := PySem.W.fnOf "_law_same" "_law_same" (defArgs s__law_same) (defBody s__law_same) (defScope s__law_same) .none kV__law_same dc__law_same pm__law_same an__law_same cd__law_same ct__law_same, a__law_shuffled := f__law_shuffled, d__law_shuffled := PySem.W.fnOf "_law_shuffled" "_law_shuffled" (defArgs s__law_shuffled) (defBody s__law_shuffled) (defScope s__law_shuffled) .none kV__law_shuffled dc__law_shuffled pm__law_shuffled an__law_shuffled cd__law_shuffled ct__law_shuffled, a__law_name := f__law_name, d__law_name := PySem.W.fnOf "_law_name" "_law_name" (defArgs s__law_name) (defBody s__law_name) (defScope s__law_name) .none kV__law_name dc__law_name pm__law_name an__law_name cd__law_name ct__law_name, a__law_holds := f__law_holds, d__law_holds := PySem.W.fnOf "_law_holds" "_law_holds" (defArgs s__law_holds) (defBody s__law_holds) (defScope s__law_holds) .none kV__law_holds dc__law_holds pm__law_holds an__law_holds cd__law_holds ct__law_holds, a__law_some_pairs := f__law_some_pairs, d__law_some_pairs := PySem.W.fnOf "_law_some_pairs" "_law_some_pairs" (defArgs s__law_some_pairs) (defBody s__law_some_pairs) (defScope s__law_some_pairs) .none kV__law_some_pairs dc__law_some_pairs pm__law_some_pairs an__law_some_pairs cd__law_some_pairs ct__law_some_pairs, a_law := fa, d_law := PySem.W.fnOf "law" "law" (defArgs s_law) (defBody s_law) (defScope s_law) .none kV_law dc_law pm_law an_law cd_law ct_law, c_Machine := c_Machine, c_Tree := c_Tree }
  have F_is_integer := fun_mk (st := s_is_integer) H_l_is_integer H_c_is_integer H_k_is_integer
  have F_is_between := fun_mk (st := s_is_between) H_l_is_between H_c_is_between H_k_is_between
  have F_check_turns := fun_mk (st := s_check_turns) H_l_check_turns H_c_check_turns H_k_check_turns
  have F_check_roots := fun_mk (st := s_check_roots) H_l_check_roots H_c_check_roots H_k_check_roots
  have F_wrong_in_name := fun_mk (st := s_wrong_in_name) H_l_wrong_in_name H_c_wrong_in_name H_k_wrong_in_name
  have F_check_name := fun_mk (st := s_check_name) H_l_check_name H_c_check_name H_k_check_name
  have F_is_sighting := fun_mk (st := s_is_sighting) H_l_is_sighting H_c_is_sighting H_k_is_sighting
  have F_check_sightings := fun_mk (st := s_check_sightings) H_l_check_sightings H_c_check_sightings H_k_check_sightings
  have F_sums_of := fun_mk (st := s_sums_of) H_l_sums_of H_c_sums_of H_k_sums_of
  have F_fits := fun_mk (st := s_fits) H_l_fits H_c_fits H_k_fits
  have F_explains := fun_mk (st := s_explains) H_l_explains H_c_explains H_k_explains
  have F_told_by_two := fun_mk (st := s_told_by_two) H_l_told_by_two H_c_told_by_two H_k_told_by_two
  have F_told_by_line := fun_mk (st := s_told_by_line) H_l_told_by_line H_c_told_by_line H_k_told_by_line
  have F_told_by_multiples := fun_mk (st := s_told_by_multiples) H_l_told_by_multiples H_c_told_by_multiples H_k_told_by_multiples
  have F_told_back := fun_mk (st := s_told_back) H_l_told_back H_c_told_back H_k_told_back
  have F_Machine_init := fun_mk (st := s_Machine_init) H_l_Machine_init H_c_Machine_init H_k_Machine_init
  have F_Tree_init := fun_mk (st := s_Tree_init) H_l_Tree_init H_c_Tree_init H_k_Tree_init
  have F_time_of := fun_mk (st := s_time_of) H_l_time_of H_c_time_of H_k_time_of
  have F_known_at : FunD K "known_at" "known_at" (defArgs s_known_at) (defBody s_known_at) (defScope s_known_at) [] [("turns", .non), ("roots", .ref t_known_at_roots)] f_known_at (PySem.W.fnOf "known_at" "known_at" (defArgs s_known_at) (defBody s_known_at) (defScope s_known_at) .none (.ref D_known_at) dc_known_at pm_known_at an_known_at cd_known_at ct_known_at) :=
    ⟨⟨_, _, .none, .ref D_known_at, _, _, _, _, _, _, rfl, H_l_known_at, H_c_known_at, .inl ⟨rfl, rfl⟩, .inr ⟨D_known_at, rfl, fun q hq => by
      simp only [List.mem_cons, List.not_mem_nil, or_false] at hq
      rcases hq with rfl | rfl
      · exact ⟨.none, H_kw_known_at_turns, rfl⟩
      · exact ⟨.ref t_known_at_roots, H_kw_known_at_roots, rfl⟩
      ⟩⟩, H_k_known_at⟩
  have F__law_source := fun_mk (st := s__law_source) H_l__law_source H_c__law_source H_k__law_source
  have F__law_draw := fun_mk (st := s__law_draw) H_l__law_draw H_c__law_draw H_k__law_draw
  have F__law_wide := fun_mk (st := s__law_wide) H_l__law_wide H_c__law_wide H_k__law_wide
  have F__law_numbers := fun_mk (st := s__law_numbers) H_l__law_numbers H_c__law_numbers H_k__law_numbers
  have F__law_integer := fun_mk (st := s__law_integer) H_l__law_integer H_c__law_integer H_k__law_integer
  have F__law_same := fun_mk (st := s__law_same) H_l__law_same H_c__law_same H_k__law_same
  have F__law_shuffled := fun_mk (st := s__law_shuffled) H_l__law_shuffled H_c__law_shuffled H_k__law_shuffled
  have F__law_name := fun_mk (st := s__law_name) H_l__law_name H_c__law_name H_k__law_name
  have F__law_holds := fun_mk (st := s__law_holds) H_l__law_holds H_c__law_holds H_k__law_holds
  have F__law_some_pairs := fun_mk (st := s__law_some_pairs) H_l__law_some_pairs H_c__law_some_pairs H_k__law_some_pairs
  have F_law := fun_mk (st := s_law) H_l_law H_c_law H_k_law
  have T : Txt K mg a := {
    F_is_integer := F_is_integer,
    b_is_integer := F_is_integer.binds (ps := ["thing"]) fun _ _ _ _ _ _ us hl => match us, hl with | [_], _ => rfl,
    g_is_integer := PySem.W.mg_of X G H_a_is_integer,
    F_is_between := F_is_between,
    b_is_between := F_is_between.binds (ps := ["thing", "low", "high"]) fun _ _ _ _ _ _ us hl => match us, hl with | [_, _, _], _ => rfl,
    g_is_between := PySem.W.mg_of X G H_a_is_between,
    F_check_turns := F_check_turns,
    b_check_turns := F_check_turns.binds (ps := ["turns"]) fun _ _ _ _ _ _ us hl => match us, hl with | [_], _ => rfl,
    g_check_turns := PySem.W.mg_of X G H_a_check_turns,
    F_check_roots := F_check_roots,
    b_check_roots := F_check_roots.binds (ps := ["roots"]) fun _ _ _ _ _ _ us hl => match us, hl with | [_], _ => rfl,
    g_check_roots := PySem.W.mg_of X G H_a_check_roots,
    F_wrong_in_name := F_wrong_in_name,
    b_wrong_in_name := F_wrong_in_name.binds (ps := ["thing", "turns", "roots"]) fun _ _ _ _ _ _ us hl => match us, hl with | [_, _, _], _ => rfl,
    g_wrong_in_name := PySem.W.mg_of X G H_a_wrong_in_name,
    F_check_name := F_check_name,
    b_check_name := F_check_name.binds (ps := ["thing", "turns", "roots"]) fun _ _ _ _ _ _ us hl => match us, hl with | [_, _, _], _ => rfl,
    g_check_name := PySem.W.mg_of X G H_a_check_name,
    F_is_sighting := F_is_sighting,
    b_is_sighting := F_is_sighting.binds (ps := ["thing"]) fun _ _ _ _ _ _ us hl => match us, hl with | [_], _ => rfl,
    g_is_sighting := PySem.W.mg_of X G H_a_is_sighting,
    F_check_sightings := F_check_sightings,
    b_check_sightings := F_check_sightings.binds (ps := ["rows"]) fun _ _ _ _ _ _ us hl => match us, hl with | [_], _ => rfl,
    g_check_sightings := PySem.W.mg_of X G H_a_check_sightings,
    F_sums_of := F_sums_of,
    b_sums_of := F_sums_of.binds (ps := ["rows"]) fun _ _ _ _ _ _ us hl => match us, hl with | [_], _ => rfl,
    g_sums_of := PySem.W.mg_of X G H_a_sums_of,
    F_fits := F_fits,
    b_fits := F_fits.binds (ps := ["sums", "letter", "gap"]) fun _ _ _ _ _ _ us hl => match us, hl with | [_, _, _], _ => rfl,
    g_fits := PySem.W.mg_of X G H_a_fits,
    F_explains := F_explains,
    b_explains := F_explains.binds (ps := ["rows", "letter", "gap"]) fun _ _ _ _ _ _ us hl => match us, hl with | [_, _, _], _ => rfl,
    g_explains := PySem.W.mg_of X G H_a_explains,
    F_told_by_two := F_told_by_two,
    b_told_by_two := F_told_by_two.binds (ps := ["first", "other", "sums"]) fun _ _ _ _ _ _ us hl => match us, hl with | [_, _, _], _ => rfl,
    g_told_by_two := PySem.W.mg_of X G H_a_told_by_two,
    F_told_by_line := F_told_by_line,
    b_told_by_line := F_told_by_line.binds (ps := ["k", "j", "time"]) fun _ _ _ _ _ _ us hl => match us, hl with | [_, _, _], _ => rfl,
    g_told_by_line := PySem.W.mg_of X G H_a_told_by_line,
    F_told_by_multiples := F_told_by_multiples,
    b_told_by_multiples := F_told_by_multiples.binds (ps := ["sums"]) fun _ _ _ _ _ _ us hl => match us, hl with | [_], _ => rfl,
    g_told_by_multiples := PySem.W.mg_of X G H_a_told_by_multiples,
    F_told_back := F_told_back,
    b_told_back := F_told_back.binds (ps := ["rows"]) fun _ _ _ _ _ _ us hl => match us, hl with | [_], _ => rfl,
    g_told_back := PySem.W.mg_of X G H_a_told_back,
    F_Machine_init := F_Machine_init,
    b_Machine_init := F_Machine_init.binds (ps := ["self", "o", "l", "g"]) fun _ _ _ _ _ _ us hl => match us, hl with | [_, _, _, _], _ => rfl,
    mk_Machine := ⟨H_mk_Machine, H_a_Machine_init, H_i_Machine_init, H_kc_Machine⟩,
    F_Tree_init := F_Tree_init,
    b_Tree_init := F_Tree_init.binds (ps := ["self", "machine", "turns", "roots"]) fun _ _ _ _ _ _ us hl => match us, hl with | [_, _, _, _], _ => rfl,
    mk_Tree := ⟨H_mk_Tree, H_a_Tree_init, H_i_Tree_init, H_kc_Tree⟩,
    F_time_of := F_time_of,
    b_time_of := F_time_of.binds (ps := ["tree", "name"]) fun _ _ _ _ _ _ us hl => match us, hl with | [_, _], _ => rfl,
    g_time_of := PySem.W.mg_of X G H_a_time_of,
    F_known_at := F_known_at,
    t_known_at_roots := fun _ => .inr ⟨_, _, _, H_tp_known_at_roots, rfl, rfl, (by show 1 ≤ sizeLine; decide), .cons ⟨_, rfl⟩ (.nil)⟩,
    g_known_at := PySem.W.mg_of X G H_a_known_at,
    F__law_source := F__law_source,
    b__law_source := F__law_source.binds (ps := ["_law_script"]) fun _ _ _ _ _ _ us hl => match us, hl with | [_], _ => rfl,
    g__law_source := PySem.W.mg_of X G H_a__law_source,
    F__law_draw := F__law_draw,
    b__law_draw := F__law_draw.binds (ps := ["_law_source_here", "_law_limit"]) fun _ _ _ _ _ _ us hl => match us, hl with | [_, _], _ => rfl,
    g__law_draw := PySem.W.mg_of X G H_a__law_draw,
    F__law_wide := F__law_wide,
    b__law_wide := F__law_wide.binds (ps := ["_law_source_here", "_law_limit"]) fun _ _ _ _ _ _ us hl => match us, hl with | [_, _], _ => rfl,
    g__law_wide := PySem.W.mg_of X G H_a__law_wide,
    F__law_numbers := F__law_numbers,
    b__law_numbers := F__law_numbers.binds (ps := ["_law_source_here"]) fun _ _ _ _ _ _ us hl => match us, hl with | [_], _ => rfl,
    g__law_numbers := PySem.W.mg_of X G H_a__law_numbers,
    F__law_integer := F__law_integer,
    b__law_integer := F__law_integer.binds (ps := ["_law_thing"]) fun _ _ _ _ _ _ us hl => match us, hl with | [_], _ => rfl,
    g__law_integer := PySem.W.mg_of X G H_a__law_integer,
    F__law_same := F__law_same,
    b__law_same := F__law_same.binds (ps := ["_law_told", "_law_due"]) fun _ _ _ _ _ _ us hl => match us, hl with | [_, _], _ => rfl,
    g__law_same := PySem.W.mg_of X G H_a__law_same,
    F__law_shuffled := F__law_shuffled,
    b__law_shuffled := F__law_shuffled.binds (ps := ["_law_source_here", "_law_things"]) fun _ _ _ _ _ _ us hl => match us, hl with | [_, _], _ => rfl,
    g__law_shuffled := PySem.W.mg_of X G H_a__law_shuffled,
    F__law_name := F__law_name,
    b__law_name := F__law_name.binds (ps := ["_law_source_here"]) fun _ _ _ _ _ _ us hl => match us, hl with | [_], _ => rfl,
    g__law_name := PySem.W.mg_of X G H_a__law_name,
    F__law_holds := F__law_holds,
    b__law_holds := F__law_holds.binds (ps := ["_law_told", "_law_pair"]) fun _ _ _ _ _ _ us hl => match us, hl with | [_, _], _ => rfl,
    g__law_holds := PySem.W.mg_of X G H_a__law_holds,
    F__law_some_pairs := F__law_some_pairs,
    b__law_some_pairs := F__law_some_pairs.binds (ps := ["_law_told"]) fun _ _ _ _ _ _ us hl => match us, hl with | [_], _ => rfl,
    g__law_some_pairs := PySem.W.mg_of X G H_a__law_some_pairs,
    F_law := F_law,
    b_law := F_law.binds (ps := ["_law_script"]) fun _ _ _ _ _ _ us hl => match us, hl with | [_], _ => rfl,
    g_law := PySem.W.mg_of X G H_a_law,
    g_Machine := PySem.W.mg_of X G H_g_Machine,
    cl_Machine := ⟨H_pg_Machine, H_hd_Machine, H_po_Machine, H_sa_Machine⟩,
    nF_Machine_o := H_nF_Machine_o,
    nF_Machine_l := H_nF_Machine_l,
    nF_Machine_g := H_nF_Machine_g,
    nF_Machine_letter := H_nF_Machine_letter,
    nF_Machine_gap := H_nF_Machine_gap,
    g_Tree := PySem.W.mg_of X G H_g_Tree,
    cl_Tree := ⟨H_pg_Tree, H_hd_Tree, H_po_Tree, H_sa_Tree⟩,
    nF_Tree_letter := H_nF_Tree_letter,
    nF_Tree_gap := H_nF_Tree_gap,
    nF_Tree_turns := H_nF_Tree_turns,
    nF_Tree_roots := H_nF_Tree_roots,
    nF_Tree_horizon := H_nF_Tree_horizon,
    nF_Tree_powers := H_nF_Tree_powers,
    n_all := PySem.W.mg_none_of X G H_n_all,
    n_bool := PySem.W.mg_none_of X G H_n_bool,
    n_enumerate := PySem.W.mg_none_of X G H_n_enumerate,
    n_int := PySem.W.mg_none_of X G H_n_int,
    n_isinstance := PySem.W.mg_none_of X G H_n_isinstance,
    n_len := PySem.W.mg_none_of X G H_n_len,
    n_list := PySem.W.mg_none_of X G H_n_list,
    n_max := PySem.W.mg_none_of X G H_n_max,
    n_range := PySem.W.mg_none_of X G H_n_range,
    n_str := PySem.W.mg_none_of X G H_n_str,
    n_sum := PySem.W.mg_none_of X G H_n_sum,
    n_tuple := PySem.W.mg_none_of X G H_n_tuple,
    g_MOST_TURNS := ⟨_, PySem.W.mg_of X G H_x_MOST_TURNS⟩,
    g_MOST_ROOTS := ⟨_, PySem.W.mg_of X G H_x_MOST_ROOTS⟩,
    g_LATEST_ROOT := ⟨_, PySem.W.mg_of X G H_x_LATEST_ROOT⟩,
    g_LONGEST_NAME := ⟨_, PySem.W.mg_of X G H_x_LONGEST_NAME⟩,
    g_GREATEST_ITEM := ⟨_, PySem.W.mg_of X G H_x_GREATEST_ITEM⟩,
    g_MOST_SIGHTINGS := ⟨_, PySem.W.mg_of X G H_x_MOST_SIGHTINGS⟩,
    g_LATEST_SIGHTING := ⟨_, PySem.W.mg_of X G H_x_LATEST_SIGHTING⟩,
    g_GREATEST_TOLD := ⟨_, PySem.W.mg_of X G H_x_GREATEST_TOLD⟩,
    g_GREATEST_PART := ⟨_, PySem.W.mg_of X G H_x_GREATEST_PART⟩,
    g_FREE_DEPTHS := ⟨_, PySem.W.mg_of X G H_x_FREE_DEPTHS⟩,
    g_TURNS_DEPTHS := ⟨_, PySem.W.mg_of X G H_x_TURNS_DEPTHS⟩,
    g_gcd := PySem.W.mg_of X G H_gcd }
  exact ⟨a.d_law, fun s v => .of_eq rfl, fun base _ _ => ok_law T⟩
theorem walk {l : PySem.W.OpenLaw} {q : Program} {loose : List Str} {XP : (Str → Option Value) → Heap → Prop} {YP : World → Heap → Prop} {d : DefRec} {K : Params → PySem.W.Frag} (hn : l.most = some 63) (hdf : d.params.defaults = [])
    (hY : ∀ (w : World) (h : Heap), YP w h → (K w.params).In h)
    (F : ∀ (w : World) (mg : Str → Option Value) (fa : Addr) (h : Heap), (K w.params).In h → h.Ns mainGlobals mg → mg d.name = some (.ref fa) →
      ∃ fd : FuncData, (∀ (s : Shared) (u : Value), BindsTo s fd ⟨[u], []⟩ [("_law_script", u)]) ∧ ∀ base : Heap, (K w.params).In base → base.Ns mainGlobals mg → FnOk l.prog w (K w.params) mg base CX0 9 fa fd ["_law_script"] (spLaw (K w.params))) :
    PySem.W.WalkO q loose XP YP l.row.toRowW d [] (fun f vs => PySem.call f vs) :=
  L2.walk_of (n := 63) (k := 9) (x := "_law_script") (CX := fun _ => CX0) (sp := fun w => spLaw (K w.params)) hn (by decide) hdf ⟨rfl, by decide, by decide⟩ hY F (fun _ _ a ns hl _ hS => ⟨a, ns, rfl, hS, hl, fun _ => rfl⟩) fun _ _ _ _ _ z => z
end My
open PySem PySem.W PyProof.Rows
set_option maxRecDepth 100000 in
set_option maxHeartbeats 0 in
theorem PySem.Challenge.cw_tellontree_k65_whole_sightings_of_a_mach_holds : PySem.Challenge.rw_tellontree_k65_whole_sightings_of_a_mach.Holds := by
  w_on; o_law; k_head; (case hw => w_witness2)
  k_fill
  refine My.walk (l := PySem.Challenge.rw_tellontree_k65_whole_sightings_of_a_mach) rfl rfl (fun w h Y => PySem.W.kIn_of Y) ?F
  case F =>
    intro w mg fa h KX G hmg
    refine' My.all_mk KX G hmg ?H_g_Tree ?H_g_Machine ?H_a_is_integer ?H_l_is_integer ?H_c_is_integer ?H_k_is_integer ?H_a_is_between ?H_l_is_between ?H_c_is_between ?H_k_is_between ?H_a_check_turns ?H_l_check_turns ?H_c_check_turns ?H_k_check_turns ?H_a_check_roots ?H_l_check_roots ?H_c_check_roots ?H_k_check_roots ?H_a_wrong_in_name ?H_l_wrong_in_name ?H_c_wrong_in_name ?H_k_wrong_in_name ?H_a_check_name ?H_l_check_name ?H_c_check_name ?H_k_check_name ?H_a_is_sighting ?H_l_is_sighting ?H_c_is_sighting ?H_k_is_sighting ?H_a_check_sightings ?H_l_check_sightings ?H_c_check_sightings ?H_k_check_sightings ?H_a_sums_of ?H_l_sums_of ?H_c_sums_of ?H_k_sums_of ?H_a_fits ?H_l_fits ?H_c_fits ?H_k_fits ?H_a_explains ?H_l_explains ?H_c_explains ?H_k_explains ?H_a_told_by_two ?H_l_told_by_two ?H_c_told_by_two ?H_k_told_by_two ?H_a_told_by_line ?H_l_told_by_line ?H_c_told_by_line ?H_k_told_by_line ?H_a_told_by_multiples ?H_l_told_by_multiples ?H_c_told_by_multiples ?H_k_told_by_multiples ?H_a_told_back ?H_l_told_back ?H_c_told_back ?H_k_told_back ?H_a_Machine_init ?H_i_Machine_init ?H_l_Machine_init ?H_c_Machine_init ?H_k_Machine_init ?H_a_Tree_init ?H_i_Tree_init ?H_l_Tree_init ?H_c_Tree_init ?H_k_Tree_init ?H_a_time_of ?H_l_time_of ?H_c_time_of ?H_k_time_of ?H_a_known_at ?H_l_known_at ?H_kw_known_at_turns ?H_kw_known_at_roots ?H_tp_known_at_roots ?H_c_known_at ?H_k_known_at ?H_a__law_source ?H_l__law_source ?H_c__law_source ?H_k__law_source ?H_a__law_draw ?H_l__law_draw ?H_c__law_draw ?H_k__law_draw ?H_a__law_wide ?H_l__law_wide ?H_c__law_wide ?H_k__law_wide ?H_a__law_numbers ?H_l__law_numbers ?H_c__law_numbers ?H_k__law_numbers ?H_a__law_integer ?H_l__law_integer ?H_c__law_integer ?H_k__law_integer ?H_a__law_same ?H_l__law_same ?H_c__law_same ?H_k__law_same ?H_a__law_shuffled ?H_l__law_shuffled ?H_c__law_shuffled ?H_k__law_shuffled ?H_a__law_name ?H_l__law_name ?H_c__law_name ?H_k__law_name ?H_a__law_holds ?H_l__law_holds ?H_c__law_holds ?H_k__law_holds ?H_a__law_some_pairs ?H_l__law_some_pairs ?H_c__law_some_pairs ?H_k__law_some_pairs ?H_a_law ?H_l_law ?H_c_law ?H_k_law ?H_pg_Machine ?H_hd_Machine ?H_po_Machine ?H_sa_Machine ?H_mk_Machine ?H_kc_Machine ?H_nF_Machine_o ?H_nF_Machine_l ?H_nF_Machine_g ?H_nF_Machine_letter ?H_nF_Machine_gap ?H_pg_Tree ?H_hd_Tree ?H_po_Tree ?H_sa_Tree ?H_mk_Tree ?H_kc_Tree ?H_nF_Tree_letter ?H_nF_Tree_gap ?H_nF_Tree_turns ?H_nF_Tree_roots ?H_nF_Tree_horizon ?H_nF_Tree_powers ?H_n_all ?H_n_bool ?H_n_enumerate ?H_n_int ?H_n_isinstance ?H_n_len ?H_n_list ?H_n_max ?H_n_range ?H_n_str ?H_n_sum ?H_n_tuple ?H_x_MOST_TURNS ?H_x_MOST_ROOTS ?H_x_LATEST_ROOT ?H_x_LONGEST_NAME ?H_x_GREATEST_ITEM ?H_x_MOST_SIGHTINGS ?H_x_LATEST_SIGHTING ?H_x_GREATEST_TOLD ?H_x_GREATEST_PART ?H_x_FREE_DEPTHS ?H_x_TURNS_DEPTHS ?H_gcd
    (case H_g_Tree => k_is)
    (case H_g_Machine => k_is)
    (case H_a_is_integer => k_is)
    (case H_l_is_integer => k_is)
    (case H_c_is_integer => k_is)
    (case H_k_is_integer => k_is)
    (case H_a_is_between => k_is)
    (case H_l_is_between => k_is)
    (case H_c_is_between => k_is)
    (case H_k_is_between => k_is)
    (case H_a_check_turns => k_is)
    (case H_l_check_turns => k_is)
    (case H_c_check_turns => k_is)
    (case H_k_check_turns => k_is)
    (case H_a_check_roots => k_is)
    (case H_l_check_roots => k_is)
    (case H_c_check_roots => k_is)
    (case H_k_check_roots => k_is)
    (case H_a_wrong_in_name => k_is)
    (case H_l_wrong_in_name => k_is)
    (case H_c_wrong_in_name => k_is)
    (case H_k_wrong_in_name => k_is)
    (case H_a_check_name => k_is)
    (case H_l_check_name => k_is)
    (case H_c_check_name => k_is)
    (case H_k_check_name => k_is)
    (case H_a_is_sighting => k_is)
    (case H_l_is_sighting => k_is)
    (case H_c_is_sighting => k_is)
    (case H_k_is_sighting => k_is)
    (case H_a_check_sightings => k_is)
    (case H_l_check_sightings => k_is)
    (case H_c_check_sightings => k_is)
    (case H_k_check_sightings => k_is)
    (case H_a_sums_of => k_is)
    (case H_l_sums_of => k_is)
    (case H_c_sums_of => k_is)
    (case H_k_sums_of => k_is)
    (case H_a_fits => k_is)
    (case H_l_fits => k_is)
    (case H_c_fits => k_is)
    (case H_k_fits => k_is)
    (case H_a_explains => k_is)
    (case H_l_explains => k_is)
    (case H_c_explains => k_is)
    (case H_k_explains => k_is)
    (case H_a_told_by_two => k_is)
    (case H_l_told_by_two => k_is)
    (case H_c_told_by_two => k_is)
    (case H_k_told_by_two => k_is)
    (case H_a_told_by_line => k_is)
    (case H_l_told_by_line => k_is)
    (case H_c_told_by_line => k_is)
    (case H_k_told_by_line => k_is)
    (case H_a_told_by_multiples => k_is)
    (case H_l_told_by_multiples => k_is)
    (case H_c_told_by_multiples => k_is)
    (case H_k_told_by_multiples => k_is)
    (case H_a_told_back => k_is)
    (case H_l_told_back => k_is)
    (case H_c_told_back => k_is)
    (case H_k_told_back => k_is)
    (case H_a_Machine_init => k_is)
    (case H_i_Machine_init => k_is)
    (case H_l_Machine_init => k_is)
    (case H_c_Machine_init => k_is)
    (case H_k_Machine_init => k_is)
    (case H_a_Tree_init => k_is)
    (case H_i_Tree_init => k_is)
    (case H_l_Tree_init => k_is)
    (case H_c_Tree_init => k_is)
    (case H_k_Tree_init => k_is)
    (case H_a_time_of => k_is)
    (case H_l_time_of => k_is)
    (case H_c_time_of => k_is)
    (case H_k_time_of => k_is)
    (case H_a_known_at => k_is)
    (case H_l_known_at => k_is)
    (case H_kw_known_at_turns => k_is)
    (case H_kw_known_at_roots => k_is)
    (case H_tp_known_at_roots => k_is)
    (case H_c_known_at => k_is)
    (case H_k_known_at => k_is)
    (case H_a__law_source => k_is)
    (case H_l__law_source => k_is)
    (case H_c__law_source => k_is)
    (case H_k__law_source => k_is)
    (case H_a__law_draw => k_is)
    (case H_l__law_draw => k_is)
    (case H_c__law_draw => k_is)
    (case H_k__law_draw => k_is)
    (case H_a__law_wide => k_is)
    (case H_l__law_wide => k_is)
    (case H_c__law_wide => k_is)
    (case H_k__law_wide => k_is)
    (case H_a__law_numbers => k_is)
    (case H_l__law_numbers => k_is)
    (case H_c__law_numbers => k_is)
    (case H_k__law_numbers => k_is)
    (case H_a__law_integer => k_is)
    (case H_l__law_integer => k_is)
    (case H_c__law_integer => k_is)
    (case H_k__law_integer => k_is)
    (case H_a__law_same => k_is)
    (case H_l__law_same => k_is)
    (case H_c__law_same => k_is)
    (case H_k__law_same => k_is)
    (case H_a__law_shuffled => k_is)
    (case H_l__law_shuffled => k_is)
    (case H_c__law_shuffled => k_is)
    (case H_k__law_shuffled => k_is)
    (case H_a__law_name => k_is)
    (case H_l__law_name => k_is)
    (case H_c__law_name => k_is)
    (case H_k__law_name => k_is)
    (case H_a__law_holds => k_is)
    (case H_l__law_holds => k_is)
    (case H_c__law_holds => k_is)
    (case H_k__law_holds => k_is)
    (case H_a__law_some_pairs => k_is)
    (case H_l__law_some_pairs => k_is)
    (case H_c__law_some_pairs => k_is)
    (case H_k__law_some_pairs => k_is)
    (case H_a_law => k_is)
    (case H_l_law => k_is)
    (case H_c_law => k_is)
    (case H_k_law => k_is)
    (case H_pg_Machine => k_is)
    (case H_hd_Machine => k_is)
    (case H_po_Machine => k_is)
    (case H_sa_Machine => k_is)
    (case H_mk_Machine => k_is)
    (case H_kc_Machine => k_is)
    (case H_nF_Machine_o => k_is)
    (case H_nF_Machine_l => k_is)
    (case H_nF_Machine_g => k_is)
    (case H_nF_Machine_letter => k_is)
    (case H_nF_Machine_gap => k_is)
    (case H_pg_Tree => k_is)
    (case H_hd_Tree => k_is)
    (case H_po_Tree => k_is)
    (case H_sa_Tree => k_is)
    (case H_mk_Tree => k_is)
    (case H_kc_Tree => k_is)
    (case H_nF_Tree_letter => k_is)
    (case H_nF_Tree_gap => k_is)
    (case H_nF_Tree_turns => k_is)
    (case H_nF_Tree_roots => k_is)
    (case H_nF_Tree_horizon => k_is)
    (case H_nF_Tree_powers => k_is)
    (case H_n_all => k_is)
    (case H_n_bool => k_is)
    (case H_n_enumerate => k_is)
    (case H_n_int => k_is)
    (case H_n_isinstance => k_is)
    (case H_n_len => k_is)
    (case H_n_list => k_is)
    (case H_n_max => k_is)
    (case H_n_range => k_is)
    (case H_n_str => k_is)
    (case H_n_sum => k_is)
    (case H_n_tuple => k_is)
    (case H_x_MOST_TURNS => k_is)
    (case H_x_MOST_ROOTS => k_is)
    (case H_x_LATEST_ROOT => k_is)
    (case H_x_LONGEST_NAME => k_is)
    (case H_x_GREATEST_ITEM => k_is)
    (case H_x_MOST_SIGHTINGS => k_is)
    (case H_x_LATEST_SIGHTING => k_is)
    (case H_x_GREATEST_TOLD => k_is)
    (case H_x_GREATEST_PART => k_is)
    (case H_x_FREE_DEPTHS => k_is)
    (case H_x_TURNS_DEPTHS => k_is)
    (case H_gcd => k_is)
