import PyProof.Rows.All
import Wide.All
import OpenK.AllK
import Wide.FinOn
import HandS.Base
import HandS.Call
import HandS.List
import HandS.Comp
import HandS.Iter
import HandS.Ends
import HandS.Words
import HandS.WordsList
import HandS.IsInst
import HandS.Wide
import HandS.Style
import HandS.ClsMeth
import HandS.Defaults
import HandS.MakeKwOnly
import HandS.SlotsOwn
import HandS.Dict
import HandS.Gcd
import HandS.Strs
import HandS.SetKeys
import HandS.DictComp
import HandS.Small
import HandS.Flow
import HandS.More
import HandS.Deep
import HandS.Conv
import KE.KMathGC
import KE.GoesMore
import KE.KTupSum
import HandS.TupMul
import PySem.Challenge.RW_tellontree_k23_whole_plans_judged
set_option Elab.async false
set_option linter.all false
set_option maxRecDepth 100000
namespace My
open PySem L2
def top (i : Nat) : Stmt := PySem.Challenge.pw_tellontree_k23_whole_plans_judged.main.body.getD i (.Pass ⟨0, 0, 0, 0⟩)
abbrev s_is_integer : Stmt := top 6
theorem sc_is_integer : FnScope ["thing"] ["thing"] (defScope s_is_integer) := ⟨rfl, rfl, rfl, by decide +kernel, rfl, by decide +kernel, by decide +kernel⟩
abbrev s_is_between : Stmt := top 7
theorem sc_is_between : FnScope ["thing", "low", "high"] ["thing", "low", "high"] (defScope s_is_between) := ⟨rfl, rfl, rfl, by decide +kernel, rfl, by decide +kernel, by decide +kernel⟩
abbrev s_check_count : Stmt := top 8
theorem sc_check_count : FnScope ["count", "low", "high"] ["count", "low", "high"] (defScope s_check_count) := ⟨rfl, rfl, rfl, by decide +kernel, rfl, by decide +kernel, by decide +kernel⟩
abbrev s_is_row : Stmt := top 12
theorem sc_is_row : FnScope ["thing", "parts", "item"] ["thing", "parts"] (defScope s_is_row) := ⟨rfl, rfl, rfl, by decide +kernel, rfl, by decide +kernel, by decide +kernel⟩
abbrev s_form_fault : Stmt := top 13
theorem sc_form_fault : FnScope ["thing", "most", "parts", "at", "row"] ["thing", "most", "parts"] (defScope s_form_fault) := ⟨rfl, rfl, rfl, by decide +kernel, rfl, by decide +kernel, by decide +kernel⟩
abbrev s_hand_fault : Stmt := top 14
theorem sc_hand_fault : FnScope ["n", "pairs", "first_sender", "first_receiver", "at", "sender", "receiver"] ["n", "pairs", "first_sender", "first_receiver"] (defScope s_hand_fault) := ⟨rfl, rfl, rfl, by decide +kernel, rfl, by decide +kernel, by decide +kernel⟩
abbrev s_again_fault : Stmt := top 15
theorem sc_again_fault : FnScope ["keys", "taken", "seen", "at", "key"] ["keys", "taken"] (defScope s_again_fault) := ⟨rfl, rfl, rfl, by decide +kernel, rfl, by decide +kernel, by decide +kernel⟩
abbrev s_nobody_fault : Stmt := top 16
theorem sc_nobody_fault : FnScope ["wanted", "keys", "found", "key"] ["wanted", "keys"] (defScope s_nobody_fault) := ⟨rfl, rfl, rfl, by decide +kernel, rfl, by decide +kernel, by decide +kernel⟩
abbrev s_early_fault : Stmt := top 17
theorem sc_early_fault : FnScope ["told", "roots", "letter", "known", "_", "receiver", "start", "at", "sender", "root"] ["told", "roots", "letter"] (defScope s_early_fault) := ⟨rfl, rfl, rfl, by decide +kernel, rfl, by decide +kernel, by decide +kernel⟩
abbrev s_telling_fault : Stmt := top 18
theorem sc_telling_fault : FnScope ["told", "roots", "wanted", "letter", "receivers", "_", "receiver"] ["told", "roots", "wanted", "letter"] (defScope s_telling_fault) := ⟨rfl, rfl, rfl, by decide +kernel, rfl, by decide +kernel, by decide +kernel⟩
abbrev s_is_near : Stmt := top 19
theorem sc_is_near : FnScope ["times", "hand", "time", "width", "slot", "near", "other"] ["times", "hand", "time", "width"] (defScope s_is_near) := ⟨rfl, rfl, rfl, by decide +kernel, rfl, by decide +kernel, by decide +kernel⟩
abbrev s_near_fault : Stmt := top 20
theorem sc_near_fault : FnScope ["why", "marks", "width", "times", "at", "row", "hand", "time"] ["why", "marks", "width"] (defScope s_near_fault) := ⟨rfl, rfl, rfl, by decide +kernel, rfl, by decide +kernel, by decide +kernel⟩
abbrev s_row_fault : Stmt := top 22
theorem sc_row_fault : FnScope ["n", "thing", "row"] ["n", "thing"] (defScope s_row_fault) := ⟨rfl, rfl, rfl, by decide +kernel, rfl, by decide +kernel, by decide +kernel⟩
abbrev s_fault : Stmt := top 23
theorem sc_fault : FnScope ["machine", "n", "thing", "sender", "_", "start"] ["machine", "n", "thing"] (defScope s_fault) := ⟨rfl, rfl, rfl, by decide +kernel, rfl, by decide +kernel, by decide +kernel⟩
abbrev s_Machine_init : Stmt := inClass (top 26) 0
theorem sc_Machine_init : FnScope ["self", "o", "l", "g"] ["self", "o", "l", "g"] (defScope s_Machine_init) := ⟨rfl, rfl, rfl, by decide +kernel, rfl, by decide +kernel, by decide +kernel⟩
abbrev s__law_source : Stmt := top 28
theorem sc__law_source : FnScope ["_law_script", "_law_cell"] ["_law_script"] (defScope s__law_source) := ⟨rfl, rfl, rfl, by decide +kernel, rfl, by decide +kernel, by decide +kernel⟩
abbrev s__law_draw : Stmt := top 29
theorem sc__law_draw : FnScope ["_law_source_here", "_law_limit", "_law_cell", "_law_digit", "_law_one", "_law_two", "_law_three"] ["_law_source_here", "_law_limit"] (defScope s__law_draw) := ⟨rfl, rfl, rfl, by decide +kernel, rfl, by decide +kernel, by decide +kernel⟩
abbrev s__law_big : Stmt := top 30
theorem sc__law_big : FnScope ["_law_source_here", "_law_limit", "_law_number", "_law_k"] ["_law_source_here", "_law_limit"] (defScope s__law_big) := ⟨rfl, rfl, rfl, by decide +kernel, rfl, by decide +kernel, by decide +kernel⟩
abbrev s__law_numbers : Stmt := top 31
theorem sc__law_numbers : FnScope ["_law_source_here", "_law_kind", "_law_tops", "_law_o", "_law_l", "_law_g"] ["_law_source_here"] (defScope s__law_numbers) := ⟨rfl, rfl, rfl, by decide +kernel, rfl, by decide +kernel, by decide +kernel⟩
abbrev s__law_times : Stmt := top 32
theorem sc__law_times : FnScope ["_law_numbers_here"] ["_law_numbers_here"] (defScope s__law_times) := ⟨rfl, rfl, rfl, by decide +kernel, rfl, by decide +kernel, by decide +kernel⟩
abbrev s__law_is : Stmt := top 33
theorem sc__law_is : FnScope ["_law_thing", "_law_due"] ["_law_thing", "_law_due"] (defScope s__law_is) := ⟨rfl, rfl, rfl, by decide +kernel, rfl, by decide +kernel, by decide +kernel⟩
abbrev s__law_plan : Stmt := top 34
theorem sc__law_plan : FnScope ["_law_source_here", "_law_letter", "_law_gap", "_law_n", "_law_most", "_law_rest", "_law_told", "_law_sent", "_law_free", "_law_rows", "_law_shape", "_law_calm", "_law_k", "_law_hand", "_law_able", "_law_sender", "_law_wait", "_law_start", "_law_other"] ["_law_source_here", "_law_letter", "_law_gap", "_law_n", "_law_most"] (defScope s__law_plan) := ⟨rfl, rfl, rfl, by decide +kernel, rfl, by decide +kernel, by decide +kernel⟩
abbrev s__law_row : Stmt := top 35
theorem sc__law_row : FnScope ["_law_row_here", "_law_part"] ["_law_row_here"] (defScope s__law_row) := ⟨rfl, rfl, rfl, by decide +kernel, rfl, by decide +kernel, by decide +kernel⟩
abbrev s__law_fault : Stmt := top 36
theorem sc__law_fault : FnScope ["_law_letter", "_law_gap", "_law_n", "_law_thing", "_law_at", "_law_sender", "_law_receiver", "_law_start", "_law_row_here", "_law_receivers", "_law_hand"] ["_law_letter", "_law_gap", "_law_n", "_law_thing"] (defScope s__law_fault) := ⟨rfl, rfl, rfl, by decide +kernel, rfl, by decide +kernel, by decide +kernel⟩
abbrev s__law_same_fault : Stmt := top 37
theorem sc__law_same_fault : FnScope ["_law_told", "_law_due"] ["_law_told", "_law_due"] (defScope s__law_same_fault) := ⟨rfl, rfl, rfl, by decide +kernel, rfl, by decide +kernel, by decide +kernel⟩
abbrev s__law_wrong : Stmt := top 38
theorem sc__law_wrong : FnScope ["_law_source_here", "_law_row_here", "_law_machine", "_law_wrong_here"] ["_law_source_here", "_law_row_here", "_law_machine"] (defScope s__law_wrong) := ⟨rfl, rfl, rfl, by decide +kernel, rfl, by decide +kernel, by decide +kernel⟩
abbrev s__law_spoiled : Stmt := top 39
theorem sc__law_spoiled : FnScope ["_law_source_here", "_law_rows", "_law_n", "_law_gap", "_law_machine", "_law_kind", "_law_at", "_law_sender", "_law_receiver", "_law_start", "_law_shift", "_law_other"] ["_law_source_here", "_law_rows", "_law_n", "_law_gap", "_law_machine"] (defScope s__law_spoiled) := ⟨rfl, rfl, rfl, by decide +kernel, rfl, by decide +kernel, by decide +kernel⟩
abbrev s_law : Stmt := top 40
theorem sc_law : FnScope ["_law_script", "_law_source_here", "_law_numbers_here", "_law_letter", "_law_gap", "_law_machine", "_law_k", "_law_n", "_law_rows", "_law_times_here", "_law_due", "_law_passed", "_law_thing"] ["_law_script"] (defScope s_law) := ⟨rfl, rfl, rfl, by decide +kernel, rfl, by decide +kernel, by decide +kernel⟩
/-- where the top has written what -/
structure Adr where
  a_is_integer : Addr
  d_is_integer : FuncData
  a_is_between : Addr
  d_is_between : FuncData
  a_check_count : Addr
  d_check_count : FuncData
  a_is_row : Addr
  d_is_row : FuncData
  a_form_fault : Addr
  d_form_fault : FuncData
  a_hand_fault : Addr
  d_hand_fault : FuncData
  a_again_fault : Addr
  d_again_fault : FuncData
  a_nobody_fault : Addr
  d_nobody_fault : FuncData
  a_early_fault : Addr
  d_early_fault : FuncData
  a_telling_fault : Addr
  d_telling_fault : FuncData
  a_is_near : Addr
  d_is_near : FuncData
  a_near_fault : Addr
  d_near_fault : FuncData
  a_row_fault : Addr
  d_row_fault : FuncData
  a_fault : Addr
  d_fault : FuncData
  a_Machine_init : Addr
  d_Machine_init : FuncData
  a__law_source : Addr
  d__law_source : FuncData
  a__law_draw : Addr
  d__law_draw : FuncData
  a__law_big : Addr
  d__law_big : FuncData
  a__law_numbers : Addr
  d__law_numbers : FuncData
  a__law_times : Addr
  d__law_times : FuncData
  a__law_is : Addr
  d__law_is : FuncData
  a__law_plan : Addr
  d__law_plan : FuncData
  a__law_row : Addr
  d__law_row : FuncData
  a__law_fault : Addr
  d__law_fault : FuncData
  a__law_same_fault : Addr
  d__law_same_fault : FuncData
  a__law_wrong : Addr
  d__law_wrong : FuncData
  a__law_spoiled : Addr
  d__law_spoiled : FuncData
  a_law : Addr
  d_law : FuncData
  c_Machine : Addr
/-- what the walk asks of the top -/
structure Txt (K : PySem.W.Frag) (mg : Str → Option Value) (a : Adr) : Prop where
  F_is_integer : Fun K "is_integer" "is_integer" s_is_integer a.a_is_integer a.d_is_integer
  b_is_integer : Binds K a.d_is_integer ["thing"] []
  g_is_integer : mg "is_integer" = some (.ref a.a_is_integer)
  F_is_between : Fun K "is_between" "is_between" s_is_between a.a_is_between a.d_is_between
  b_is_between : Binds K a.d_is_between ["thing", "low", "high"] []
  g_is_between : mg "is_between" = some (.ref a.a_is_between)
  F_check_count : Fun K "check_count" "check_count" s_check_count a.a_check_count a.d_check_count
  b_check_count : Binds K a.d_check_count ["count", "low", "high"] []
  g_check_count : mg "check_count" = some (.ref a.a_check_count)
  F_is_row : Fun K "is_row" "is_row" s_is_row a.a_is_row a.d_is_row
  b_is_row : Binds K a.d_is_row ["thing", "parts"] []
  g_is_row : mg "is_row" = some (.ref a.a_is_row)
  F_form_fault : Fun K "form_fault" "form_fault" s_form_fault a.a_form_fault a.d_form_fault
  b_form_fault : Binds K a.d_form_fault ["thing", "most", "parts"] []
  g_form_fault : mg "form_fault" = some (.ref a.a_form_fault)
  F_hand_fault : Fun K "hand_fault" "hand_fault" s_hand_fault a.a_hand_fault a.d_hand_fault
  b_hand_fault : Binds K a.d_hand_fault ["n", "pairs", "first_sender", "first_receiver"] []
  g_hand_fault : mg "hand_fault" = some (.ref a.a_hand_fault)
  F_again_fault : Fun K "again_fault" "again_fault" s_again_fault a.a_again_fault a.d_again_fault
  b_again_fault : Binds K a.d_again_fault ["keys", "taken"] []
  g_again_fault : mg "again_fault" = some (.ref a.a_again_fault)
  F_nobody_fault : Fun K "nobody_fault" "nobody_fault" s_nobody_fault a.a_nobody_fault a.d_nobody_fault
  b_nobody_fault : Binds K a.d_nobody_fault ["wanted", "keys"] []
  g_nobody_fault : mg "nobody_fault" = some (.ref a.a_nobody_fault)
  F_early_fault : Fun K "early_fault" "early_fault" s_early_fault a.a_early_fault a.d_early_fault
  b_early_fault : Binds K a.d_early_fault ["told", "roots", "letter"] []
  g_early_fault : mg "early_fault" = some (.ref a.a_early_fault)
  F_telling_fault : Fun K "telling_fault" "telling_fault" s_telling_fault a.a_telling_fault a.d_telling_fault
  b_telling_fault : Binds K a.d_telling_fault ["told", "roots", "wanted", "letter"] []
  g_telling_fault : mg "telling_fault" = some (.ref a.a_telling_fault)
  F_is_near : Fun K "is_near" "is_near" s_is_near a.a_is_near a.d_is_near
  b_is_near : Binds K a.d_is_near ["times", "hand", "time", "width"] []
  g_is_near : mg "is_near" = some (.ref a.a_is_near)
  F_near_fault : Fun K "near_fault" "near_fault" s_near_fault a.a_near_fault a.d_near_fault
  b_near_fault : Binds K a.d_near_fault ["why", "marks", "width"] []
  g_near_fault : mg "near_fault" = some (.ref a.a_near_fault)
  F_row_fault : Fun K "row_fault" "row_fault" s_row_fault a.a_row_fault a.d_row_fault
  b_row_fault : Binds K a.d_row_fault ["n", "thing"] []
  g_row_fault : mg "row_fault" = some (.ref a.a_row_fault)
  F_fault : Fun K "fault" "fault" s_fault a.a_fault a.d_fault
  b_fault : Binds K a.d_fault ["machine", "n", "thing"] []
  g_fault : mg "fault" = some (.ref a.a_fault)
  F_Machine_init : Fun K "__init__" "Machine.__init__" s_Machine_init a.a_Machine_init a.d_Machine_init
  b_Machine_init : Binds K a.d_Machine_init ["self", "o", "l", "g"] []
  mk_Machine : Mk K a.c_Machine a.a_Machine_init
  F__law_source : Fun K "_law_source" "_law_source" s__law_source a.a__law_source a.d__law_source
  b__law_source : Binds K a.d__law_source ["_law_script"] []
  g__law_source : mg "_law_source" = some (.ref a.a__law_source)
  F__law_draw : Fun K "_law_draw" "_law_draw" s__law_draw a.a__law_draw a.d__law_draw
  b__law_draw : Binds K a.d__law_draw ["_law_source_here", "_law_limit"] []
  g__law_draw : mg "_law_draw" = some (.ref a.a__law_draw)
  F__law_big : Fun K "_law_big" "_law_big" s__law_big a.a__law_big a.d__law_big
  b__law_big : Binds K a.d__law_big ["_law_source_here", "_law_limit"] []
  g__law_big : mg "_law_big" = some (.ref a.a__law_big)
  F__law_numbers : Fun K "_law_numbers" "_law_numbers" s__law_numbers a.a__law_numbers a.d__law_numbers
  b__law_numbers : Binds K a.d__law_numbers ["_law_source_here"] []
  g__law_numbers : mg "_law_numbers" = some (.ref a.a__law_numbers)
  F__law_times : Fun K "_law_times" "_law_times" s__law_times a.a__law_times a.d__law_times
  b__law_times : Binds K a.d__law_times ["_law_numbers_here"] []
  g__law_times : mg "_law_times" = some (.ref a.a__law_times)
  F__law_is : Fun K "_law_is" "_law_is" s__law_is a.a__law_is a.d__law_is
  b__law_is : Binds K a.d__law_is ["_law_thing", "_law_due"] []
  g__law_is : mg "_law_is" = some (.ref a.a__law_is)
  F__law_plan : Fun K "_law_plan" "_law_plan" s__law_plan a.a__law_plan a.d__law_plan
  b__law_plan : Binds K a.d__law_plan ["_law_source_here", "_law_letter", "_law_gap", "_law_n", "_law_most"] []
  g__law_plan : mg "_law_plan" = some (.ref a.a__law_plan)
  F__law_row : Fun K "_law_row" "_law_row" s__law_row a.a__law_row a.d__law_row
  b__law_row : Binds K a.d__law_row ["_law_row_here"] []
  g__law_row : mg "_law_row" = some (.ref a.a__law_row)
  F__law_fault : Fun K "_law_fault" "_law_fault" s__law_fault a.a__law_fault a.d__law_fault
  b__law_fault : Binds K a.d__law_fault ["_law_letter", "_law_gap", "_law_n", "_law_thing"] []
  g__law_fault : mg "_law_fault" = some (.ref a.a__law_fault)
  F__law_same_fault : Fun K "_law_same_fault" "_law_same_fault" s__law_same_fault a.a__law_same_fault a.d__law_same_fault
  b__law_same_fault : Binds K a.d__law_same_fault ["_law_told", "_law_due"] []
  g__law_same_fault : mg "_law_same_fault" = some (.ref a.a__law_same_fault)
  F__law_wrong : Fun K "_law_wrong" "_law_wrong" s__law_wrong a.a__law_wrong a.d__law_wrong
  b__law_wrong : Binds K a.d__law_wrong ["_law_source_here", "_law_row_here", "_law_machine"] []
  g__law_wrong : mg "_law_wrong" = some (.ref a.a__law_wrong)
  F__law_spoiled : Fun K "_law_spoiled" "_law_spoiled" s__law_spoiled a.a__law_spoiled a.d__law_spoiled
  b__law_spoiled : Binds K a.d__law_spoiled ["_law_source_here", "_law_rows", "_law_n", "_law_gap", "_law_machine"] []
  g__law_spoiled : mg "_law_spoiled" = some (.ref a.a__law_spoiled)
  F_law : Fun K "law" "law" s_law a.a_law a.d_law
  b_law : Binds K a.d_law ["_law_script"] []
  g_law : mg "law" = some (.ref a.a_law)
  g_Machine : mg "Machine" = some (.ref a.c_Machine)
  cl_Machine : Cls K a.c_Machine
  nF_Machine_o : NoAttr K a.c_Machine "o"
  nF_Machine_l : NoAttr K a.c_Machine "l"
  nF_Machine_g : NoAttr K a.c_Machine "g"
  nF_Machine_letter : NoAttr K a.c_Machine "letter"
  nF_Machine_gap : NoAttr K a.c_Machine "gap"
  ca_Machine : PySem.W.findIn K (.ref a.c_Machine) "__class__" = some (some (.builtin "object.__class__"))
  ct_Machine : PySem.W.takesIn K (.builtin "object.__class__") = some true
  cg_Machine : PySem.W.specialIn K (.builtin "object.__class__") "__get__" = some (some (.builtin "getset_descriptor.__get__"))
  co_Machine : PySem.W.mroIn K a.c_Machine (.type "object") = some true
  ic_Machine : PySem.W.isClsIn K a.c_Machine = true
  tc_Machine : PySem.W.typeIn K (.ref a.c_Machine) = some (.type "type")
  su_list_Machine : PySem.W.subIn K (.ref a.c_Machine) (.type "list") = some false
  su_tuple_Machine : PySem.W.subIn K (.ref a.c_Machine) (.type "tuple") = some false
  n_abs : mg "abs" = none
  n_all : mg "all" = none
  n_bool : mg "bool" = none
  n_enumerate : mg "enumerate" = none
  n_int : mg "int" = none
  n_isinstance : mg "isinstance" = none
  n_len : mg "len" = none
  n_list : mg "list" = none
  n_max : mg "max" = none
  n_range : mg "range" = none
  n_set : mg "set" = none
  n_str : mg "str" = none
  n_tuple : mg "tuple" = none
  g_MOST_PLANNED : ∃ t, mg "MOST_PLANNED" = some (.int 100 t)
  g_MOST_ROWS : ∃ t, mg "MOST_ROWS" = some (.int 400 t)
  g_LATEST_START : ∃ t, mg "LATEST_START" = some (.int 1000000000000000 t)
  g_GREATEST_PART : ∃ t, mg "GREATEST_PART" = some (.int 1000000000 t)
/-! ### core: rules that the layer lacks, what a draw's source is -/
section
variable {X : Cx}
/-- xs[i], read ahead of xs[i] op= e -/
theorem gt_list : PGet X (rIxL X.K) := by
  intro pins s σ H x y v u Q I rx ry h
  obtain ⟨p, xs, i, z, rfl, rfl, hq, he, q⟩ := h
  cases rx
  obtain ⟨t, rfl⟩ := ry
  obtain ⟨its, r, pl, hz⟩ := I.list hq
  obtain ⟨j, h1, h2, h3, h4, h5⟩ := atI_get he
  obtain ⟨w, ew, rw'⟩ := r.get h2
  have hl := r.length
  have hn := line63
  have fin : EP X pins σ Q w s := ⟨z, H, I, rw', q⟩
  by_cases h0 : 0 ≤ i
  · have hj : i.toNat = j := by
      rw [seqIndex_of h0 h5] at h1
      exact Option.some.inj h1
    exact PySem.wpAny_getItem_list pl.isList h0 (by omega) (by rw [hj]; simpa using ew) fin
  · have hj : (i + (its.toArray.size : Int)).toNat = j := by
      rw [seqIndex_neg (by omega) h4] at h1
      rw [List.size_toArray, ← hl]
      exact Option.some.inj h1
    exact PySem.wpAny_getItem_list_neg pl.isList (by omega) (by rw [List.size_toArray] <;> omega) (by omega) (by rw [hj]; simpa using ew) fin
end
theorem pe_powN {X : Cx} {i j z : Int} {p q pos : Pos} {k l : Nat} (hc : CPow i j) (h : i ^ j.toNat = z) : PE X (.BinOp (.Constant (.int i) k p) .Pow (.Constant (.int j) l q) pos) (tC (.int z)) :=
  ⟨fun pins s σ H Q I g => (pe_op op_pow pe_int pe_int).run pins s σ H Q I ⟨i, j, rfl, rfl, hc, by show Q (.int (i ^ j.toNat)) H; rw [h]; exact g⟩⟩
theorem ite_tt {c A B : Prop} [Decidable c] (hc : c) (h : A) : if decide c = true then A else B := by
  rw [if_pos (decide_eq_true hc)]
  exact h
theorem ite_ff {c A B : Prop} [Decidable c] (hc : ¬ c) (h : B) : if decide c = true then A else B := by
  rw [if_neg (by rw [decide_eq_false hc]; exact Bool.false_ne_true)]
  exact h
theorem ite_d {c A B : Prop} [Decidable c] (h1 : c → A) (h2 : ¬ c → B) : if decide c = true then A else B := by
  by_cases hc : c
  · exact ite_tt hc (h1 hc)
  · exact ite_ff hc (h2 hc)
theorem ite_b {b : Bool} {A B : Prop} (h1 : b = true → A) (h2 : b = false → B) : if b = true then A else B := by
  cases b with
  | true => exact iteT (h1 rfl)
  | false => exact iteF (h2 rfl)
/-! ### readings, turn by turn -/
/-- a new object -/
def NewAt (n : Nat) (o : HO) (H : Hp) (Q : VK) : Prop := n ≤ sizeLine ∧ ∀ p, H p = none → Q (.ref p) (upd H p o)
theorem Same.new {H : Hp} {p : Addr} {o : HO} (h : H p = none) : Same H (upd H p o) := fun b u e => by rw [upd_ne (ne_of_none e h)]; exact e
theorem Same.at {H H' : Hp} {b : Addr} {o : HO} (s : Same H H') (h : H b = some o) : H' b = some o := s b o h
/-- all but what stands at p is as it was -/
def But (p : Addr) (H H' : Hp) : Prop := ∀ b o, H b = some o → b ≠ p → H' b = some o
theorem But.refl (p : Addr) (H : Hp) : But p H H := fun _ _ h _ => h
theorem But.trans {p : Addr} {H H1 H2 : Hp} (a : But p H H1) (b : But p H1 H2) : But p H H2 := fun c o h n => b c o (a c o h n) n
theorem But.of_same {p : Addr} {H H' : Hp} (h : Same H H') : But p H H' := fun b o e _ => h b o e
theorem But.upd {p : Addr} {H : Hp} {o : HO} : But p H (upd H p o) := fun b u h n => by rw [upd_ne n]; exact h
theorem But.at {p b : Addr} {H H' : Hp} {o : HO} (s : But p H H') (n : b ≠ p) (h : H b = some o) : H' b = some o := s b o h n
theorem But.new {p q : Addr} {H : Hp} {o : HO} (h : H q = none) : But p H (L2.upd H q o) := But.of_same (Same.new h)
theorem But.some {p b : Addr} {H H' : Hp} {o : HO} (s : But p H H') (h : H b = Option.some o) (n : b ≠ p) : ∃ u, H' b = Option.some u := ⟨o, s b o h n⟩
theorem _root_.L2.Same.over {H H' : Hp} {D : Addr} {o u : HO} (s : Same H H') (n : H D = none) (e : H' D = some u) (hu : True := trivial) : Same H (upd H' D o) := fun b v h => (upd_ne (ne_of_none h n)).trans (s b v h)
theorem _root_.L2.Same.made0 {H : Hp} {x dx C : Addr} (nx : H x = none) (nd : H dx = none) : Same H (L2.upd (L2.upd H dx (.own x)) x (.ins C dx [])) := fun b o e => by
  rw [upd_ne (ne_of_none e nx), upd_ne (ne_of_none e nd)]; exact e
theorem But.updNone {H H' : Hp} {x L : Addr} {o : HO} (b : But x H H') (n : H L = none) : But x H (L2.upd H' L o) := fun c u hc hn => (upd_ne (ne_of_none hc n)).trans (b c u hc hn)
theorem But.updOver {H H' : Hp} {x L : Addr} {o u : HO} (b : But x H H') (n : H L = none) (e : H' L = Option.some u) : But x H (L2.upd H' L o) := b.updNone n

theorem new_at {n : Nat} {o : HO} {H : Hp} {Q : VK} (hn : n ≤ 1000) (k : ∀ p H', H p = none → Same H H' → H' p = some o → Q (.ref p) H') : NewAt n o H Q :=
  ⟨Nat.le_trans hn (by decide), fun p hp => k p _ hp (Same.new hp) upd_same⟩
theorem new_of {o : HO} {H : Hp} {Q : VK} (k : ∀ p H', H p = none → Same H H' → H' p = some o → Q (.ref p) H') : ∀ p, H p = none → Q (.ref p) (upd H p o) := fun p hp => k p _ hp (Same.new hp) upd_same
section
variable {K : PySem.W.Frag} {σ : St} {H : Hp} {Q : VK} {ta tb tc : TE} {x y v : V} {D : Ends} {t u : TS} {QT : Bool → Hp → Prop} {QA : List V → Hp → Prop} {i j : Int} {n m : Nat}
theorem r_var (e : σ[n]? = some (some v)) (q : Q v H) : tVar n σ H Q := ⟨v, e, q⟩
theorem r_c (q : Q v H) : tC v σ H Q := q
theorem r_op {r : R2} (h : ta σ H fun x H1 => tb σ H1 fun y H2 => r x y H2 Q) : tOp r ta tb σ H Q := h
theorem r_un {r : V → Hp → VK → Prop} (h : ta σ H fun x H1 => r x H1 Q) : tUn r ta σ H Q := h
theorem r_I0 {g : Int → Int → V} (q : Q (g i j) H) : rI0 g (.int i) (.int j) H Q := ⟨i, j, rfl, rfl, q⟩
theorem r_I {C : Int → Int → Prop} {g : Int → Int → V} (c : C i j) (q : Q (g i j) H) : rI C g (.int i) (.int j) H Q := ⟨i, j, rfl, rfl, c, q⟩
theorem r_add (q : Q (.int (i + j)) H) : rAdd (.int i) (.int j) H Q := ⟨i, j, rfl, rfl, q⟩
theorem r_sub (q : Q (.int (i - j)) H) : rSub (.int i) (.int j) H Q := ⟨i, j, rfl, rfl, q⟩
theorem r_U {g : Int → V} (q : Q (g i) H) : rU g (.int i) H Q := ⟨i, rfl, q⟩
theorem r_eqI (q : Q (.bl (decide (i = j))) H) : rEq (.int i) (.int j) H Q := ⟨rfl, by
  have e : decide (V.int i = V.int j) = decide (i = j) := by
    by_cases h : i = j
    · subst h; rw [decide_eq_true rfl, decide_eq_true rfl]
    · rw [decide_eq_false h, decide_eq_false fun z => h (V.int.inj z)]
  rw [e]; exact q⟩
theorem r_neI (q : Q (.bl (!decide (i = j))) H) : rNe (.int i) (.int j) H Q := ⟨rfl, by
  have e : decide (V.int i = V.int j) = decide (i = j) := by
    by_cases h : i = j
    · subst h; rw [decide_eq_true rfl, decide_eq_true rfl]
    · rw [decide_eq_false h, decide_eq_false fun z => h (V.int.inj z)]
  rw [e]; exact q⟩
theorem r_ixL {p : Addr} {xs : List V} (h : H p = some (.lst xs)) (e : atI xs i = some v) (q : Q v H) : rIxL K (.ref p) (.int i) H Q := ⟨p, xs, i, v, rfl, rfl, SqL.of h, e, q⟩
theorem r_ixT {p : Addr} {xs : List V} (h : H p = some (.tup xs)) (e : atI xs i = some v) (q : Q v H) : rIxT K (.ref p) (.int i) H Q := ⟨p, xs, i, v, rfl, rfl, SqT.of h, e, q⟩
theorem r_test (h : ta σ H fun x H' => ∃ k, x = .bl k ∧ QT k H') : tTest ta σ H QT := h
theorem r_tB (h : ta σ H fun x H' => ∃ k, x = .bl k ∧ QT k H') : tB ta σ H QT := h
theorem r_bl {b : Bool} {R : Bool → Prop} (h : R b) : ∃ k, V.bl b = .bl k ∧ R k := ⟨b, rfl, h⟩
theorem r_not {t : TT} (h : t σ H fun c H1 => QT (!c) H1) : tNot t σ H QT := h
theorem r_and {t u : TT} (h : t σ H fun c H1 => if c = true then u σ H1 QT else QT false H1) : tAnd t u σ H QT := h
theorem r_or {t u : TT} (h : t σ H fun c H1 => if c = true then QT true H1 else u σ H1 QT) : tOr t u σ H QT := h
theorem r_notV (h : ta σ H fun x H1 => ∃ c, x = .bl c ∧ Q (.bl (!c)) H1) : tNotV ta σ H Q := h
theorem r_andV (h : ta σ H fun x H1 => ∃ c, x = .bl c ∧ if c = true then tb σ H1 Q else Q (.bl false) H1) : tAndV ta tb σ H Q := h
theorem r_orV (h : ta σ H fun x H1 => ∃ c, x = .bl c ∧ if c = true then Q (.bl true) H1 else tb σ H1 Q) : tOrV ta tb σ H Q := h
theorem r_ifE {t : TT} (h : t σ H fun c H1 => if c = true then ta σ H1 Q else tb σ H1 Q) : tIf t ta tb σ H Q := h
theorem r_seq (h : t { D with nx := u D } σ H) : tSeq t u D σ H := h
theorem r_next (h : D.nx σ H) : tNext D σ H := h
theorem r_brk (h : D.bk σ H) : tBreak D σ H := h
theorem r_cont (h : D.ct σ H) : tCont D σ H := h
theorem r_drop (h : ta σ H fun _ H1 => D.nx σ H1) : tDrop ta D σ H := h
theorem r_ret (h : ta σ H D.rt) : tRet ta D σ H := h
theorem r_ifS {c : TT} (h : c σ H fun b H1 => if b = true then t D σ H1 else u D σ H1) : tIfS c t u D σ H := h
theorem r_asg {g : TG} (h : ta σ H fun x H1 => g x σ H1 D.nx) : tAsg ta g D σ H := h
theorem r_gName {R : St → Hp → Prop} (h : R (σ.set n (some v)) H) : gName n v σ H R := h
theorem r_gSub {s : TSet} {R : St → Hp → Prop} (h : ta σ H fun o H1 => tb σ H1 fun i H2 => s o i v H2 fun H3 => R σ H3) : gSub ta tb s v σ H R := h
theorem r_setL {p : Addr} {xs : List V} {k : Nat} {R : Hp → Prop} (h : H p = some (.lst xs)) (e : ixN xs.length i = some k) (q : R (upd H p (.lst (xs.set k v)))) : rSetL (.ref p) (.int i) v H R := ⟨p, xs, i, k, rfl, rfl, h, e, q⟩
theorem r_aug {ti : TIp} (e : σ[n]? = some (some x)) (h : ta σ H fun y H1 => ti x y H1 fun z H2 => D.nx (σ.set n (some z)) H2) : tAug n ta ti D σ H := ⟨x, e, h⟩
theorem r_augS {tg : V → V → Hp → VK → Prop} {tip : TIp} {ts : TSet} (h : ta σ H fun o H1 => tb σ H1 fun i H2 => tg o i H2 fun x H3 => tc σ H3 fun y H4 => tip x y H4 fun z H5 => ts o i z H5 fun H6 => D.nx σ H6) : tAugS ta tb tc tg tip ts D σ H := h
theorem r_ip {f : Int → Int → Int} (q : Q (.int (f i j)) H) : ipI f (.int i) (.int j) H Q := ⟨i, j, rfl, rfl, q⟩
theorem r_nil (h : QA [] H) : tNil σ H QA := h
theorem r_cons {tr : TA} (h : ta σ H fun x H1 => tr σ H1 fun xs H2 => QA (x :: xs) H2) : tCons ta tr σ H QA := h
theorem r_tup {t : TA} (h : t σ H fun xs H1 => NewAt xs.length (.tup xs) H1 Q) : tTup t σ H Q := h
theorem r_lst {t : TA} (h : t σ H fun xs H1 => NewAt xs.length (.lst xs) H1 Q) : tLst t σ H Q := h
theorem r_CB {r : List V → Hp → VK → Prop} {t : TA} (h : t σ H fun vs H1 => r vs H1 Q) : tCB r t σ H Q := h
theorem r_call {sp : Sp} {dvs : List V} {E : XK} {t : TA} (h : t σ H fun vs H1 => sp (vs ++ dvs) H1 Q E) : tCall sp dvs E t σ H Q := h
theorem r_callN {k l : Nat} {sp : Sp} {gV : List V → List V → List V} {E : XK} {t tk : TA} (h : t σ H fun vs H1 => tk σ H1 fun zs H2 => vs.length = k ∧ zs.length = l ∧ sp (gV vs zs) H2 Q E) : tCallN k l sp gV E t tk σ H Q := h
theorem r_fld {p C dx : Addr} {fs : List (Str × V)} {f : Str} {R : V → Prop} (hc : Cls K C) (hn : NoAttr K C f) (hx : H p = some (.ins C dx fs)) (e : fs.lookup f = some v) (q : R v) : (∃ a C dx fs v, V.ref p = .ref a ∧ H a = some (.ins C dx fs) ∧ Cls K C ∧ NoAttr K C f ∧ fs.lookup f = some v ∧ R v) := ⟨p, C, dx, fs, v, rfl, hx, hc, hn, e, q⟩
theorem r_tFld {f : Str} (h : ta σ H fun x H1 => ∃ a C dx fs v, x = .ref a ∧ H1 a = some (.ins C dx fs) ∧ Cls K C ∧ NoAttr K C f ∧ fs.lookup f = some v ∧ Q v H1) : tFld K ta f σ H Q := h
theorem r_sl {r : V → Option Int → Option Int → Hp → VK → Prop} {tl th : TO} (h : ta σ H fun x H1 => tl σ H1 fun l H2 => th σ H2 fun u H3 => r x l u H3 Q) : tSl r ta tl th σ H Q := h
theorem r_noP {R : Option Int → Hp → Prop} (h : R none H) : tNoPart σ H R := h
theorem r_part {R : Option Int → Hp → Prop} (h : ta σ H fun x H1 => ∃ i, x = .int i ∧ R (some i) H1) : tPart ta σ H R := h
theorem r_in {R : Int → Prop} (h : R i) : ∃ k, V.int i = .int k ∧ R k := ⟨i, rfl, h⟩
theorem r_Bm {T : String} {r : V → List V → Hp → VK → Prop} {t : TA} (h : ta σ H fun x H1 => tyV K T x H1 ∧ t σ H1 fun xs H2 => r x xs H2 Q) : tBM K T r ta t σ H Q := h
theorem r_app {l : Addr} {xs : List V} (h : H l = some (.lst xs)) (hz : xs.length < sizeLine) (q : Q .non (upd H l (.lst (xs ++ [y])))) : rAppend (.ref l) [y] H Q := ⟨l, xs, y, rfl, rfl, h, hz, q⟩
end
theorem at_nat {ns : List Int} {i : Int} (h0 : 0 ≤ i) (h : i < (ns.map V.int).length) : ∃ n, atI (ns.map V.int) i = some (.int n) ∧ n ∈ ns := by
  obtain ⟨j, rfl⟩ : ∃ j : Nat, i = j := ⟨i.toNat, by omega⟩
  rw [List.length_map] at h
  have hj : j < ns.length := by omega
  exact ⟨ns[j], atI_nat (by rw [List.getElem?_map, List.getElem?_eq_getElem hj]; rfl), List.getElem_mem hj⟩
theorem fmod_nn {a b : Int} (h : 0 < b) : 0 ≤ a.fmod b := by rw [Int.fmod_eq_emod_of_nonneg a (by omega)]; exact Int.emod_nonneg a (by omega)
theorem fmod_lt {a b : Int} (h : 0 < b) : a.fmod b < b := by rw [Int.fmod_eq_emod_of_nonneg a (by omega)]; exact Int.emod_lt_of_pos a h
theorem lim_div {lim : Int} (h0 : 0 < lim) (h : lim < 2 ^ 200) : CDivW lim lim := wide_div (b := 200) h0 (by omega) (by decide) (by decide)
theorem cdiv_of {i lim : Int} (h0 : 0 < lim) (h : lim < 2 ^ 200) : CDivW i lim := ⟨h0, (lim_div h0 h).2⟩
theorem mulL {i j : Int} (h1 : -(2 ^ 64) < i) (h2 : i < 2 ^ 64) : CMul i j := Or.inl ⟨h1, h2⟩
theorem mulR {i j : Int} (h1 : -(2 ^ 64) < j) (h2 : j < 2 ^ 64) : CMul i j := Or.inr ⟨h1, h2⟩
theorem powOk {i j : Int} (h1 : 0 ≤ j) (h2 : j ≤ 1000000) (h3 : i.natAbs < 2 ^ 64) : CPow i j := ⟨h1, h2, h3⟩
theorem r_for {wi : TI} {g : TG} {tb : TS} {D : Ends} {σ : St} {H : Hp} (h : wi σ H fun J H1 => ∃ W : Nat → Nat → St → Hp → Prop, (∃ m, W 0 m σ H1) ∧ ∀ i m σ H, W i m σ H →
  (J.stop i H ∧ D.nx σ H) ∨ (J.go i H ∧ ∃ N : St → Hp → Prop, (∀ σ' H', N σ' H' → ∃ m', m' < m ∧ W (i + 1) m' σ' H') ∧ ∀ x H', J.yld i H x H' → g x σ H' fun σ2 H2 => tb { D with nx := N, ct := N, bk := D.nx } σ2 H2)) : tFor wi g tb D σ H := h
theorem r_iR1 {ta : TA} {σ : St} {H : Hp} {R : It → Hp → Prop} (h : ta σ H fun vs H1 => ∃ j : Int, vs = [.int j] ∧ -(2 ^ 62) ≤ j ∧ j < 2 ^ 62 ∧ R (Itr 0 j.toNat) H1) : iRng1 ta σ H R := h
theorem r_iR2 {ta : TA} {σ : St} {H : Hp} {R : It → Hp → Prop} (h : ta σ H fun vs H1 => ∃ i j : Int, vs = [.int i, .int j] ∧ (-(2 ^ 62) ≤ i ∧ i < 2 ^ 62 ∧ -(2 ^ 62) ≤ j ∧ j < 2 ^ 62) ∧ R (Itr i (j - i).toNat) H1) : iRng2 ta σ H R := h
theorem r_tMeth {C : Addr} {m : Str} {sp : Sp} {dvs : List V} {E : XK} {ta : TE} {t : TA} {σ : St} {H : Hp} {Q : VK} (h : ta σ H fun x H1 => ∃ a dx fs, x = .ref a ∧ H1 a = some (.ins C dx fs) ∧ fs.lookup m = none ∧ t σ H1 fun vs H2 => sp (x :: (vs ++ dvs)) H2 Q E) : tMeth C m sp dvs E ta t σ H Q := h
theorem r_meth {C p dx : Addr} {fs : List (Str × V)} {m : Str} {H : Hp} {R : Prop} (hx : H p = some (.ins C dx fs)) (hl : fs.lookup m = none) (q : R) : ∃ a dx fs, V.ref p = .ref a ∧ H a = some (.ins C dx fs) ∧ fs.lookup m = none ∧ R := ⟨p, dx, fs, rfl, hx, hl, q⟩
theorem r_iT {K : PySem.W.Frag} {tl : TE} {σ : St} {H : Hp} {R : It → Hp → Prop} (h : tl σ H fun x H1 => ∃ a, x = .ref a ∧ (∃ xs, SqT K H1 a xs) ∧ R (Itt K a) H1) : iTup K tl σ H R := h
theorem r_iL {K : PySem.W.Frag} {tl : TE} {σ : St} {H : Hp} {R : It → Hp → Prop} (h : tl σ H fun x H1 => ∃ a, x = .ref a ∧ (∃ xs, SqL K H1 a xs) ∧ R (Itl K a) H1) : iList K tl σ H R := h
theorem r_lc {wi : TI} {g : TG} {tt : TT} {te : TE} {vs : List Nat} {σ : St} {H : Hp} {Q : VK} (h : wi σ H fun J H1 => ∀ D, H1 D = none → ∃ W : Nat → Nat → Hp → Prop, (∃ m, W 0 m (upd H1 D (.lst []))) ∧ ∀ i m H, W i m H →
  (J.stop i H ∧ Q (.ref D) H) ∨ (J.go i H ∧ ∃ Nx : Hp → Prop, (∀ H', Nx H' → ∃ m', m' < m ∧ W (i + 1) m' H') ∧ ∀ x H', J.yld i H x H' → g x (wipe σ vs) H' fun σ2 H2 => wipe σ2 vs = wipe σ vs ∧ tt σ2 H2 fun b H3 =>
    if b = true then te σ2 H3 fun y H4 => ∃ acc, H4 D = some (.lst acc) ∧ acc.length < sizeLine ∧ Nx (upd H4 D (.lst (acc ++ [y]))) else Nx H3)) : tLc wi g tt te vs σ H Q := h
theorem r_isiI {K : PySem.W.Frag} {H : Hp} {Q : VK} {i : Int} {n : String} (b : Bool) (h : kitB "int" n = some b) (q : Q (.bl b) H) : rIsi K [.int i, .ty n] H Q := ⟨_, _, .type "int", .type n, b, rfl, .ty n, .base (.int i), kit_ty h, q⟩
theorem r_isiB {K : PySem.W.Frag} {H : Hp} {Q : VK} {i : Bool} {n : String} (b : Bool) (h : kitB "bool" n = some b) (q : Q (.bl b) H) : rIsi K [.bl i, .ty n] H Q := ⟨_, _, .type "bool", .type n, b, rfl, .ty n, .base (.bl i), kit_ty h, q⟩
theorem r_slL {K : PySem.W.Frag} {H : Hp} {Q : VK} {a : Addr} {xs : List V} {lo hi : Option Int} (h : SqL K H a xs) (q : ∀ p H', H p = none → Same H H' → H' p = some (.lst (cutV xs lo hi)) → Q (.ref p) H') : rSlL K (.ref a) lo hi H Q := ⟨a, xs, rfl, h, new_of q⟩
theorem r_slT {K : PySem.W.Frag} {H : Hp} {Q : VK} {a : Addr} {xs : List V} {lo hi : Option Int} (h : SqT K H a xs) (hn : ¬ (HT.sIx xs.length 0 lo = 0 ∧ HT.sIx xs.length xs.length hi = xs.length)) (q : ∀ p H', H p = none → Same H H' → H' p = some (.tup (cutV xs lo hi)) → Q (.ref p) H') : rSlT K (.ref a) lo hi H Q := ⟨a, xs, rfl, h, hn, new_of q⟩
def rListOf (K : PySem.W.Frag) : List V → Hp → VK → Prop := fun xs H Q => ∃ p ys, xs = [.ref p] ∧ (SqL K H p ys ∨ SqT K H p ys) ∧ ∀ l, H l = none → Q (.ref l) (upd H l (.lst ys))
def rTupOf (K : PySem.W.Frag) : List V → Hp → VK → Prop := fun xs H Q => ∃ p ys, xs = [.ref p] ∧ ((SqL K H p ys ∧ ∀ l, H l = none → Q (.ref l) (upd H l (.tup ys))) ∨ (SqT K H p ys ∧ Q (.ref p) H))
theorem cr_list {X : Cx} : CallR X (.type "list") (rListOf X.K) := call_list_of
theorem cr_tup {X : Cx} : CallR X (.type "tuple") (rTupOf X.K) := call_tuple_of
theorem r_listS {K : PySem.W.Frag} {H : Hp} {Q : VK} {a : Addr} {xs : List V} (h : SqL K H a xs ∨ SqT K H a xs) (q : ∀ p H', H p = none → Same H H' → H' p = some (.lst xs) → Q (.ref p) H') : rListOf K [.ref a] H Q := ⟨a, xs, rfl, h, new_of q⟩
theorem r_listL {K : PySem.W.Frag} {H : Hp} {Q : VK} {a : Addr} {xs : List V} (h : H a = some (.lst xs)) (q : ∀ p H', H p = none → Same H H' → H' p = some (.lst xs) → Q (.ref p) H') : rListOf K [.ref a] H Q := r_listS (.inl (SqL.of h)) q
theorem r_listT {K : PySem.W.Frag} {H : Hp} {Q : VK} {a : Addr} {xs : List V} (h : H a = some (.tup xs)) (q : ∀ p H', H p = none → Same H H' → H' p = some (.lst xs) → Q (.ref p) H') : rListOf K [.ref a] H Q := r_listS (.inr (SqT.of h)) q
theorem r_tupL {K : PySem.W.Frag} {H : Hp} {Q : VK} {a : Addr} {xs : List V} (h : H a = some (.lst xs)) (q : ∀ p H', H p = none → Same H H' → H' p = some (.tup xs) → Q (.ref p) H') : rTupOf K [.ref a] H Q := ⟨a, xs, rfl, .inl ⟨SqL.of h, new_of q⟩⟩
theorem r_tupT {K : PySem.W.Frag} {H : Hp} {Q : VK} {a : Addr} {xs : List V} (h : H a = some (.tup xs)) (q : Q (.ref a) H) : rTupOf K [.ref a] H Q := ⟨a, xs, rfl, .inr ⟨SqT.of h, q⟩⟩
theorem r_nF {A B : Prop} (h : A) : if (!false) = true then A else B := h
theorem r_nT {A B : Prop} (h : B) : if (!true) = true then A else B := by
  rw [if_neg (by decide)]
  exact h
theorem r_nD {c A B : Prop} [Decidable c] (h1 : ¬ c → A) (h2 : c → B) : if (!decide c) = true then A else B := by
  by_cases hc : c
  · rw [decide_eq_true hc]; exact r_nT (h2 hc)
  · rw [decide_eq_false hc]; exact r_nF (h1 hc)
theorem cut_take {xs : List V} {k : Int} (h : (xs.length : Int) ≤ k) : cutV xs none (some k) = xs := by
  have e : HT.sIx xs.length xs.length (some k) = xs.length := by
    show (if k < 0 then (k + (xs.length : Int)).toNat else min k.toNat xs.length) = xs.length
    rw [if_neg (by omega)]; omega
  unfold cutV
  rw [e]
  show (xs.drop 0).take (xs.length - 0) = xs
  simp
theorem r_yes {σ : St} {H : Hp} {R : Bool → Hp → Prop} (h : R true H) : tYes σ H R := h
theorem int_of_get {ns : List Int} {i : Nat} {y : V} (h : (ns.map V.int)[i]? = some y) : ∃ z, ns[i]? = some z ∧ y = V.int z := by
  rw [List.getElem?_map] at h
  cases e : ns[i]? with
  | none => rw [e] at h; cases h
  | some z => rw [e] at h; exact ⟨z, rfl, (Option.some.inj h).symm⟩
theorem take_more {α : Type} {l : List α} {i : Nat} {x : α} (h : l[i]? = some x) : l.take (i + 1) = l.take i ++ [x] := by
  rw [List.take_succ, h]; rfl
theorem r_chain {r r' : R2} {ta tb tc : TE} {σ : St} {H : Hp} {Q : VK} (h : ta σ H fun x H1 => tb σ H1 fun y H2 => r x y H2 fun z H3 => ∃ k, z = .bl k ∧ (if k = true then tc σ H3 fun w' H4 => r' y w' H4 Q else Q (.bl false) H3)) : tChain r r' ta tb tc σ H Q := h
theorem r_sFld {K : PySem.W.Frag} {ta tv : TE} {f : Str} {D : Ends} {σ : St} {H : Hp} (h : tv σ H fun y H1 => ta σ H1 fun x H2 => ∃ a C dx fs, x = .ref a ∧ H2 a = some (.ins C dx fs) ∧ Cls K C ∧ NoAttr K C f ∧ fs.length < 1000 ∧ D.nx σ (upd H2 a (.ins C dx (putF f y fs)))) : sFld K ta tv f D σ H := h
theorem r_put {K : PySem.W.Frag} {p C dx : Addr} {fs : List (Str × V)} {f : Str} {H : Hp} {R : Addr → Addr → Addr → List (Str × V) → Prop} (hc : Cls K C) (hn : NoAttr K C f) (hx : H p = some (.ins C dx fs)) (hl : fs.length ≤ 900) (q : R p C dx fs) :
    ∃ a C dx fs, V.ref p = .ref a ∧ H a = some (.ins C dx fs) ∧ Cls K C ∧ NoAttr K C f ∧ fs.length < 1000 ∧ R a C dx fs := ⟨p, C, dx, fs, rfl, hx, hc, hn, by omega, q⟩
theorem putF_len (f : Str) (v : V) : ∀ fs : List (Str × V), (putF f v fs).length ≤ fs.length + 1
  | [] => Nat.le_refl _
  | (g, x) :: r => by
    unfold putF
    by_cases h : g = f
    · rw [if_pos h, List.length_cons, List.length_cons]; omega
    · rw [if_neg h, List.length_cons, List.length_cons]
      have := putF_len f v r
      omega
theorem putF_le {f : Str} {v : V} {fs : List (Str × V)} {n : Nat} (h : fs.length ≤ n) : (putF f v fs).length ≤ n + 1 := Nat.le_trans (putF_len f v fs) (by omega)
def MakeAt (C : Addr) (sp : Sp) (vs : List V) (E : XK) (H : Hp) (Q : VK) : Prop := ∀ x dx, H x = none → H dx = none → dx ≠ x → sp (.ref x :: vs) (upd (upd H dx (.own x)) x (.ins C dx [])) (fun v H2 => v = .non ∧ Q (.ref x) H2) E
theorem r_make {C : Addr} {sp : Sp} {dvs : List V} {E : XK} {t : TA} {σ : St} {H : Hp} {Q : VK} (h : t σ H fun vs H1 => MakeAt C sp (vs ++ dvs) E H1 Q) : tMake C sp dvs E t σ H Q := h
def rIsNo : R2 := fun x y H Q => y = .non ∧ Q (.bl (decide (x = .non))) H
def rNotNo : R2 := fun x y H Q => y = .non ∧ Q (.bl (!decide (x = .non))) H
theorem op_isNo {X : Cx} : OpR X (compareOp .Is) rIsNo := op_isN
theorem op_notNo {X : Cx} : OpR X (compareOp .IsNot) rNotNo := op_notN
theorem r_isNn {H : Hp} {Q : VK} (q : Q (.bl true) H) : rIsNo .non .non H Q := ⟨rfl, q⟩
theorem r_isNi {H : Hp} {Q : VK} {i : Int} (q : Q (.bl false) H) : rIsNo (.int i) .non H Q := ⟨rfl, q⟩
theorem r_isNr {H : Hp} {Q : VK} {i : Addr} (q : Q (.bl false) H) : rIsNo (.ref i) .non H Q := ⟨rfl, q⟩
theorem r_notNn {H : Hp} {Q : VK} (q : Q (.bl false) H) : rNotNo .non .non H Q := ⟨rfl, q⟩
theorem r_notNi {H : Hp} {Q : VK} {i : Int} (q : Q (.bl true) H) : rNotNo (.int i) .non H Q := ⟨rfl, q⟩
theorem r_notNr {H : Hp} {Q : VK} {i : Addr} (q : Q (.bl true) H) : rNotNo (.ref i) .non H Q := ⟨rfl, q⟩
theorem r_lenS {K : PySem.W.Frag} {H : Hp} {p : Addr} {xs : List V} {R : List V → Prop} (h : SqL K H p xs ∨ SqT K H p xs) (q : R xs) : ∃ (p1 : Addr) (ys : List V), [V.ref p] = [.ref p1] ∧ (SqL K H p1 ys ∨ SqT K H p1 ys) ∧ R ys := ⟨p, xs, rfl, h, q⟩
theorem r_lenL {K : PySem.W.Frag} {H : Hp} {p : Addr} {xs : List V} {R : List V → Prop} (h : H p = some (.lst xs)) (q : R xs) : ∃ (p1 : Addr) (ys : List V), [V.ref p] = [.ref p1] ∧ (SqL K H p1 ys ∨ SqT K H p1 ys) ∧ R ys := ⟨p, xs, rfl, .inl (SqL.of h), q⟩
theorem r_lenT {K : PySem.W.Frag} {H : Hp} {p : Addr} {xs : List V} {R : List V → Prop} (h : H p = some (.tup xs)) (q : R xs) : ∃ (p1 : Addr) (ys : List V), [V.ref p] = [.ref p1] ∧ (SqL K H p1 ys ∨ SqT K H p1 ys) ∧ R ys := ⟨p, xs, rfl, .inr (SqT.of h), q⟩
theorem r_in1 {i : Int} {R : Int → Prop} (h : R i) : ∃ k, [V.int i] = [.int k] ∧ R k := ⟨i, rfl, h⟩
theorem r_in2 {i j : Int} {R : Int → Int → Prop} (h : R i j) : ∃ k l, [V.int i, V.int j] = [.int k, .int l] ∧ R k l := ⟨i, j, rfl, h⟩
/-- the source of draws at p, its cells at q -/
def SrcAt (H : Hp) (p q : Addr) : Prop := ∃ (cs : List Int) (i big cnt st : Int), H p = some (.lst [.ref q, .int i, .int big, .int cnt, .int st]) ∧ H q = some (.lst (cs.map V.int)) ∧ q ≠ p ∧ 0 ≤ i ∧ 0 ≤ big ∧ cs.length ≤ 63
theorem SrcAt.keep {H H' : Hp} {p q : Addr} (h : SrcAt H p q) (s : Same H H') : SrcAt H' p q := by
  obtain ⟨cs, i, big, cnt, st, h1, h2, h3⟩ := h
  exact ⟨cs, i, big, cnt, st, s _ _ h1, s _ _ h2, h3⟩
theorem SrcAt.upd {H : Hp} {p q x : Addr} {o : HO} (h : SrcAt H p q) (h1 : x ≠ p) (h2 : x ≠ q) : SrcAt (upd H x o) p q := by
  obtain ⟨cs, i, big, cnt, st, e1, e2, h3⟩ := h
  exact ⟨cs, i, big, cnt, st, (upd_ne h1.symm).trans e1, (upd_ne h2.symm).trans e2, h3⟩
theorem SrcAt.ne {H : Hp} {p q x : Addr} (h : SrcAt H p q) (hx : H x = none) : x ≠ p := by
  obtain ⟨cs, i, big, cnt, st, h1, _⟩ := h
  exact (ne_of_none h1 hx).symm
theorem SrcAt.neq {H : Hp} {p q x : Addr} (h : SrcAt H p q) (hx : H x = none) : x ≠ q := by
  obtain ⟨cs, i, big, cnt, st, _, h1, _⟩ := h
  exact (ne_of_none h1 hx).symm
theorem But.free {p q : Addr} {H H' : Hp} (b : But p H H') (hs : SrcAt H' p q) {x : Addr} (hx : H' x = none) : H x = none := by
  cases e : H x with
  | none => rfl
  | some o =>
    obtain ⟨u, z⟩ := b.some e (hs.ne hx)
    rw [hx] at z
    cases z
theorem seq_with {t1 t2 : TS} {D : Ends} {σ : St} {H : Hp} (P : St → Hp → Prop) (h2 : ∀ σ H, P σ H → t2 D σ H) (h1 : (∀ σ H, P σ H → t2 D σ H) → t1 { D with nx := t2 D } σ H) : tSeq t1 t2 D σ H := h1 h2
theorem pe_fldK {X : Cx} {K : PySem.W.Frag} {e : Expr} {f : Str} {pos : Pos} {ta : TE} (hK : X.K = K) (he : PE X e ta) (hb : attributeBase e f X.env (eval e X.env) = eval e X.env) : PE X (.Attribute e f pos) (tFld K ta f) := by
  subst hK; exact pe_fld he hb
theorem r_cat {H : Hp} {Q : VK} {l b : Addr} {xs zs : List V} (h1 : H l = some (.lst xs)) (h2 : H b = some (.lst zs)) (hn : xs.length + zs.length ≤ 1000) (q : ∀ p H', H p = none → Same H H' → H' p = some (.lst (xs ++ zs)) → Q (.ref p) H') : rCat (.ref l) (.ref b) H Q :=
  ⟨l, b, xs, zs, rfl, rfl, h1, h2, Nat.le_trans hn (by decide), new_of q⟩
theorem r_min {K : PySem.W.Frag} {H : Hp} {Q : VK} {l : Addr} {ns : List Int} (h1 : H l = some (.lst (ns.map V.int))) (hn : 0 < ns.length) (q : ∀ m, m ∈ ns → (∀ y, y ∈ ns → m ≤ y) → Q (.int m) H) : rMin K [.ref l] H Q :=
  ⟨l, ns, rfl, SqL.of h1, hn, q⟩
section
variable {X : Cx} {K : PySem.W.Frag}
theorem ix_listK (hK : X.K = K) : IxR X (rIxL K) := by subst hK; exact ix_list
theorem ix_tupK (hK : X.K = K) : IxR X (rIxT K) := by subst hK; exact ix_tup
theorem call_len_seqK (hK : X.K = K) : CallR X (.builtin "len") (fun xs H Q => ∃ p ys, xs = [.ref p] ∧ (SqL K H p ys ∨ SqT K H p ys) ∧ Q (.int ys.length) H) := by subst hK; exact call_len_seq
theorem call_isiK (hK : X.K = K) : CallR X (.builtin "isinstance") (rIsi K) := by subst hK; exact call_isi
theorem cr_listK (hK : X.K = K) : CallR X (.type "list") (rListOf K) := by subst hK; exact cr_list
theorem cr_tupK (hK : X.K = K) : CallR X (.type "tuple") (rTupOf K) := by subst hK; exact cr_tup
theorem pg_tupK {es : List Expr} {k n : Nat} {t : TGs} {pos : Pos} (hK : X.K = K) (hc : X.calm = true) (h : PGs X es t)
    (hn : (assignEach es X.env).length = n := by rfl) (hst : (assignEach es X.env).findIdx? (·.1) = none := by rfl) : PG X (.Tuple es k pos) (gTup K n t) := by subst hK; exact pg_tup hc h hn hst
end

local macro_rules | `(tactic| walk_at "src") => `(tactic| first | assumption | (refine' SrcAt.keep ?h ?s; (case s => assumption); (case h => walk_at "src")))
local macro_rules | `(tactic| walk_at "ne") => `(tactic| first | assumption | (apply Ne.symm; assumption) | (refine' SrcAt.ne ?a ?b; (case b => assumption); (case a => walk_at "src")))
local macro_rules | `(tactic| walk_at "hp") => `(tactic| first
  | assumption
  | with_reducible exact upd_same
  | (refine' Same.at ?s ?h; (case s => assumption); (case h => walk_at "hp"))
  | (refine' But.at ?s ?n ?h; (case s => assumption); (case n => walk_at "ne"); (case h => walk_at "hp"))
  | (rw [upd_ne (by first | assumption | (apply Ne.symm; assumption))]; walk_at "hp"))
local macro_rules | `(tactic| walk_at "side") => `(tactic| first | assumption | decide | omega | exact mulL (by omega) (by omega) | exact mulR (by omega) (by omega) | exact cdiv_of (by omega) (by omega) | exact powOk (by omega) (by omega) (by decide) | exact mulL (Int.lt_of_lt_of_le (by decide) (fmod_nn (by decide))) (Int.lt_trans (fmod_lt (by decide)) (by decide)))
local macro_rules | `(tactic| walk_at "pl") => `(tactic| ((repeat with_reducible refine putF_le ?_); with_unfolding_all exact Nat.le_of_ble_eq_true rfl))
local macro_rules | `(tactic| walk_at "lk") => `(tactic| first | assumption | (rw [lookup_putF, if_pos rfl]) | (rw [lookup_putF, if_neg (by decide +kernel)]; walk_at "lk"))
local macro_rules | `(tactic| walk_at "cls") => `(tactic| first | with_unfolding_all exact Txt.cl_Machine (by assumption) | with_unfolding_all exact Txt.nF_Machine_o (by assumption) | with_unfolding_all exact Txt.nF_Machine_l (by assumption) | with_unfolding_all exact Txt.nF_Machine_g (by assumption) | with_unfolding_all exact Txt.nF_Machine_letter (by assumption) | with_unfolding_all exact Txt.nF_Machine_gap (by assumption))
/-- one turn of a reading -/
local macro_rules | `(tactic| walk_at "rd") => `(tactic| with_reducible first
  | (refine r_seq ?_; fail_if_success (refine r_ifS ?_))
  | refine r_asg ?_
  | refine r_gName ?_
  | (refine' r_var ?hv ?_; (case hv => with_unfolding_all exact rfl))
  | refine r_c ?_
  | refine r_op ?_
  | refine r_I0 ?_
  | (refine' r_I ?hc ?_; (case hc => walk_at "side"))
  | refine r_add ?_
  | refine r_sub ?_
  | refine r_eqI ?_
  | refine r_neI ?_
  | (refine' r_ixL ?hp ?he ?_; (case hp => walk_at "hp"); (case he => with_unfolding_all exact rfl))
  | (refine' r_ixT ?hp ?he ?_; (case hp => walk_at "hp"); (case he => with_unfolding_all exact rfl))
  | refine r_cons ?_
  | refine r_nil ?_
  | refine r_CB ?_
  | refine r_call ?_
  | refine r_test ?_
  | refine r_tB ?_
  | refine r_bl ?_
  | refine r_in ?_
  | refine Or.inl (r_in1 ?_)
  | refine r_in1 ?_
  | refine r_in2 ?_
  | (refine' r_lenL ?hp ?_; (case hp => walk_at "hp"))
  | (refine' r_lenT ?hp ?_; (case hp => walk_at "hp"))
  | refine r_ifS ?_
  | refine r_and ?_
  | refine r_or ?_
  | refine r_not ?_
  | refine r_andV ?_
  | refine r_orV ?_
  | refine r_notV ?_
  | refine r_ifE ?_
  | refine r_ret ?_
  | refine r_next ?_
  | refine r_drop ?_
  | refine r_gSub ?_
  | (refine' r_setL ?hp ?he ?_; (case hp => walk_at "hp"); (case he => with_unfolding_all exact rfl))
  | (refine' r_aug ?he ?_; (case he => with_unfolding_all exact rfl))
  | refine r_augS ?_
  | refine r_ip ?_
  | refine r_tup ?_
  | refine r_lst ?_
  | refine r_tFld ?_
  | (refine' r_fld ?hc ?hn ?hx ?he ?_; (case hx => walk_at "hp"); (case hc => walk_at "cls"); (case hn => walk_at "cls"); (case he => walk_at "lk"))
  | (refine' r_put ?hc ?hn ?hx ?hl ?_; (case hx => walk_at "hp"); (case hc => walk_at "cls"); (case hn => walk_at "cls"); (case hl => walk_at "pl"))
  | refine r_sl ?_
  | refine r_noP ?_
  | refine r_part ?_
  | refine r_un ?_
  | refine r_U ?_
  | refine r_Bm ?_
  | refine r_cont ?_
  | refine r_brk ?_
  | refine r_isNn ?_
  | refine r_isNi ?_
  | refine r_isNr ?_
  | refine r_notNn ?_
  | refine r_notNi ?_
  | refine r_notNr ?_
  | refine r_chain ?_
  | refine r_sFld ?_
  | refine r_make ?_
  | refine r_yes ?_
  | refine r_lc ?_
  | refine r_isiI true (by decide +kernel) ?_
  | refine r_isiI false (by decide +kernel) ?_
  | refine r_for ?_
  | refine r_iR1 ?_
  | refine r_iR2 ?_
  | refine r_iL ?_
  | refine r_tMeth ?_
  | (refine' r_meth ?hx ?hl ?_; (case hx => walk_at "hp"); (case hl => walk_at "no"))
  | refine r_iT ?_
  | refine iteT ?_
  | refine r_nF ?_
  | refine r_nT ?_
  | refine iteF ?_)
local macro_rules | `(tactic| walk_at "rdi") => `(tactic| with_reducible (refine r_seq ?_; refine r_ifS ?_))

/-! ### the law's draws -/
def spDraw : Sp := fun vs H Q _ => ∃ (p q : Addr) (lim : Int), vs = [.ref p, .int lim] ∧ SrcAt H p q ∧ 0 < lim ∧ lim < 2 ^ 200 ∧
  ∀ (r : Int) (H' : Hp), 0 ≤ r → r < lim → SrcAt H' p q → But p H H' → Q (.int r) H'
section
variable {P : Program} {w : World} {K : PySem.W.Frag} {mg : Str → Option Value} {base : Heap} {a : Adr}
theorem ok__law_draw (T : Txt K mg a) : FnOk P w K mg base CX0 1 a.a__law_draw a.d__law_draw ["_law_source_here", "_law_limit"] spDraw := by
  refine T.F__law_draw.ok sc__law_draw (fun vs H Q E h => ?_) (fun cdv A outer s H vs Q E hr h => ?_)
  · obtain ⟨p, q, lim, rfl, _⟩ := h
    rfl
  · obtain ⟨p, q, lim, rfl, ⟨cs, i, big, cnt, st, h1, h2, h3, hi, hb, hl⟩, hl0, hl1, k⟩ := h
    refine ⟨_, (pss_cons (ps_augS (pv 0) pe_int gt_list pe_int ip_add set_list)
 (pss_cons (ps_if (PW.pt (pw_and (pt_cmpR op_eq (pe_ix ix_list (pv 0) pe_int (fun _ _ => rfl)) pe_int (nomark _)) (pw_and1 (pt_cmpR op_lt (pe_ix ix_list (pv 0) pe_int (fun _ _ => rfl)) (pe_callB call_len_seq (by rfl) T.n_len (by decide +kernel) (pa_cons (pe_ix ix_list (pv 0) pe_int (fun _ _ => rfl)) pa_nil)) (nomark _))))) (pss_cons (ps_set (i := 2) sc__law_draw.nd rfl (Or.inl rfl) (pe_ix ix_list (pe_ix ix_list (pv 0) pe_int (fun _ _ => rfl)) (pe_ix ix_list (pv 0) pe_int (fun _ _ => rfl)) (fun _ _ => rfl)))
 (pss_cons (ps_augS (pv 0) pe_int gt_list pe_int ip_add set_list)
 (pss_one (ps_if (pt_cmpR op_ge (pv 2) (pe_powN (z := 1000000000000000000) ⟨by decide, by decide, by decide⟩ (by decide +kernel)) (nomark _)) (pss_one (ps_asg (pv 2) (pg_sub (pv 0) pe_int set_list)))
 (pss_one (ps_asg (pe_op op_modN (pe_callTy call_int1 (by rfl) T.n_int (by decide +kernel) (pa_cons (pe_op op_add (pe_op op_add (pe_op op_mul (pe_ix ix_list (pv 0) pe_int (fun _ _ => rfl)) pe_int) (pe_op op_mul (pv 2) pe_int)) pe_int) pa_nil)) pe_int) (pg_sub (pv 0) pe_int set_list)))))))
 pss_nil)
 (pss_cons (ps_if (pt_cmpR op_gt (pe_ix ix_list (pv 0) pe_int (fun _ _ => rfl)) pe_int (nomark _)) (pss_cons (ps_set (i := 3) sc__law_draw.nd rfl (Or.inl rfl) (pe_op op_modN (pe_callTy call_int1 (by rfl) T.n_int (by decide +kernel) (pa_cons (pe_ix ix_list (pv 0) pe_int (fun _ _ => rfl)) pa_nil)) (pv 1)))
 (pss_cons (ps_asg (pe_op op_fdivW (pe_ix ix_list (pv 0) pe_int (fun _ _ => rfl)) (pv 1)) (pg_sub (pv 0) pe_int set_list))
 (pss_one (ps_ret (pv 3)))))
 pss_nil)
 (pss_cons (ps_set (i := 4) sc__law_draw.nd rfl (Or.inl rfl) (pe_op op_modN (pe_callTy call_int1 (by rfl) T.n_int (by decide +kernel) (pa_cons (pe_op op_mul (pe_op op_add (pe_ix ix_list (pv 0) pe_int (fun _ _ => rfl)) (pe_op op_mul pe_int (pe_ix ix_list (pv 0) pe_int (fun _ _ => rfl)))) pe_int) pa_nil)) pe_int))
 (pss_cons (ps_set (i := 5) sc__law_draw.nd rfl (Or.inl rfl) (pe_op op_modN (pe_callTy call_int1 (by rfl) T.n_int (by decide +kernel) (pa_cons (pe_op op_mul (pv 4) (pe_op op_add (pe_op op_fdivW (pv 4) pe_int) pe_int)) pa_nil)) pe_int))
 (pss_cons (ps_set (i := 6) sc__law_draw.nd rfl (Or.inl rfl) (pe_op op_modN (pe_callTy call_int1 (by rfl) T.n_int (by decide +kernel) (pa_cons (pe_op op_mul (pv 5) (pe_op op_add (pe_op op_fdivW (pv 5) pe_int) pe_int)) pa_nil)) pe_int))
 (pss_one (ps_ret (pe_op op_modN (pe_callTy call_int1 (by rfl) T.n_int (by decide +kernel) (pa_cons (pe_op op_fdivW (pv 6) pe_int) pa_nil)) (pv 1)))))))))), ?_⟩
    -- src[3] += 1
    repeat walk_at "rd"
    with_reducible refine seq_with (fun σ H' => ∃ (i big cnt st : Int) (v : Option V), σ = [some (.ref p), some (.int lim), v, none, none, none, none] ∧ H' p = some (.lst [.ref q, .int i, .int big, .int cnt, .int st]) ∧ H' q = some (.lst (cs.map V.int)) ∧ But p H H' ∧ 0 ≤ i ∧ 0 ≤ big) ?_ (fun rest => ?_)
    · clear h1 h2 hi hb
      rintro σ H' ⟨i, big, cnt, st, v, rfl, hp, hq, bt, hi, hb⟩
      walk_at "rdi"
      repeat walk_at "rd"
      refine ite_d (fun hc => ?_) (fun hc => ?_)
      · repeat walk_at "rd"
        exact k _ _ (fmod_nn hl0) (fmod_lt hl0) ⟨cs, i, _, cnt, st, upd_same, (upd_ne h3).trans hq, h3, hi, Int.ediv_nonneg hb (by omega), hl⟩ (bt.trans But.upd)
      · repeat walk_at "rd"
        exact k _ _ (fmod_nn hl0) (fmod_lt hl0) ⟨cs, i, _, cnt, st, hp, hq, h3, hi, hb, hl⟩ bt
    · have nq : H q ≠ none := by rw [h2]; intro z; cases z
      have hp1 : upd H p (HO.lst ([V.ref q, V.int i, V.int big, V.int cnt, V.int st].set (Int.toNat 3) (V.int (cnt + 1)))) p = some (.lst [.ref q, .int i, .int big, .int (cnt + 1), .int st]) := upd_same
      have hq1 : upd H p (HO.lst ([V.ref q, V.int i, V.int big, V.int cnt, V.int st].set (Int.toNat 3) (V.int (cnt + 1)))) q = some (.lst (cs.map V.int)) := (upd_ne h3).trans h2
      have bt1 : But p H (upd H p (HO.lst ([V.ref q, V.int i, V.int big, V.int cnt, V.int st].set (Int.toNat 3) (V.int (cnt + 1))))) := But.upd
      generalize upd H p (HO.lst ([V.ref q, V.int i, V.int big, V.int cnt, V.int st].set (Int.toNat 3) (V.int (cnt + 1)))) = H1 at hp1 hq1 bt1 ⊢
      clear h1 h2
      have no : ∀ (v : Option V), _ := fun v => rest [some (.ref p), some (.int lim), v, none, none, none, none] H1 ⟨i, big, cnt + 1, st, v, rfl, hp1, hq1, bt1, hi, hb⟩
      repeat walk_at "rd"
      refine ite_d (fun hc => ?_) (fun hc => ?_)
      · repeat walk_at "rd"
        refine ite_d (fun hc2 => ?_) (fun hc2 => ?_)
        · obtain ⟨c, hc3, _⟩ := at_nat (ns := cs) hi hc2
          repeat walk_at "rd"
          refine r_ixL hq1 hc3 ?_
          repeat walk_at "rd"
          refine ite_d (fun hc4 => ?_) (fun hc4 => ?_)
          · repeat walk_at "rd"
            exact rest _ _ ⟨i + 1, c, cnt + 1, st, _, rfl, upd_same, (upd_ne h3).trans ((upd_ne h3).trans hq1), (bt1.trans But.upd).trans But.upd, by omega, by omega⟩
          · repeat walk_at "rd"
            exact rest _ _ ⟨i + 1, big, cnt + 1, _, _, rfl, upd_same, (upd_ne h3).trans ((upd_ne h3).trans hq1), (bt1.trans But.upd).trans But.upd, by omega, by omega⟩
        · ((repeat walk_at "rd"); exact no none)
      · ((repeat walk_at "rd"); exact no none)

def spBig : Sp := fun vs H Q _ => ∃ (p q : Addr) (lim : Int), vs = [.ref p, .int lim] ∧ SrcAt H p q ∧ 0 < lim ∧
  ∀ (r : Int) (H' : Hp), 0 ≤ r → r < lim → SrcAt H' p q → But p H H' → Q (.int r) H'
theorem ok__law_big (T : Txt K mg a) : FnOk P w K mg base CX0 2 a.a__law_big a.d__law_big ["_law_source_here", "_law_limit"] spBig := by
  refine T.F__law_big.ok sc__law_big (fun vs H Q E h => ?_) (fun cdv A outer s H vs Q E hr h => ?_)
  · obtain ⟨p, q, lim, rfl, _⟩ := h
    rfl
  · obtain ⟨p, q, lim, rfl, hs, hl0, k⟩ := h
    refine ⟨_, (pss_cons (ps_set (i := 2) sc__law_big.nd rfl (Or.inl rfl) pe_int)
 (pss_cons (ps_for (by exact PassesOwn.never) rfl (pi_range1 (by rfl) T.n_range (pa_cons pe_int pa_nil)) (pg_name (i := 3) sc__law_big.nd rfl (Or.inl rfl))
 (pss_one (ps_set (i := 2) sc__law_big.nd rfl (Or.inl rfl) (pe_op op_add (pe_op op_mul (pv 2) pe_int) (pe_call (ok__law_draw T) (hr.mono (by decide)) (by rfl) T.g__law_draw T.F__law_draw.kp T.b__law_draw .nil pass0 (pa_cons (pv 0) (pa_cons pe_int pa_nil)))))))
 (pss_one (ps_ret (pe_op op_modN (pe_callTy call_int1 (by rfl) T.n_int (by decide +kernel) (pa_cons (pv 2) pa_nil)) (pv 1)))))), ?_⟩
    repeat walk_at "rd"
    refine ⟨by decide, by decide, for_range (lo := 0) (n := 5) (fun i σ H' => ∃ (n : Int) (v : Option V), σ = [some (.ref p), some (.int lim), some (.int n), v] ∧ SrcAt H' p q ∧ But p H H') ⟨_, _, rfl, hs, But.refl _ _⟩ ?_ ?_⟩
    · rintro i σ H1 hi ⟨n, v, rfl, hs1, b1⟩
      repeat walk_at "rd"
      refine ⟨p, q, _, rfl, hs1, by decide, by decide, fun r H2 r0 r1 hs2 b2 => ?_⟩
      repeat walk_at "rd"
      exact ⟨_, _, rfl, hs2, b1.trans b2⟩
    · rintro σ H1 ⟨n, v, rfl, hs1, b1⟩
      repeat walk_at "rd"
      exact k _ _ (fmod_nn hl0) (fmod_lt hl0) hs1 b1
end

/-! ### the machine's numbers, its times, whether a thing is an int -/
/-- o, l, g of a machine, at t -/
structure NumAt (H : Hp) (t : Addr) (o l g : Int) : Prop where
  at_ : H t = some (.tup [.int o, .int l, .int g])
  o0 : 0 ≤ o
  o9 : o ≤ 1000000000
  l0 : 0 ≤ l
  l9 : l ≤ 1000000000
  g1 : 1 ≤ g
  g9 : g ≤ 1000000000
  pos : 0 < 2 * o + l
theorem NumAt.keep {H H' : Hp} {t : Addr} {o l g : Int} (N : NumAt H t o l g) (h : H' t = H t) : NumAt H' t o l g := { N with at_ := h.trans N.at_ }
def spNumbers : Sp := fun vs H Q _ => ∃ (p q : Addr), vs = [.ref p] ∧ SrcAt H p q ∧ ∀ (t : Addr) (o l g : Int) (H' : Hp), NumAt H' t o l g → H t = none → SrcAt H' p q → But p H H' → Q (.ref t) H'
def gapOf (o g : Int) : Int := if g > o then g else o
def spTimes : Sp := fun vs H Q _ => ∃ (t : Addr) (o l g : Int), vs = [.ref t] ∧ H t = some (.tup [.int o, .int l, .int g]) ∧ ∀ (u : Addr) (H' : Hp), H u = none → Same H H' → H' u = some (.tup [.int (2 * o + l), .int (gapOf o g)]) → Q (.ref u) H'
def spIs : Sp := fun vs H Q _ => ∃ (i j : Int), vs = [.int i, .int j] ∧ Q (.bl (decide (i = j))) H
def spSource (K : PySem.W.Frag) : Sp := fun vs H Q _ => ∃ (b : Addr) (ns : List Int), vs = [.ref b] ∧ SqL K H b (ns.map V.int) ∧ ns.length ≤ 63 ∧ ∀ (p q : Addr) (H' : Hp), SrcAt H' p q → H p = none → H q = none → Same H H' → Q (.ref p) H'
section
variable {P : Program} {w : World} {K : PySem.W.Frag} {mg : Str → Option Value} {base : Heap} {a : Adr}
theorem ok__law_times (T : Txt K mg a) : FnOk P w K mg base CX0 1 a.a__law_times a.d__law_times ["_law_numbers_here"] spTimes := by
  refine T.F__law_times.ok sc__law_times (fun vs H Q E h => ?_) (fun cdv A outer s H vs Q E hr h => ?_)
  · obtain ⟨t, o, l, g, rfl, _⟩ := h
    rfl
  · obtain ⟨t, o, l, g, rfl, ht, k⟩ := h
    refine ⟨_, (pss_one (ps_ret (pe_tup (pa_cons (pe_op op_add (pe_op op_mul pe_int (pe_ix ix_tup (pv 0) pe_int (fun _ _ => rfl))) (pe_ix ix_tup (pv 0) pe_int (fun _ _ => rfl))) (pa_cons (pe_callB (call_max2 rfl) (by rfl) T.n_max (by decide +kernel) (pa_cons (pe_ix ix_tup (pv 0) pe_int (fun _ _ => rfl)) (pa_cons (pe_ix ix_tup (pv 0) pe_int (fun _ _ => rfl)) pa_nil))) pa_nil))))), ?_⟩
    repeat walk_at "rd"
    exact new_at (Nat.le_of_ble_eq_true rfl) k
theorem ok__law_source (T : Txt K mg a) : FnOk P w K mg base CX0 1 a.a__law_source a.d__law_source ["_law_script"] (spSource K) := by
  refine T.F__law_source.ok sc__law_source (fun vs H Q E h => ?_) (fun cdv A outer s H vs Q E hr h => ?_)
  · obtain ⟨i, j, rfl, _⟩ := h
    rfl
  · obtain ⟨b, ns, rfl, hS, hl, k⟩ := h
    refine ⟨_, (pss_one (ps_ret (pe_lst (pa_cons (pe_lc (own := [("_law_cell", 1)]) (g := gName 1) (tt := tYes) rfl sc__law_source.nd (pi_list (pe_slice sl_list (pv 0) po_none (po_some pe_int))) (blkOk_by (own := [("_law_cell", 1)]) (N := ["_law_script", "_law_cell"]) (sc := defScope s__law_source) (by decide +kernel)) (fun _ _ _ _ _ => (pg_name (i := 1) sc__law_source.nd rfl (Or.inl rfl))) (fun _ _ _ _ _ => pts_nil) (fun _ _ _ _ _ => (pe_callTy call_int1 (by rfl) T.n_int (by decide +kernel) (pa_cons (pv 1) pa_nil)))) (pa_cons pe_int (pa_cons pe_int (pa_cons pe_int (pa_cons pe_int pa_nil)))))))), ?_⟩
    repeat walk_at "rd"
    refine r_slL hS (fun p0 H1 n0 s1 e0 => ?_)
    rw [cut_take (by rw [List.length_map]; omega)] at e0
    refine ⟨p0, rfl, ⟨_, SqL.of e0⟩, fun D hD => lc_list (K := K) (a := p0) (xs := ns.map V.int) (fun i H' => H' D = some (.lst ((ns.take i).map V.int)) ∧ H' p0 = some (.lst (ns.map V.int)) ∧ Same H H') ?_ (fun i H' _ h => SqL.of h.2.1) ?_ ?_⟩
    · exact ⟨upd_same, (upd_ne (ne_of_none e0 hD)).trans e0, s1.trans (Same.new hD)⟩
    · rintro i x H2 hi ⟨h1, h2, h3⟩
      obtain ⟨z, hz, rfl⟩ := int_of_get hi
      repeat walk_at "rd"
      refine ⟨rfl, ?_⟩
      repeat walk_at "rd"
      have nD : H D = none := s1.free hD
      refine ⟨_, h1, small1000 (by rw [List.length_map, List.length_take]; omega), ?_, (upd_ne (ne_of_none e0 hD)).trans h2, h3.over nD h1⟩
      rw [upd_same, take_more hz, List.map_append]
      rfl
    · rintro H2 ⟨h1, h2, h3⟩
      repeat walk_at "rd"
      refine new_at (Nat.le_of_ble_eq_true rfl) (fun p H3 np s3 e3 => ?_)
      rw [List.length_map, List.take_length] at h1
      exact k p D _ ⟨ns, 0, 0, 0, 7, e3, s3 _ _ h1, ne_of_none h1 np, by decide, by decide, hl⟩ (h3.free np) (s1.free hD) (h3.trans s3)
theorem ok__law_numbers (T : Txt K mg a) : FnOk P w K mg base CX0 3 a.a__law_numbers a.d__law_numbers ["_law_source_here"] spNumbers := by
  refine T.F__law_numbers.ok sc__law_numbers (fun vs H Q E h => ?_) (fun cdv A outer s H vs Q E hr h => ?_)
  · obtain ⟨p, q, rfl, _⟩ := h
    rfl
  · obtain ⟨p, q, rfl, hs, k⟩ := h
    refine ⟨_, (pss_cons (ps_set (i := 1) sc__law_numbers.nd rfl (Or.inl rfl) (pe_call (ok__law_draw T) (hr.mono (by decide)) (by rfl) T.g__law_draw T.F__law_draw.kp T.b__law_draw .nil pass0 (pa_cons (pv 0) (pa_cons pe_int pa_nil))))
 (pss_cons (ps_set (i := 2) sc__law_numbers.nd rfl (Or.inl rfl) (pe_ix ix_list (pe_lst (pa_cons (pe_tup (pa_cons pe_int (pa_cons pe_int (pa_cons pe_int pa_nil)))) (pa_cons (pe_tup (pa_cons pe_int (pa_cons pe_int (pa_cons pe_int pa_nil)))) (pa_cons (pe_tup (pa_cons pe_int (pa_cons pe_int (pa_cons pe_int pa_nil)))) (pa_cons (pe_tup (pa_cons pe_int (pa_cons pe_int (pa_cons pe_int pa_nil)))) (pa_cons (pe_tup (pa_cons pe_int (pa_cons pe_int (pa_cons pe_int pa_nil)))) (pa_cons (pe_tup (pa_cons (pe_op op_add (pe_powN (z := 1000000000) ⟨by decide, by decide, by decide⟩ (by decide +kernel)) pe_int) (pa_cons (pe_op op_add (pe_powN (z := 1000000000) ⟨by decide, by decide, by decide⟩ (by decide +kernel)) pe_int) (pa_cons (pe_powN (z := 1000000000) ⟨by decide, by decide, by decide⟩ (by decide +kernel)) pa_nil)))) pa_nil))))))) (pv 1) (fun _ _ => rfl)))
 (pss_cons (ps_set (i := 3) sc__law_numbers.nd rfl (Or.inl rfl) (pe_call (ok__law_big T) (hr.mono (by decide)) (by rfl) T.g__law_big T.F__law_big.kp T.b__law_big .nil pass0 (pa_cons (pv 0) (pa_cons (pe_ix ix_tup (pv 2) pe_int (fun _ _ => rfl)) pa_nil))))
 (pss_cons (ps_set (i := 4) sc__law_numbers.nd rfl (Or.inl rfl) (pe_call (ok__law_big T) (hr.mono (by decide)) (by rfl) T.g__law_big T.F__law_big.kp T.b__law_big .nil pass0 (pa_cons (pv 0) (pa_cons (pe_ix ix_tup (pv 2) pe_int (fun _ _ => rfl)) pa_nil))))
 (pss_cons (ps_set (i := 5) sc__law_numbers.nd rfl (Or.inl rfl) (pe_op op_add pe_int (pe_call (ok__law_big T) (hr.mono (by decide)) (by rfl) T.g__law_big T.F__law_big.kp T.b__law_big .nil pass0 (pa_cons (pv 0) (pa_cons (pe_ix ix_tup (pv 2) pe_int (fun _ _ => rfl)) pa_nil)))))
 (pss_cons (ps_if (pt_cmpR op_eq (pe_op op_add (pe_op op_mul pe_int (pv 3)) (pv 4)) pe_int (nomark _)) (pss_one (ps_set (i := 4) sc__law_numbers.nd rfl (Or.inl rfl) pe_int))
 pss_nil)
 (pss_one (ps_ret (pe_tup (pa_cons (pv 3) (pa_cons (pv 4) (pa_cons (pv 5) pa_nil)))))))))))), ?_⟩
    repeat walk_at "rd"
    refine ⟨p, q, 6, rfl, hs, by decide, by decide, fun kind H1 k0 k6 hs1 b1 => ?_⟩
    repeat walk_at "rd"
    refine new_at (Nat.le_of_ble_eq_true rfl) (fun t1 H2 n1 s1 e1 => ?_)
    repeat walk_at "rd"
    refine new_at (Nat.le_of_ble_eq_true rfl) (fun t2 H3 n2 s2 e2 => ?_)
    repeat walk_at "rd"
    refine new_at (Nat.le_of_ble_eq_true rfl) (fun t3 H4 n3 s3 e3 => ?_)
    repeat walk_at "rd"
    refine new_at (Nat.le_of_ble_eq_true rfl) (fun t4 H5 n4 s4 e4 => ?_)
    repeat walk_at "rd"
    refine new_at (Nat.le_of_ble_eq_true rfl) (fun t5 H6 n5 s5 e5 => ?_)
    repeat walk_at "rd"
    refine new_at (Nat.le_of_ble_eq_true rfl) (fun t6 H7 n6 s6 e6 => ?_)
    repeat walk_at "rd"
    refine new_at (Nat.le_of_ble_eq_true rfl) (fun tl H8 n7 s7 e7 => ?_)
    obtain ⟨t, A, B, C, hat, et, nt, hA, hB, hC⟩ : ∃ (t : Addr) (A B C : Int), atI [V.ref t1, V.ref t2, V.ref t3, V.ref t4, V.ref t5, V.ref t6] kind = some (.ref t) ∧ H8 t = some (.tup [.int A, .int B, .int C]) ∧ t ≠ p ∧ (1 ≤ A ∧ A ≤ 1000000001) ∧ (1 ≤ B ∧ B ≤ 1000000001) ∧ 1 ≤ C ∧ C ≤ 1000000000 := by
      have hk : kind = 0 ∨ kind = 1 ∨ kind = 2 ∨ kind = 3 ∨ kind = 4 ∨ kind = 5 := by omega
      rcases hk with rfl | rfl | rfl | rfl | rfl | rfl
      · exact ⟨t1, _, _, _, rfl, by walk_at "hp", by walk_at "ne", by decide, by decide, by decide⟩
      · exact ⟨t2, _, _, _, rfl, by walk_at "hp", by walk_at "ne", by decide, by decide, by decide⟩
      · exact ⟨t3, _, _, _, rfl, by walk_at "hp", by walk_at "ne", by decide, by decide, by decide⟩
      · exact ⟨t4, _, _, _, rfl, by walk_at "hp", by walk_at "ne", by decide, by decide, by decide⟩
      · exact ⟨t5, _, _, _, rfl, by walk_at "hp", by walk_at "ne", by decide, by decide, by decide⟩
      · exact ⟨t6, _, _, _, rfl, by walk_at "hp", by walk_at "ne", by decide, by decide, by decide⟩
    have hs8 : SrcAt H8 p q := by walk_at "src"
    have b8 : But p H H8 := b1.trans (But.of_same (s1.trans (s2.trans (s3.trans (s4.trans (s5.trans (s6.trans s7)))))))
    repeat walk_at "rd"
    refine r_ixL e7 hat ?_
    clear e1 e2 e3 e4 e5 e6 s1 s2 s3 s4 s5 s6 s7 n1 n2 n3 n4 n5 n6 b1 hat e7
    repeat walk_at "rd"
    refine ⟨p, q, A, rfl, hs8, by omega, fun o H9 o0 oA hs9 b9 => ?_⟩
    repeat walk_at "rd"
    refine ⟨p, q, B, rfl, hs9, by omega, fun l H10 l0 lB hs10 b10 => ?_⟩
    repeat walk_at "rd"
    refine ⟨p, q, C, rfl, hs10, by omega, fun g H11 g0 gC hs11 b11 => ?_⟩
    have b12 : But p H H11 := ((b8.trans b9).trans b10).trans b11
    repeat walk_at "rd"
    with_reducible refine seq_with (fun σ H' => ∃ (l' : Int), σ = [some (.ref p), some (.int kind), some (.ref t), some (.int o), some (.int l'), some (.int (1 + g))] ∧ H' = H11 ∧ 0 < 2 * o + l' ∧ 0 ≤ l' ∧ l' ≤ 1000000000) ?_ (fun rest => ?_)
    · rintro σ H' ⟨l', rfl, rfl, h1, h2, h3⟩
      repeat walk_at "rd"
      refine new_at (Nat.le_of_ble_eq_true rfl) (fun u H12 nu su eu => ?_)
      have nH : H u = none := b12.free hs11 nu
      exact k u o l' (1 + g) _ ⟨eu, o0, by omega, h2, h3, by omega, by omega, h1⟩ nH (hs11.keep su) (b12.trans (But.of_same su))
    · repeat walk_at "rd"
      refine ite_d (fun hc => ?_) (fun hc => ?_)
      · iterate 3 walk_at "rd"
        exact rest _ _ ⟨1, rfl, rfl, by omega, by omega, by omega⟩
      · walk_at "rd"
        exact rest _ _ ⟨l, rfl, rfl, by omega, by omega, by omega⟩
end

section
variable {P : Program} {w : World} {K : PySem.W.Frag} {mg : Str → Option Value} {base : Heap} {a : Adr}
theorem ok__law_is (T : Txt K mg a) : FnOk P w K mg base CX0 1 a.a__law_is a.d__law_is ["_law_thing", "_law_due"] spIs := by
  refine T.F__law_is.ok sc__law_is (fun vs H Q E h => ?_) (fun cdv A outer s H vs Q E hr h => ?_)
  · obtain ⟨i, j, rfl, _⟩ := h
    rfl
  · obtain ⟨i, j, rfl, k⟩ := h
    refine ⟨_, (pss_one (ps_ret (pe_and (pe_callB call_isi (by rfl) T.n_isinstance (by decide +kernel) (pa_cons (pv 0) (pa_cons (pe_bltn (v := .ty "int") (u := .type "int") (by rfl) T.n_int (by decide +kernel) rfl) pa_nil))) (pe_and (pe_not (pe_callB call_isi (by rfl) T.n_isinstance (by decide +kernel) (pa_cons (pv 0) (pa_cons (pe_bltn (v := .ty "bool") (u := .type "bool") (by rfl) T.n_bool (by decide +kernel) rfl) pa_nil)))) (pe_one (pe_cmpR op_eq (pv 0) (pv 1) (nomark _))))))), ?_⟩
    repeat walk_at "rd"
    exact k
end

/-! ### integers, machines -/
/-- whether the value is an int and no bool -/
def IntV (K : PySem.W.Frag) (H : Hp) (x : V) (b : Bool) : Prop := ∃ (t : Value) (b1 b2 : Bool), TyX K H x t ∧ PySem.W.kitOne K t (.type "int") = some b1 ∧ PySem.W.kitOne K t (.type "bool") = some b2 ∧ b = (b1 && !b2)
theorem IntV.int {K : PySem.W.Frag} {H : Hp} {i : Int} : IntV K H (.int i) true := ⟨_, true, false, .base (.int i), kit_ty (by decide +kernel), kit_ty (by decide +kernel), rfl⟩
theorem r_isi {K : PySem.W.Frag} {H : Hp} {Q : VK} {x : V} {t : Value} {n : String} {b : Bool} (ty : TyX K H x t) (h : PySem.W.kitOne K t (.type n) = some b) (q : Q (.bl b) H) : rIsi K [x, .ty n] H Q := ⟨_, _, t, .type n, b, rfl, .ty n, ty, h, q⟩
def spIsInteger (K : PySem.W.Frag) : Sp := fun vs H Q _ => ∃ (x : V) (b : Bool), vs = [x] ∧ IntV K H x b ∧ Q (.bl b) H
def spBetween (K : PySem.W.Frag) : Sp := fun vs H Q _ => ∃ (x : V) (lo hi : Int) (b : Bool), vs = [x, .int lo, .int hi] ∧ IntV K H x b ∧ (b = false → Q (.bl false) H) ∧ (b = true → ∃ i, x = .int i ∧ Q (.bl (decide (lo ≤ i ∧ i ≤ hi))) H)
theorem r_between {K : PySem.W.Frag} {H : Hp} {Q : VK} {E : XK} {i lo hi : Int} (q : Q (.bl (decide (lo ≤ i ∧ i ≤ hi))) H) : spBetween K [.int i, .int lo, .int hi] H Q E := ⟨_, lo, hi, true, rfl, IntV.int, (fun z => Bool.noConfusion z), fun _ => ⟨i, rfl, q⟩⟩
/-- the attributes of a machine -/
def mf (o l g : Int) : List (Str × V) := putF "gap" (.int (gapOf o g)) (putF "letter" (.int (2 * o + l)) (putF "g" (.int g) (putF "l" (.int l) (putF "o" (.int o) []))))
def MachAt (C : Addr) (H : Hp) (m : Addr) (o l g : Int) : Prop := ∃ dx, H m = some (.ins C dx (mf o l g))
theorem MachAt.keep {C m : Addr} {H H' : Hp} {o l g : Int} (h : MachAt C H m o l g) (s : Same H H') : MachAt C H' m o l g := let ⟨dx, e⟩ := h; ⟨dx, s _ _ e⟩
theorem mf_o {o l g : Int} : (mf o l g).lookup ("o" : Str) = some (.int o) := by unfold mf; walk_at "lk"
theorem mf_l {o l g : Int} : (mf o l g).lookup ("l" : Str) = some (.int l) := by unfold mf; walk_at "lk"
theorem mf_g {o l g : Int} : (mf o l g).lookup ("g" : Str) = some (.int g) := by unfold mf; walk_at "lk"
theorem mf_letter {o l g : Int} : (mf o l g).lookup ("letter" : Str) = some (.int (2 * o + l)) := by unfold mf; walk_at "lk"
theorem mf_gap {o l g : Int} : (mf o l g).lookup ("gap" : Str) = some (.int (gapOf o g)) := by unfold mf; walk_at "lk"
theorem MachAt.but {C m p : Addr} {H H' : Hp} {o l g : Int} (h : MachAt C H m o l g) (s : But p H H') (n : m ≠ p) : MachAt C H' m o l g := let ⟨dx, e⟩ := h; ⟨dx, s _ _ e n⟩
def spMachine (C : Addr) : Sp := fun vs H Q _ => ∃ (m dx : Addr) (o l g : Int), vs = [.ref m, .int o, .int l, .int g] ∧ H m = some (.ins C dx []) ∧ (0 ≤ o ∧ o ≤ 1000000000) ∧ (0 ≤ l ∧ l ≤ 1000000000) ∧ (1 ≤ g ∧ g ≤ 1000000000) ∧ 0 < 2 * o + l ∧ ∀ H', MachAt C H' m o l g → But m H H' → Q .non H'
local macro_rules | `(tactic| walk_at "lk") => `(tactic| first | exact mf_o | exact mf_l | exact mf_g | exact mf_letter | exact mf_gap)
section
variable {P : Program} {w : World} {K : PySem.W.Frag} {mg : Str → Option Value} {base : Heap} {a : Adr}
theorem ok_is_integer (T : Txt K mg a) : FnOk P w K mg base CX0 1 a.a_is_integer a.d_is_integer ["thing"] (spIsInteger K) := by
  refine T.F_is_integer.ok sc_is_integer (fun vs H Q E h => ?_) (fun cdv A outer s H vs Q E hr h => ?_)
  · obtain ⟨x, b, rfl, _⟩ := h
    rfl
  · obtain ⟨x, b, rfl, ⟨t, b1, b2, ty, h1, h2, rfl⟩, k⟩ := h
    refine ⟨_, (pss_one (ps_ret (pe_and (pe_callB call_isi (by rfl) T.n_isinstance (by decide +kernel) (pa_cons (pv 0) (pa_cons (pe_bltn (v := .ty "int") (u := .type "int") (by rfl) T.n_int (by decide +kernel) rfl) pa_nil))) (pe_one (pe_not (pe_callB call_isi (by rfl) T.n_isinstance (by decide +kernel) (pa_cons (pv 0) (pa_cons (pe_bltn (v := .ty "bool") (u := .type "bool") (by rfl) T.n_bool (by decide +kernel) rfl) pa_nil)))))))), ?_⟩
    repeat walk_at "rd"
    refine r_isi ty h1 ?_
    refine ⟨b1, rfl, ?_⟩
    cases b1 with
    | false => exact iteF k
    | true =>
      repeat walk_at "rd"
      refine r_isi ty h2 ?_
      exact ⟨b2, rfl, k⟩
theorem ok_is_between (T : Txt K mg a) : FnOk P w K mg base CX0 2 a.a_is_between a.d_is_between ["thing", "low", "high"] (spBetween K) := by
  refine T.F_is_between.ok sc_is_between (fun vs H Q E h => ?_) (fun cdv A outer s H vs Q E hr h => ?_)
  · obtain ⟨x, lo, hi, b, rfl, _⟩ := h
    rfl
  · obtain ⟨x, lo, hi, b, rfl, iv, k0, k1⟩ := h
    refine ⟨_, (pss_one (ps_ret (pe_and (pe_call (ok_is_integer T) (hr.mono (by decide)) (by rfl) T.g_is_integer T.F_is_integer.kp T.b_is_integer .nil pass0 (pa_cons (pv 0) pa_nil)) (pe_one (pe_chain op_le op_le (pv 1) (pv 0) (pv 2)))))), ?_⟩
    repeat walk_at "rd"
    refine ⟨x, b, rfl, iv, ?_⟩
    refine ⟨b, rfl, ?_⟩
    cases b with
    | false => exact iteF (k0 rfl)
    | true =>
      obtain ⟨i, rfl, q⟩ := k1 rfl
      repeat walk_at "rd"
      refine ite_d (fun h1 => ?_) (fun h1 => ?_)
      · repeat walk_at "rd"
        rw [decide_eq_decide.mpr (show lo ≤ i ∧ i ≤ hi ↔ i ≤ hi from ⟨fun h => h.2, fun h => ⟨h1, h⟩⟩)] at q
        exact q
      · rw [decide_eq_false (show ¬ (lo ≤ i ∧ i ≤ hi) from fun h => h1 h.1)] at q
        exact q
theorem ok_Machine_init (T : Txt K mg a) : FnOk P w K mg base CX0 3 a.a_Machine_init a.d_Machine_init ["self", "o", "l", "g"] (spMachine a.c_Machine) := by
  refine T.F_Machine_init.ok sc_Machine_init (fun vs H Q E h => ?_) (fun cdv A outer s H vs Q E hr h => ?_)
  · obtain ⟨m, dx, o, l, g, rfl, _⟩ := h
    rfl
  · obtain ⟨m, dx, o, l, g, rfl, hm, ho, hl, hg, hp, k⟩ := h
    refine ⟨_, (pss_cons (ps_if (pt_not (pt_val (pe_call (ok_is_between T) (hr.mono (by decide)) (by rfl) T.g_is_between T.F_is_between.kp T.b_is_between .nil pass0 (pa_cons (pv 1) (pa_cons pe_int (pa_cons (pe_glob (v := .int 1000000000) (by rfl) T.g_GREATEST_PART.choose_spec ⟨_, rfl⟩) pa_nil)))))) (pss_one ps_never)
 pss_nil)
 (pss_cons (ps_if (pt_not (pt_val (pe_call (ok_is_between T) (hr.mono (by decide)) (by rfl) T.g_is_between T.F_is_between.kp T.b_is_between .nil pass0 (pa_cons (pv 2) (pa_cons pe_int (pa_cons (pe_glob (v := .int 1000000000) (by rfl) T.g_GREATEST_PART.choose_spec ⟨_, rfl⟩) pa_nil)))))) (pss_one ps_never)
 pss_nil)
 (pss_cons (ps_if (pt_not (pt_val (pe_call (ok_is_between T) (hr.mono (by decide)) (by rfl) T.g_is_between T.F_is_between.kp T.b_is_between .nil pass0 (pa_cons (pv 3) (pa_cons pe_int (pa_cons (pe_glob (v := .int 1000000000) (by rfl) T.g_GREATEST_PART.choose_spec ⟨_, rfl⟩) pa_nil)))))) (pss_one ps_never)
 pss_nil)
 (pss_cons (ps_if (pt_cmpR op_eq (pe_op op_add (pe_op op_mul pe_int (pv 1)) (pv 2)) pe_int (nomark _)) (pss_one ps_never)
 pss_nil)
 (pss_cons (ps_fld (pv 0) (pv 1) rfl)
 (pss_cons (ps_fld (pv 0) (pv 2) rfl)
 (pss_cons (ps_fld (pv 0) (pv 3) rfl)
 (pss_cons (ps_fld (pv 0) (pe_op op_add (pe_op op_mul pe_int (pv 1)) (pv 2)) rfl)
 (pss_one (ps_fld (pv 0) (pe_callB (call_max2 rfl) (by rfl) T.n_max (by decide +kernel) (pa_cons (pv 1) (pa_cons (pv 3) pa_nil))) rfl)))))))))), ?_⟩
    walk_at "rdi"
    repeat walk_at "rd"
    refine r_between ?_
    repeat walk_at "rd"
    refine r_nD (fun h => absurd ho h) (fun _ => ?_)
    walk_at "rd"
    walk_at "rdi"
    repeat walk_at "rd"
    refine r_between ?_
    repeat walk_at "rd"
    refine r_nD (fun h => absurd hl h) (fun _ => ?_)
    walk_at "rd"
    walk_at "rdi"
    repeat walk_at "rd"
    refine r_between ?_
    repeat walk_at "rd"
    refine r_nD (fun h => absurd hg h) (fun _ => ?_)
    walk_at "rd"
    walk_at "rdi"
    repeat walk_at "rd"
    refine ite_d (fun h => absurd h (by omega)) (fun _ => ?_)
    repeat walk_at "rd"
    refine k _ ⟨dx, ?_⟩ ?_
    · exact upd_same
    · exact But.upd.trans (But.upd.trans (But.upd.trans (But.upd.trans But.upd)))
end

/-! ### own rules: C(..) by a local name, x op y by an own def, targets in a tuple -/
/-- the slot n holds the class at C: a new instance -/
def tMakeL (n : Nat) (C : Addr) (sp : Sp) (dvs : List V) (E : XK) (t : TA) : TE := fun σ H Q => σ[n]? = some (some (.ref C)) ∧ tMake C sp dvs E t σ H Q
/-- x op y, x an instance with a dict, y of a known type -/
def rOwnD (K : PySem.W.Frag) (C : Addr) (sp : Sp) (E : XK) : R2 := fun x y H Q => ∃ m dx fs tb, x = .ref m ∧ H m = some (.ins C dx fs) ∧ TyX K H y tb ∧ PySem.W.notFirst K C tb = true ∧ sp [x, y] H Q E
section
variable {X : Cx} {CX : CXT} {k i : Nat} {f C : Addr} {fd : FuncData} {ps : List Str} {sp : Sp} {dvs : List V} {ds : List Value} {E : XK} {x : Str} {p pos : Pos} {e : Expr} {es : List Expr} {t : TA}
theorem pe_makeL (M : Mk X.K C f) (F : FnOk X.prog X.w X.K X.mg X.base CX k f fd ps sp) (hr : Room (k + 1) X.A) (hN : X.N[i]? = some x) (hv : Vis X.env.scope x) (hb : Binds X.K fd ps ds) (hd : Vals dvs ds) (hx : Passes CX X E) (ha : PA X (e :: es) t)
    (hdb : (x == ("__debug__" : Str)) = false := by decide) (hcd : (x == ("__classdict__" : Str)) = false := by decide)
    (he : starEach (e :: es) X.env = (false, eval e X.env) :: starEach es X.env := by rfl) (hpl : (backTo pos (starEach es X.env)).any (·.1) = false := by rfl) : PE X (.Call (.Name x p) (e :: es) [] pos) (tMakeL i C sp dvs E t) := by
  refine ⟨fun pins s σ H Q I h => wpAny_Call_Name_kw (thn ((pe_var (pos := p) hN hv hdb hcd).run pins s σ H (fun v H1 => v = .ref C ∧ H1 = H) I ⟨.ref C, h.1, rfl, rfl⟩) fun u s1 g => ?_)⟩
  obtain ⟨v, H1, J, r1, rfl, rfl⟩ := g
  cases r1
  exact PySem.W.callWith_K (h₀ := X.base) J.ok.mod.kin M.kp (thn (ha.run pos pins s1 σ _ _ J h.2) fun us s2 ⟨vs, H2, J2, r, q⟩ => ⟨J2.kIn, run_make M F hr hb hd hx J2 r q⟩) he hpl
theorem op_ownD {op : CmpOp} {g : Addr} {n : Nat} (hop : ∀ a b, compareOp op a b = richCompare op a b) (hs : PySem.W.findIn X.K (.ref C) (cmpInfo op).2.1 = some (some (.ref g))) (hf : PySem.W.isFn X.K (.ref g) = true) (F : FnR X.prog X.w X.K X.mg X.base CX n g sp)
    (hr : Room n X.A) (hx : Passes CX X E) : OpR X (compareOp op) (rOwnD X.K C sp E) := by
  intro pins s σ H x y v u Q I rx ry h
  obtain ⟨m, dx, fs, tb, rfl, hm, ty, hn, q⟩ := h
  obtain rfl : v = Value.ref m := rx
  obtain ⟨mA, J, _⟩ := ins_get I.hok hm
  obtain ⟨od, J, _⟩ := J.look
  obtain ⟨Pk, Z, pz, _⟩ := kit_of I ry ty
  obtain ⟨mF, hF⟩ := I.fr
  rw [hop]
  refine PySem.W.cmp_K (op := op) (tb := tb) hr.units0 hF I.ok.mod.kin J (Z.ty _ _ I.kIn pz) hn hs hf ?_
  refine wpAny_mono (wpAny_call (run_fnR (us := [.ref m, u]) (vs := [.ref m, y]) F hr hx I (.cons rfl (.cons ry .nil)) q)) (fun w s' z => ?_) fun _ _ x => x
  exact (let ⟨z', H', I', rz, qz⟩ := z; SlX.cmpback rz ⟨z', H', I', rz, qz⟩)
end
theorem kit_self {K : PySem.W.Frag} {C : Addr} : PySem.W.kitOne K (.ref C) (.ref C) = some true := by
  unfold PySem.W.kitOne
  rw [if_pos (by simp)]
theorem kit_no {K : PySem.W.Frag} {C : Addr} {n : String} (h1 : PySem.W.isClsIn K C = true) (h2 : PySem.W.typeIn K (.ref C) = some (.type "type")) (h3 : PySem.W.subIn K (.type n) (.ref C) = some false) : PySem.W.kitOne K (.type n) (.ref C) = some false := by
  have e : ((PySem.W.clsIn K C).isSome && PySem.W.typeIn K (.ref C) == some (.type "type")) = true := by
    rw [show (PySem.W.clsIn K C).isSome = true from h1, h2]
    rfl
  unfold PySem.W.kitOne
  rw [if_neg (by simp)]
  show (if ((PySem.W.clsIn K C).isSome && PySem.W.typeIn K (.ref C) == some (.type "type")) = true then PySem.W.subIn K (.type n) (.ref C) else none) = some false
  rw [if_pos e]
  exact h3
theorem nf_self {K : PySem.W.Frag} {C : Addr} : PySem.W.notFirst K C (.ref C) = true := by
  unfold PySem.W.notFirst
  simp
theorem nf_no {K : PySem.W.Frag} {C : Addr} {n : String} (h3 : PySem.W.subIn K (.type n) (.ref C) = some false) : PySem.W.notFirst K C (.type n) = true := by
  unfold PySem.W.notFirst
  rw [h3]
  simp
section
variable {K : PySem.W.Frag} {σ : St} {H : Hp} {Q : VK} {R : St → Hp → Prop} {n : Nat} {v : V} {vs : List V}
theorem r_gTup {t : TGs} {p : Addr} (h : H p = some (.tup vs)) (hl : vs.length = n) (q : t vs σ H R) : gTup K n t (.ref p) σ H R := ⟨p, vs, rfl, SqT.of h, hl, q⟩
theorem r_gCons {t : TG} {u : TGs} (h : t v σ H fun σ' H' => u vs σ' H' R) : gCons t u (v :: vs) σ H R := ⟨v, vs, rfl, h⟩
theorem r_gNil (h : R σ H) : gNil [] σ H R := ⟨rfl, h⟩
theorem r_par {i j : Nat} {ta : TA} {D : Ends} (h : ta σ H fun vs H1 => ∃ v w, vs = [v, w] ∧ D.nx ((σ.set i (some v)).set j (some w)) H1) : tPar i j ta D σ H := h
theorem r_par3 {i j l : Nat} {ta : TA} {D : Ends} (h : ta σ H fun vs H1 => ∃ u v w, vs = [u, v, w] ∧ D.nx (((σ.set i (some u)).set j (some v)).set l (some w)) H1) : tPar3 i j l ta D σ H := h
theorem r_ex2 {u v : V} {R : V → V → Prop} (q : R u v) : ∃ x y, [u, v] = [x, y] ∧ R x y := ⟨_, _, rfl, q⟩
theorem r_ex3 {u v w : V} {R : V → V → V → Prop} (q : R u v w) : ∃ x y z, [u, v, w] = [x, y, z] ∧ R x y z := ⟨_, _, _, rfl, q⟩
theorem r_nDT {c A B : Prop} [Decidable c] (hc : c) (h : B) : if (!decide c) = true then A else B := r_nD (fun z => absurd hc z) fun _ => h
theorem r_neB {a b : Bool} (q : Q (.bl (!decide (a = b))) H) : rNe (.bl a) (.bl b) H Q := ⟨rfl, by
  have e : decide (V.bl a = V.bl b) = decide (a = b) := by cases a <;> cases b <;> decide
  rw [e]; exact q⟩
theorem r_isB {a b : Bool} (q : Q (.bl (decide (a = b))) H) : rIsB (.bl a) (.bl b) H Q := ⟨a, b, rfl, rfl, q⟩
theorem r_notB {a b : Bool} (q : Q (.bl (!decide (a = b))) H) : rNotB (.bl a) (.bl b) H Q := ⟨a, b, rfl, rfl, q⟩
theorem r_dnew (k : ∀ p H', H p = none → Same H H' → H' p = some (.dK []) → Q (.ref p) H') : tDNewK σ H Q := new_of k
theorem r_makeL {C : Addr} {sp : Sp} {dvs : List V} {E : XK} {t : TA} (e : σ[n]? = some (some (.ref C))) (h : tMake C sp dvs E t σ H Q) : tMakeL n C sp dvs E t σ H Q := ⟨e, h⟩
theorem r_cmeth {C : Addr} {sp : Sp} {E : XK} {t : TA} (h : t σ H fun vs H2 => sp (.ref C :: vs) H2 Q E) : ClX.tCMeth C sp E (tC (.ref C)) t σ H Q := ⟨rfl, h⟩
theorem eq_ints {xs ys : List Int} : PyData.eqvAll (xs.map PyData.int) (ys.map PyData.int) = decide (xs = ys) := by
  induction xs generalizing ys with
  | nil => cases ys <;> rfl
  | cons x xs ih =>
    cases ys with
    | nil => rfl
    | cons y ys =>
      show (PyData.eqv (.int x) (.int y) && PyData.eqvAll (xs.map PyData.int) (ys.map PyData.int)) = _
      rw [ih]
      show ((x == y) && decide (xs = ys)) = _
      by_cases h : x = y
      · subst h; simp
      · simp [h]
theorem dp_ints (xs : List Int) : DpAll K H (xs.map V.int) (xs.map PyData.int) := by
  induction xs with
  | nil => exact .nil
  | cons x xs ih => exact .cons (.int x) ih
/-- == of two tuples of ints -/
theorem r_eqT {p q : Addr} {xs ys : List Int} (h1 : H p = some (.tup (xs.map V.int))) (h2 : H q = some (.tup (ys.map V.int))) (s1 : SeqAt.shaped (.tuple (xs.map PyData.int)) = true) (s2 : SeqAt.shaped (.tuple (ys.map PyData.int)) = true)
    (k : Q (.bl (decide (xs = ys))) H) : rEqD K (.ref p) (.ref q) H Q := ⟨_, _, .tup (SqT.of h1) (dp_ints xs), .tup (SqT.of h2) (dp_ints ys), s1, s2, by
  show Q (.bl (PyData.eqvAll (xs.map PyData.int) (ys.map PyData.int))) H
  rw [eq_ints]; exact k⟩
end
theorem r_Machine {C : Addr} {H : Hp} {Q : VK} {E : XK} {o l g : Int} (ho : 0 ≤ o ∧ o ≤ 1000000000) (hl : 0 ≤ l ∧ l ≤ 1000000000) (hg : 1 ≤ g ∧ g ≤ 1000000000) (hp : 0 < 2 * o + l) (k : ∀ m H', H m = none → MachAt C H' m o l g → Same H H' → Q (.ref m) H') :
    MakeAt C (spMachine C) ([.int o, .int l, .int g] ++ []) E H Q :=
  fun x dx nx nd _ => ⟨x, dx, o, l, g, rfl, upd_same, ho, hl, hg, hp, fun H' hm bt => ⟨rfl, k x H' nx hm (Same.made nx nd bt)⟩⟩

local macro_rules | `(tactic| walk_at "rd") => `(tactic| with_reducible first
  | (refine' r_gTup ?hp ?hl ?_; (case hp => walk_at "hp"); (case hl => with_unfolding_all exact rfl))
  | refine r_gCons ?_
  | refine r_gNil ?_
  | refine r_par ?_
  | refine r_par3 ?_
  | refine r_ex2 ?_
  | refine r_ex3 ?_
  | refine r_nDT rfl ?_
  | refine r_neB ?_
  | refine r_isB ?_
  | refine r_notB ?_
  | refine r_cmeth ?_
  | (refine' r_makeL ?he ?_; (case he => with_unfolding_all exact rfl))
  | refine r_isiB true (by decide +kernel) ?_
  | refine r_isiB false (by decide +kernel) ?_
  | refine r_callN ?_
  | refine r_andV ?_)

/-! ### enumerate over a tuple -/
open PySem.AutoSeq1 (wpAny_loadPart') in
theorem en_newT (p : Addr) (its : Array Value) (n : Nat) (dd : Option Addr) (sl : Array (Option Value)) :
    Meets (Builtin.«enumerate.__new__» ⟨[.type "enumerate", .ref p], []⟩) (fun _ R s => s.heap.get? p = some { cls := .type "tuple", dict := dd, data := .seq its n, slots := sl } ∧
      R (.ok (.ret (.ref (s.heap.push { cls := .type "tuple_iterator", data := .fields #[.ref p, .int 0 0] }).objs.size)))
        { s with heap := (s.heap.push { cls := .type "tuple_iterator", data := .fields #[.ref p, .int 0 0] }).push { cls := .type "enumerate", data := .fields #[.none, .bool false, .ref s.heap.objs.size, rawInt 0, .none, .none] } }) :=
  .of_wp fun prog w A R s h => by
    obtain ⟨hp, g, d, tk, os⟩ := s
    obtain ⟨hl, h⟩ := h
    have hsub := sub_enumerate
    have hT : Heap.IsTuple (Shared.heap ⟨hp, g, d, tk, os⟩) p its := ⟨_, hl, rfl, n, rfl⟩
    wp_walk using wpAny_loadPart' hl
    refine wpAny_stack_any fun st => wpAny_pure ?_
    split
    · rename_i c _ _ _ _ _
      cases (c == Value.type "enumerate") <;> (wp_walk using wpAny_loadPart' hl, wpAny_pyIter_tuple hT; exact ⟨_, rfl, h⟩)
    · wp_walk using wpAny_loadPart' hl, wpAny_pyIter_tuple hT
      exact ⟨_, rfl, h⟩
theorem en_callT {prog : Program} {w : World} {A : Around} {E : Value → Shared → Prop} {s : Shared} {p : Addr} {its : Array Value} {Q : Value → Shared → Prop} (hT : s.heap.IsTuple p its)
    (h : ∀ h', IsEnum h' (s.heap.objs.size + 1) s.heap.objs.size 0 .none → h'.IsTupleIter s.heap.objs.size p 0 → h'.objs.size = s.heap.objs.size + 2 →
      (∀ b o, s.heap.get? b = some o → h'.get? b = some o) → Q (.ref (s.heap.objs.size + 1)) { s with heap := h' }) : wpAny (model prog w) A (call (.type "enumerate") [.ref p]) Q E s := by
  obtain ⟨⟨c, dct, dt, sl⟩, hl, hc, n, hd⟩ := hT
  simp only at hc hd
  subst hc hd
  refine callType_new F.called_enumerate (by decide) (F.typeCall_enumerate_1 _) (F.newCall_enumerate_1 _) (fun obj => F.args_object_init_2 obj _) F.entry_enumerate_new (en_newT p its n dct sl) ⟨hl, ?_⟩
  generalize hg : s.heap.push { cls := .type "tuple_iterator", data := .fields #[.ref p, .int 0 0] } = g
  have hz : g.objs.size = s.heap.objs.size + 1 := by rw [← hg]; exact Heap.size_push ..
  show _ ∧ _
  rw [hz]
  have he : IsEnum (g.push { cls := .type "enumerate", data := .fields #[.none, .bool false, .ref s.heap.objs.size, rawInt 0, .none, .none] }) (s.heap.objs.size + 1) s.heap.objs.size 0 .none := by
    have q := Heap.get?_push_size g (o := { cls := .type "enumerate", data := .fields #[.none, .bool false, .ref s.heap.objs.size, rawInt 0, .none, .none] }) rfl
    rw [hz] at q
    exact q
  have hi : g.get? s.heap.objs.size = some { cls := .type "tuple_iterator", data := .fields #[.ref p, .int 0 0] } := by rw [← hg]; exact Heap.get?_push_size _ rfl
  refine ⟨⟨_, he, rfl⟩, h _ he ⟨_, Heap.get?_push_of_some _ hi, rfl, rfl⟩ (by rw [Heap.size_push, hz]) fun b o x => Heap.get?_push_of_some _ ?_⟩
  rw [← hg]
  exact Heap.get?_push_of_some _ x
/-- the tuple at a, each item in a new pair -/
def IteT (K : PySem.W.Frag) (a : Addr) : It :=
  ⟨fun i H => ∃ (xs : List V) (x : V), SqT K H a xs ∧ xs[i]? = some x, fun i H v H' => ∃ T x, v = .ref T ∧ H T = none ∧ H' = upd H T (.tup [.int (i : Nat), x]) ∧ ∀ xs, SqT K H a xs → xs[i]? = some x, fun i H => ∃ xs : List V, SqT K H a xs ∧ xs.length ≤ i⟩
theorem turn_enT {P : Program} {w : World} {K : PySem.W.Frag} {elts : List Expr} {kk : Nat} {tpos : Pos} (a e it : Addr) :
    Turn P w K (.Tuple elts kk tpos) (IteT K a) [e, it] e (fun i h => (∃ old, IsEnum h e it ((i : Nat) : Int) old) ∧ h.IsTupleIter it a i ∧ e ≠ it ∧ e ≠ a ∧ a ≠ it) where
  mem := by simp
  obj := fun i h st b hb => by
    obtain ⟨⟨old, he⟩, ⟨o, ho, hc, hd⟩, _⟩ := st
    rcases (by simpa using hb : b = e ∨ b = it) with z | z
    · rw [z]; exact ⟨_, he, fun v q => nomatch q⟩
    · rw [z]; exact ⟨o, ho, fun v q => by rw [hd] at q; cases q⟩
  keep := fun i h h' st k => let ⟨⟨old, he⟩, hi, hne⟩ := st; ⟨⟨old, k e (by simp) _ he⟩, hi.at fun o q => k it (by simp) o q, hne⟩
  item := by
    intro X hP hw hK hc i pins s σ H E I hf st hg
    subst hP hw hK
    obtain ⟨⟨old, he⟩, hit, hne, hea, hai⟩ := st
    obtain ⟨xs, x, hq, hx⟩ := hg
    obtain ⟨its, rv, p, hz⟩ := I.tuple hq
    obtain ⟨u, hu, ru⟩ := rv.get hx
    have hel : e < s.heap.objs.size := Heap.lt_size he
    have hil : it < s.heap.objs.size := by obtain ⟨_, q, _⟩ := hit; exact Heap.lt_size q
    have pT : s.heap.IsTuple a its.toArray := p
    have hlt : i < its.toArray.size := by
      have := (List.getElem?_eq_some_iff.mp hu).1
      simpa using this
    refine wpAny_pyNext_enum_itemD (Draws.tuple (A := X.A.in1) (show X.A.in1.handled = none from I.ok.hd hc) it a hai its.toArray) he ⟨hit, pT⟩ hlt hne (by simp [hne, hea]) fun v h' tk hv ho hst hT hsz hk => ?_
    have ev : v = u := by
      have q : its[i]? = some v := by simpa using hv
      rw [hu] at q
      exact (Option.some.inj q).symm
    subst ev
    refine ⟨_, rfl, wpAny_letOwnedTupleGo_enum (s := { s with heap := h', toks := tk + 1 }) ho fun h'' he' sb => ?_⟩
    have hT2 : h''.get? s.heap.objs.size = some { cls := .type "tuple", data := .seq #[.int i tk, v] } := (sb.2 _ (Nat.ne_of_gt hel)).trans hT
    have new : ObjOk X.prog X.w (upd H s.heap.objs.size (.tup [.int (i : Nat), x])) h'' s.heap.objs.size (.tup [.int (i : Nat), x]) :=
      ⟨by show 2 ≤ sizeLine; decide, [.int i tk, v], .cons ⟨_, rfl⟩ (.cons ru .nil), ⟨_, hT2, rfl, _, rfl⟩⟩
    have I1 : Inv X pins σ (upd H s.heap.objs.size (.tup [.int (i : Nat), x])) { s with heap := h'', toks := tk + 1 } :=
      I.turnedNew (ch := [e, it]) (fun b ob hb q => (sb.2 b (fun z => hb (by simp [z]))).trans (hk b ob (fun z => hb (by simp [z])) (fun z => hb (by simp [z])) q)) hf (Nat.le_refl _) new
    refine ⟨.ref s.heap.objs.size, _, I1, rfl, ⟨_, x, rfl, I.hok.fresh (Nat.le_refl _), rfl, fun ys hy => by rw [I.tuple_inj hy hq]; exact hx⟩, ⟨⟨v, ?_⟩, hst.1.at fun o q => (sb.2 it (Ne.symm hne)).trans q, hne, hea, hai⟩, fun b hb => ?_⟩
    · rw [show ((i + 1 : Nat) : Int) = (i : Int) + 1 by omega]; exact he'
    · have hb' : b < s.heap.objs.size := by
        rcases (by simpa using hb : b = e ∨ b = it) with z | z
        · rw [z]; exact hel
        · rw [z]; exact hil
      rw [upd_ne (Nat.ne_of_lt hb')]
      exact (hf b hb).1
  done := by
    intro X hP hw hK hc i pins s σ H E I hf st hg
    subst hP hw hK
    obtain ⟨⟨old, he⟩, hit, hne, hea, hai⟩ := st
    obtain ⟨xs, hq, hx⟩ := hg
    obtain ⟨its, rv, p, hz⟩ := I.tuple hq
    obtain ⟨f0, f1, f2, f3, f4, f5⟩ := hf it (by simp)
    have hl := rv.length
    have pT : s.heap.IsTuple a its.toArray := p
    unfold pyNext
    have hTy : s.TypeIs (.ref e) "enumerate" := ⟨_, he, rfl⟩
    refine wpAny_bind (wpAny_attempt (wpAny_callSpecial?_slot (name := Str.ofString "__next__") hTy F.slot_enumerate_next (wpAny_call_entry F.slot_enumerate_next hTy F.entry_enumerate_next ?_ (F.args_enumerate_next_1 _))))
    show wpAny _ _ (field (.ref e) 2 >>= _) _ _ _
    refine wpAny_bind (wpAny_field he rfl (x := .ref it) rfl ?_)
    refine wpAny_bind (wpAny_nextOf_tuple_end (I.ok.hd hc) hit pT (by simp; omega) fun h' x he' hx' => ?_)
    obtain ⟨o, ho, hcl⟩ := hx'
    refine wpAny_bind (wpAny_isInstance (T := "StopIteration") (b := true) ⟨o, ho, hcl⟩ isSubtype_stop ?_)
    exact wpAny_pure ⟨rfl, I.turned (t' := s.toks) (fun b o hb q => he' b o hb q) f0 f1 f3 f4 f5⟩
  self := fun A i s Q E st h => let ⟨⟨_, he⟩, _⟩ := st; wpAny_pyIter_enum he h
def iEnumS (K : PySem.W.Frag) (ta : TA) : TI := fun σ H R => ta σ H fun vs H1 => ∃ a xs, vs = [.ref a] ∧ ((SqL K H1 a xs ∧ R (Ite K a) H1) ∨ (SqT K H1 a xs ∧ R (IteT K a) H1))
theorem pi_enumS {X : Cx} {e : Expr} {ta : TA} {p pos tpos : Pos} {elts : List Expr} {kk : Nat} (hg : Gl X "enumerate") (hm : X.mg "enumerate" = none) (ha : PA X [e] ta) (hs : starEach [e] X.env = [(false, eval e X.env)] := by rfl) :
    PI X (.Tuple elts kk tpos) (.Call (.Name "enumerate" p) [e] [] pos) (iEnumS X.K ta) := by
  refine ⟨fun pins s σ H R I h => PyProof.Rows.Call_ (ld_blt I hg hm PyProof.Rows.boot_enumerate (PyProof.Rows.callWith_type1 (thn (ha.run pos pins s σ H _ I h) fun us s1 g => ?_) hs rfl))⟩
  obtain ⟨vs, H1, I1, r1, a, xs, rfl, g⟩ := g
  cases r1 with
  | cons r rr =>
    cases rr
    cases r
    have fresh : ∀ b ∈ [s1.heap.objs.size + 1, s1.heap.objs.size], s1.heap.objs.size ≤ b := fun b hb => by
      rcases (by simpa using hb : b = s1.heap.objs.size + 1 ∨ b = s1.heap.objs.size) with z | z <;> omega
    rcases g with ⟨hq, q⟩ | ⟨hq, q⟩
    · obtain ⟨its, rv, p', hz⟩ := I1.list hq
      refine call_enumerate_list p'.isList fun h' he hit hsz hk => wpAny_pyIter_enum he ?_
      exact ⟨s1.heap.objs.size + 1, [s1.heap.objs.size + 1, s1.heap.objs.size], _, _, H1, rfl, I1.kept (t' := s1.toks) hk, turn_enum a (s1.heap.objs.size + 1) s1.heap.objs.size, ⟨⟨.none, he⟩, hit, Nat.succ_ne_self _⟩, fun b hb => I1.fpOk (fresh b hb) (I1.hok.fresh (fresh b hb)), q⟩
    · obtain ⟨its, rv, p', hz⟩ := I1.tuple hq
      have pT : s1.heap.IsTuple a its.toArray := p'
      have hal : a < s1.heap.objs.size := by obtain ⟨o, ho, _⟩ := pT; exact Heap.lt_size ho
      refine en_callT pT fun h' he hit hsz hk => wpAny_pyIter_enum he ?_
      exact ⟨s1.heap.objs.size + 1, [s1.heap.objs.size + 1, s1.heap.objs.size], _, _, H1, rfl, I1.kept (t' := s1.toks) hk, turn_enT a (s1.heap.objs.size + 1) s1.heap.objs.size, ⟨⟨.none, he⟩, hit, Nat.succ_ne_self _, Nat.ne_of_gt (Nat.lt_succ_of_lt hal), Nat.ne_of_lt hal⟩, fun b hb => I1.fpOk (fresh b hb) (I1.hok.fresh (fresh b hb)), q⟩
theorem for_en {K : PySem.W.Frag} {a : Addr} {xs : List V} {g : TG} {tb : TS} {D : Ends} {σ : St} {H : Hp} (J : It) (Sq : Hp → List V → Prop) (hJ : J = Ite K a ∧ Sq = (fun H ys => SqL K H a ys) ∨ J = IteT K a ∧ Sq = (fun H ys => SqT K H a ys)) (Pv : Nat → St → Hp → Prop) (h0 : Pv 0 σ H) (hl : ∀ i σ H, i ≤ xs.length → Pv i σ H → Sq H xs)
    (hs : ∀ i x σ H T H', xs[i]? = some x → Pv i σ H → H T = none → H' = upd H T (.tup [.int (i : Nat), x]) → g (.ref T) σ H' fun σ2 H2 => tb { D with nx := Pv (i + 1), ct := Pv (i + 1), bk := D.nx } σ2 H2) (hd : ∀ σ H, Pv xs.length σ H → D.nx σ H) :
    ∃ W : Nat → Nat → St → Hp → Prop, (∃ m, W 0 m σ H) ∧ ∀ i m σ H, W i m σ H →
      (J.stop i H ∧ D.nx σ H) ∨ (J.go i H ∧ ∃ N : St → Hp → Prop, (∀ σ' H', N σ' H' → ∃ m', m' < m ∧ W (i + 1) m' σ' H') ∧ ∀ x H', J.yld i H x H' → g x σ H' fun σ2 H2 => tb { D with nx := N, ct := N, bk := D.nx } σ2 H2) := by
  refine ⟨fun i m σ H => m = xs.length - i ∧ i ≤ xs.length ∧ Pv i σ H, ⟨xs.length, by simp, Nat.zero_le _, h0⟩, ?_⟩
  rintro i m σ H ⟨rfl, hi, pv⟩
  have sq := hl i σ H hi pv
  by_cases hlt : i < xs.length
  · have hx : xs[i]? = some xs[i] := List.getElem?_eq_getElem hlt
    have hgo : J.go i H := by
      rcases hJ with ⟨rfl, rfl⟩ | ⟨rfl, rfl⟩
      · exact ⟨xs, _, sq, hx⟩
      · exact ⟨xs, _, sq, hx⟩
    refine .inr ⟨hgo, Pv (i + 1), fun σ' H' q => ⟨xs.length - (i + 1), by omega, rfl, hlt, q⟩, fun x H' y => ?_⟩
    have hy : ∃ T z, x = .ref T ∧ H T = none ∧ H' = upd H T (.tup [.int (i : Nat), z]) ∧ xs[i]? = some z := by
      rcases hJ with ⟨rfl, rfl⟩ | ⟨rfl, rfl⟩
      · obtain ⟨T, z, e1, e2, e3, e4⟩ := y; exact ⟨T, z, e1, e2, e3, e4 xs sq⟩
      · obtain ⟨T, z, e1, e2, e3, e4⟩ := y; exact ⟨T, z, e1, e2, e3, e4 xs sq⟩
    obtain ⟨T, z, rfl, e2, rfl, e4⟩ := hy
    exact hs i z σ H T _ e4 pv e2 rfl
  · have e : i = xs.length := by omega
    subst e
    refine .inl ⟨?_, hd σ H pv⟩
    rcases hJ with ⟨rfl, rfl⟩ | ⟨rfl, rfl⟩
    · exact ⟨xs, sq, Nat.le_refl _⟩
    · exact ⟨xs, sq, Nat.le_refl _⟩
theorem r_enS {K : PySem.W.Frag} {r : Addr} {xs : List V} {ta : TA} {g : TG} {tb : TS} {D : Ends} {σ : St} {H : Hp} (ha : ∀ QA : List V → Hp → Prop, QA [.ref r] H → ta σ H QA) (hq : SqL K H r xs ∨ SqT K H r xs) (Pv : Nat → St → Hp → Prop) (h0 : Pv 0 σ H) (hl : ∀ i σ H', Pv i σ H' → Same H H')
    (hs : ∀ i x σ H T H', xs[i]? = some x → Pv i σ H → H T = none → H' = upd H T (.tup [.int (i : Nat), x]) → g (.ref T) σ H' fun σ2 H2 => tb { D with nx := Pv (i + 1), ct := Pv (i + 1), bk := D.nx } σ2 H2) (hd : ∀ σ H, Pv xs.length σ H → D.nx σ H) :
    iEnumS K ta σ H fun J H1 => ∃ W : Nat → Nat → St → Hp → Prop, (∃ m, W 0 m σ H1) ∧ ∀ i m σ H, W i m σ H →
      (J.stop i H ∧ D.nx σ H) ∨ (J.go i H ∧ ∃ N : St → Hp → Prop, (∀ σ' H', N σ' H' → ∃ m', m' < m ∧ W (i + 1) m' σ' H') ∧ ∀ x H', J.yld i H x H' → g x σ H' fun σ2 H2 => tb { D with nx := N, ct := N, bk := D.nx } σ2 H2) := by
  refine ha _ ⟨r, xs, rfl, ?_⟩
  rcases hq with hq | hq
  · exact .inl ⟨hq, for_en _ _ (.inl ⟨rfl, rfl⟩) Pv h0 (fun i σ H' _ pv => Same.seq (hl i σ H' pv) hq) hs hd⟩
  · refine .inr ⟨hq, for_en _ _ (.inr ⟨rfl, rfl⟩) Pv h0 (fun i σ H' _ pv => ?_) hs hd⟩
    have s := hl i σ H' pv
    rcases hq with (h | ⟨o, h⟩) | h
    · exact .inl (.inl (s _ _ h))
    · exact .inl (.inr ⟨o, s _ _ h⟩)
    · exact .inr h

/-! ### sets of ints, dict comprehensions stored in a name -/
theorem u1 {u c : Nat} (h : u + 64 < c) : u + 1 < c := by omega
/-- d[k], read ahead of d[k] op= e -/
def rGetD : V → V → Hp → VK → Prop := fun x y H Q => ∃ a v, x = .ref a ∧ DGet H a y (some v) ∧ Q v H
theorem gt_dict {X : Cx} (hu : X.A.units + 1 < cLine) : PGet X rGetD := by
  intro pins s σ H x y v u Q I rx ry h
  obtain ⟨a, z, rfl, g, q⟩ := h
  cases rx
  exact d_getItem hu I g ry fun w' s3 I3 rw' => ⟨z, H, I3, rw', q⟩
/-- the ints at a, as a set: its members, their number -/
def SetI (P : Program) (w : World) (a : Addr) (S : Int → Bool) (n : Nat) : HO := .ext fun h => h.SetOf (PySem.intKind P w) a S n
def rSetI (K : PySem.W.Frag) (P : Program) (w : World) : List V → Hp → VK → Prop := fun xs H Q => ∃ (p : Addr) (ns : List Int), xs = [.ref p] ∧ SqL K H p (ns.map V.int) ∧ ns.length ≤ 4000 ∧ ∀ (a : Addr) (n : Nat), H a = none → n ≤ ns.length → Q (.ref a) (upd H a (SetI P w a (fun k => decide (k ∈ ns)) n))
def rAddI (P : Program) (w : World) : V → List V → Hp → VK → Prop := fun x xs H Q => ∃ (a : Addr) (k : Int) (S : Int → Bool) (n : Nat), x = .ref a ∧ xs = [.int k] ∧ H a = some (SetI P w a S n) ∧ n ≤ 4000 ∧
  ∀ m : Nat, m ≤ n + 1 → Q .non (upd H a (SetI P w a (fun j => S j || decide (j = k)) m))
def rInI (P : Program) (w : World) (neg : Bool) : R2 := fun x y H Q => ∃ (k : Int) (a : Addr) (S : Int → Bool) (n : Nat), x = .int k ∧ y = .ref a ∧ H a = some (SetI P w a S n) ∧ Q (.bl (if neg then !S k else S k)) H
def tAddI (P : Program) (w : World) (to : TE) (t : TA) : TE := fun σ H Q => to σ H fun x H1 => (∃ a S n, x = .ref a ∧ H1 a = some (SetI P w a S n)) ∧ t σ H1 fun xs H2 => rAddI P w x xs H2 Q
section
open PySem.Spec PyProof.Rows
theorem setI_new {P : Program} {w : World} {H : Hp} {h : Heap} {a : Addr} {S : Int → Bool} {n : Nat} (R : h.SetOf (PySem.intKind P w) a S n) : ObjOk P w H h a (SetI P w a S n) :=
  ⟨R, let ⟨o, _, _, _, ho, _⟩ := R; ⟨o, ho⟩, fun h1 h2 ⟨o, es, ep, t, ho, r⟩ k => ⟨o, es, ep, t, k o ho, r⟩⟩
theorem mem_first (ns : List Int) (k : Int) : (firstMet (fun i => ns.getD i 0) ns.length).any (· == k) = decide (k ∈ ns) := by
  rw [firstMet_any]
  have e : (List.range ns.length).map (fun i => ns.getD i 0) = ns := by
    apply List.ext_getElem (by simp)
    intro i h1 h2
    simp [h2]
  rw [e]
  rw [Bool.eq_iff_iff, List.any_eq_true, decide_eq_true_eq]
  exact ⟨fun ⟨x, hx, e⟩ => by rw [← eq_of_beq e]; exact hx, fun h => ⟨k, h, beq_self_eq_true k⟩⟩
variable {X : Cx}
theorem setI_get {pins : List (Addr × Obj)} {σ : L2.St} {H : Hp} {s : Shared} {a : Addr} {S : Int → Bool} {n : Nat} (I : Inv X pins σ H s) (ha : H a = some (SetI X.prog X.w a S n)) : s.heap.SetOf (PySem.intKind X.prog X.w) a S n := (I.hok a _ ha).1
theorem cr_setI (hc : X.calm = true) : CallR X (.type "set") (rSetI X.K X.prog X.w) := by
  intro pins s σ H xs us Q I r h
  obtain ⟨p, ns, rfl, hq, hl, q⟩ := h
  obtain ⟨its, rv, pl, hz⟩ := I.list hq
  rw [Vals.ref1 r]
  have hlen : its.toArray.size = ns.length := by rw [List.size_toArray, ← rv.length, List.length_map]
  refine call_set_list (ns := ns) (I.ok.hd hc) pl.isList (by simpa using rv.ints) (by rw [hlen]; unfold scanBound; omega) fun h' tk hS hk => ?_
  rw [hlen] at hS
  have hS' : h'.SetOf (PySem.intKind X.prog X.w) s.heap.objs.size (fun k => decide (k ∈ ns)) (firstMet (fun i => ns.getD i 0) ns.length).length := SetOf_congr hS (fun k => mem_first ns k) rfl
  exact ⟨.ref s.heap.objs.size, _, I.laid (t' := tk) (fun b u e => hk b u (Heap.lt_size e) e) (Nat.le_refl _) (setI_new hS'), rfl, q _ _ (I.hok.fresh (Nat.le_refl _)) (firstMet_length_le _ _)⟩
theorem mt_addI : MtR X "set.add" (rAddI X.prog X.w) := by
  intro pins s σ H x xs v us Q I rx rxs h
  obtain ⟨a, k, S, n, rfl, rfl, ha, room, q⟩ := h
  cases rx
  cases rxs with
  | cons ry rt =>
    cases rt
    obtain ⟨tk, rfl⟩ := ry
    refine call_set_add (knd := PySem.intKind X.prog X.w) (k := k) (intKind_is _ _ _ _) rfl (setI_get I ha) (by unfold scanBound; omega) fun h' sb new => ?_
    have he : ∃ u, h'.get? a = some u := let ⟨o, _, _, _, ho, _⟩ := new; ⟨o, ho⟩
    exact ⟨.non, _, I.write (e := a) (t' := _) (by rw [ha]; trivial) (.inl rfl) (fun b u hb hu => (sb.2 b hb).trans hu) he (setI_new new), rfl, q _ (by split <;> omega)⟩
theorem or_inI : OpR X (compareOp .In) (rInI X.prog X.w false) := by
  intro pins s σ H x y v u Q I rx ry h
  obtain ⟨k, a, S, n, rfl, rfl, ha, q⟩ := h
  obtain ⟨tk, rfl⟩ := rx
  cases ry
  exact wpAny_inSet_of (intKind_is _ _ _ _) rfl (setI_get I ha) ⟨.bl (S k), H, I.tok _, rfl, q⟩
theorem or_ninI : OpR X (compareOp .NotIn) (rInI X.prog X.w true) := by
  intro pins s σ H x y v u Q I rx ry h
  obtain ⟨k, a, S, n, rfl, rfl, ha, q⟩ := h
  obtain ⟨tk, rfl⟩ := rx
  cases ry
  exact wpAny_notInSet_of (intKind_is _ _ _ _) rfl (setI_get I ha) ⟨.bl (!S k), H, I.tok _, rfl, q⟩
end
section
open PySem.Spec PyProof.Rows
variable {X : Cx} {o e : Expr} {es : List Expr} {to : TE} {t : TA} {apos cpos : Pos}
theorem pe_addI (ho : PE X o to) (ha : PA X (e :: es) t)
    (hbase : attributeBase o "add" X.env (eval o X.env) = eval o X.env := by rfl)
    (hfew : ((backTo cpos (starEach (e :: es) X.env)).all (fun x => !x.1) && (backToKw cpos (keywordEach [] X.env)).all (fun x => x.1.isSome) && decide ((e :: es).length + ([] : List Keyword).length + (if ([] : List Keyword).isEmpty then 0 else 1) < 30)) = true := by rfl)
    (hline : (apos.endLine == cpos.line) = true := by rfl) (hs : starEach (e :: es) X.env = (false, eval e X.env) :: starEach es X.env := by rfl) (hplain : (backTo cpos (starEach es X.env)).any (·.1) = false := by rfl) :
    PE X (.Call (.Attribute o "add" apos) (e :: es) [] cpos) (tAddI X.prog X.w to t) := by
  refine ⟨fun pins s σ H Q I h => wpAny_Call_method_late hbase hfew hline rfl (thn (ho.run pins s σ H _ I h) fun v s1 ⟨x, H1, I1, r1, ty, q1⟩ => ?_)⟩
  obtain ⟨a, S, n, rfl, hka⟩ := ty
  have hS := setI_get I1 hka
  cases r1
  refine ⟨"set", "set.add", F.plainAttrs_set, F.slot_set_add, F.type_set_add, hS.typeIs, hS.noDict, ?_⟩
  have hA := ha.run cpos pins s1 σ H1 _ I1 q1
  rw [hs] at hA ⊢
  refine Calls.callWith_builtin ?_ (Calls.evalArgs_plain (thn hA fun us s2 ⟨vs, H2, I2, r2, q2⟩ => mt_addI pins s2 σ H2 (.ref a) vs (.ref a) us Q I2 rfl r2 q2))
  show (false || (backTo cpos (starEach es X.env)).any (·.1)) = false
  rw [hplain] <;> rfl
theorem sw_trueD {ek ev : Expr} {gs : List Comprehension} {scope : Scope} {pos py : Pos} {y : Str} {l : Nat} {env : Env} (hk : env.scope.kind = .function) (hy : env.scope.names.lookup y = some .local) (hl : (py.line == pos.line) = true) (ha : (scope.names.any fun (n, k) => n == y && (k == .local || k == .cell)) = false) :
    swapsWith (.DictComp ek ev gs scope pos) (some (.Name y py)) l env = pure true := by
  have hb : env.blockKind = .function := by unfold Env.blockKind; rw [hk]; rfl
  have ky : env.kindOf y = some .local := hy
  unfold swapsWith
  simp only [hb, ky, ha, Expr.pos, hl]
  rfl
theorem ps_setDc {i : Nat} {y : Str} {py : Pos} {kx vx tg iter : Expr} {ifs : List Expr} {scope : Scope} {own : List (Str × Nat)} {pos spos : Pos} {wi : TI} {g : TG} {tt : TT} {tk tv : TE} (hc : X.calm = true) (hN : X.N.Nodup) (hy : X.N[i]? = some y) (hyl : X.env.scope.names.lookup y = some .local)
    (hsw : swapsWith (.DictComp kx vx [⟨tg, iter, ifs, 0⟩] scope pos) (some (.Name y py)) spos.line X.env = pure true) (hi : PI X tg iter wi) (ok : BlkOk X.N X.env.scope scope own)
    (hg : ∀ (s : Shared) (H : Hp) (C : Addr) (cl : List (Str × Addr)) (fp : List Addr), PG (X.blk s H scope (compEnvC scope cl C X.env) fp) tg g) (ht : ∀ (s : Shared) (H : Hp) (C : Addr) (cl : List (Str × Addr)) (fp : List Addr), PTs (X.blk s H scope (compEnvC scope cl C X.env) fp) ifs tt)
    (hk : ∀ (s : Shared) (H : Hp) (C : Addr) (cl : List (Str × Addr)) (fp : List Addr), PE (X.blk s H scope (compEnvC scope cl C X.env) fp) kx tk)
    (he : ∀ (s : Shared) (H : Hp) (C : Addr) (cl : List (Str × Addr)) (fp : List Addr), PE (X.blk s H scope (compEnvC scope cl C X.env) fp) vx tv) (hs : ∀ x, foldedSetIterable iter X.env x = pure x := by intro _; rfl) :
    PS X (.Assign [.Name y py] (.DictComp kx vx [⟨tg, iter, ifs, 0⟩] scope pos) spos) (tAsg (tDc wi g tt tk tv (own.map (·.2))) (gName i)) := by
  refine ⟨fun pins s σ H D I h => ?_⟩
  rw [exec_Assign_Name_used _ _ _ _ hsw]
  have h : tDc wi g tt tk tv (own.map (·.2)) σ H (fun x H1 => gName i x σ H1 D.nx) := h
  have run := dc_core (Qf := fun _ s' => SP X pins D .next s') (use := some (assign (.Name y py) X.env)) (pos := pos) (pos' := firstIterPos [⟨tg, iter, ifs, 0⟩] pos) hc hN I hi ok hg ht hk he hs h fun L C s' m H' I' q hn f => by
    show wpAny _ _ (assign (.Name y py) X.env (.ref L)) _ _ _
    refine wpAny_assign_Name (store_ok2 (v := V.ref L) I' hN hy (.inl hyl) rfl (fun s2 I2 ⟨a, sb, ha⟩ => ?_) (.inr hyl))
    obtain ⟨f0, f1, f2, f3, f4, f5⟩ := f
    have haC : C ≠ a := ha.elim (fun z => by rw [z]; exact f1) fun z e => f4 y a z e.symm
    exact ⟨m, hn.sameBut sb haC, fun h3 sb3 => ⟨_, H', I2.turned (t' := s2.toks) (fun b o hb e => (sb3.2 b hb).trans e) f0 f1 f3 f4 f5, q⟩⟩
  refine wpAny_bind (wpAny_standAt (wpAny_bind (wpAny_bind (thn run fun _ s' hq => wpAny_pure (wpAny_pure hq)))))
end

/-! ### walks over a list or a tuple -/
def iSeq (K : PySem.W.Frag) (tl : TE) : TI := fun σ H R => iList K tl σ H R ∨ iTup K tl σ H R
theorem pi_seq {X : Cx} {tg l : Expr} {tl : TE} (hl : PE X l tl) : PI X tg l (iSeq X.K tl) := ⟨fun pins s σ H R I h => h.elim ((pi_list hl).run pins s σ H R I) ((pi_tup hl).run pins s σ H R I)⟩
def SeqV (H : Hp) (p : Addr) (xs : List V) : Prop := H p = some (.lst xs) ∨ H p = some (.tup xs)
theorem SeqV.keep {H H' : Hp} {p : Addr} {xs : List V} (h : SeqV H p xs) (s : Same H H') : SeqV H' p xs := h.imp (s _ _) (s _ _)
theorem SeqV.sq {K : PySem.W.Frag} {H : Hp} {p : Addr} {xs : List V} (h : SeqV H p xs) : SqL K H p xs ∨ SqT K H p xs := h.imp SqL.of SqT.of
theorem r_forSeq {K : PySem.W.Frag} {tl : TE} {g : TG} {tb : TS} {D : Ends} {σ : St} {H : Hp} {p : Addr} {xs : List V} (Pv : Nat → St → Hp → Prop) (hx : ∀ Q : VK, Q (.ref p) H → tl σ H Q) (h : SeqV H p xs) (h0 : Pv 0 σ H) (hk : ∀ i σ H', Pv i σ H' → ∀ o, H p = some o → H' p = some o)
    (hs : ∀ i x σ H', xs[i]? = some x → Pv i σ H' → g x σ H' fun σ2 H2 => tb { D with nx := Pv (i + 1), ct := Pv (i + 1), bk := D.nx } σ2 H2) (hd : ∀ σ H', Pv xs.length σ H' → D.nx σ H') : tFor (iSeq K tl) g tb D σ H := by
  rcases h with h | h
  · exact r_for (.inl (r_iL (hx _ ⟨p, rfl, ⟨_, SqL.of h⟩, for_list (K := K) (a := p) (xs := xs) Pv h0 (fun i σ H' _ q => SqL.of (hk i σ H' q _ h)) hs hd⟩)))
  · exact r_for (.inr (r_iT (hx _ ⟨p, rfl, ⟨_, SqT.of h⟩, for_tup (K := K) (a := p) (xs := xs) Pv h0 (fun i σ H' _ q => SqT.of (hk i σ H' q _ h)) hs hd⟩)))
theorem r_lcSeq {K : PySem.W.Frag} {tl : TE} {g : TG} {tt : TT} {te : TE} {vs : List Nat} {σ : St} {H : Hp} {Qd : Addr → Hp → Prop} {p : Addr} {xs : List V} (Pv : Addr → Nat → Hp → Prop) (hx : ∀ Q : VK, Q (.ref p) H → tl σ H Q) (h : SeqV H p xs) (h0 : ∀ D, H D = none → Pv D 0 (upd H D (.lst []))) (hk : ∀ D i H', H D = none → Pv D i H' → ∀ o, H p = some o → H' p = some o)
    (hs : ∀ D i x H', H D = none → xs[i]? = some x → Pv D i H' → g x (wipe σ vs) H' fun σ2 H2 => wipe σ2 vs = wipe σ vs ∧ tt σ2 H2 fun b H3 =>
      if b = true then te σ2 H3 fun y H4 => ∃ acc, H4 D = some (.lst acc) ∧ acc.length < sizeLine ∧ Pv D (i + 1) (upd H4 D (.lst (acc ++ [y]))) else Pv D (i + 1) H3) (hd : ∀ D H', H D = none → Pv D xs.length H' → Qd D H') : iSeq K tl σ H fun J H1 => ∀ D, H1 D = none → ∃ W : Nat → Nat → Hp → Prop, (∃ m, W 0 m (upd H1 D (.lst []))) ∧ ∀ i m H, W i m H →
      (J.stop i H ∧ Qd D H) ∨ (J.go i H ∧ ∃ Nx : Hp → Prop, (∀ H', Nx H' → ∃ m', m' < m ∧ W (i + 1) m' H') ∧ ∀ x H', J.yld i H x H' → g x (wipe σ vs) H' fun σ2 H2 => wipe σ2 vs = wipe σ vs ∧ tt σ2 H2 fun b H3 =>
        if b = true then te σ2 H3 fun y H4 => ∃ acc, H4 D = some (.lst acc) ∧ acc.length < sizeLine ∧ Nx (upd H4 D (.lst (acc ++ [y]))) else Nx H3) := by
  rcases h with h | h
  · exact (.inl (r_iL (hx _ ⟨p, rfl, ⟨_, SqL.of h⟩, fun D hD => lc_list (K := K) (a := p) (xs := xs) (Pv D) (h0 D hD) (fun i H' _ q => SqL.of (hk D i H' hD q _ h)) (fun i x H' a b => hs D i x H' hD a b) (fun H' q => hd D H' hD q)⟩)))
  · exact (.inr (r_iT (hx _ ⟨p, rfl, ⟨_, SqT.of h⟩, fun D hD => lc_tup (K := K) (a := p) (xs := xs) (Pv D) (h0 D hD) (fun i H' _ q => SqT.of (hk D i H' hD q _ h)) (fun i x H' a b => hs D i x H' hD a b) (fun H' q => hd D H' hD q)⟩)))
theorem r_enS2 {K : PySem.W.Frag} {r : Addr} {xs : List V} {ta : TA} {g : TG} {tb : TS} {D : Ends} {σ : St} {H : Hp} (ha : ∀ QA : List V → Hp → Prop, QA [.ref r] H → ta σ H QA) (hq : SeqV H r xs) (Pv : Nat → St → Hp → Prop) (h0 : Pv 0 σ H) (hl : ∀ i σ H', Pv i σ H' → ∀ o, H r = some o → H' r = some o)
    (hs : ∀ i x σ H T H', xs[i]? = some x → Pv i σ H → H T = none → H' = upd H T (.tup [.int (i : Nat), x]) → g (.ref T) σ H' fun σ2 H2 => tb { D with nx := Pv (i + 1), ct := Pv (i + 1), bk := D.nx } σ2 H2) (hd : ∀ σ H, Pv xs.length σ H → D.nx σ H) : tFor (iEnumS K ta) g tb D σ H := by
  refine r_for (ha _ ⟨r, xs, rfl, ?_⟩)
  rcases hq with hq | hq
  · exact .inl ⟨SqL.of hq, for_en _ _ (.inl ⟨rfl, rfl⟩) Pv h0 (fun i σ H' _ pv => SqL.of (hl i σ H' pv _ hq)) hs hd⟩
  · exact .inr ⟨SqT.of hq, for_en _ _ (.inr ⟨rfl, rfl⟩) Pv h0 (fun i σ H' _ pv => SqT.of (hl i σ H' pv _ hq)) hs hd⟩

/-! ### faults of rows -/
abbrev L3 := Int × Int × Int
def triV (l : L3) : List V := [.int l.1, .int l.2.1, .int l.2.2]
def TrisAt (H : Hp) (xs : List V) (ls : List L3) : Prop := xs.length = ls.length ∧ ∀ (i : Nat) (l : L3), ls[i]? = some l → ∃ t : Addr, xs[i]? = some (.ref t) ∧ H t = some (.tup (triV l))
theorem TrisAt.keep {H H' : Hp} {xs : List V} {ls : List L3} (h : TrisAt H xs ls) (s : Same H H') : TrisAt H' xs ls := ⟨h.1, fun i g hg => let ⟨t, e, z⟩ := h.2 i g hg; ⟨t, e, s _ _ z⟩⟩
theorem TrisAt.upd {H : Hp} {L : Addr} {zs xs : List V} {o : HO} {ls : List L3} (h : TrisAt H xs ls) (e : H L = some (.lst zs)) : TrisAt (L2.upd H L o) xs ls := ⟨h.1, fun i g hg => let ⟨t, e1, z⟩ := h.2 i g hg; ⟨t, e1, (upd_ne (fun y => by rw [y, e] at z; cases z)).trans z⟩⟩
theorem TrisAt.nil {H : Hp} : TrisAt H [] [] := ⟨rfl, fun i g h => by simp at h⟩
theorem TrisAt.snoc {H : Hp} {xs : List V} {ls : List L3} {t : Addr} {g : L3} (h : TrisAt H xs ls) (e : H t = some (.tup (triV g))) : TrisAt H (xs ++ [.ref t]) (ls ++ [g]) := ⟨by rw [List.length_append, List.length_append, h.1]; rfl, fun i g' hg => by
  by_cases hi : i < ls.length
  · rw [List.getElem?_append_left hi] at hg
    rw [List.getElem?_append_left (by rw [h.1]; exact hi)]
    exact h.2 i g' hg
  · have hl := (List.getElem?_eq_some_iff.mp hg).1
    rw [List.length_append, List.length_singleton] at hl
    obtain rfl : i = ls.length := by omega
    rw [List.getElem?_append_right (Nat.le_refl _), Nat.sub_self] at hg
    obtain rfl : g = g' := by simpa using hg
    exact ⟨t, by rw [← h.1, List.getElem?_append_right (Nat.le_refl _), Nat.sub_self]; rfl, e⟩⟩
theorem TrisAt.get {H : Hp} {xs : List V} {ls : List L3} {i : Nat} {x : V} (h : TrisAt H xs ls) (hx : xs[i]? = some x) : ∃ (t : Addr) (l : L3), x = .ref t ∧ ls[i]? = some l ∧ H t = some (.tup [.int l.1, .int l.2.1, .int l.2.2]) := by
  obtain ⟨l, hl⟩ : ∃ l, ls[i]? = some l := ⟨_, List.getElem?_eq_getElem (by have := (List.getElem?_eq_some_iff.mp hx).1; rw [h.1] at this; exact this)⟩
  obtain ⟨t, e, z⟩ := h.2 i l hl
  exact ⟨t, l, Option.some.inj (hx.symm.trans e), hl, z⟩
/-- the first number below m at which P holds -/
def first (P : Nat → Bool) (m : Nat) : Option Nat := (List.range m).find? P
theorem first_none {P : Nat → Bool} {m : Nat} (h : ∀ i, i < m → P i = false) : first P m = none := by
  unfold first
  rw [List.find?_eq_none]
  intro i hi
  rw [h i (List.mem_range.mp hi)]
  exact Bool.false_ne_true
theorem first_some {P : Nat → Bool} {m i : Nat} (hi : i < m) (h : P i = true) (hb : ∀ j, j < i → P j = false) : first P m = some i := by
  unfold first
  rw [List.find?_range_eq_some]
  exact ⟨h, List.mem_range.mpr hi, fun j hj => by rw [hb j hj]; rfl⟩
theorem first_no {P : Nat → Bool} {m : Nat} (h : first P m = none) : ∀ i, i < m → P i = false := fun i hi => by
  unfold first at h
  rw [List.find?_eq_none] at h
  exact Bool.eq_false_iff.mpr (h i (List.mem_range.mpr hi))
theorem first_yes {P : Nat → Bool} {m i : Nat} (h : first P m = some i) : i < m ∧ P i = true ∧ ∀ j, j < i → P j = false := by
  unfold first at h
  rw [List.find?_range_eq_some] at h
  exact ⟨List.mem_range.mp h.2.1, h.1, fun j hj => by have := h.2.2 j hj; simpa using this⟩
theorem first_congr {P P' : Nat → Bool} {m : Nat} (h : ∀ i, i < m → P i = P' i) : first P m = first P' m := by
  cases e : first P' m with
  | none => exact first_none fun i hi => (h i hi).trans (first_no e i hi)
  | some i =>
    obtain ⟨h1, h2, h3⟩ := first_yes e
    exact first_some h1 ((h i h1).trans h2) fun j hj => (h j (by omega)).trans (h3 j hj)
abbrev Flt := Option (Str × Int)
def FltAt (H : Hp) (v : V) : Flt → Prop
  | none => v = .non
  | some (s, i) => ∃ p, v = .ref p ∧ H p = some (.tup [.str s, .int i])
theorem FltAt.keep {H H' : Hp} {v : V} {f : Flt} (h : FltAt H v f) (s : Same H H') : FltAt H' v f := by
  cases f with
  | none => exact h
  | some x => obtain ⟨p, e, h⟩ := h; exact ⟨p, e, s _ _ h⟩
def atIx (w : Str) (o : Option Nat) : Flt := Option.map (fun i : Nat => (w, (i : Int))) o
theorem r_orT {K : PySem.W.Frag} {ta tb : TE} {σ : St} {H : Hp} {Q : VK} (h : ta σ H fun x H1 => ∃ k, TruV K x H1 k ∧ if k = true then Q x H1 else tb σ H1 Q) : tOrT K ta tb σ H Q := h
/-- f or g, of faults -/
theorem r_orF {K : PySem.W.Frag} {x : V} {H : Hp} {f : Flt} {A B : Prop} (h : FltAt H x f) (h1 : f ≠ none → A) (h2 : f = none → B) : ∃ k, TruV K x H k ∧ if k = true then A else B := by
  cases f with
  | none =>
    have h : x = .non := h
    subst h
    exact ⟨false, rfl, iteF (h2 rfl)⟩
  | some f =>
    obtain ⟨p, rfl, e⟩ := h
    exact ⟨true, .inr (.inl ⟨_, SqT.of e, rfl⟩), iteT (h1 (fun z => nomatch z))⟩
/-! what is wrong -/
def badForm (l : L3) : Bool := !decide (0 ≤ l.2.2 ∧ l.2.2 ≤ 1000000000000000)
def formF (rs : List L3) : Flt := atIx "form" (first (fun i => badForm (rs.getD i (0, 0, 0))) rs.length)
def badHand (n fs fr : Int) (g : Int × Int) : Bool := !decide ((fs ≤ g.1 ∧ g.1 < n) ∧ (fr ≤ g.2 ∧ g.2 < n) ∧ g.1 ≠ g.2)
def handF (n fs fr : Int) (ps : List (Int × Int)) : Flt := atIx "hand" (first (fun i => badHand n fs fr (ps.getD i (0, 0))) ps.length)
def againF (keys taken : List Int) : Flt := atIx "again" (first (fun i => decide (keys.getD i 0 ∈ taken ++ keys.take i)) keys.length)
def nobodyF (wanted keys : List Int) : Flt := (wanted.find? fun k => !decide (k ∈ keys)).map fun k => ("nobody", k)
/-- when a hand knows -/
def knownOf (rs : List L3) (roots : List Int) (D s : Int) : Int := if s ∈ roots then 0 else ((rs.find? fun l => decide (l.2.1 = s)).map fun l => l.2.2 + D).getD 0
def earlyF (rs : List L3) (roots : List Int) (D : Int) : Flt := atIx "early" (first (fun i => decide ((rs.getD i (0, 0, 0)).2.2 < knownOf rs roots D (rs.getD i (0, 0, 0)).1)) rs.length)
def near1 (w : Int) (m q : Int × Int) : Bool := decide (q.1 = m.1 ∧ -w < m.2 - q.2 ∧ m.2 - q.2 < w)
def nearP (w : Int) (prev : List (Int × Int)) (m : Int × Int) : Bool := prev.any (near1 w m)
def rowNear (w : Int) (marks : List (List (Int × Int))) (i : Nat) : Bool := (List.range (marks.getD i []).length).any fun j => nearP w ((marks.take i).flatten ++ (marks.getD i []).take j) ((marks.getD i []).getD j (0, 0))
def nearF (why : Str) (marks : List (List (Int × Int))) (w : Int) : Flt := if w = 0 then none else atIx why (first (rowNear w marks) marks.length)
/-! times kept by hand and slot -/
def kk (h s : Int) : List L2.Key := [.inl h, .inl s]
theorem kk_inj {h s h' s' : Int} : kk h s = kk h' s' ↔ h = h' ∧ s = s' := by
  unfold kk
  simp
structure Marks (w : Int) (kvs : List (List L2.Key × V)) (prev : List (Int × Int)) : Prop where
  of : ∀ h s v, valV kvs (kk h s) = some v → ∃ t, v = .int t ∧ (h, t) ∈ prev ∧ s = t / w
  at_ : ∀ q, q ∈ prev → valV kvs (kk q.1 (q.2 / w)) = some (.int q.2)
  len : kvs.length ≤ prev.length
theorem Marks.nil {w : Int} : Marks w [] [] := ⟨fun h s v e => (nomatch e), fun q hq => (nomatch hq), Nat.le_refl _⟩
theorem slot_near {w t t' : Int} (hw : 0 < w) (h1 : -w < t - t') (h2 : t - t' < w) : t' / w = t / w - 1 ∨ t' / w = t / w ∨ t' / w = t / w + 1 := by
  have a1 := Int.ediv_mul_le t (show w ≠ 0 by omega)
  have a2 := Int.lt_ediv_add_one_mul_self t hw
  have b1 := Int.ediv_mul_le t' (show w ≠ 0 by omega)
  have b2 := Int.lt_ediv_add_one_mul_self t' hw
  obtain ⟨x, hx⟩ : ∃ x, t / w = x := ⟨_, rfl⟩
  obtain ⟨y, hy⟩ : ∃ y, t' / w = y := ⟨_, rfl⟩
  rw [hx] at a1 a2 ⊢
  rw [hy] at b1 b2 ⊢
  rw [Int.add_mul, Int.one_mul] at a2 b2
  by_cases c1 : y + 2 ≤ x
  · have : (y + 2) * w ≤ x * w := Int.mul_le_mul_of_nonneg_right c1 (by omega)
    rw [Int.add_mul] at this
    omega
  · by_cases c2 : x + 2 ≤ y
    · have : (x + 2) * w ≤ y * w := Int.mul_le_mul_of_nonneg_right c2 (by omega)
      rw [Int.add_mul] at this
      omega
    · omega
theorem same_slot {w t t' : Int} (hw : 0 < w) (h : t / w = t' / w) : -w < t - t' ∧ t - t' < w := by
  have a1 := Int.ediv_mul_le t (show w ≠ 0 by omega)
  have a2 := Int.lt_ediv_add_one_mul_self t hw
  have b1 := Int.ediv_mul_le t' (show w ≠ 0 by omega)
  have b2 := Int.lt_ediv_add_one_mul_self t' hw
  rw [h] at a1 a2
  rw [Int.add_mul, Int.one_mul] at a2 b2
  omega
/-- what a look at three slots tells -/
theorem Marks.near {w : Int} {kvs : List (List L2.Key × V)} {prev : List (Int × Int)} (h : Marks w kvs prev) (hw : 0 < w) {a t : Int} :
    nearP w prev (a, t) = true ↔ ∃ s, (s = t / w - 1 ∨ s = t / w ∨ s = t / w + 1) ∧ ∃ t', valV kvs (kk a s) = some (.int t') ∧ -w < t - t' ∧ t - t' < w := by
  unfold nearP near1
  rw [List.any_eq_true]
  constructor
  · rintro ⟨q, hq, e⟩
    obtain ⟨e1, e2, e3⟩ := of_decide_eq_true e
    dsimp only at e1 e2 e3
    refine ⟨q.2 / w, slot_near hw e2 e3, q.2, ?_, e2, e3⟩
    have := h.at_ q hq
    rwa [e1] at this
  · rintro ⟨s, _, t', e, h1, h2⟩
    obtain ⟨t2, e2, hm, _⟩ := h.of a s _ e
    obtain rfl := V.int.inj e2
    exact ⟨(a, t'), hm, decide_eq_true ⟨rfl, h1, h2⟩⟩
theorem valV_put {kvs : List (List L2.Key × V)} {k j : List L2.Key} {v : V} : valV (putK kvs k v) j = if j = k then some v else valV kvs j := by
  unfold putK
  split
  · rename_i h
    rw [valV_map]
    rw [valV_any] at h
    by_cases c : j = k
    · rw [if_pos c]
      subst c
      obtain ⟨x, hx⟩ := Option.isSome_iff_exists.mp h
      rw [hx]
      simp
    · rw [if_neg c]
      cases valV kvs j <;> simp [c]
  · rename_i h
    rw [valV_any] at h
    exact valV_snoc k j v kvs (by simpa using h)
theorem Marks.put {w : Int} {kvs : List (List L2.Key × V)} {prev : List (Int × Int)} (h : Marks w kvs prev) (hw : 0 < w) {a t : Int} (hn : nearP w prev (a, t) = false) : Marks w (putK kvs (kk a (t / w)) (.int t)) (prev ++ [(a, t)]) := by
  have hno : ∀ q, q ∈ prev → ¬ (q.1 = a ∧ q.2 / w = t / w) := fun q hq ⟨e1, e2⟩ => by
    have : nearP w prev (a, t) = true := by
      unfold nearP near1
      rw [List.any_eq_true]
      have h2 := same_slot hw e2.symm
      exact ⟨q, hq, decide_eq_true ⟨e1, h2.1, h2.2⟩⟩
    rw [hn] at this
    exact Bool.false_ne_true this
  refine ⟨fun b s v e => ?_, fun q hq => ?_, ?_⟩
  · rw [valV_put] at e
    split at e
    · rename_i c
      obtain ⟨rfl, rfl⟩ := kk_inj.mp c
      obtain rfl := Option.some.inj e
      exact ⟨t, rfl, List.mem_append_right _ (List.mem_singleton.mpr rfl), rfl⟩
    · obtain ⟨t', e1, e2, e3⟩ := h.of b s v e
      exact ⟨t', e1, List.mem_append_left _ e2, e3⟩
  · rw [valV_put]
    rcases List.mem_append.mp hq with hq | hq
    · rw [if_neg fun z => hno q hq (kk_inj.mp z)]
      exact h.at_ q hq
    · rw [List.mem_singleton] at hq
      subst hq
      rw [if_pos rfl]
  · have h1 := h.len
    rw [List.length_append, List.length_singleton]
    unfold putK
    split
    · rw [List.length_map]; omega
    · rw [List.length_append, List.length_singleton]; omega

/-! ### the program's faults, read -/
theorem r_inI {P : Program} {w : World} {H : Hp} {Q : VK} {k : Int} {a : Addr} {S : Int → Bool} {n : Nat} (e : H a = some (SetI P w a S n)) (q : Q (.bl (S k)) H) : rInI P w false (.int k) (.ref a) H Q := ⟨k, a, S, n, rfl, rfl, e, q⟩
theorem r_ninI {P : Program} {w : World} {H : Hp} {Q : VK} {k : Int} {a : Addr} {S : Int → Bool} {n : Nat} (e : H a = some (SetI P w a S n)) (q : Q (.bl (!S k)) H) : rInI P w true (.int k) (.ref a) H Q := ⟨k, a, S, n, rfl, rfl, e, q⟩
theorem r_addI {P : Program} {w : World} {to : TE} {t : TA} {σ : St} {H : Hp} {Q : VK} (h : to σ H fun x H1 => (∃ a S n, x = .ref a ∧ H1 a = some (SetI P w a S n)) ∧ t σ H1 fun xs H2 => rAddI P w x xs H2 Q) : tAddI P w to t σ H Q := h
theorem isiLT {K : PySem.W.Frag} {H : Hp} {p : Addr} {xs : List V} (h : SeqV H p xs) : ∃ t, TyX K H (.ref p) t ∧ PySem.W.kitAny K t [.type "list", .type "tuple"] = some true := by
  rcases h with h | h
  · exact ⟨_, .base (.lst h), kitAny_cons (b := true) (kit_ty (by decide +kernel)) (fun z => Bool.noConfusion z) fun _ => rfl⟩
  · exact ⟨_, .base (.tup h), kitAny_cons (b := false) (kit_ty (by decide +kernel)) (fun _ => kitAny_cons (b := true) (kit_ty (by decide +kernel)) (fun z => Bool.noConfusion z) fun _ => rfl) (fun z => Bool.noConfusion z)⟩
theorem r_isiTu {K : PySem.W.Frag} {H : Hp} {Q : VK} {p : Addr} {xs : List V} {n : String} (b : Bool) (h : H p = some (.tup xs)) (hk : kitB "tuple" n = some b) (q : Q (.bl b) H) : rIsi K [.ref p, .ty n] H Q := r_isi (.base (.tup h)) (kit_ty hk) q
theorem at_end (zs : List Int) (s : Int) : atI ((zs ++ [s]).map V.int) (-1) = some (.int s) := by
  have e1 : ixN ((zs ++ [s]).map V.int).length (-1) = some zs.length := by
    rw [List.length_map, List.length_append, List.length_singleton]
    unfold ixN
    rw [if_neg (by decide), if_pos (by omega)]
    congr 1
    omega
  unfold atI
  rw [e1]
  show ((zs ++ [s]).map V.int)[zs.length]? = some (.int s)
  rw [List.getElem?_map, List.getElem?_append_right (Nat.le_refl _), Nat.sub_self]
  rfl
def okStart (s : Int) : Bool := decide (0 ≤ s ∧ s ≤ 1000000000000000)
def formS (ss : List Int) : Flt := atIx "form" (first (fun i => !okStart (ss.getD i 0)) ss.length)
def RowsG (H : Hp) (k : Nat) (xs : List V) (ss : List Int) : Prop := xs.length = ss.length ∧ ∀ (i : Nat) (s : Int), ss[i]? = some s → ∃ (t : Addr) (zs : List Int), xs[i]? = some (.ref t) ∧ H t = some (.tup ((zs ++ [s]).map V.int)) ∧ zs.length = k
theorem RowsG.get {H : Hp} {k : Nat} {xs : List V} {ss : List Int} {i : Nat} {x : V} (h : RowsG H k xs ss) (hx : xs[i]? = some x) : ∃ (t : Addr) (zs : List Int) (s : Int), x = .ref t ∧ ss[i]? = some s ∧ H t = some (.tup ((zs ++ [s]).map V.int)) ∧ zs.length = k := by
  obtain ⟨l, hl⟩ : ∃ l, ss[i]? = some l := ⟨_, List.getElem?_eq_getElem (by have := (List.getElem?_eq_some_iff.mp hx).1; rw [h.1] at this; exact this)⟩
  obtain ⟨t, zs, e, z⟩ := h.2 i l hl
  exact ⟨t, zs, l, Option.some.inj (hx.symm.trans e), hl, z⟩
theorem RowsG.keep {H H' : Hp} {k : Nat} {xs : List V} {ss : List Int} (h : RowsG H k xs ss) (s : Same H H') : RowsG H' k xs ss := ⟨h.1, fun i g hg => let ⟨t, zs, e, z, l⟩ := h.2 i g hg; ⟨t, zs, e, s _ _ z, l⟩⟩
def PairsAt (H : Hp) (xs : List V) (ps : List (Int × Int)) : Prop := xs.length = ps.length ∧ ∀ (i : Nat) (g : Int × Int), ps[i]? = some g → ∃ t : Addr, xs[i]? = some (.ref t) ∧ H t = some (.tup [.int g.1, .int g.2])
theorem PairsAt.keep {H H' : Hp} {xs : List V} {ls : List (Int × Int)} (h : PairsAt H xs ls) (s : Same H H') : PairsAt H' xs ls := ⟨h.1, fun i g hg => let ⟨t, e, z⟩ := h.2 i g hg; ⟨t, e, s _ _ z⟩⟩
theorem PairsAt.upd {H : Hp} {L : Addr} {zs xs : List V} {o : HO} {ls : List (Int × Int)} (h : PairsAt H xs ls) (e : H L = some (.lst zs)) : PairsAt (L2.upd H L o) xs ls := ⟨h.1, fun i g hg => let ⟨t, e1, z⟩ := h.2 i g hg; ⟨t, e1, (upd_ne (fun y => by rw [y, e] at z; cases z)).trans z⟩⟩
theorem PairsAt.nil {H : Hp} : PairsAt H [] [] := ⟨rfl, fun i g h => by simp at h⟩
theorem PairsAt.snoc {H : Hp} {xs : List V} {ls : List (Int × Int)} {t : Addr} {g : Int × Int} (h : PairsAt H xs ls) (e : H t = some (.tup [.int g.1, .int g.2])) : PairsAt H (xs ++ [.ref t]) (ls ++ [g]) := ⟨by rw [List.length_append, List.length_append, h.1]; rfl, fun i g' hg => by
  by_cases hi : i < ls.length
  · rw [List.getElem?_append_left hi] at hg
    rw [List.getElem?_append_left (by rw [h.1]; exact hi)]
    exact h.2 i g' hg
  · have hl := (List.getElem?_eq_some_iff.mp hg).1
    rw [List.length_append, List.length_singleton] at hl
    obtain rfl : i = ls.length := by omega
    rw [List.getElem?_append_right (Nat.le_refl _), Nat.sub_self] at hg
    obtain rfl : g = g' := by simpa using hg
    exact ⟨t, by rw [← h.1, List.getElem?_append_right (Nat.le_refl _), Nat.sub_self]; rfl, e⟩⟩
theorem PairsAt.get {H : Hp} {xs : List V} {ls : List (Int × Int)} {i : Nat} {x : V} (h : PairsAt H xs ls) (hx : xs[i]? = some x) : ∃ (t : Addr) (g : Int × Int), x = .ref t ∧ ls[i]? = some g ∧ H t = some (.tup [.int g.1, .int g.2]) := by
  obtain ⟨l, hl⟩ : ∃ l, ls[i]? = some l := ⟨_, List.getElem?_eq_getElem (by have := (List.getElem?_eq_some_iff.mp hx).1; rw [h.1] at this; exact this)⟩
  obtain ⟨t, e, z⟩ := h.2 i l hl
  exact ⟨t, l, Option.some.inj (hx.symm.trans e), hl, z⟩
theorem getD_of {α : Type} {l : List α} {i : Nat} {x d : α} (h : l[i]? = some x) : l.getD i d = x := by
  rw [List.getD_eq_getElem?_getD, h]; rfl
def spHand : Sp := fun vs H Q _ => ∃ (p : Addr) (n fs fr : Int) (xs : List V) (ps : List (Int × Int)), vs = [.int n, .ref p, .int fs, .int fr] ∧ H p = some (.lst xs) ∧ PairsAt H xs ps ∧ ∀ v H', Same H H' → FltAt H' v (handF n fs fr ps) → Q v H'
def spAgain : Sp := fun vs H Q _ => ∃ (p r : Addr) (ks ts : List Int), vs = [.ref p, .ref r] ∧ H p = some (.lst (ks.map V.int)) ∧ H r = some (.lst (ts.map V.int)) ∧ ks.length ≤ 1000 ∧ ts.length ≤ 1000 ∧ ∀ v H', Same H H' → FltAt H' v (againF ks ts) → Q v H'
def spNobody : Sp := fun vs H Q _ => ∃ (p r : Addr) (ws ks : List Int), vs = [.ref p, .ref r] ∧ H p = some (.lst (ws.map V.int)) ∧ H r = some (.lst (ks.map V.int)) ∧ ks.length ≤ 4000 ∧ ∀ v H', Same H H' → FltAt H' v (nobodyF ws ks) → Q v H'

/-! ### rows of any kind -/
def primV : V → Bool
  | .int _ => true
  | .bl _ => true
  | .str _ => true
  | .non => true
  | _ => false
def isI : V → Bool
  | .int _ => true
  | _ => false
theorem prim_int {K : PySem.W.Frag} {H : Hp} {y : V} (h : primV y = true) : IntV K H y (isI y) := by
  cases y with
  | non => exact ⟨_, false, false, .base .non, kit_ty (by decide +kernel), kit_ty (by decide +kernel), rfl⟩
  | bl b => exact ⟨_, true, true, .base (.bl _), kit_ty (by decide +kernel), kit_ty (by decide +kernel), rfl⟩
  | int i => exact IntV.int
  | str s => exact ⟨_, false, false, .base (.str _), kit_ty (by decide +kernel), kit_ty (by decide +kernel), rfl⟩
  | byt _ => cases h
  | flt _ => cases h
  | ref _ => cases h
  | ty _ => cases h
theorem kit_own {K : PySem.W.Frag} {C : Addr} {n : String} (h : PySem.W.subIn K (.ref C) (.type n) = some false) (hm : PySem.W.kitMeta n = true) : PySem.W.kitOne K (.ref C) (.type n) = some false := by
  unfold PySem.W.kitOne PySem.W.kitCls
  rw [if_neg (by simp)]
  show (if PySem.W.kitMeta n = true then PySem.W.subIn K (.ref C) (.type n) else none) = some false
  rw [if_pos hm]
  exact h
theorem form_okS {ss : List Int} (h : ∀ s, s ∈ ss → okStart s = true) : formS ss = none := by
  unfold formS
  rw [first_none fun i hi => ?_]
  · rfl
  · rw [getD_of (List.getElem?_eq_getElem hi), h _ (List.getElem_mem hi)]
    rfl
/-- a thing that is no tuple; what of it lies in the heap lies outside av -/
def NoTup (M : Addr) (av : List Addr) (H : Hp) (x : V) : Prop := primV x = true ∨ ∃ p, x = .ref p ∧ p ∉ av ∧ ((∃ xs, H p = some (.lst xs)) ∨ H p = some (.dK []) ∨ ∃ dx fs, H p = some (.ins M dx fs))
/-- a row of three ints, or another thing -/
def RowK (M : Addr) (av : List Addr) (H : Hp) (x : V) : Option L3 → Prop
  | some l => ∃ t, x = .ref t ∧ H t = some (.tup (triV l))
  | none => NoTup M av H x ∨ ∃ t xs, x = .ref t ∧ H t = some (.tup xs) ∧ xs.all primV = true ∧ (xs.length ≠ 3 ∨ xs.all isI = false)
def RowsK (M : Addr) (av : List Addr) (H : Hp) (xs : List V) (os : List (Option L3)) : Prop := xs.length = os.length ∧ ∀ (i : Nat) (o : Option L3), os[i]? = some o → ∃ x, xs[i]? = some x ∧ RowK M av H x o
theorem NoTup.keep {M : Addr} {av : List Addr} {H H' : Hp} {x : V} (h : NoTup M av H x) (s : Same H H') : NoTup M av H' x := by
  rcases h with h | ⟨p, e, n, ⟨xs, h⟩ | h | ⟨dx, fs, h⟩⟩
  · exact .inl h
  · exact .inr ⟨p, e, n, .inl ⟨xs, s _ _ h⟩⟩
  · exact .inr ⟨p, e, n, .inr (.inl (s _ _ h))⟩
  · exact .inr ⟨p, e, n, .inr (.inr ⟨dx, fs, s _ _ h⟩)⟩
theorem RowK.keep {M : Addr} {av : List Addr} {H H' : Hp} {x : V} {o : Option L3} (h : RowK M av H x o) (s : Same H H') : RowK M av H' x o := by
  cases o with
  | some l => obtain ⟨t, e, h⟩ := h; exact ⟨t, e, s _ _ h⟩
  | none =>
    rcases h with h | ⟨t, xs, e, h, r⟩
    · exact .inl (h.keep s)
    · exact .inr ⟨t, xs, e, s _ _ h, r⟩
theorem RowsK.keep {M : Addr} {av : List Addr} {H H' : Hp} {xs : List V} {os : List (Option L3)} (h : RowsK M av H xs os) (s : Same H H') : RowsK M av H' xs os := ⟨h.1, fun i o ho => let ⟨x, e, r⟩ := h.2 i o ho; ⟨x, e, r.keep s⟩⟩
theorem RowsK.get {M : Addr} {av : List Addr} {H : Hp} {xs : List V} {os : List (Option L3)} {i : Nat} {x : V} (h : RowsK M av H xs os) (hx : xs[i]? = some x) : ∃ o, os[i]? = some o ∧ RowK M av H x o := by
  obtain ⟨o, ho⟩ : ∃ o, os[i]? = some o := ⟨_, List.getElem?_eq_getElem (by have := (List.getElem?_eq_some_iff.mp hx).1; rw [h.1] at this; exact this)⟩
  obtain ⟨y, e, r⟩ := h.2 i o ho
  rw [hx] at e
  obtain rfl := Option.some.inj e
  exact ⟨o, ho, r⟩
def okRow : Option L3 → Bool
  | some l => okStart l.2.2
  | none => false
def formO (os : List (Option L3)) : Flt := atIx "form" (first (fun i => !okRow (os.getD i none)) os.length)
/-- no row of another kind: all are rows of three ints -/
theorem formO_none {os : List (Option L3)} (h : formO os = none) : ∃ rs : List L3, os = rs.map some ∧ formS (rs.map (·.2.2)) = none := by
  have hb : ∀ i, i < os.length → okRow (os.getD i none) = true := by
    unfold formO atIx at h
    rw [Option.map_eq_none_iff] at h
    intro i hi
    have := first_no h i hi
    simpa using this
  have hs : ∀ o, o ∈ os → ∃ l, o = some l ∧ okStart l.2.2 = true := fun o ho => by
    obtain ⟨i, hi⟩ := List.mem_iff_getElem?.mp ho
    have := hb i (List.getElem?_eq_some_iff.mp hi).1
    rw [getD_of hi] at this
    cases o with
    | none => cases this
    | some l => exact ⟨l, rfl, this⟩
  refine ⟨os.filterMap id, ?_, ?_⟩
  · clear h hb
    induction os with
    | nil => rfl
    | cons o os ih =>
      obtain ⟨l, rfl, _⟩ := hs o (List.mem_cons_self ..)
      show some l :: os = (l :: os.filterMap id).map some
      rw [List.map_cons, ← ih fun o ho => hs o (List.mem_cons_of_mem _ ho)]
  · refine form_okS fun s hm => ?_
    obtain ⟨l, hl, rfl⟩ := List.mem_map.mp hm
    obtain ⟨o, ho, e⟩ := List.mem_filterMap.mp hl
    obtain ⟨l', e', k⟩ := hs o ho
    have e : o = some l := e
    rw [e] at e'
    obtain rfl := Option.some.inj e'
    exact k
theorem RowsK.tris {M : Addr} {av : List Addr} {H : Hp} {xs : List V} {rs : List L3} (h : RowsK M av H xs (rs.map some)) : TrisAt H xs rs := ⟨by rw [h.1, List.length_map], fun i l hl => by
  obtain ⟨x, e, r⟩ := h.2 i (some l) (by rw [List.getElem?_map, hl]; rfl)
  obtain ⟨t, rfl, et⟩ := r
  exact ⟨t, e, et⟩⟩
theorem TrisAt.rows {M : Addr} {av : List Addr} {H : Hp} {xs : List V} {rs : List L3} (h : TrisAt H xs rs) : RowsK M av H xs (rs.map some) := ⟨by rw [h.1, List.length_map], fun i o ho => by
  rw [List.getElem?_map] at ho
  cases e : rs[i]? with
  | none => rw [e] at ho; cases ho
  | some l =>
    rw [e] at ho
    obtain rfl := Option.some.inj ho
    obtain ⟨t, e1, e2⟩ := h.2 i l e
    exact ⟨_, e1, t, rfl, e2⟩⟩
theorem NoTup.ty {K : PySem.W.Frag} {mg : Str → Option Value} {a : Adr} (T : Txt K mg a) {av : List Addr} {H : Hp} {x : V} (h : NoTup a.c_Machine av H x) : ∃ t, TyX K H x t ∧ PySem.W.kitOne K t (.type "tuple") = some false := by
  rcases h with h | ⟨p, rfl, n, ⟨xs, h⟩ | h | ⟨dx, fs, h⟩⟩
  · cases x with
    | non => exact ⟨_, .base .non, kit_ty (by decide +kernel)⟩
    | bl b => exact ⟨_, .base (.bl _), kit_ty (by decide +kernel)⟩
    | int i => exact ⟨_, .base (.int _), kit_ty (by decide +kernel)⟩
    | str s => exact ⟨_, .base (.str _), kit_ty (by decide +kernel)⟩
    | byt _ => cases h
    | flt _ => cases h
    | ref _ => cases h
    | ty _ => cases h
  · exact ⟨_, .base (.lst h), kit_ty (by decide +kernel)⟩
  · exact ⟨_, .base (.dK h), kit_ty (by decide +kernel)⟩
  · exact ⟨_, .base (.ins h T.cl_Machine T.ca_Machine T.cg_Machine T.ct_Machine T.co_Machine), kit_own T.su_tuple_Machine (by decide +kernel)⟩
/-- a thing handed in as a plan: rows in a list or a tuple, or another thing -/
def WholeK (M : Addr) (av : List Addr) (H : Hp) (x : V) : Option (List (Option L3)) → Prop
  | some os => ∃ p xs, x = .ref p ∧ SeqV H p xs ∧ RowsK M av H xs os
  | none => primV x = true ∨ ∃ p, x = .ref p ∧ (H p = some (.dK []) ∨ ∃ dx fs, H p = some (.ins M dx fs))
def formW (most : Int) : Option (List (Option L3)) → Flt
  | none => some ("form", -1)
  | some os => if (os.length : Int) > most then some ("form", -1) else formO os
theorem formW_big {most : Int} {os : List (Option L3)} (h : most < (os.length : Int)) : formW most (some os) = some (("form" : Str), (-1 : Int)) := by
  show (if (os.length : Int) > most then _ else _) = _
  rw [if_pos h]
theorem formW_small {most : Int} {os : List (Option L3)} (h : ¬ most < (os.length : Int)) : formW most (some os) = formO os := by
  show (if (os.length : Int) > most then _ else _) = _
  rw [if_neg h]
theorem no_lt {K : PySem.W.Frag} {mg : Str → Option Value} {a : Adr} (T : Txt K mg a) {H : Hp} {x : V} (h : primV x = true ∨ ∃ p, x = .ref p ∧ (H p = some (.dK []) ∨ ∃ dx fs, H p = some (.ins a.c_Machine dx fs))) : ∃ t, TyX K H x t ∧ PySem.W.kitAny K t [.type "list", .type "tuple"] = some false := by
  have two : ∀ {t : Value}, PySem.W.kitOne K t (.type "list") = some false → PySem.W.kitOne K t (.type "tuple") = some false → PySem.W.kitAny K t [.type "list", .type "tuple"] = some false := fun h1 h2 => kitAny_cons (b := false) h1 (fun _ => kitAny_cons (b := false) h2 (fun _ => rfl) (fun z => Bool.noConfusion z)) (fun z => Bool.noConfusion z)
  rcases h with h | ⟨p, rfl, h | ⟨dx, fs, h⟩⟩
  · cases x with
    | non => exact ⟨_, .base .non, two (kit_ty (by decide +kernel)) (kit_ty (by decide +kernel))⟩
    | bl b => exact ⟨_, .base (.bl _), two (kit_ty (by decide +kernel)) (kit_ty (by decide +kernel))⟩
    | int i => exact ⟨_, .base (.int _), two (kit_ty (by decide +kernel)) (kit_ty (by decide +kernel))⟩
    | str s => exact ⟨_, .base (.str _), two (kit_ty (by decide +kernel)) (kit_ty (by decide +kernel))⟩
    | byt _ => cases h
    | flt _ => cases h
    | ref _ => cases h
    | ty _ => cases h
  · exact ⟨_, .base (.dK h), two (kit_ty (by decide +kernel)) (kit_ty (by decide +kernel))⟩
  · exact ⟨_, .base (.ins h T.cl_Machine T.ca_Machine T.cg_Machine T.ct_Machine T.co_Machine), two (kit_own T.su_list_Machine (by decide +kernel)) (kit_own T.su_tuple_Machine (by decide +kernel))⟩

/-! ### is_row and form_fault of things of any kind -/
def spIsRow (M : Addr) : Sp := fun vs H Q _ => ∃ (av : List Addr) (x : V) (o : Option L3), vs = [x, .int 3] ∧ RowK M av H x o ∧ Q (.bl (okRow o)) H
def spForm (M : Addr) : Sp := fun vs H Q _ => ∃ (av : List Addr) (x : V) (most : Int) (wh : Option (List (Option L3))), vs = [x, .int most, .int 3] ∧ WholeK M av H x wh ∧ ∀ v H', Same H H' → FltAt H' v (formW most wh) → Q v H'
section
variable {P : Program} {w : World} {K : PySem.W.Frag} {mg : Str → Option Value} {base : Heap} {a : Adr}
theorem ok_is_row (T : Txt K mg a) : FnOk P w K mg base CX0 2 a.a_is_row a.d_is_row ["thing", "parts"] (spIsRow a.c_Machine) := by
  refine T.F_is_row.ok sc_is_row (fun vs H Q E h => ?_) (fun cdv A outer s H vs Q E hr h => ?_)
  · obtain ⟨av, x, o, rfl, _⟩ := h
    rfl
  · obtain ⟨av, x, o, rfl, hx, k⟩ := h
    refine ⟨_, (pss_cons (ps_if (PW.pt (pw_or (pt_not (pt_val (pe_callB call_isi (by rfl) T.n_isinstance (by decide +kernel) (pa_cons (pv 0) (pa_cons (pe_bltn (v := .ty "tuple") (u := .type "tuple") (by rfl) T.n_tuple (by decide +kernel) rfl) pa_nil))))) (pw_or1 (pt_cmpR op_ne (pe_callB call_len_seq (by rfl) T.n_len (by decide +kernel) (pa_cons (pv 0) pa_nil)) (pv 1) (nomark _))))) (pss_one (ps_ret pe_bl))
 pss_nil)
 (pss_cons (ps_for (by exact PassesOwn.never) rfl (pi_tup (pv 0)) (pg_name (i := 2) sc_is_row.nd rfl (Or.inl rfl))
 (pss_one (ps_if (pt_not (pt_val (pe_call (ok_is_integer T) (hr.mono (by decide)) (by rfl) T.g_is_integer T.F_is_integer.kp T.b_is_integer .nil pass0 (pa_cons (pv 2) pa_nil)))) (pss_one (ps_ret pe_bl))
 pss_nil)))
 (pss_one (ps_ret (pe_chain op_le op_le pe_int (pe_ix ix_tup (pv 0) (pe_un un_neg pe_int) (fun _ _ => rfl)) (pe_glob (v := .int 1000000000000000) (by rfl) T.g_LATEST_START.choose_spec ⟨_, rfl⟩)))))), ?_⟩
    cases o with
    | some l =>
      obtain ⟨t, rfl, et⟩ := hx
      repeat first | walk_at "rd" | walk_at "rdi"
      refine r_isiTu true et (by decide +kernel) ?_
      repeat first | walk_at "rd" | walk_at "rdi"
      refine ⟨t, rfl, ⟨_, SqT.of et⟩, for_tup (K := K) (a := t) (xs := triV l) (fun i σ H' => ∃ v2 : Option V, σ = [some (.ref t), some (.int 3), v2] ∧ H' = H) ⟨_, rfl, rfl⟩ (fun i σ H' _ ⟨_, _, e⟩ => by rw [e]; exact SqT.of et) ?_ ?_⟩
      · rintro i x σ H1 hi ⟨v2, rfl, rfl⟩
        obtain ⟨z, _, rfl⟩ := int_of_get (ns := [l.1, l.2.1, l.2.2]) hi
        repeat first | walk_at "rd" | walk_at "rdi"
        refine ⟨_, true, rfl, IntV.int, ?_⟩
        repeat first | exact ⟨_, rfl, rfl⟩ | walk_at "rd" | walk_at "rdi"
      · rintro σ H1 ⟨v2, rfl, rfl⟩
        repeat walk_at "rd"
        refine ite_d (fun hc => ?_) (fun hc => ?_)
        · repeat walk_at "rd"
          rw [show okRow (some l) = decide (l.2.2 ≤ 1000000000000000) from decide_eq_decide.mpr ⟨fun h => h.2, fun h => ⟨hc, h⟩⟩] at k
          exact k
        · rw [show okRow (some l) = false from decide_eq_false fun h => hc h.1] at k
          exact k
    | none =>
      rcases hx with hx | ⟨t, xs, rfl, et, hp, hbad⟩
      · obtain ⟨ty, tyx, hk⟩ := hx.ty T
        repeat first | walk_at "rd" | walk_at "rdi"
        refine r_isi tyx hk ?_
        repeat first | walk_at "rd" | walk_at "rdi"
        exact k
      · repeat first | walk_at "rd" | walk_at "rdi"
        refine r_isiTu true et (by decide +kernel) ?_
        repeat first | walk_at "rd" | walk_at "rdi"
        refine r_nD (fun hc => ?_) (fun hc => ?_)
        · repeat walk_at "rd"
          exact k
        · repeat walk_at "rd"
          refine ⟨t, rfl, ⟨_, SqT.of et⟩, for_tup (K := K) (a := t) (xs := xs) (fun i σ H' => ∃ v2 : Option V, σ = [some (.ref t), some (.int 3), v2] ∧ H' = H ∧ ∀ y, y ∈ xs.take i → isI y = true) ⟨_, rfl, rfl, fun y hy => by rw [List.take_zero] at hy; nomatch hy⟩ (fun i σ H' _ ⟨_, _, e, _⟩ => by rw [e]; exact SqT.of et) ?_ ?_⟩
          · rintro i x σ H1 hi ⟨v2, rfl, rfl, hI⟩
            have hpx : primV x = true := List.all_eq_true.mp hp x (List.mem_iff_getElem?.mpr ⟨i, hi⟩)
            repeat first | walk_at "rd" | walk_at "rdi"
            refine ⟨_, isI x, rfl, prim_int hpx, ?_⟩
            cases hb : isI x with
            | true =>
              have hI' : ∀ y, y ∈ xs.take (i + 1) → isI y = true := fun y hy => by
                rw [take_more hi] at hy
                rcases List.mem_append.mp hy with hy | hy
                · exact hI y hy
                · rw [List.mem_singleton] at hy; rw [hy]; exact hb
              repeat first | exact ⟨_, rfl, rfl, hI'⟩ | walk_at "rd" | walk_at "rdi"
            | false =>
              repeat first | exact k | walk_at "rd" | walk_at "rdi"
          · rintro σ H1 ⟨v2, rfl, rfl, hI⟩
            rw [List.take_length] at hI
            rcases hbad with hbad | hbad
            · omega
            · rw [List.all_eq_true.mpr hI] at hbad
              cases hbad
theorem ok_form_fault (T : Txt K mg a) : FnOk P w K mg base CX0 3 a.a_form_fault a.d_form_fault ["thing", "most", "parts"] (spForm a.c_Machine) := by
  refine T.F_form_fault.ok sc_form_fault (fun vs H Q E h => ?_) (fun cdv A outer s H vs Q E hr h => ?_)
  · obtain ⟨av, x, most, wh, rfl, _⟩ := h
    rfl
  · obtain ⟨av, x, most, wh, rfl, hx, k⟩ := h
    refine ⟨_, (pss_cons (ps_if (PW.pt (pw_or (pt_not (pt_val (pe_callB call_isiT (by rfl) T.n_isinstance (by decide +kernel) (pa_cons (pv 0) (pa_cons (pe_tup (pa_cons (pe_bltn (v := .ty "list") (u := .type "list") (by rfl) T.n_list (by decide +kernel) rfl) (pa_cons (pe_bltn (v := .ty "tuple") (u := .type "tuple") (by rfl) T.n_tuple (by decide +kernel) rfl) pa_nil))) pa_nil))))) (pw_or1 (pt_cmpR op_gt (pe_callB call_len_seq (by rfl) T.n_len (by decide +kernel) (pa_cons (pv 0) pa_nil)) (pv 1) (nomark _))))) (pss_one (ps_ret (pe_tup (pa_cons pe_str (pa_cons (pe_un un_neg pe_int) pa_nil)))))
 pss_nil)
 (pss_cons (ps_for (by exact PassesOwn.never) rfl (pi_enumS (by rfl) T.n_enumerate (pa_cons (pv 0) pa_nil)) (pg_tup (by rfl) (pgs_cons (pg_name (i := 3) sc_form_fault.nd rfl (Or.inl rfl)) (pgs_cons (pg_name (i := 4) sc_form_fault.nd rfl (Or.inl rfl)) pgs_nil)))
 (pss_one (ps_if (pt_not (pt_val (pe_call (ok_is_row T) (hr.mono (by decide)) (by rfl) T.g_is_row T.F_is_row.kp T.b_is_row .nil pass0 (pa_cons (pv 4) (pa_cons (pv 2) pa_nil))))) (pss_one (ps_ret (pe_tup (pa_cons pe_str (pa_cons (pv 3) pa_nil)))))
 pss_nil)))
 (pss_one (ps_ret pe_non)))), ?_⟩
    walk_at "rdi"
    repeat walk_at "rd"
    refine new_at (Nat.le_of_ble_eq_true rfl) (fun u H1 nu s1 e1 => ?_)
    cases wh with
    | none =>
      have hx' : primV x = true ∨ ∃ p, x = .ref p ∧ (H1 p = some (.dK []) ∨ ∃ dx fs, H1 p = some (.ins a.c_Machine dx fs)) := by
        rcases hx with h | ⟨p, e, h | ⟨dx, fs, h⟩⟩
        · exact .inl h
        · exact .inr ⟨p, e, .inl (s1 _ _ h)⟩
        · exact .inr ⟨p, e, .inr ⟨dx, fs, s1 _ _ h⟩⟩
      obtain ⟨ty, tyx, hk⟩ := no_lt T hx'
      repeat walk_at "rd"
      refine ⟨_, u, [.ty "list", .ty "tuple"], ty, [.type "list", .type "tuple"], false, rfl, e1, .cons (.ty _) (.cons (.ty _) .nil), tyx, hk, ?_⟩
      repeat first | walk_at "rd" | walk_at "rdi"
      refine new_at (Nat.le_of_ble_eq_true rfl) (fun z H2 nz s2 ez => ?_)
      exact k _ _ (s1.trans s2) ⟨z, rfl, ez⟩
    | some os =>
      obtain ⟨p, xs, rfl, ep, hA⟩ := hx
      have ep := ep.keep s1
      have hA := hA.keep s1
      have hl := hA.1
      obtain ⟨ty, tyx, hk⟩ := isiLT (K := K) ep
      repeat walk_at "rd"
      refine ⟨_, u, [.ty "list", .ty "tuple"], ty, [.type "list", .type "tuple"], true, rfl, e1, .cons (.ty _) (.cons (.ty _) .nil), tyx, hk, ?_⟩
      repeat walk_at "rd"
      refine r_lenS ep.sq ?_
      repeat walk_at "rd"
      refine ite_d (fun hm => ?_) (fun hm => ?_)
      · repeat first | walk_at "rd" | walk_at "rdi"
        refine new_at (Nat.le_of_ble_eq_true rfl) (fun z H2 nz s2 ez => ?_)
        refine k _ _ (s1.trans s2) ?_
        rw [formW_big (by omega)]
        exact ⟨z, rfl, ez⟩
      · have kk : ∀ v H', Same H H' → FltAt H' v (formO os) → Q v H' := fun v H' s f => k v H' s (by rw [formW_small (by omega)]; exact f)
        repeat first | walk_at "rd" | walk_at "rdi"
        refine r_enS2 (xs := xs) (by intro QA q; (repeat walk_at "rd"); exact q) ep (fun i σ H' => ∃ v3 v4 : Option V, σ = [some (.ref p), some (.int most), some (.int 3), v3, v4] ∧ Same H1 H' ∧ ∀ j, j < i → okRow (os.getD j none) = true) ⟨_, _, rfl, Same.refl _, fun j hj => absurd hj (by omega)⟩ (fun i σ H' ⟨_, _, _, s, _⟩ => s _) ?_ ?_
        · rintro i x σ H2 u2 H3 hx ⟨v3, v4, rfl, s2, hb⟩ nu2 rfl
          have s3 : Same H1 (upd H2 u2 (.tup [.int (i : Nat), x])) := s2.trans (Same.new nu2)
          obtain ⟨o, ho, hr⟩ := (hA.keep s3).get hx
          repeat first | walk_at "rd" | walk_at "rdi"
          refine ⟨av, x, o, rfl, hr, ?_⟩
          cases hok : okRow o with
          | true =>
            repeat first | exact ⟨_, _, rfl, s3, fun j hj => by
              by_cases c : j = i
              · subst c; rw [getD_of ho]; exact hok
              · exact hb j (by omega)⟩ | walk_at "rd" | walk_at "rdi"
          | false =>
            repeat first | walk_at "rd" | walk_at "rdi"
            refine new_at (Nat.le_of_ble_eq_true rfl) (fun z H4 nz s4 ez => ?_)
            refine kk _ _ ((s1.trans s3).trans s4) ?_
            have hi : i < os.length := (List.getElem?_eq_some_iff.mp ho).1
            unfold formO
            rw [first_some (i := i) hi (by rw [getD_of ho, hok]; rfl) (fun j hj => by rw [hb j hj]; rfl)]
            exact ⟨z, rfl, ez⟩
        · rintro σ H2 ⟨v3, v4, rfl, s2, hb⟩
          repeat walk_at "rd"
          refine kk _ _ (s1.trans s2) ?_
          rw [hl] at hb
          unfold formO
          rw [first_none (fun j hj => by rw [hb j hj]; rfl)]
          rfl
end

section
variable {P : Program} {w : World} {K : PySem.W.Frag} {mg : Str → Option Value} {base : Heap} {a : Adr}
theorem ok_hand_fault (T : Txt K mg a) : FnOk P w K mg base CX0 1 a.a_hand_fault a.d_hand_fault ["n", "pairs", "first_sender", "first_receiver"] spHand := by
  refine T.F_hand_fault.ok sc_hand_fault (fun vs H Q E h => ?_) (fun cdv A outer s H vs Q E hr h => ?_)
  · obtain ⟨p, n, fs, fr, xs, ps, rfl, _⟩ := h
    rfl
  · obtain ⟨p, n, fs, fr, xs, ps, rfl, ep, hA, k⟩ := h
    refine ⟨_, (pss_cons (ps_for (by exact PassesOwn.never) rfl (pi_enumS (by rfl) T.n_enumerate (pa_cons (pv 1) pa_nil)) (pg_tup (by rfl) (pgs_cons (pg_name (i := 4) sc_hand_fault.nd rfl (Or.inl rfl)) (pgs_cons (pg_tup (by rfl) (pgs_cons (pg_name (i := 5) sc_hand_fault.nd rfl (Or.inl rfl)) (pgs_cons (pg_name (i := 6) sc_hand_fault.nd rfl (Or.inl rfl)) pgs_nil))) pgs_nil)))
 (pss_one (ps_if (PW.pt (pw_or (pt_not (pt_chain op_le op_lt (pv 2) (pv 5) (pv 0))) (pw_or (pt_not (pt_chain op_le op_lt (pv 3) (pv 6) (pv 0))) (pw_or1 (pt_cmpR op_eq (pv 5) (pv 6) (nomark _)))))) (pss_one (ps_ret (pe_tup (pa_cons pe_str (pa_cons (pv 4) pa_nil)))))
 pss_nil)))
 (pss_one (ps_ret pe_non))), ?_⟩
    repeat walk_at "rd"
    refine r_enS2 (xs := xs) (by intro QA q; (repeat walk_at "rd"); exact q) (.inl ep) (fun i σ H' => ∃ v4 v5 v6 : Option V, σ = [some (.int n), some (.ref p), some (.int fs), some (.int fr), v4, v5, v6] ∧ Same H H' ∧ ∀ j, j < i → badHand n fs fr (ps.getD j (0, 0)) = false) ⟨_, _, _, rfl, Same.refl _, fun j hj => absurd hj (by omega)⟩ (fun i σ H' ⟨_, _, _, _, s, _⟩ => s _) ?_ ?_
    · rintro i x σ H2 u2 H3 hx ⟨v4, v5, v6, rfl, s2, hb⟩ nu2 rfl
      have s3 : Same H (upd H2 u2 (.tup [.int (i : Nat), x])) := s2.trans (Same.new nu2)
      obtain ⟨t, g, rfl, hg, et⟩ := (hA.keep s3).get hx
      have hi : i < ps.length := (List.getElem?_eq_some_iff.mp hg).1
      have fin : ∀ D : Ends, D.rt = Q → badHand n fs fr g = true → tRet (tTup (tCons (tC (.str "hand")) (tCons (tVar 4) tNil))) D [some (.int n), some (.ref p), some (.int fs), some (.int fr), some (.int (i : Nat)), some (.int g.1), some (.int g.2)] (upd H2 u2 (.tup [.int (i : Nat), .ref t])) := fun D hD hbad => by
        repeat walk_at "rd"
        refine new_at (Nat.le_of_ble_eq_true rfl) (fun z H4 nz s4 ez => ?_)
        rw [hD]
        refine k _ _ (s3.trans s4) ?_
        unfold handF
        rw [first_some (i := i) hi (by rw [getD_of hg]; exact hbad) hb]
        exact ⟨z, rfl, ez⟩
      have go : badHand n fs fr g = false → ∃ v4' v5' v6' : Option V, [some (.int n), some (.ref p), some (.int fs), some (.int fr), some (.int (i : Nat)), some (.int g.1), some (.int g.2)] = [some (.int n), some (.ref p), some (.int fs), some (.int fr), v4', v5', v6'] ∧ Same H (upd H2 u2 (.tup [.int (i : Nat), .ref t])) ∧ ∀ j, j < i + 1 → badHand n fs fr (ps.getD j (0, 0)) = false := fun h => ⟨_, _, _, rfl, s3, fun j hj => by
        by_cases c : j = i
        · subst c; rw [getD_of hg]; exact h
        · exact hb j (by omega)⟩
      have bad : ¬ ((fs ≤ g.1 ∧ g.1 < n) ∧ (fr ≤ g.2 ∧ g.2 < n) ∧ g.1 ≠ g.2) → badHand n fs fr g = true := fun h => by unfold badHand; rw [decide_eq_false h]; rfl
      repeat first | walk_at "rd" | walk_at "rdi"
      refine ite_d (fun c1 => ?_) (fun c1 => ?_)
      · repeat first | walk_at "rd" | walk_at "rdi"
        refine r_nD (fun c2 => ?_) (fun c2 => ?_)
        · exact fin _ rfl (bad (by omega))
        · repeat first | walk_at "rd" | walk_at "rdi"
          refine ite_d (fun c3 => ?_) (fun c3 => ?_)
          · repeat first | walk_at "rd" | walk_at "rdi"
            refine r_nD (fun c4 => ?_) (fun c4 => ?_)
            · exact fin _ rfl (bad (by omega))
            · repeat first | walk_at "rd" | walk_at "rdi"
              refine ite_d (fun c5 => ?_) (fun c5 => ?_)
              · exact fin _ rfl (bad (by omega))
              · have := go (by unfold badHand; rw [decide_eq_true ⟨⟨c1, c2⟩, ⟨c3, c4⟩, c5⟩]; rfl)
                repeat first | exact this | walk_at "rd"
          · repeat first | exact fin _ rfl (bad (by omega)) | walk_at "rd"
      · repeat first | exact fin _ rfl (bad (by omega)) | walk_at "rd"
    · rintro σ H2 ⟨v4, v5, v6, rfl, s2, hb⟩
      repeat walk_at "rd"
      refine k _ _ s2 ?_
      rw [hA.1] at hb
      unfold handF
      rw [first_none hb]
      rfl
theorem ok_again_fault (T : Txt K mg a) : FnOk P w K mg base CX0 1 a.a_again_fault a.d_again_fault ["keys", "taken"] spAgain := by
  refine T.F_again_fault.ok sc_again_fault (fun vs H Q E h => ?_) (fun cdv A outer s H vs Q E hr h => ?_)
  · obtain ⟨p, r, ks, ts, rfl, _⟩ := h
    rfl
  · obtain ⟨p, r, ks, ts, rfl, ep, er, hk9, ht9, k⟩ := h
    refine ⟨_, (pss_cons (ps_set (i := 2) sc_again_fault.nd rfl (Or.inl rfl) (pe_callTy (cr_setI rfl) (by rfl) T.n_set (by decide +kernel) (pa_cons (pv 1) pa_nil)))
 (pss_cons (ps_for (by exact PassesOwn.never) rfl (pi_enumS (by rfl) T.n_enumerate (pa_cons (pv 0) pa_nil)) (pg_tup (by rfl) (pgs_cons (pg_name (i := 3) sc_again_fault.nd rfl (Or.inl rfl)) (pgs_cons (pg_name (i := 4) sc_again_fault.nd rfl (Or.inl rfl)) pgs_nil)))
 (pss_cons (ps_if (pt_cmpR or_inI (pv 4) (pv 2) (by rfl)) (pss_one (ps_ret (pe_tup (pa_cons pe_str (pa_cons (pv 3) pa_nil)))))
 pss_nil)
 (pss_one (ps_expr (pe_addI (pv 2) (pa_cons (pv 4) pa_nil))))))
 (pss_one (ps_ret pe_non)))), ?_⟩
    repeat walk_at "rd"
    refine ⟨r, ts, rfl, SqL.of er, by omega, fun c n nc hn => ?_⟩
    repeat walk_at "rd"
    have npc : p ≠ c := ne_of_none ep nc
    refine r_enS2 (xs := ks.map V.int) (by intro QA q; (repeat walk_at "rd"); exact q) (.inl ((upd_ne npc).trans ep)) (fun i σ H' => ∃ (v3 v4 : Option V) (S : Int → Bool) (m : Nat), σ = [some (.ref p), some (.ref r), some (.ref c), v3, v4] ∧ H' c = some (SetI P w c S m) ∧ (∀ j, S j = decide (j ∈ ts ++ ks.take i)) ∧ m ≤ ts.length + i ∧ Same H H' ∧ ∀ j, j < i → decide (ks.getD j 0 ∈ ts ++ ks.take j) = false) ⟨_, _, _, n, rfl, upd_same, fun j => by rw [List.take_zero, List.append_nil], hn, Same.new nc, fun j hj => absurd hj (by omega)⟩ (fun i σ H' ⟨_, _, _, _, _, _, _, _, s, _⟩ o ho => s _ _ ((upd_ne npc).symm.trans ho)) ?_ ?_
    · rintro i x σ H2 u2 H3 hx ⟨v3, v4, S, m, rfl, ec, hS, hm, s2, hb⟩ nu2 rfl
      have s3 : Same H (upd H2 u2 (.tup [.int (i : Nat), x])) := s2.trans (Same.new nu2)
      have ec : upd H2 u2 (.tup [.int (i : Nat), x]) c = some (SetI P w c S m) := (upd_ne (ne_of_none ec nu2)).trans ec
      obtain ⟨z, hz, rfl⟩ := int_of_get hx
      have hi : i < ks.length := (List.getElem?_eq_some_iff.mp hz).1
      have eu2 : upd H2 u2 (.tup [.int (i : Nat), .int z]) u2 = some (.tup [.int (i : Nat), .int z]) := upd_same
      generalize upd H2 u2 (.tup [.int (i : Nat), .int z]) = H3 at s3 ec eu2 ⊢
      repeat first | walk_at "rd" | walk_at "rdi"
      refine r_inI ec ?_
      rw [hS z]
      repeat first | walk_at "rd" | walk_at "rdi"
      refine ite_d (fun hc => ?_) (fun hc => ?_)
      · repeat walk_at "rd"
        refine new_at (Nat.le_of_ble_eq_true rfl) (fun z' H4 nz s4 ez => ?_)
        refine k _ _ (s3.trans s4) ?_
        unfold againF
        rw [first_some (i := i) hi (by rw [getD_of hz]; exact decide_eq_true hc) hb]
        exact ⟨z', rfl, ez⟩
      · repeat walk_at "rd"
        refine r_addI ?_
        repeat walk_at "rd"
        refine ⟨⟨c, _, _, rfl, ec⟩, ?_⟩
        repeat walk_at "rd"
        refine ⟨c, z, S, m, rfl, rfl, ec, by omega, fun m' hm' => ?_⟩
        refine ⟨_, _, _, m', rfl, upd_same, fun j => ?_, by omega, s3.over nc ec, fun j hj => ?_⟩
        · show (S j || decide (j = z)) = _
          rw [hS j, take_more hz, ← List.append_assoc, Bool.eq_iff_iff, Bool.or_eq_true, decide_eq_true_eq, decide_eq_true_eq, decide_eq_true_eq, List.mem_append (t := [z]), List.mem_singleton]
        · by_cases e : j = i
          · subst e
            rw [getD_of hz]
            exact decide_eq_false hc
          · exact hb j (by omega)
    · rintro σ H2 ⟨v3, v4, S, m, rfl, ec, hS, hm, s2, hb⟩
      rw [List.length_map] at hb
      repeat walk_at "rd"
      refine k _ _ s2 ?_
      unfold againF
      rw [first_none hb]
      rfl
theorem find_none_take {ws : List Int} {f : Int → Bool} (h : ∀ j, j < ws.length → f (ws.getD j 0) = false) : ws.find? f = none := by
  rw [List.find?_eq_none]
  intro x hx
  obtain ⟨i, hi⟩ := List.mem_iff_getElem?.mp hx
  have := h i (List.getElem?_eq_some_iff.mp hi).1
  rw [getD_of hi] at this
  rw [this]
  exact Bool.false_ne_true
theorem find_some_at {ws : List Int} {f : Int → Bool} {i : Nat} {z : Int} (hz : ws[i]? = some z) (hf : f z = true) (h : ∀ j, j < i → f (ws.getD j 0) = false) : ws.find? f = some z := by
  have hi := (List.getElem?_eq_some_iff.mp hz).1
  have e : ws = ws.take i ++ z :: ws.drop (i + 1) := by
    conv => lhs; rw [← List.take_append_drop i ws]
    rw [List.drop_eq_getElem_cons hi, (List.getElem?_eq_some_iff.mp hz).2]
  rw [e, List.find?_append]
  have hn : (ws.take i).find? f = none := find_none_take fun j hj => by
    rw [List.length_take] at hj
    have := h j (by omega)
    rw [List.getD_eq_getElem?_getD, List.getElem?_take, if_pos (by omega), ← List.getD_eq_getElem?_getD]
    exact this
  rw [hn, List.find?_cons, hf]
  rfl
theorem ok_nobody_fault (T : Txt K mg a) : FnOk P w K mg base CX0 1 a.a_nobody_fault a.d_nobody_fault ["wanted", "keys"] spNobody := by
  refine T.F_nobody_fault.ok sc_nobody_fault (fun vs H Q E h => ?_) (fun cdv A outer s H vs Q E hr h => ?_)
  · obtain ⟨p, r, ws, ks, rfl, _⟩ := h
    rfl
  · obtain ⟨p, r, ws, ks, rfl, ep, er, hk9, k⟩ := h
    refine ⟨_, (pss_cons (ps_set (i := 2) sc_nobody_fault.nd rfl (Or.inl rfl) (pe_callTy (cr_setI rfl) (by rfl) T.n_set (by decide +kernel) (pa_cons (pv 1) pa_nil)))
 (pss_cons (ps_for (by exact PassesOwn.never) rfl (pi_list (pv 0)) (pg_name (i := 3) sc_nobody_fault.nd rfl (Or.inl rfl))
 (pss_one (ps_if (pt_cmpR or_ninI (pv 3) (pv 2) (by rfl)) (pss_one (ps_ret (pe_tup (pa_cons pe_str (pa_cons (pv 3) pa_nil)))))
 pss_nil)))
 (pss_one (ps_ret pe_non)))), ?_⟩
    repeat walk_at "rd"
    refine ⟨r, ks, rfl, SqL.of er, hk9, fun c n nc hn => ?_⟩
    have npc : p ≠ c := ne_of_none ep nc
    have s1 : Same H (upd H c (SetI P w c (fun k => decide (k ∈ ks)) n)) := Same.new nc
    have ec : upd H c (SetI P w c (fun k => decide (k ∈ ks)) n) c = some (SetI P w c (fun k => decide (k ∈ ks)) n) := upd_same
    have k : ∀ v H', Same (upd H c (SetI P w c (fun k => decide (k ∈ ks)) n)) H' → FltAt H' v (nobodyF ws ks) → Q v H' := fun v H' h1 h2 => k v H' (s1.trans h1) h2
    have ep := s1 _ _ ep
    have goal_ : ∀ H1 : Hp, H1 = upd H c (SetI P w c (fun k => decide (k ∈ ks)) n) → True := fun _ _ => trivial
    clear goal_
    generalize hH1 : upd H c (SetI P w c (fun k => decide (k ∈ ks)) n) = H1 at ec k ep
    have hH1' : upd H c (SetI (cxOf CX0 P w K mg base ["wanted", "keys", "found", "key"] "nobody_fault" (defScope s_nobody_fault) a.a_nobody_fault cdv A outer s H E).nox.prog (cxOf CX0 P w K mg base ["wanted", "keys", "found", "key"] "nobody_fault" (defScope s_nobody_fault) a.a_nobody_fault cdv A outer s H E).nox.w c (fun k => decide (k ∈ ks)) n) = H1 := hH1
    rw [hH1']
    clear hH1 hH1' s1
    repeat walk_at "rd"
    refine ⟨p, rfl, ⟨_, SqL.of ep⟩, for_list (K := K) (a := p) (xs := ws.map V.int) (fun i σ H' => ∃ v3 : Option V, σ = [some (.ref p), some (.ref r), some (.ref c), v3] ∧ H' = H1 ∧ ∀ j, j < i → (!decide (ws.getD j 0 ∈ ks)) = false) ⟨_, rfl, rfl, fun j hj => absurd hj (by omega)⟩ (fun i σ H' _ ⟨_, _, e, _⟩ => by rw [e]; exact SqL.of ep) ?_ ?_⟩
    · rintro i x σ H2 hx ⟨v3, rfl, rfl, hb⟩
      obtain ⟨z, hz, rfl⟩ := int_of_get hx
      repeat first | walk_at "rd" | walk_at "rdi"
      refine r_ninI ec ?_
      repeat first | walk_at "rd" | walk_at "rdi"
      refine r_nD (fun hc => ?_) (fun hc => ?_)
      · repeat walk_at "rd"
        refine new_at (Nat.le_of_ble_eq_true rfl) (fun z' H4 nz s4 ez => ?_)
        refine k _ _ s4 ?_
        unfold nobodyF
        rw [find_some_at hz (by rw [decide_eq_false hc]; rfl) hb]
        exact ⟨z', rfl, ez⟩
      · repeat first | exact ⟨_, rfl, rfl, fun j hj => by
          by_cases e : j = i
          · subst e; rw [getD_of hz, decide_eq_true hc]; rfl
          · exact hb j (by omega)⟩ | walk_at "rd"
    · rintro σ H2 ⟨v3, rfl, rfl, hb⟩
      rw [List.length_map] at hb
      repeat walk_at "rd"
      refine k _ _ (Same.refl _) ?_
      unfold nobodyF
      rw [find_none_take hb]
      rfl
end

/-! ### the program's faults, read: early, near -/
theorem sl_tupK {X : Cx} {K : PySem.W.Frag} (hK : X.K = K) : SlR X (rSlT K) := by subst hK; exact sl_tup
theorem r_dc {wi : TI} {g : TG} {tt : TT} {tk tv : TE} {vs : List Nat} {σ : St} {H : Hp} {Q : VK} (h : wi σ H fun J H1 => ∀ D, H1 D = none → ∃ W : Nat → Nat → Hp → Prop, (∃ m, W 0 m (upd H1 D (.dK []))) ∧ ∀ i m H, W i m H →
  (J.stop i H ∧ Q (.ref D) H) ∨ (J.go i H ∧ ∃ Nx : Hp → Prop, (∀ H', Nx H' → ∃ m', m' < m ∧ W (i + 1) m' H') ∧ ∀ x H', J.yld i H x H' → g x (wipe σ vs) H' fun σ2 H2 => wipe σ2 vs = wipe σ vs ∧ tt σ2 H2 fun b H3 =>
    if b = true then tk σ2 H3 fun y H4 => tv σ2 H4 fun z H5 => ∃ kvs k, y = kV k ∧ H5 D = some (.dK kvs) ∧ kvs.length < sizeLine ∧ Nx (upd H5 D (.dK (putK kvs k z))) else Nx H3)) : tDc wi g tt tk tv vs σ H Q := h
theorem dc_list {K : PySem.W.Frag} {a : Addr} {xs : List V} {g : TG} {tt : TT} {tk tv : TE} {vs : List Nat} {σ : St} {H1 : Hp} {D : Addr} {Qd : Hp → Prop} (Pv : Nat → Hp → Prop) (h0 : Pv 0 (upd H1 D (.dK []))) (hl : ∀ i H, Pv i H → SqL K H a xs)
    (hs : ∀ i x H, xs[i]? = some x → Pv i H → g x (wipe σ vs) H fun σ2 H2 => wipe σ2 vs = wipe σ vs ∧ tt σ2 H2 fun b H3 => if b = true then tk σ2 H3 fun y H4 => tv σ2 H4 fun z H5 => ∃ kvs k, y = kV k ∧ H5 D = some (.dK kvs) ∧ kvs.length < sizeLine ∧ Pv (i + 1) (upd H5 D (.dK (putK kvs k z))) else Pv (i + 1) H3)
    (hd : ∀ H, Pv xs.length H → Qd H) :
    ∃ W : Nat → Nat → Hp → Prop, (∃ m, W 0 m (upd H1 D (.dK []))) ∧ ∀ i m H, W i m H → ((Itl K a).stop i H ∧ Qd H) ∨ ((Itl K a).go i H ∧ ∃ Nx : Hp → Prop, (∀ H', Nx H' → ∃ m', m' < m ∧ W (i + 1) m' H') ∧ ∀ x H', (Itl K a).yld i H x H' → g x (wipe σ vs) H' fun σ2 H2 => wipe σ2 vs = wipe σ vs ∧ tt σ2 H2 fun b H3 =>
        if b = true then tk σ2 H3 fun y H4 => tv σ2 H4 fun z H5 => ∃ kvs k, y = kV k ∧ H5 D = some (.dK kvs) ∧ kvs.length < sizeLine ∧ Nx (upd H5 D (.dK (putK kvs k z))) else Nx H3) := by
  refine ⟨fun i m H => m + i = xs.length ∧ Pv i H, ⟨xs.length, rfl, h0⟩, fun i m H ⟨hm, p⟩ => ?_⟩
  have q := hl i H p
  cases m with
  | zero =>
    obtain rfl : i = xs.length := by omega
    exact .inl ⟨⟨xs, q, Nat.le_refl _⟩, hd H p⟩
  | succ m =>
    have hlt : i < xs.length := by omega
    refine .inr ⟨⟨xs, xs[i], q, List.getElem?_eq_getElem hlt⟩, Pv (i + 1), fun H' p' => ⟨m, by omega, by omega, p'⟩, fun x H' ⟨e, y⟩ => ?_⟩
    subst e
    exact hs i x _ (y xs q) p
theorem r_dget {td ty : TE} {σ : St} {H : Hp} {Q : VK} (h : td σ H fun x H1 => ty σ H1 fun y H2 => ∃ a v, x = .ref a ∧ DGet H2 a y (some v) ∧ Q v H2) : tDGet td ty σ H Q := h
theorem r_dget1 {td ty : TE} {σ : St} {H : Hp} {Q : VK} (h : td σ H fun x H1 => ∃ a, x = .ref a ∧ IsD H1 a ∧ ty σ H1 fun y H2 => ∃ o, DGet H2 a y o ∧ Q (o.getD .non) H2) : tDGet1 td ty σ H Q := h
theorem r_getK {H : Hp} {R : V → Prop} {a : Addr} {kvs : List (L2.Key × V)} {i : Int} {v : V} (e : H a = some (.dK kvs)) (h : valV kvs (.inl i) = some v) (q : R v) : ∃ b v, V.ref a = .ref b ∧ DGet H b (.int i) (some v) ∧ R v := ⟨a, v, rfl, h ▸ DGet.k (k := .inl i) e, q⟩
theorem r_setK {H : Hp} {R : Hp → Prop} {a : Addr} {kvs : List (L2.Key × V)} {i : Int} {v : V} (e : H a = some (.dK kvs)) (hl : kvs.length ≤ 9000) (q : R (upd H a (.dK (putK kvs (.inl i) v)))) : rSetD (.ref a) (.int i) v H R := ⟨a, _, rfl, DPut.k (k := .inl i) e (by rw [sizeLine_eq]; omega), q⟩
theorem valV_putK {kvs : List (L2.Key × V)} {k j : L2.Key} {v : V} : valV (putK kvs k v) j = if j = k then some v else valV kvs j := by
  unfold putK
  split
  · rename_i h
    rw [valV_map]
    rw [valV_any] at h
    by_cases c : j = k
    · rw [if_pos c]
      subst c
      obtain ⟨x, hx⟩ := Option.isSome_iff_exists.mp h
      rw [hx]
      simp
    · rw [if_neg c]
      cases valV kvs j <;> simp [c]
  · rename_i h
    rw [valV_any] at h
    exact valV_snoc k j v kvs (by simpa using h)
theorem len_putK {κ : Type} [DecidableEq κ] {kvs : List (κ × V)} {k : κ} {v : V} : (putK kvs k v).length ≤ kvs.length + 1 := by
  unfold putK
  split
  · rw [List.length_map]; omega
  · rw [List.length_append, List.length_singleton]; exact Nat.le_refl _
/-- when the senders of rows know -/
theorem known_take {rs : List L3} {roots : List Int} {D s : Int} {i : Nat} {l : L3} (hl : rs[i]? = some l) : knownOf (rs.take (i + 1)) roots D s = if s ∈ roots then 0 else if (∃ x, x ∈ rs.take i ∧ x.2.1 = s) then knownOf (rs.take i) roots D s else if l.2.1 = s then l.2.2 + D else 0 := by
  unfold knownOf
  by_cases c : s ∈ roots
  · rw [if_pos c, if_pos c]
  · rw [if_neg c, if_neg c, if_neg c, take_more hl, List.find?_append]
    by_cases h : ∃ x, x ∈ rs.take i ∧ x.2.1 = s
    · rw [if_pos h]
      obtain ⟨x, hx, he⟩ := h
      have : ((rs.take i).find? fun l => decide (l.2.1 = s)).isSome = true := by
        rw [List.find?_isSome]
        exact ⟨x, hx, decide_eq_true he⟩
      obtain ⟨y, hy⟩ := Option.isSome_iff_exists.mp this
      rw [hy]
      rfl
    · rw [if_neg h]
      have : (rs.take i).find? (fun l => decide (l.2.1 = s)) = none := by
        rw [List.find?_eq_none]
        intro x hx he
        exact h ⟨x, hx, of_decide_eq_true he⟩
      rw [this, Option.none_or, List.find?_cons]
      by_cases e : l.2.1 = s
      · rw [decide_eq_true e, if_pos e]; rfl
      · rw [decide_eq_false e, if_neg e]; rfl
theorem r_tup2 {K : PySem.W.Frag} {t : TGs} {n : Nat} {vs : List V} {p : Addr} {σ : St} {H : Hp} {R : St → Hp → Prop} (h : H p = some (.tup vs)) (hl : vs.length = n) (q : t vs σ H R) : gTup K n t (.ref p) σ H R := ⟨p, vs, rfl, SqT.of h, hl, q⟩
def spEarly : Sp := fun vs H Q _ => ∃ (p r : Addr) (D : Int) (xs : List V) (rs : List L3) (roots : List Int), vs = [.ref p, .ref r, .int D] ∧ SeqV H p xs ∧ TrisAt H xs rs ∧ H r = some (.lst (roots.map V.int)) ∧ roots.length ≤ 1000 ∧ rs.length ≤ 1000 ∧ (rs.map (·.2.1)).Nodup ∧ (∀ l, l ∈ rs → l.2.1 ∉ roots) ∧ (∀ l, l ∈ rs → l.1 ∈ roots ∨ ∃ m, m ∈ rs ∧ m.2.1 = l.1) ∧ ∀ v H', Same H H' → FltAt H' v (earlyF rs roots D) → Q v H'
def spIsNear : Sp := fun vs H Q _ => ∃ (d : Addr) (h t w_ : Int) (kvs : List (List L2.Key × V)) (prev : List (Int × Int)), vs = [.ref d, .int h, .int t, .int w_] ∧ H d = some (.dT kvs) ∧ Marks w_ kvs prev ∧ 0 < w_ ∧ w_ < 2 ^ 64 ∧ ∀ H', Same H H' → Q (.bl (nearP w_ prev (h, t))) H'
def MarksAt (H : Hp) (xs : List V) (ms : List (List (Int × Int))) : Prop := xs.length = ms.length ∧ ∀ (i : Nat) (m : List (Int × Int)), ms[i]? = some m → ∃ (t : Addr) (ys : List V), xs[i]? = some (.ref t) ∧ H t = some (.lst ys) ∧ PairsAt H ys m
theorem MarksAt.keep {H H' : Hp} {xs : List V} {ls : List (List (Int × Int))} (h : MarksAt H xs ls) (s : Same H H') : MarksAt H' xs ls := ⟨h.1, fun i g hg => let ⟨t, ys, e, z, q⟩ := h.2 i g hg; ⟨t, ys, e, s _ _ z, q.keep s⟩⟩
theorem MarksAt.get {H : Hp} {xs : List V} {ls : List (List (Int × Int))} {i : Nat} {x : V} (h : MarksAt H xs ls) (hx : xs[i]? = some x) : ∃ (t : Addr) (ys : List V) (m : List (Int × Int)), x = .ref t ∧ ls[i]? = some m ∧ H t = some (.lst ys) ∧ PairsAt H ys m := by
  obtain ⟨l, hl⟩ : ∃ l, ls[i]? = some l := ⟨_, List.getElem?_eq_getElem (by have := (List.getElem?_eq_some_iff.mp hx).1; rw [h.1] at this; exact this)⟩
  obtain ⟨t, ys, e, z, q⟩ := h.2 i l hl
  exact ⟨t, ys, l, Option.some.inj (hx.symm.trans e), hl, z, q⟩
def spNear : Sp := fun vs H Q _ => ∃ (why : Str) (p : Addr) (w_ : Int) (xs : List V) (ms : List (List (Int × Int))), vs = [.str why, .ref p, .int w_] ∧ H p = some (.lst xs) ∧ MarksAt H xs ms ∧ ms.length ≤ 1000 ∧ (∀ m, m ∈ ms → m.length ≤ 4) ∧ 0 ≤ w_ ∧ w_ < 2 ^ 64 ∧ ∀ v H', Same H H' → FltAt H' v (nearF why ms w_) → Q v H'
section
variable {P : Program} {w : World} {K : PySem.W.Frag} {mg : Str → Option Value} {base : Heap} {a : Adr}
theorem ok_early_fault (T : Txt K mg a) : FnOk P w K mg base CX0 1 a.a_early_fault a.d_early_fault ["told", "roots", "letter"] spEarly := by
  refine T.F_early_fault.ok sc_early_fault (fun vs H Q E h => ?_) (fun cdv A outer s H vs Q E hr h => ?_)
  · obtain ⟨p, r, D, xs, rs, roots, rfl, _⟩ := h
    rfl
  · obtain ⟨p, r, D, xs, rs, roots, rfl, ep, hA, er, hro9, hrs9, hnd, hnr, hsend, k⟩ := h
    refine ⟨_, (pss_cons (ps_setDc (i := 3) (own := [("root", 9)]) (g := gName 9) (tt := tYes) rfl sc_early_fault.nd rfl rfl (sw_trueD rfl rfl rfl (by decide +kernel)) (pi_list (pv 1)) (blkOk_by (own := [("root", 9)]) (N := ["told", "roots", "letter", "known", "_", "receiver", "start", "at", "sender", "root"]) (sc := defScope s_early_fault) (by decide +kernel)) (fun _ _ _ _ _ => (pg_name (i := 9) sc_early_fault.nd rfl (Or.inl rfl))) (fun _ _ _ _ _ => pts_nil) (fun _ _ _ _ _ => (pv 9)) (fun _ _ _ _ _ => pe_int))
 (pss_cons (ps_for (by exact PassesOwn.never) rfl (pi_seq (pv 0)) (pg_tup (by rfl) (pgs_cons (pg_name (i := 4) sc_early_fault.nd rfl (Or.inl rfl)) (pgs_cons (pg_name (i := 5) sc_early_fault.nd rfl (Or.inl rfl)) (pgs_cons (pg_name (i := 6) sc_early_fault.nd rfl (Or.inl rfl)) pgs_nil))))
 (pss_one (ps_asg (pe_op op_add (pv 6) (pv 2)) (pg_sub (pv 3) (pv 5) (set_dict (u1 hr.units))))))
 (pss_cons (ps_for (by exact PassesOwn.never) rfl (pi_enumS (by rfl) T.n_enumerate (pa_cons (pv 0) pa_nil)) (pg_tup (by rfl) (pgs_cons (pg_name (i := 7) sc_early_fault.nd rfl (Or.inl rfl)) (pgs_cons (pg_tup (by rfl) (pgs_cons (pg_name (i := 8) sc_early_fault.nd rfl (Or.inl rfl)) (pgs_cons (pg_name (i := 4) sc_early_fault.nd rfl (Or.inl rfl)) (pgs_cons (pg_name (i := 6) sc_early_fault.nd rfl (Or.inl rfl)) pgs_nil)))) pgs_nil)))
 (pss_one (ps_if (pt_cmpR op_lt (pv 6) (pe_dget (u1 hr.units) (pv 3) (pv 8) (fun _ _ => rfl)) (nomark _)) (pss_one (ps_ret (pe_tup (pa_cons pe_str (pa_cons (pv 7) pa_nil)))))
 pss_nil)))
 (pss_one (ps_ret pe_non))))), ?_⟩
    repeat walk_at "rd"
    refine r_dc ?_
    repeat walk_at "rd"
    refine ⟨r, rfl, ⟨_, SqL.of er⟩, fun d hd => dc_list (K := K) (a := r) (xs := roots.map V.int) (fun i H' => ∃ kvs : List (L2.Key × V), H' d = some (.dK kvs) ∧ kvs.length ≤ i ∧ (∀ s0 : Int, valV kvs (.inl s0) = if s0 ∈ roots.take i then some (.int 0) else none) ∧ Same H H') ⟨[], upd_same, Nat.le_refl _, fun s0 => by rw [List.take_zero]; rfl, Same.new hd⟩ (fun i H' ⟨_, _, _, _, s⟩ => SqL.of (s _ _ er)) ?_ ?_⟩
    · rintro i x H1 hi ⟨kvs, e1, hl, hv, s1⟩
      obtain ⟨z, hz, rfl⟩ := int_of_get hi
      have hi9 := (List.getElem?_eq_some_iff.mp hz).1
      repeat walk_at "rd"
      refine ⟨rfl, ?_⟩
      repeat walk_at "rd"
      refine ⟨kvs, .inl z, rfl, e1, by rw [sizeLine_eq]; omega, _, upd_same, by have := len_putK (kvs := kvs) (k := (.inl z : L2.Key)) (v := .int 0); omega, fun s0 => ?_, s1.over hd e1⟩
      rw [valV_putK, hv s0, take_more hz]
      by_cases c : s0 = z
      · subst c
        rw [if_pos rfl, if_pos (List.mem_append_right _ (List.mem_singleton.mpr rfl))]
      · rw [if_neg (fun e => c (Sum.inl.inj e))]
        by_cases c2 : s0 ∈ roots.take i
        · rw [if_pos c2, if_pos (List.mem_append_left _ c2)]
        · rw [if_neg c2, if_neg fun z' => by
            rcases List.mem_append.mp z' with z' | z'
            · exact c2 z'
            · exact c (List.mem_singleton.mp z')]
    · rintro H1 ⟨kvs, e1, hl, hv, s1⟩
      rw [List.length_map] at hl
      rw [List.length_map, List.take_length] at hv
      repeat walk_at "rd"
      refine r_forSeq (xs := xs) (fun i σ H' => ∃ (v4 v5 v6 : Option V) (kvs : List (L2.Key × V)), σ = [some (.ref p), some (.ref r), some (.int D), some (.ref d), v4, v5, v6, none, none, none] ∧ H' d = some (.dK kvs) ∧ kvs.length ≤ roots.length + i ∧ (∀ s0 : Int, s0 ∈ roots ∨ (∃ m, m ∈ rs.take i ∧ m.2.1 = s0) → valV kvs (.inl s0) = some (.int (knownOf (rs.take i) roots D s0))) ∧ Same H H') (by intro QA q; (repeat walk_at "rd"); exact q) (ep.keep s1) ⟨_, _, _, kvs, rfl, e1, hl, fun s0 hs0 => ?_, s1⟩ (fun i σ H' ⟨_, _, _, _, _, _, _, _, s⟩ o ho => ?_) ?_ ?_
      · rcases hs0 with hs0 | ⟨m, hm, _⟩
        · rw [hv s0, if_pos hs0]
          unfold knownOf
          rw [if_pos hs0]
        · rw [List.take_zero] at hm
          cases hm
      · rcases ep with ep | ep
        · have := s1 _ _ ep
          rw [ho] at this
          cases this
          exact s _ _ ep
        · have := s1 _ _ ep
          rw [ho] at this
          cases this
          exact s _ _ ep
      · rintro i x σ H2 hi ⟨v4, v5, v6, kvs, rfl, e2, hl2, hv2, s2⟩
        obtain ⟨t, l, rfl, hl1, et⟩ := (hA.keep s2).get hi
        have hi9 := (List.getElem?_eq_some_iff.mp hl1).1
        repeat walk_at "rd"
        refine r_setK e2 (by omega) ?_
        refine ⟨_, _, _, _, rfl, upd_same, by have := len_putK (kvs := kvs) (k := (.inl l.2.1 : L2.Key)) (v := .int (l.2.2 + D)); omega, fun s0 hs0 => ?_, s2.over hd e2⟩
        rw [valV_putK, known_take hl1]
        have hnew : ¬ ∃ x, x ∈ rs.take i ∧ x.2.1 = l.2.1 := fun ⟨x, hx, he⟩ => by
          obtain ⟨j, hj⟩ := List.mem_iff_getElem?.mp hx
          have hji : j < i := by
            have := (List.getElem?_eq_some_iff.mp hj).1
            rw [List.length_take] at this
            omega
          rw [List.getElem?_take, if_pos hji] at hj
          have e1 : (rs.map (·.2.1))[j]? = some l.2.1 := by rw [List.getElem?_map, hj]; exact congrArg Option.some he
          have e2 : (rs.map (·.2.1))[i]? = some l.2.1 := by rw [List.getElem?_map, hl1]; rfl
          obtain ⟨hj1, hj2⟩ := List.getElem?_eq_some_iff.mp e1
          obtain ⟨hi1, hi2⟩ := List.getElem?_eq_some_iff.mp e2
          exact (List.pairwise_iff_getElem.mp hnd) j i hj1 hi1 hji (hj2.trans hi2.symm)
        by_cases c : s0 = l.2.1
        · subst c
          rw [if_pos rfl, if_neg (hnr l (List.mem_iff_getElem?.mpr ⟨i, hl1⟩)), if_neg hnew, if_pos rfl]
        · rw [if_neg (fun e => c (Sum.inl.inj e))]
          rcases hs0 with hs0 | ⟨m, hm, rfl⟩
          · rw [hv2 s0 (.inl hs0), if_pos hs0]
            unfold knownOf
            rw [if_pos hs0]
          · rw [take_more hl1] at hm
            rcases List.mem_append.mp hm with hm | hm
            · rw [hv2 _ (.inr ⟨m, hm, rfl⟩), if_neg (hnr m (List.mem_of_mem_take hm)), if_pos ⟨m, hm, rfl⟩]
            · rw [List.mem_singleton] at hm
              subst hm
              exact absurd rfl c
      · rintro σ H2 ⟨v4, v5, v6, kvs, rfl, e2, hl2, hv2, s2⟩
        rw [hA.1, List.take_length] at hv2
        have hA2 := hA.keep s2
        repeat walk_at "rd"
        refine r_enS2 (xs := xs) (by intro QA q; (repeat walk_at "rd"); exact q) (ep.keep s2) (fun i σ H' => ∃ v4 v5 v6 v7 v8 : Option V, σ = [some (.ref p), some (.ref r), some (.int D), some (.ref d), v4, v5, v6, v7, v8, none] ∧ Same H2 H' ∧ ∀ j, j < i → decide ((rs.getD j (0, 0, 0)).2.2 < knownOf rs roots D (rs.getD j (0, 0, 0)).1) = false) ⟨_, _, _, _, _, rfl, Same.refl _, fun j hj => absurd hj (by omega)⟩ (fun i σ H' ⟨_, _, _, _, _, _, s, _⟩ => s _) ?_ ?_
        · rintro i x σ H3 u2 H4 hx ⟨v4, v5, v6, v7, v8, rfl, s3, hb⟩ nu2 rfl
          have s4 : Same H2 (upd H3 u2 (.tup [.int (i : Nat), x])) := s3.trans (Same.new nu2)
          obtain ⟨t, l, rfl, hl1, et⟩ := (hA2.keep s4).get hx
          have hi9 := (List.getElem?_eq_some_iff.mp hl1).1
          have ed := s4 _ _ e2
          have hk := hv2 l.1 (hsend l (List.mem_iff_getElem?.mpr ⟨i, hl1⟩))
          repeat first | walk_at "rd" | walk_at "rdi"
          refine r_dget ?_
          repeat first | walk_at "rd" | walk_at "rdi"
          refine r_getK ed hk ?_
          repeat first | walk_at "rd" | walk_at "rdi"
          refine ite_d (fun hc => ?_) (fun hc => ?_)
          · repeat walk_at "rd"
            refine new_at (Nat.le_of_ble_eq_true rfl) (fun z H5 nz s5 ez => ?_)
            refine k _ _ ((s2.trans s4).trans s5) ?_
            unfold earlyF
            rw [first_some (i := i) hi9 (by rw [getD_of hl1]; exact decide_eq_true hc) hb]
            exact ⟨z, rfl, ez⟩
          · repeat first | exact ⟨_, _, _, _, _, rfl, s4, fun j hj => by
              by_cases e : j = i
              · subst e; rw [getD_of hl1]; exact decide_eq_false hc
              · exact hb j (by omega)⟩ | walk_at "rd"
        · rintro σ H3 ⟨v4, v5, v6, v7, v8, rfl, s3, hb⟩
          rw [hA.1] at hb
          repeat walk_at "rd"
          refine k _ _ (s2.trans s3) ?_
          unfold earlyF
          rw [first_none hb]
          rfl
theorem ok_is_near (T : Txt K mg a) : FnOk P w K mg base CX0 1 a.a_is_near a.d_is_near ["times", "hand", "time", "width"] spIsNear := by
  refine T.F_is_near.ok sc_is_near (fun vs H Q E h => ?_) (fun cdv A outer s H vs Q E hr h => ?_)
  · obtain ⟨d, h, t, w_, kvs, prev, rfl, _⟩ := h
    rfl
  · obtain ⟨d, h, t, w_, kvs, prev, rfl, ed, hM, w0, w9, k⟩ := h
    refine ⟨_, (pss_cons (ps_set (i := 4) sc_is_near.nd rfl (Or.inl rfl) (pe_op op_fdivW (pv 2) (pv 3)))
 (pss_cons (ps_for (by exact PassesOwn.never) rfl (pi_tup (pe_tup (pa_cons (pe_op op_sub (pv 4) pe_int) (pa_cons (pv 4) (pa_cons (pe_op op_add (pv 4) pe_int) pa_nil))))) (pg_name (i := 5) sc_is_near.nd rfl (Or.inl rfl))
 (pss_cons (ps_set (i := 6) sc_is_near.nd rfl (Or.inl rfl) (pe_dget1 (u1 hr.units) (pv 0) (pe_tup (pa_cons (pv 1) (pa_cons (pv 5) pa_nil))) ⟨rfl, rfl, rfl, rfl⟩))
 (pss_one (ps_if (PW.pt (pw_and (pt_cmpR op_notNo (pv 6) pe_non (nomark _)) (pw_and1 (pt_cmpR op_lt (pe_callB call_abs (by rfl) T.n_abs (by decide +kernel) (pa_cons (pe_op op_sub (pv 2) (pv 6)) pa_nil)) (pv 3) (nomark _))))) (pss_one (ps_ret pe_bl))
 pss_nil))))
 (pss_one (ps_ret pe_bl)))), ?_⟩
    have hw9 : CDivW t w_ := cdiv_of w0 (by omega)
    repeat walk_at "rd"
    obtain ⟨sl, hsl⟩ : ∃ sl, t / w_ = sl := ⟨_, rfl⟩
    rw [hsl]
    have hN : nearP w_ prev (h, t) = true ↔ ∃ s, (s = sl - 1 ∨ s = sl ∨ s = sl + 1) ∧ ∃ t', valV kvs (kk h s) = some (.int t') ∧ -w_ < t - t' ∧ t - t' < w_ := by rw [← hsl]; exact hM.near w0
    refine new_at (Nat.le_of_ble_eq_true rfl) (fun u H1 nu s1 eu => ?_)
    have ed := s1 _ _ ed
    repeat walk_at "rd"
    refine ⟨u, rfl, ⟨_, SqT.of eu⟩, for_tup (K := K) (a := u) (xs := [.int (sl - 1), .int sl, .int (sl + 1)]) (fun i σ H' => ∃ v5 v6 : Option V, σ = [some (.ref d), some (.int h), some (.int t), some (.int w_), some (.int sl), v5, v6] ∧ Same H1 H' ∧ ∀ s, s ∈ [sl - 1, sl, sl + 1].take i → ¬ ∃ t', valV kvs (kk h s) = some (.int t') ∧ -w_ < t - t' ∧ t - t' < w_) ⟨_, _, rfl, Same.refl _, fun s hs => by rw [List.take_zero] at hs; cases hs⟩ (fun i σ H' _ ⟨_, _, _, s, _⟩ => SqT.of (s _ _ eu)) ?_ ?_⟩
    · rintro i x σ H2 hi ⟨v5, v6, rfl, s2, hb⟩
      obtain ⟨s0, hs0, rfl⟩ := int_of_get (ns := [sl - 1, sl, sl + 1]) hi
      have hs3 : s0 = sl - 1 ∨ s0 = sl ∨ s0 = sl + 1 := by
        have := List.mem_iff_getElem?.mpr ⟨i, hs0⟩
        simpa using this
      have ed := s2 _ _ ed
      repeat first | walk_at "rd" | walk_at "rdi"
      refine r_dget1 ?_
      repeat first | walk_at "rd" | walk_at "rdi"
      refine ⟨d, rfl, .inr ⟨kvs, .inl ed⟩, ?_⟩
      repeat first | walk_at "rd" | walk_at "rdi"
      refine new_at (Nat.le_of_ble_eq_true rfl) (fun b H3 nb s3 eb => ?_)
      have ed := s3 _ _ ed
      refine ⟨valV kvs (kk h s0), DGet.t ed (k := kk h s0) eb, ?_⟩
      have go : (¬ ∃ t', valV kvs (kk h s0) = some (.int t') ∧ -w_ < t - t' ∧ t - t' < w_) → ∀ v6 : V, ∃ v5' v6' : Option V, [some (.ref d), some (.int h), some (.int t), some (.int w_), some (.int sl), some (.int s0), some v6] = [some (.ref d), some (.int h), some (.int t), some (.int w_), some (.int sl), v5', v6'] ∧ Same H1 H3 ∧ ∀ s, s ∈ [sl - 1, sl, sl + 1].take (i + 1) → ¬ ∃ t', valV kvs (kk h s) = some (.int t') ∧ -w_ < t - t' ∧ t - t' < w_ := fun hno v6 => ⟨_, _, rfl, s2.trans s3, fun s hs => by
        rw [take_more hs0] at hs
        rcases List.mem_append.mp hs with hs | hs
        · exact hb s hs
        · rw [List.mem_singleton] at hs
          subst hs
          exact hno⟩
      cases hv : valV kvs (kk h s0) with
      | none =>
        have go := go (fun ⟨t', e, _⟩ => by rw [hv] at e; cases e) .non
        dsimp only [Option.getD_none]
        repeat first | exact go | walk_at "rd" | walk_at "rdi"
      | some v =>
        obtain ⟨t', rfl, _, _⟩ := hM.of h s0 v hv
        dsimp only [Option.getD_some]
        repeat first | walk_at "rd" | walk_at "rdi"
        refine ite_d (fun hc => ?_) (fun hc => ?_)
        · have hyes : nearP w_ prev (h, t) = true := hN.mpr ⟨s0, hs3, t', hv, by split at hc <;> omega, by split at hc <;> omega⟩
          rw [hyes] at k
          repeat walk_at "rd"
          exact k _ ((s1.trans s2).trans s3)
        · have go := go (fun ⟨t2, e, h1, h2⟩ => by
            rw [hv] at e
            obtain rfl := V.int.inj (Option.some.inj e)
            exact hc (by split <;> omega)) (.int t')
          repeat first | exact go | walk_at "rd" | walk_at "rdi"
    · rintro σ H2 ⟨v5, v6, rfl, s2, hb⟩
      have hno : nearP w_ prev (h, t) = false := Bool.eq_false_iff.mpr fun z => by
        obtain ⟨s0, hs3, rest⟩ := hN.mp z
        exact hb s0 (by show s0 ∈ [sl - 1, sl, sl + 1]; simpa using hs3) rest
      rw [hno] at k
      repeat walk_at "rd"
      exact k _ (s1.trans s2)
end

/-! ### the program's faults, read: rows too near, telling, plans -/
theorem flat_len {α : Type} {c : Nat} : ∀ {ms : List (List α)}, (∀ m, m ∈ ms → m.length ≤ c) → ms.flatten.length ≤ c * ms.length
  | [], _ => Nat.zero_le _
  | m :: ms, h => by
    have h1 := h m (List.mem_cons_self ..)
    have h2 := flat_len (ms := ms) fun x hx => h x (List.mem_cons_of_mem _ hx)
    rw [List.flatten_cons, List.length_append, List.length_cons, Nat.mul_succ]
    omega
theorem flat_more {α : Type} {ms : List (List α)} {i : Nat} {m : List α} (h : ms[i]? = some m) : (ms.take (i + 1)).flatten = (ms.take i).flatten ++ m := by
  rw [take_more h, List.flatten_append, List.flatten_cons, List.flatten_nil, List.append_nil]
theorem r_dnewT {σ : St} {H : Hp} {Q : VK} (k : ∀ p H', H p = none → Same H H' → H' p = some (.dT []) → Q (.ref p) H') : tDNewT σ H Q := new_of k
theorem r_lstRg {ta : TE} {σ : St} {H : Hp} {Q : VK} (h : ta σ H fun x H1 => ∃ n, x = .int n ∧ (RgOk 0 n ∧ ∀ q, H1 q = none → Q (.ref q) (upd H1 q (.lst (rgV 0 n))))) : tLstRg (tRg1 ta) σ H Q := h
def upTo (n : Int) : List Int := (List.range n.toNat).map fun h : Nat => (h : Int)
theorem mem_upTo {n x : Int} : x ∈ upTo n ↔ 0 ≤ x ∧ x < n := by
  unfold upTo
  rw [List.mem_map]
  constructor
  · rintro ⟨k, hk, rfl⟩
    have := List.mem_range.mp hk
    omega
  · intro h
    exact ⟨x.toNat, List.mem_range.mpr (by omega), by omega⟩
theorem rg_is {n : Int} (h : 0 ≤ n) : rgV 0 n = (upTo n).map V.int := by
  unfold rgV upTo
  rw [Int.sub_zero, List.map_map]
  refine List.map_congr_left fun x _ => ?_
  show V.int (0 + (x : Int)) = V.int x
  rw [Int.zero_add]
theorem again_none {ks ts : List Int} (h : againF ks ts = none) : ks.Nodup ∧ ∀ k, k ∈ ks → k ∉ ts := by
  unfold againF atIx at h
  rw [Option.map_eq_none_iff] at h
  have h := first_no h
  constructor
  · unfold List.Nodup
    rw [List.pairwise_iff_getElem]
    intro i j hi hj hij e
    have := h j hj
    rw [getD_of (List.getElem?_eq_getElem hj), decide_eq_false_iff_not] at this
    refine this (List.mem_append_right _ ?_)
    rw [← e]
    exact List.mem_iff_getElem?.mpr ⟨i, by rw [List.getElem?_take, if_pos hij, List.getElem?_eq_getElem hi]⟩
  · intro k hk
    obtain ⟨i, hi⟩ := List.mem_iff_getElem?.mp hk
    have := h i (List.getElem?_eq_some_iff.mp hi).1
    rw [getD_of hi, decide_eq_false_iff_not] at this
    exact fun z => this (List.mem_append_left _ z)
theorem nobody_none {ws ks : List Int} (h : nobodyF ws ks = none) : ∀ k, k ∈ ws → k ∈ ks := by
  unfold nobodyF at h
  rw [Option.map_eq_none_iff, List.find?_eq_none] at h
  intro k hk
  have := h k hk
  simpa using this
theorem hand_none {n fs fr : Int} {ps : List (Int × Int)} (h : handF n fs fr ps = none) : ∀ g, g ∈ ps → (fs ≤ g.1 ∧ g.1 < n) ∧ (fr ≤ g.2 ∧ g.2 < n) ∧ g.1 ≠ g.2 := by
  unfold handF atIx at h
  rw [Option.map_eq_none_iff] at h
  intro g hg
  obtain ⟨i, hi⟩ := List.mem_iff_getElem?.mp hg
  have := first_no h i (List.getElem?_eq_some_iff.mp hi).1
  rw [getD_of hi] at this
  unfold badHand at this
  simpa using this
def recvs (rs : List L3) : List Int := rs.map (·.2.1)
def tellingF (rs : List L3) (roots ws : List Int) (D : Int) : Flt := (againF (recvs rs) roots).or ((nobodyF ws (roots ++ recvs rs)).or (earlyF rs roots D))
def rowF (n : Int) (rs : List L3) : Flt := (formS (rs.map (·.2.2))).or (handF n 0 1 (rs.map fun l => (l.1, l.2.1)))
def gapMarks (rs : List L3) : List (List (Int × Int)) := rs.map fun l => [(l.1, l.2.2)]
def faultF (D G n : Int) (rs : List L3) : Flt := (rowF n rs).or ((tellingF rs [0] (upTo n) D).or (nearF "gap" (gapMarks rs) G))
def spTelling : Sp := fun vs H Q _ => ∃ (p r q : Addr) (D : Int) (xs : List V) (rs : List L3) (roots ws : List Int), vs = [.ref p, .ref r, .ref q, .int D] ∧ SeqV H p xs ∧ TrisAt H xs rs ∧ H r = some (.lst (roots.map V.int)) ∧ H q = some (.lst (ws.map V.int)) ∧ roots.length ≤ 400 ∧ rs.length ≤ 400 ∧ (∀ l, l ∈ rs → l.1 ∈ ws) ∧ ∀ v H', Same H H' → FltAt H' v (tellingF rs roots ws D) → Q v H'
def spRowF : Sp := fun vs H Q _ => ∃ (n : Int) (p : Addr) (xs : List V) (rs : List L3), vs = [.int n, .ref p] ∧ SeqV H p xs ∧ TrisAt H xs rs ∧ rs.length ≤ 400 ∧ ∀ v H', Same H H' → FltAt H' v (rowF n rs) → Q v H'
def spCountOk : Sp := fun vs H Q _ => ∃ (n lo hi : Int), vs = [.int n, .int lo, .int hi] ∧ (lo ≤ n ∧ n ≤ hi) ∧ Q .non H
def spFault (M : Addr) : Sp := fun vs H Q _ => ∃ (m p : Addr) (o l g n : Int) (xs : List V) (rs : List L3), vs = [.ref m, .int n, .ref p] ∧ MachAt M H m o l g ∧ 0 ≤ gapOf o g ∧ gapOf o g < 2 ^ 64 ∧ (1 ≤ n ∧ n ≤ 100) ∧ SeqV H p xs ∧ TrisAt H xs rs ∧ rs.length ≤ 400 ∧ ∀ v H', Same H H' → FltAt H' v (faultF (2 * o + l) (gapOf o g) n rs) → Q v H'
theorem TrisAt.rowsG {H : Hp} {xs : List V} {rs : List L3} (h : TrisAt H xs rs) : RowsG H 2 xs (rs.map (·.2.2)) := ⟨by rw [List.length_map, h.1], fun i s hs => by
  rw [List.getElem?_map] at hs
  cases e : rs[i]? with
  | none => rw [e] at hs; cases hs
  | some l =>
    rw [e] at hs
    obtain rfl := Option.some.inj hs
    obtain ⟨t, e1, e2⟩ := h.2 i l e
    exact ⟨t, [l.1, l.2.1], e1, e2, rfl⟩⟩
section
variable {P : Program} {w : World} {K : PySem.W.Frag} {mg : Str → Option Value} {base : Heap} {a : Adr}
theorem ok_near_fault (T : Txt K mg a) : FnOk P w K mg base CX0 2 a.a_near_fault a.d_near_fault ["why", "marks", "width"] spNear := by
  refine T.F_near_fault.ok sc_near_fault (fun vs H Q E h => ?_) (fun cdv A outer s H vs Q E hr h => ?_)
  · obtain ⟨why, p, w_, xs, ms, rfl, _⟩ := h
    rfl
  · obtain ⟨why, p, w_, xs, ms, rfl, ep, hA, hl9, hm4, w0, w9, k⟩ := h
    refine ⟨_, (pss_cons (ps_if (pt_cmpR op_eq (pv 2) pe_int (nomark _)) (pss_one (ps_ret pe_non))
 pss_nil)
 (pss_cons (ps_set (i := 3) sc_near_fault.nd rfl (Or.inl rfl) pe_dnewT)
 (pss_cons (ps_for (by exact PassesOwn.never) rfl (pi_enumS (by rfl) T.n_enumerate (pa_cons (pv 1) pa_nil)) (pg_tup (by rfl) (pgs_cons (pg_name (i := 4) sc_near_fault.nd rfl (Or.inl rfl)) (pgs_cons (pg_name (i := 5) sc_near_fault.nd rfl (Or.inl rfl)) pgs_nil)))
 (pss_one (ps_for (by exact PassesOwn.never) rfl (pi_list (pv 5)) (pg_tup (by rfl) (pgs_cons (pg_name (i := 6) sc_near_fault.nd rfl (Or.inl rfl)) (pgs_cons (pg_name (i := 7) sc_near_fault.nd rfl (Or.inl rfl)) pgs_nil)))
 (pss_cons (ps_if (pt_val (pe_call (ok_is_near T) (hr.mono (by decide)) (by rfl) T.g_is_near T.F_is_near.kp T.b_is_near .nil pass0 (pa_cons (pv 3) (pa_cons (pv 6) (pa_cons (pv 7) (pa_cons (pv 2) pa_nil)))))) (pss_one (ps_ret (pe_tup (pa_cons (pv 0) (pa_cons (pv 4) pa_nil)))))
 pss_nil)
 (pss_one (ps_asg (pv 7) (pg_sub (pv 3) (pe_tup (pa_cons (pv 6) (pa_cons (pe_op op_fdivW (pv 7) (pv 2)) pa_nil))) (set_dict (u1 hr.units)))))))))
 (pss_one (ps_ret pe_non))))), ?_⟩
    repeat first | walk_at "rd" | walk_at "rdi"
    refine ite_d (fun hc => ?_) (fun hc => ?_)
    · repeat walk_at "rd"
      refine k _ _ (Same.refl _) ?_
      unfold nearF
      rw [if_pos hc]
      rfl
    have hnf : nearF why ms w_ = atIx why (first (rowNear w_ ms) ms.length) := if_neg hc
    rw [hnf] at k
    have w0 : 0 < w_ := by omega
    repeat first | walk_at "rd" | walk_at "rdi"
    refine r_dnewT (fun d H1 nd s1 ed => ?_)
    repeat walk_at "rd"
    refine r_enS2 (xs := xs) (by intro QA q; (repeat walk_at "rd"); exact q) (.inl (s1 _ _ ep)) (fun i σ H' => ∃ (v4 v5 v6 v7 : Option V) (kvs : List (List L2.Key × V)), σ = [some (.str why), some (.ref p), some (.int w_), some (.ref d), v4, v5, v6, v7] ∧ H' d = some (.dT kvs) ∧ Marks w_ kvs (ms.take i).flatten ∧ Same H H' ∧ ∀ j, j < i → rowNear w_ ms j = false) ⟨_, _, _, _, [], rfl, ed, Marks.nil, s1, fun j hj => absurd hj (by omega)⟩ (fun i σ H' ⟨_, _, _, _, _, _, _, _, s, _⟩ o ho => ?_) ?_ ?_
    · have := s1 _ _ ep
      rw [ho] at this
      cases this
      exact s _ _ ep
    · clear ed
      rintro i x σ H2 u2 H3 hx ⟨v4, v5, v6, v7, kvs, rfl, ed, hM, s2, hb⟩ nu2 rfl
      have s3 : Same H (upd H2 u2 (.tup [.int (i : Nat), x])) := s2.trans (Same.new nu2)
      have ed : upd H2 u2 (.tup [.int (i : Nat), x]) d = some (.dT kvs) := (upd_ne (ne_of_none ed nu2)).trans ed
      obtain ⟨t, ys, m, rfl, hm1, et, hP⟩ := (hA.keep s3).get hx
      have hi9 := (List.getElem?_eq_some_iff.mp hm1).1
      have hmem : m ∈ ms := List.mem_iff_getElem?.mpr ⟨i, hm1⟩
      have hm9 := hm4 m hmem
      have hfl : (ms.take i).flatten.length ≤ 4 * 1000 := by
        have h1 := flat_len (ms := ms.take i) (c := 4) fun x hx => hm4 x (List.mem_of_mem_take hx)
        rw [List.length_take] at h1
        omega
      have eu2 : upd H2 u2 (.tup [.int (i : Nat), .ref t]) u2 = some (.tup [.int (i : Nat), .ref t]) := upd_same
      have ntd : t ≠ d := fun z => by
        have h1 := (hA.2 i m hm1)
        obtain ⟨t', ys', e1, e2, _⟩ := h1
        obtain rfl : t = t' := V.ref.inj (Option.some.inj (hx.symm.trans e1))
        rw [z, nd] at e2
        cases e2
      generalize upd H2 u2 (.tup [.int (i : Nat), .ref t]) = H3 at s3 ed et hP eu2 ⊢
      repeat walk_at "rd"
      refine ⟨t, rfl, ⟨_, SqL.of et⟩, for_list (K := K) (a := t) (xs := ys) (fun j σ H' => ∃ (v6 v7 : Option V) (kvs : List (List L2.Key × V)), σ = [some (.str why), some (.ref p), some (.int w_), some (.ref d), some (.int (i : Nat)), some (.ref t), v6, v7] ∧ H' d = some (.dT kvs) ∧ Marks w_ kvs ((ms.take i).flatten ++ m.take j) ∧ Same H H' ∧ PairsAt H' ys m ∧ H' t = some (.lst ys) ∧ ∀ j', j' < j → nearP w_ ((ms.take i).flatten ++ m.take j') (m.getD j' (0, 0)) = false) ⟨_, _, kvs, rfl, ed, by rw [List.take_zero, List.append_nil]; exact hM, s3, hP, et, fun j hj => absurd hj (by omega)⟩ (fun j σ H' _ ⟨_, _, _, _, _, _, _, _, h, _⟩ => SqL.of h) ?_ ?_⟩
      · clear ed hM s3 hP et eu2 s2 nu2
        rintro j y σ H4 hy ⟨v6, v7, kvs, rfl, ed, hM, s4, hP, et, hb2⟩
        obtain ⟨tp, g, rfl, hg, etp⟩ := hP.get hy
        have hj9 := (List.getElem?_eq_some_iff.mp hg).1
        have hw9 : CDivW g.2 w_ := cdiv_of w0 (by omega)
        repeat first | walk_at "rd" | walk_at "rdi"
        refine ⟨d, g.1, g.2, w_, kvs, _, rfl, ed, hM, w0, w9, fun H5 s5 => ?_⟩
        have s5' := s4.trans s5
        have ed := s5 _ _ ed
        cases hn : nearP w_ ((ms.take i).flatten ++ m.take j) (g.1, g.2) with
        | true =>
          repeat first | walk_at "rd" | walk_at "rdi"
          refine new_at (Nat.le_of_ble_eq_true rfl) (fun z H6 nz s6 ez => ?_)
          refine k _ _ (s5'.trans s6) ?_
          rw [first_some (i := i) hi9 ?_ hb]
          · exact ⟨z, rfl, ez⟩
          · unfold rowNear
            rw [getD_of hm1, List.any_eq_true]
            exact ⟨j, List.mem_range.mpr hj9, by rw [getD_of hg]; exact hn⟩
        | false =>
          repeat first | walk_at "rd" | walk_at "rdi"
          refine new_at (Nat.le_of_ble_eq_true rfl) (fun b H6 nb s6 eb => ?_)
          have ed := s6 _ _ ed
          repeat first | walk_at "rd" | walk_at "rdi"
          refine ⟨d, _, rfl, DPut.t ed (k := kk g.1 (g.2 / w_)) eb (by rw [sizeLine_eq]; have := hM.len; rw [List.length_append, List.length_take] at this; omega), ?_⟩
          have s56 := s5.trans s6
          refine ⟨_, _, _, rfl, upd_same, ?_, (s5'.trans s6).over nd ed, ?_, (upd_ne ntd).trans (s56 _ _ et), fun j' hj' => ?_⟩
          · rw [take_more hg, ← List.append_assoc]
            exact hM.put w0 hn
          · exact ⟨hP.1, fun i' g' hg' => by
              obtain ⟨t', e1, e2⟩ := (hP.keep s56).2 i' g' hg'
              exact ⟨t', e1, (upd_ne (fun z => by rw [z, ed] at e2; cases e2)).trans e2⟩⟩
          · by_cases e : j' = j
            · subst e; rw [getD_of hg]; exact hn
            · exact hb2 j' (by omega)
      · clear ed hM s3 hP et eu2 s2 nu2
        rintro σ H4 ⟨v6, v7, kvs, rfl, ed, hM, s4, hP, et, hb2⟩
        rw [hP.1] at hb2 hM
        rw [List.take_length] at hM
        repeat first | walk_at "rd" | walk_at "rdi"
        refine ⟨_, _, _, _, kvs, rfl, ed, by rw [flat_more hm1]; exact hM, s4, fun j hj => ?_⟩
        by_cases e : j = i
        · subst e
          unfold rowNear
          rw [getD_of hm1, List.any_eq_false]
          intro x hx
          rw [hb2 x (List.mem_range.mp hx)]
          exact Bool.false_ne_true
        · exact hb j (by omega)
    · rintro σ H2 ⟨v4, v5, v6, v7, kvs, rfl, ed, hM, s2, hb⟩
      rw [hA.1] at hb
      repeat walk_at "rd"
      refine k _ _ s2 ?_
      rw [first_none hb]
      rfl
end

local macro_rules | `(tactic| walk_at "lk") => `(tactic| first | exact mf_o | exact mf_l | exact mf_g | exact mf_letter | exact mf_gap)

/-! ### the program's faults of plans, read -/
theorem FltAt.or_left {H : Hp} {v : V} {f g : Flt} (h : FltAt H v f) (n : f ≠ none) : FltAt H v (f.or g) := by
  cases f with
  | none => exact absurd rfl n
  | some x => exact h
theorem FltAt.or_right {H : Hp} {v : V} {f g : Flt} (h : FltAt H v g) (n : f = none) : FltAt H v (f.or g) := by
  subst n; exact h
section
variable {P : Program} {w : World} {K : PySem.W.Frag} {mg : Str → Option Value} {base : Heap} {a : Adr}
theorem ok_check_count (T : Txt K mg a) : FnOk P w K mg base CX0 3 a.a_check_count a.d_check_count ["count", "low", "high"] spCountOk := by
  refine T.F_check_count.ok sc_check_count (fun vs H Q E h => ?_) (fun cdv A outer s H vs Q E hr h => ?_)
  · obtain ⟨n, lo, hi, rfl, _⟩ := h
    rfl
  · obtain ⟨n, lo, hi, rfl, hn, k⟩ := h
    refine ⟨_, (pss_one (ps_if (pt_not (pt_val (pe_call (ok_is_between T) (hr.mono (by decide)) (by rfl) T.g_is_between T.F_is_between.kp T.b_is_between .nil pass0 (pa_cons (pv 0) (pa_cons (pv 1) (pa_cons (pv 2) pa_nil)))))) (pss_one ps_never)
 pss_nil)), ?_⟩
    repeat first | walk_at "rd" | walk_at "rdi"
    refine r_between ?_
    repeat walk_at "rd"
    refine r_nDT hn ?_
    repeat first | exact k | walk_at "rd" | walk_at "rdi"
theorem ok_telling_fault (T : Txt K mg a) : FnOk P w K mg base CX0 2 a.a_telling_fault a.d_telling_fault ["told", "roots", "wanted", "letter"] spTelling := by
  refine T.F_telling_fault.ok sc_telling_fault (fun vs H Q E h => ?_) (fun cdv A outer s H vs Q E hr h => ?_)
  · obtain ⟨p, r, q, D, xs, rs, roots, ws, rfl, _⟩ := h
    rfl
  · obtain ⟨p, r, q, D, xs, rs, roots, ws, rfl, ep, hA, er, eq, hro, hrs, hsend, k⟩ := h
    refine ⟨_, (pss_cons (ps_setLc (i := 4) (own := [("_", 5), ("receiver", 6)]) (g := gTup K 3 (gCons (gName 5) (gCons (gName 6) (gCons (gName 5) (gNil))))) (tt := tYes) rfl sc_telling_fault.nd rfl rfl (sw_true rfl rfl rfl (by decide +kernel)) (pi_seq (pv 0)) (blkOk_by (own := [("_", 5), ("receiver", 6)]) (N := ["told", "roots", "wanted", "letter", "receivers", "_", "receiver"]) (sc := defScope s_telling_fault) (by decide +kernel)) (fun _ _ _ _ _ => (pg_tupK (K := K) (n := 3) rfl (by rfl) (pgs_cons (pg_name (i := 5) sc_telling_fault.nd rfl (Or.inl rfl)) (pgs_cons (pg_name (i := 6) sc_telling_fault.nd rfl (Or.inl rfl)) (pgs_cons (pg_name (i := 5) sc_telling_fault.nd rfl (Or.inl rfl)) pgs_nil))))) (fun _ _ _ _ _ => pts_nil) (fun _ _ _ _ _ => (pv 6)))
 (pss_one (ps_ret (pe_orT (pe_call (ok_again_fault T) (hr.mono (by decide)) (by rfl) T.g_again_fault T.F_again_fault.kp T.b_again_fault .nil pass0 (pa_cons (pv 4) (pa_cons (pv 1) pa_nil))) (pe_orT (pe_call (ok_nobody_fault T) (hr.mono (by decide)) (by rfl) T.g_nobody_fault T.F_nobody_fault.kp T.b_nobody_fault .nil pass0 (pa_cons (pv 2) (pa_cons (pe_op op_cat (pv 1) (pv 4)) pa_nil))) (pe_one (pe_call (ok_early_fault T) (hr.mono (by decide)) (by rfl) T.g_early_fault T.F_early_fault.kp T.b_early_fault .nil pass0 (pa_cons (pv 0) (pa_cons (pv 1) (pa_cons (pv 3) pa_nil)))))))))), ?_⟩
    repeat walk_at "rd"
    refine r_lcSeq (xs := xs) (fun L i H' => H' L = some (.lst (((rs.take i).map (·.2.1)).map V.int)) ∧ Same H H') (by intro QA q; (repeat walk_at "rd"); exact q) ep (fun L hL => ⟨upd_same, Same.new hL⟩) (fun L i H' hL h o ho => h.2 _ _ ho) ?_ ?_
    · rintro L i x H1 hL hx ⟨e1, s1⟩
      obtain ⟨t, l, rfl, hl1, et⟩ := (hA.keep s1).get hx
      have hi9 := (List.getElem?_eq_some_iff.mp hl1).1
      repeat walk_at "rd"
      refine ⟨rfl, ?_⟩
      repeat walk_at "rd"
      refine ⟨_, e1, small1000 (by rw [List.length_map, List.length_map, List.length_take]; omega), ?_, s1.over hL e1⟩
      rw [upd_same, take_more hl1, List.map_append, List.map_append]
      rfl
    · rintro L H1 hL ⟨e1, s1⟩
      rw [hA.1, List.take_length] at e1
      have e1 : H1 L = some (.lst ((recvs rs).map V.int)) := e1
      have hrl : (recvs rs).length = rs.length := List.length_map _
      repeat walk_at "rd"
      refine r_orT ?_
      repeat walk_at "rd"
      refine ⟨L, r, recvs rs, roots, rfl, e1, s1 _ _ er, by omega, by omega, fun v H2 s2 hv => ?_⟩
      refine r_orF hv (fun hn => k _ _ (s1.trans s2) (hv.or_left hn)) (fun hn => ?_)
      have k : ∀ v H', Same H H' → FltAt H' v ((nobodyF ws (roots ++ recvs rs)).or (earlyF rs roots D)) → Q v H' := fun v H' h1 h2 => k v H' h1 (h2.or_right hn)
      obtain ⟨hnd, hnr⟩ := again_none hn
      have s12 := s1.trans s2
      refine r_orT ?_
      repeat walk_at "rd"
      refine r_cat (s12 _ _ er) (s2 _ _ e1) (by rw [List.length_map, List.length_map]; omega) (fun c H3 nc s3 ec => ?_)
      rw [← List.map_append] at ec
      have s13 := s12.trans s3
      repeat walk_at "rd"
      refine ⟨q, c, ws, roots ++ recvs rs, rfl, s13 _ _ eq, ec, by rw [List.length_append]; omega, fun v H4 s4 hv => ?_⟩
      have s14 := s13.trans s4
      refine r_orF hv (fun hn => k _ _ s14 (hv.or_left hn)) (fun hn2 => ?_)
      have hall := nobody_none hn2
      repeat walk_at "rd"
      refine ⟨p, r, D, xs, rs, roots, rfl, ep.keep s14, hA.keep s14, s14 _ _ er, by omega, by omega, hnd, fun l hl => hnr _ (List.mem_map.mpr ⟨l, hl, rfl⟩), fun l hl => ?_, fun v H5 s5 hv => k _ _ (s14.trans s5) (hv.or_right hn2)⟩
      rcases List.mem_append.mp (hall _ (hsend l hl)) with h | h
      · exact .inl h
      · obtain ⟨m, hm, e⟩ := List.mem_map.mp h
        exact .inr ⟨m, hm, e⟩
end

/-! ### row_fault and fault of things of any kind -/
def rowsOf (wh : Option (List (Option L3))) : List L3 := (wh.getD []).filterMap id
def rowW (n : Int) (wh : Option (List (Option L3))) : Flt := (formW 400 wh).or (handF n 0 1 ((rowsOf wh).map fun l => (l.1, l.2.1)))
def faultW (D G n : Int) (wh : Option (List (Option L3))) : Flt := (rowW n wh).or ((tellingF (rowsOf wh) [0] (upTo n) D).or (nearF "gap" (gapMarks (rowsOf wh)) G))
theorem rowsOf_map (rs : List L3) : rowsOf (some (rs.map some)) = rs := by
  show (rs.map some).filterMap id = rs
  induction rs with
  | nil => rfl
  | cons r rs ih => show r :: (rs.map some).filterMap id = r :: rs; rw [ih]
theorem WholeK.rows {M : Addr} {av : List Addr} {H : Hp} {x : V} {wh : Option (List (Option L3))} (h : WholeK M av H x wh) (n : formW 400 wh = none) : ∃ p xs rs, x = .ref p ∧ SeqV H p xs ∧ TrisAt H xs rs ∧ rowsOf wh = rs ∧ rs.length ≤ 400 ∧ formS (rs.map (·.2.2)) = none := by
  cases wh with
  | none => cases n
  | some os =>
    obtain ⟨p, xs, e, ep, hA⟩ := h
    by_cases c : (400 : Int) < (os.length : Int)
    · rw [formW_big c] at n; cases n
    · rw [formW_small c] at n
      obtain ⟨rs, rfl, hf⟩ := formO_none n
      exact ⟨p, xs, rs, e, ep, hA.tris, rowsOf_map rs, by rw [List.length_map] at c; omega, hf⟩
/-- rows of three ints only: as before -/
theorem faultW_rows {D G n : Int} {rs : List L3} (h : rs.length ≤ 400) : faultW D G n (some (rs.map some)) = faultF D G n rs := by
  unfold faultW rowW faultF rowF
  rw [rowsOf_map, formW_small (by rw [List.length_map]; omega)]
  congr 2
  unfold formO formS
  rw [List.length_map, List.length_map]
  congr 1
  refine first_congr fun i hi => ?_
  have e : rs[i]? = some (rs[i]'hi) := List.getElem?_eq_getElem hi
  rw [getD_of (show (rs.map some)[i]? = some (some (rs[i]'hi)) by rw [List.getElem?_map, e]; rfl), getD_of (show (rs.map (·.2.2))[i]? = some (rs[i]'hi).2.2 by rw [List.getElem?_map, e]; rfl)]
  rfl
def spRowFG (M : Addr) : Sp := fun vs H Q _ => ∃ (n : Int) (av : List Addr) (x : V) (wh : Option (List (Option L3))), vs = [.int n, x] ∧ WholeK M av H x wh ∧ ∀ v H', Same H H' → FltAt H' v (rowW n wh) → Q v H'
def spFaultG (M : Addr) : Sp := fun vs H Q _ => ∃ (m : Addr) (av : List Addr) (x : V) (o l g n : Int) (wh : Option (List (Option L3))), vs = [.ref m, .int n, x] ∧ MachAt M H m o l g ∧ 0 ≤ gapOf o g ∧ gapOf o g < 2 ^ 64 ∧ (1 ≤ n ∧ n ≤ 100) ∧ WholeK M av H x wh ∧ ∀ v H', Same H H' → FltAt H' v (faultW (2 * o + l) (gapOf o g) n wh) → Q v H'
section
variable {P : Program} {w : World} {K : PySem.W.Frag} {mg : Str → Option Value} {base : Heap} {a : Adr}
theorem ok_row_fault (T : Txt K mg a) : FnOk P w K mg base CX0 4 a.a_row_fault a.d_row_fault ["n", "thing"] (spRowFG a.c_Machine) := by
  refine T.F_row_fault.ok sc_row_fault (fun vs H Q E h => ?_) (fun cdv A outer s H vs Q E hr h => ?_)
  · obtain ⟨n, av, x, wh, rfl, _⟩ := h
    rfl
  · obtain ⟨n, av, x, wh, rfl, hx, k⟩ := h
    refine ⟨_, (pss_one (ps_ret (pe_orT (pe_call (ok_form_fault T) (hr.mono (by decide)) (by rfl) T.g_form_fault T.F_form_fault.kp T.b_form_fault .nil pass0 (pa_cons (pv 1) (pa_cons (pe_glob (v := .int 400) (by rfl) T.g_MOST_ROWS.choose_spec ⟨_, rfl⟩) (pa_cons pe_int pa_nil)))) (pe_one (pe_call (ok_hand_fault T) (hr.mono (by decide)) (by rfl) T.g_hand_fault T.F_hand_fault.kp T.b_hand_fault .nil pass0 (pa_cons (pv 0) (pa_cons (pe_lc (own := [("row", 2)]) (g := gName 2) (tt := tYes) rfl sc_row_fault.nd (pi_seq (pv 1)) (blkOk_by (own := [("row", 2)]) (N := ["n", "thing", "row"]) (sc := defScope s_row_fault) (by decide +kernel)) (fun _ _ _ _ _ => (pg_name (i := 2) sc_row_fault.nd rfl (Or.inl rfl))) (fun _ _ _ _ _ => pts_nil) (fun _ _ _ _ _ => (pe_slice (sl_tupK (K := K) rfl) (pv 2) po_none (po_some pe_int)))) (pa_cons pe_int (pa_cons pe_int pa_nil))))))))), ?_⟩
    repeat walk_at "rd"
    refine r_orT ?_
    repeat walk_at "rd"
    refine ⟨av, x, 400, wh, rfl, hx, fun v H1 s1 hv => ?_⟩
    refine r_orF hv (fun hn => k _ _ s1 (hv.or_left hn)) (fun hn => ?_)
    obtain ⟨p, xs, rs, rfl, ep, hA, hrs, hl, _⟩ := hx.rows hn
    have k : ∀ v H', Same H H' → FltAt H' v (handF n 0 1 (rs.map fun l => (l.1, l.2.1))) → Q v H' := fun v H' s f => k v H' s (by unfold rowW; rw [hrs]; exact f.or_right hn)
    have ep1 := ep.keep s1
    repeat walk_at "rd"
    refine r_lcSeq (xs := xs) (fun L i H' => ∃ ys, H' L = some (.lst ys) ∧ PairsAt H' ys ((rs.take i).map fun l => (l.1, l.2.1)) ∧ Same H1 H') (by intro QA q; (repeat walk_at "rd"); exact q) ep1 (fun L hL => ⟨[], upd_same, by rw [List.take_zero]; exact PairsAt.nil, Same.new hL⟩) (fun L i H' hL ⟨_, _, _, s⟩ o ho => s _ _ ho) ?_ ?_
    · rintro L i x H2 hL hx ⟨ys, e2, hP, s2⟩
      obtain ⟨t, l, rfl, hl1, et⟩ := (hA.keep (s1.trans s2)).get hx
      have hi9 := (List.getElem?_eq_some_iff.mp hl1).1
      repeat walk_at "rd"
      refine ⟨rfl, ?_⟩
      repeat walk_at "rd"
      refine r_slT (SqT.of et) (by simp [HT.sIx]) (fun q H3 nq s3 e3 => ?_)
      have e3 : H3 q = some (.tup [.int l.1, .int l.2.1]) := by rw [e3]; rfl
      have e2 := s3 _ _ e2
      refine ⟨_, e2, small1000 (by rw [hP.1, List.length_map, List.length_take]; omega), ys ++ [.ref q], upd_same, ?_, (s2.trans s3).over hL e2⟩
      rw [take_more hl1, List.map_append]
      exact ((hP.keep s3).snoc (g := (l.1, l.2.1)) e3).upd e2
    · rintro L H2 hL ⟨ys, e2, hP, s2⟩
      rw [hA.1, List.take_length] at hP
      repeat walk_at "rd"
      refine ⟨L, n, 0, 1, ys, _, rfl, e2, hP, fun v H3 s3 hv => k _ _ ((s1.trans s2).trans s3) hv⟩
theorem ok_fault (T : Txt K mg a) : FnOk P w K mg base CX0 5 a.a_fault a.d_fault ["machine", "n", "thing"] (spFaultG a.c_Machine) := by
  refine T.F_fault.ok sc_fault (fun vs H Q E h => ?_) (fun cdv A outer s H vs Q E hr h => ?_)
  · obtain ⟨m, av, x, o, l, g, n, wh, rfl, _⟩ := h
    rfl
  · obtain ⟨m, av, x, o, l, g, n, wh, rfl, hm, g0, g9, hn, hx, k⟩ := h
    refine ⟨_, (pss_cons (ps_expr (pe_call (ok_check_count T) (hr.mono (by decide)) (by rfl) T.g_check_count T.F_check_count.kp T.b_check_count .nil pass0 (pa_cons (pv 1) (pa_cons pe_int (pa_cons (pe_glob (v := .int 100) (by rfl) T.g_MOST_PLANNED.choose_spec ⟨_, rfl⟩) pa_nil)))))
 (pss_one (ps_ret (pe_orT (pe_call (ok_row_fault T) (hr.mono (by decide)) (by rfl) T.g_row_fault T.F_row_fault.kp T.b_row_fault .nil pass0 (pa_cons (pv 1) (pa_cons (pv 2) pa_nil))) (pe_orT (pe_call (ok_telling_fault T) (hr.mono (by decide)) (by rfl) T.g_telling_fault T.F_telling_fault.kp T.b_telling_fault .nil pass0 (pa_cons (pv 2) (pa_cons (pe_lst (pa_cons pe_int pa_nil)) (pa_cons (pe_listRg rfl (by rfl) T.n_list (prg_1 (by rfl) T.n_range (pv 1))) (pa_cons (pe_fld (pv 0) rfl) pa_nil))))) (pe_one (pe_call (ok_near_fault T) (hr.mono (by decide)) (by rfl) T.g_near_fault T.F_near_fault.kp T.b_near_fault .nil pass0 (pa_cons pe_str (pa_cons (pe_lc (own := [("sender", 3), ("_", 4), ("start", 5)]) (g := gTup K 3 (gCons (gName 3) (gCons (gName 4) (gCons (gName 5) (gNil))))) (tt := tYes) rfl sc_fault.nd (pi_seq (pv 2)) (blkOk_by (own := [("sender", 3), ("_", 4), ("start", 5)]) (N := ["machine", "n", "thing", "sender", "_", "start"]) (sc := defScope s_fault) (by decide +kernel)) (fun _ _ _ _ _ => (pg_tupK (K := K) (n := 3) rfl (by rfl) (pgs_cons (pg_name (i := 3) sc_fault.nd rfl (Or.inl rfl)) (pgs_cons (pg_name (i := 4) sc_fault.nd rfl (Or.inl rfl)) (pgs_cons (pg_name (i := 5) sc_fault.nd rfl (Or.inl rfl)) pgs_nil))))) (fun _ _ _ _ _ => pts_nil) (fun _ _ _ _ _ => (pe_lst (pa_cons (pe_tup (pa_cons (pv 3) (pa_cons (pv 5) pa_nil))) pa_nil)))) (pa_cons (pe_fld (pv 0) rfl) pa_nil)))))))))), ?_⟩
    repeat walk_at "rd"
    refine ⟨n, 1, 100, rfl, hn, ?_⟩
    repeat walk_at "rd"
    refine r_orT ?_
    repeat walk_at "rd"
    refine ⟨n, av, x, wh, rfl, hx, fun v H1 s1 hv => ?_⟩
    refine r_orF hv (fun hn => k _ _ s1 (hv.or_left hn)) (fun hn1 => ?_)
    have hn2' : formW 400 wh = none ∧ handF n 0 1 ((rowsOf wh).map fun l => (l.1, l.2.1)) = none := by
      unfold rowW at hn1
      rw [Option.or_eq_none_iff] at hn1
      exact hn1
    obtain ⟨p, xs, rs, rfl, ep, hA, hrs, hl, _⟩ := hx.rows hn2'.1
    have k : ∀ v H', Same H H' → FltAt H' v ((tellingF rs [0] (upTo n) (2 * o + l)).or (nearF "gap" (gapMarks rs) (gapOf o g))) → Q v H' := fun v H' h1 h2 => k v H' h1 (by unfold faultW; rw [hrs]; exact h2.or_right hn1)
    have hh : handF n 0 1 (rs.map fun l => (l.1, l.2.1)) = none := by
      have := hn2'.2
      rw [hrs] at this
      exact this
    have hsend : ∀ x, x ∈ rs → x.1 ∈ upTo n := fun x hx => by
      have := hand_none hh _ (List.mem_map.mpr ⟨x, hx, rfl⟩)
      exact mem_upTo.mpr ⟨this.1.1, this.1.2⟩
    have hm1 := hm.keep s1
    refine r_orT ?_
    repeat walk_at "rd"
    refine new_at (Nat.le_of_ble_eq_true rfl) (fun r H2 nr s2 er => ?_)
    repeat walk_at "rd"
    refine r_lstRg ?_
    repeat walk_at "rd"
    refine ⟨RgOk.of_le (by omega) (by omega) (by omega) (by omega), fun q nq => ?_⟩
    have s3 : Same H2 (upd H2 q (.lst (rgV 0 n))) := Same.new nq
    have eq : upd H2 q (.lst (rgV 0 n)) q = some (.lst ((upTo n).map V.int)) := by rw [upd_same, rg_is (by omega)]
    generalize upd H2 q (.lst (rgV 0 n)) = H3 at s3 eq ⊢
    have s13 := (s1.trans s2).trans s3
    obtain ⟨dm, hm3⟩ := (hm1.keep s2).keep s3
    repeat walk_at "rd"
    refine ⟨p, r, q, 2 * o + l, xs, rs, [0], upTo n, rfl, ep.keep s13, hA.keep s13, s3 _ _ er, eq, by decide, hl, hsend, fun v H4 s4 hv => ?_⟩
    have s14 := s13.trans s4
    refine r_orF hv (fun hn => k _ _ s14 (hv.or_left hn)) (fun hn2 => ?_)
    have ep4 := ep.keep s14
    repeat walk_at "rd"
    refine r_lcSeq (xs := xs) (fun L i H' => ∃ ys, H' L = some (.lst ys) ∧ MarksAt H' ys (gapMarks (rs.take i)) ∧ (∀ t, V.ref t ∈ ys → t ≠ L) ∧ Same H4 H') (by intro QA q; (repeat walk_at "rd"); exact q) ep4 (fun L hL => ⟨[], upd_same, ⟨rfl, fun i m h => by simp [gapMarks] at h⟩, (fun t ht => nomatch ht), Same.new hL⟩) (fun L i H' hL ⟨_, _, _, _, s⟩ o ho => s _ _ ho) ?_ ?_
    · rintro L i x H5 hL hx ⟨ys, e5, hP, hne, s5⟩
      obtain ⟨t, y, rfl, hl1, et⟩ := (hA.keep (s14.trans s5)).get hx
      have hi9 := (List.getElem?_eq_some_iff.mp hl1).1
      repeat walk_at "rd"
      refine ⟨rfl, ?_⟩
      repeat walk_at "rd"
      refine new_at (Nat.le_of_ble_eq_true rfl) (fun b H6 nb s6 eb => ?_)
      repeat walk_at "rd"
      refine new_at (Nat.le_of_ble_eq_true rfl) (fun c H7 nc s7 ec => ?_)
      have s67 := s6.trans s7
      have e5 := s67 _ _ e5
      have hlen : ys.length = i := by
        rw [hP.1]
        unfold gapMarks
        rw [List.length_map, List.length_take]
        omega
      have ncL : c ≠ L := (ne_of_none (s6 _ _ (by assumption)) nc).symm
      refine ⟨_, e5, small1000 (by omega), ys ++ [.ref c], upd_same, ⟨?_, fun j m hm => ?_⟩, fun t' ht' => ?_, ((s5.trans s67)).over hL e5⟩
      · unfold gapMarks
        rw [List.length_append, List.length_singleton, List.length_map, List.length_take]
        omega
      · have keep : ∀ {z : Addr} {zs : List V}, z ≠ L → H7 z = some (.lst zs) → L2.upd H7 L (.lst (ys ++ [.ref c])) z = some (.lst zs) := fun nz h => (upd_ne nz).trans h
        have hP7 := hP.keep s67
        unfold gapMarks at hm
        rw [List.getElem?_map, List.getElem?_take] at hm
        by_cases cj : j < i
        · rw [if_pos (by omega)] at hm
          obtain ⟨t', zs, e1, e2, e3⟩ := hP7.2 j m (by unfold gapMarks; rw [List.getElem?_map, List.getElem?_take, if_pos cj]; exact hm)
          exact ⟨t', zs, by rw [List.getElem?_append_left (by omega)]; exact e1, keep (hne t' (List.mem_iff_getElem?.mpr ⟨j, e1⟩)) e2, e3.upd e5⟩
        · by_cases ce : j = i
          · subst ce
            rw [if_pos (by omega), hl1] at hm
            obtain rfl := Option.some.inj hm
            refine ⟨c, _, by rw [List.getElem?_append_right (by omega), hlen, Nat.sub_self]; rfl, keep ncL ec, ?_⟩
            exact (PairsAt.nil.snoc (g := (y.1, y.2.2)) (s7 _ _ eb)).upd e5
          · rw [if_neg (by omega)] at hm
            cases hm
      · rcases List.mem_append.mp ht' with h | h
        · exact hne t' h
        · rw [List.mem_singleton] at h
          rw [V.ref.inj h]
          exact ncL
    · rintro L H5 hL ⟨ys, e5, hP, hne, s5⟩
      rw [hA.1, List.take_length] at hP
      obtain ⟨dm, hm5⟩ := (hm.keep s14).keep s5
      repeat walk_at "rd"
      refine ⟨"gap", L, gapOf o g, ys, gapMarks rs, rfl, e5, hP, by unfold gapMarks; rw [List.length_map]; omega, fun m hm => ?_, g0, g9, fun v H6 s6 hv => k _ _ ((s14.trans s5).trans s6) (hv.or_right hn2)⟩
      obtain ⟨y, _, rfl⟩ := List.mem_map.mp hm
      exact Nat.le_of_ble_eq_true rfl
end

/-! ### a law's own fault of a plan -/
theorem inV_ints (z : Int) : ∀ xs : List Int, inV (.int z) (xs.map V.int) = decide (z ∈ xs)
  | [] => rfl
  | x :: xs => by
    have ih := inV_ints z xs
    unfold inV at ih ⊢
    rw [List.map_cons, List.any_cons, ih]
    show ((x == z) || decide (z ∈ xs)) = decide (z ∈ x :: xs)
    rw [Bool.eq_iff_iff, Bool.or_eq_true, decide_eq_true_eq, decide_eq_true_eq, List.mem_cons]
    constructor
    · rintro (h | h)
      · exact .inl (eq_of_beq h).symm
      · exact .inr h
    · rintro (h | h)
      · exact .inl (beq_iff_eq.mpr h.symm)
      · exact .inr h
theorem flat_ints : ∀ xs : List Int, (xs.map V.int).all flatV = true
  | [] => rfl
  | x :: xs => by rw [List.map_cons, List.all_cons, flat_ints xs]; rfl
theorem r_inS {K : PySem.W.Frag} {H : Hp} {Q : VK} {z : Int} {p : Addr} {xs : List Int} (h : H p = some (.lst (xs.map V.int))) (q : Q (.bl (decide (z ∈ xs))) H) : rIn K false (.int z) (.ref p) H Q := ⟨p, _, rfl, .inl (SqL.of h), rfl, flat_ints xs, by rw [inV_ints]; exact q⟩
theorem r_ninS {K : PySem.W.Frag} {H : Hp} {Q : VK} {z : Int} {p : Addr} {xs : List Int} (h : H p = some (.lst (xs.map V.int))) (q : Q (.bl (!decide (z ∈ xs))) H) : rIn K true (.int z) (.ref p) H Q := ⟨p, _, rfl, .inl (SqL.of h), rfl, flat_ints xs, by rw [inV_ints]; exact q⟩
theorem eqV_int {x y : Int} : eqV (.int x) (.int y) = decide (x = y) := by
  show (x == y) = _
  rw [Bool.eq_iff_iff, beq_iff_eq, decide_eq_true_eq]
theorem r_index {K : PySem.W.Frag} {H : Hp} {Q : VK} {z : Int} {p : Addr} {xs : List Int} (h : H p = some (.lst (xs.map V.int))) (hz : z ∈ xs) (q : ∀ j : Nat, xs[j]? = some z → (∀ m, m < j → xs.getD m 0 ≠ z) → Q (.int (j : Nat)) H) : rIndex K (.ref p) [.int z] H Q := by
  have hs : (first (fun i => decide (xs.getD i 0 = z)) xs.length) ≠ none := fun e => by
    obtain ⟨i, hi⟩ := List.mem_iff_getElem?.mp hz
    have := first_no e i (List.getElem?_eq_some_iff.mp hi).1
    rw [getD_of hi, decide_eq_true rfl] at this
    cases this
  obtain ⟨j, hj⟩ := Option.ne_none_iff_exists'.mp hs
  obtain ⟨h1, h2, h3⟩ := first_yes hj
  have hj2 : xs[j]? = some z := by
    have := of_decide_eq_true h2
    rw [getD_of (List.getElem?_eq_getElem h1)] at this
    rw [List.getElem?_eq_getElem h1, this]
  refine ⟨p, _, .int z, j, .int z, rfl, rfl, SqL.of h, rfl, flat_ints xs, by rw [List.getElem?_map, hj2]; rfl, by rw [eqV_int, decide_eq_true rfl], fun m z' hm hz' => ?_, q j hj2 fun m hm => of_decide_eq_false (h3 m hm)⟩
  obtain ⟨y, hy, rfl⟩ := int_of_get hz'
  have := h3 m hm
  rw [getD_of hy] at this
  rw [eqV_int]
  exact this
/-! what the law says is wrong -/
def againL (rs : List L3) : Flt := atIx "again" (first (fun i => decide ((recvs rs).getD i 0 ∈ (recvs rs).take i)) rs.length)
def nobodyL (n : Int) (rs : List L3) : Flt := Option.map (fun i : Nat => ("nobody", 1 + (i : Int))) (first (fun i => !decide ((1 + (i : Int)) ∈ recvs rs)) (n - 1).toNat)
def earlyL (D : Int) (rs : List L3) : Flt := atIx "early" (first (fun i => decide ((rs.getD i (0, 0, 0)).1 > 0 ∧ (rs.getD i (0, 0, 0)).2.2 < knownOf rs [] D (rs.getD i (0, 0, 0)).1)) rs.length)
def gapL (G : Int) (rs : List L3) : Flt := atIx "gap" (first (fun i => (rs.take i).any fun q => decide (q.1 = (rs.getD i (0, 0, 0)).1 ∧ -G < q.2.2 - (rs.getD i (0, 0, 0)).2.2 ∧ q.2.2 - (rs.getD i (0, 0, 0)).2.2 < G)) rs.length)
def lawF (D G n : Int) (rs : List L3) : Flt := (formS (rs.map (·.2.2))).or ((handF n 0 1 (rs.map fun l => (l.1, l.2.1))).or ((againL rs).or ((nobodyL n rs).or ((earlyL D rs).or (gapL G rs)))))
theorem or_congr {f f' g g' : Flt} (h : f = f') (k : f' = none → g = g') : f.or g = f'.or g' := by
  subst h
  cases f with
  | none => exact k rfl
  | some x => rfl
theorem or_assoc3 {a b c : Flt} : (a.or b).or c = a.or (b.or c) := Option.or_assoc
theorem form_none {ss : List Int} (h : formS ss = none) : ∀ s, s ∈ ss → 0 ≤ s ∧ s ≤ 1000000000000000 := by
  unfold formS atIx at h
  rw [Option.map_eq_none_iff] at h
  intro s hs
  obtain ⟨i, hi⟩ := List.mem_iff_getElem?.mp hs
  have := first_no h i (List.getElem?_eq_some_iff.mp hi).1
  rw [getD_of hi] at this
  unfold okStart at this
  simpa using this
theorem upTo_cons {n : Int} (h : 1 ≤ n) : upTo n = 0 :: (List.range (n - 1).toNat).map fun i : Nat => 1 + (i : Int) := by
  unfold upTo
  have e : n.toNat = (n - 1).toNat + 1 := by omega
  rw [e, List.range_succ_eq_map, List.map_cons, List.map_map]
  congr 1
  refine List.map_congr_left fun x _ => ?_
  show ((x + 1 : Nat) : Int) = 1 + (x : Int)
  omega
theorem find_first (P : Int → Bool) (m : Nat) : ((List.range m).map fun i : Nat => 1 + (i : Int)).find? P = Option.map (fun i : Nat => 1 + (i : Int)) (first (fun i => P (1 + (i : Int))) m) := by
  rw [List.find?_map]
  rfl
theorem known_nil {rs : List L3} {D s : Int} (h : s ≠ 0) : knownOf rs [0] D s = knownOf rs [] D s := by
  unfold knownOf
  rw [if_neg (by rw [List.mem_singleton]; exact h), if_neg (by simp)]
theorem flat_marks (rs : List L3) : (gapMarks rs).flatten = rs.map fun l => (l.1, l.2.2) := by
  unfold gapMarks
  induction rs with
  | nil => rfl
  | cons r rs ih => rw [List.map_cons, List.flatten_cons, ih]; rfl
/-- the law's fault is the program's -/
theorem law_fault {D G n : Int} {rs : List L3} (hn : 1 ≤ n) (hG : 0 < G) : lawF D G n rs = faultF D G n rs := by
  unfold lawF faultF rowF tellingF
  rw [or_assoc3]
  refine or_congr rfl fun hf => or_congr rfl fun hh => ?_
  rw [or_assoc3, or_assoc3]
  have hst : ∀ l, l ∈ rs → 0 ≤ l.2.2 := fun l hl => (form_none hf _ (List.mem_map.mpr ⟨l, hl, rfl⟩)).1
  have hhd : ∀ l, l ∈ rs → (0 ≤ l.1 ∧ l.1 < n) ∧ (1 ≤ l.2.1 ∧ l.2.1 < n) := fun l hl => by
    have := hand_none hh _ (List.mem_map.mpr ⟨l, hl, rfl⟩)
    exact ⟨this.1, this.2.1⟩
  have hr1 : ∀ k, k ∈ recvs rs → 1 ≤ k := fun k hk => by
    obtain ⟨l, hl, rfl⟩ := List.mem_map.mp hk
    exact (hhd l hl).2.1
  have hlr : (recvs rs).length = rs.length := List.length_map _
  refine or_congr ?_ fun ha => or_congr ?_ fun hb => or_congr ?_ fun he => ?_
  · unfold againL againF
    rw [hlr]
    congr 1
    refine first_congr fun i hi => ?_
    rw [decide_eq_decide, List.mem_append, List.mem_singleton]
    refine ⟨.inr, fun h => h.elim (fun e => ?_) id⟩
    have := hr1 _ (List.mem_iff_getElem?.mpr ⟨i, by rw [List.getElem?_eq_getElem (by omega)]⟩ : (recvs rs)[i]'(by omega) ∈ recvs rs)
    rw [getD_of (List.getElem?_eq_getElem (by omega))] at e
    omega
  · unfold nobodyL nobodyF
    rw [upTo_cons hn, List.find?_cons]
    have h0 : (!decide ((0 : Int) ∈ [0] ++ recvs rs)) = false := by
      rw [decide_eq_true (List.mem_append_left _ (List.mem_singleton.mpr rfl))]; rfl
    rw [h0]
    dsimp only
    rw [find_first, Option.map_map]
    rw [first_congr (P := fun i => !decide ((1 + (i : Int)) ∈ recvs rs)) (P' := fun i => !decide ((1 + (i : Int)) ∈ [0] ++ recvs rs)) fun i hi => by
      congr 1
      rw [decide_eq_decide, List.mem_append, List.mem_singleton]
      exact ⟨.inr, fun h => h.elim (fun e => absurd e (by omega)) id⟩]
    rfl
  · unfold earlyL earlyF
    congr 1
    refine first_congr fun i hi => ?_
    have hl := List.getElem?_eq_getElem hi
    rw [getD_of hl, decide_eq_decide]
    have hm : rs[i] ∈ rs := List.getElem_mem hi
    by_cases c : rs[i].1 = 0
    · have h1 := hst _ hm
      unfold knownOf
      rw [c, if_pos (List.mem_singleton.mpr rfl)]
      omega
    · have h1 := (hhd _ hm).1.1
      rw [known_nil c]
      exact ⟨fun h => h.2, fun h => ⟨by omega, h⟩⟩
  · unfold gapL nearF
    rw [if_neg (by omega)]
    have hgl : (gapMarks rs).length = rs.length := List.length_map _
    rw [hgl]
    congr 1
    refine first_congr fun i hi => ?_
    have hl := List.getElem?_eq_getElem hi
    have hm : (gapMarks rs).getD i [] = [(rs[i].1, rs[i].2.2)] := getD_of (by unfold gapMarks; rw [List.getElem?_map, hl]; rfl)
    unfold rowNear
    rw [getD_of hl, hm]
    show _ = ([0].any fun j => _)
    rw [List.any_cons, List.any_nil, Bool.or_false]
    rw [show ((gapMarks rs).take i).flatten = (rs.take i).map fun l => (l.1, l.2.2) by rw [← flat_marks]; unfold gapMarks; rw [List.map_take]]
    rw [List.take_zero, List.append_nil, show ([(rs[i].1, rs[i].2.2)] : List (Int × Int)).getD 0 (0, 0) = (rs[i].1, rs[i].2.2) from rfl]
    unfold nearP near1
    rw [List.any_map]
    congr 1
    funext q
    show decide _ = decide _
    rw [decide_eq_decide]
    dsimp only
    omega
def spLawRow : Sp := fun vs H Q _ => ∃ (t : Addr) (l : L3), vs = [.ref t] ∧ H t = some (.tup [.int l.1, .int l.2.1, .int l.2.2]) ∧ ∀ H', Same H H' → Q (.bl (okStart l.2.2)) H'
def spLawFault : Sp := fun vs H Q _ => ∃ (p : Addr) (D G n : Int) (xs : List V) (rs : List L3), vs = [.int D, .int G, .int n, .ref p] ∧ H p = some (.lst xs) ∧ TrisAt H xs rs ∧ rs.length ≤ 400 ∧ 1 ≤ n ∧ n ≤ 1000 ∧ ∀ v H', Same H H' → FltAt H' v (lawF D G n rs) → Q v H'
def spSameF : Sp := fun vs H Q _ => ∃ (u v : V) (f : Flt), vs = [u, v] ∧ FltAt H u f ∧ FltAt H v f ∧ Q (.bl true) H

/-! ### right plans, and plans changed -/
structure Right (D G n : Int) (rs : List L3) : Prop where
  hands : ∀ l, l ∈ rs → 0 ≤ l.1 ∧ l.1 < l.2.1 ∧ 1 ≤ l.2.1 ∧ l.2.1 < n
  start : ∀ l, l ∈ rs → 0 ≤ l.2.2 ∧ l.2.2 ≤ l.2.1 * (D + G + 3)
  nodup : (recvs rs).Nodup
  all : ∀ x : Int, 1 ≤ x → x < n → x ∈ recvs rs
  order : ∀ l m, l ∈ rs → m ∈ rs → l.2.1 < m.2.1 → l.2.2 + D + G ≤ m.2.2
theorem Right.perm {D G n : Int} {rs ss : List L3} (h : Right D G n rs) (p : rs.Perm ss) : Right D G n ss where
  hands := fun l hl => h.hands l (p.mem_iff.mpr hl)
  start := fun l hl => h.start l (p.mem_iff.mpr hl)
  nodup := List.Perm.nodup_iff (show (recvs rs).Perm (recvs ss) from p.map _) |>.mp h.nodup
  all := fun x h1 h2 => (List.Perm.mem_iff (show (recvs rs).Perm (recvs ss) from p.map _)).mp (h.all x h1 h2)
  order := fun l m hl hm => h.order l m (p.mem_iff.mpr hl) (p.mem_iff.mpr hm)
theorem form_ok {ss : List Int} (h : ∀ s, s ∈ ss → 0 ≤ s ∧ s ≤ 1000000000000000) : formS ss = none := by
  unfold formS
  rw [first_none fun i hi => ?_]
  · rfl
  · rw [getD_of (List.getElem?_eq_getElem hi)]
    unfold okStart
    rw [decide_eq_true (h _ (List.getElem_mem hi))]
    rfl
theorem hand_ok {n fs fr : Int} {ps : List (Int × Int)} (h : ∀ g, g ∈ ps → (fs ≤ g.1 ∧ g.1 < n) ∧ (fr ≤ g.2 ∧ g.2 < n) ∧ g.1 ≠ g.2) : handF n fs fr ps = none := by
  unfold handF
  rw [first_none fun i hi => ?_]
  · rfl
  · rw [getD_of (List.getElem?_eq_getElem hi)]
    unfold badHand
    rw [decide_eq_true (h _ (List.getElem_mem hi))]
    rfl
theorem again_ok {rs : List L3} (h : (recvs rs).Nodup) : againL rs = none := by
  unfold againL
  rw [first_none fun i hi => ?_]
  · rfl
  · have hi' : i < (recvs rs).length := by rw [show (recvs rs).length = rs.length from List.length_map _]; exact hi
    rw [getD_of (List.getElem?_eq_getElem hi')]
    refine decide_eq_false fun z => ?_
    obtain ⟨j, hj⟩ := List.mem_iff_getElem?.mp z
    have hji : j < i := by
      have := (List.getElem?_eq_some_iff.mp hj).1
      rw [List.length_take] at this
      omega
    rw [List.getElem?_take, if_pos hji] at hj
    obtain ⟨h1, h2⟩ := List.getElem?_eq_some_iff.mp hj
    exact (List.pairwise_iff_getElem.mp h) j i h1 hi' hji h2
theorem again_nodup {rs : List L3} (h : againL rs = none) : (recvs rs).Nodup := by
  unfold againL atIx at h
  rw [Option.map_eq_none_iff] at h
  have h := first_no h
  unfold List.Nodup
  rw [List.pairwise_iff_getElem]
  intro i j hi hj hij e
  have := h j (by rw [show (recvs rs).length = rs.length from List.length_map _] at hj; exact hj)
  rw [getD_of (List.getElem?_eq_getElem hj), decide_eq_false_iff_not] at this
  refine this ?_
  rw [← e]
  exact List.mem_iff_getElem?.mpr ⟨i, by rw [List.getElem?_take, if_pos hij, List.getElem?_eq_getElem hi]⟩
theorem nobody_ok {n : Int} {rs : List L3} (h : ∀ x : Int, 1 ≤ x → x < n → x ∈ recvs rs) : nobodyL n rs = none := by
  unfold nobodyL
  rw [first_none fun i hi => ?_]
  · rfl
  · rw [decide_eq_true (h _ (by omega) (by omega))]
    rfl
theorem nobody_all {n : Int} {rs : List L3} (h : nobodyL n rs = none) : ∀ x : Int, 1 ≤ x → x < n → x ∈ recvs rs := fun x h1 h2 => by
  unfold nobodyL at h
  rw [Option.map_eq_none_iff] at h
  have := first_no h (x - 1).toNat (by omega)
  rw [show 1 + (((x - 1).toNat : Nat) : Int) = x by omega] at this
  simpa using this
theorem known_mem {rs : List L3} {D s : Int} (h : s ∈ recvs rs) : ∃ m, m ∈ rs ∧ m.2.1 = s ∧ knownOf rs [] D s = m.2.2 + D := by
  have hs : (rs.find? fun l => decide (l.2.1 = s)).isSome = true := by
    rw [List.find?_isSome]
    obtain ⟨l, hl, rfl⟩ := List.mem_map.mp h
    exact ⟨l, hl, decide_eq_true rfl⟩
  obtain ⟨m, hm⟩ := Option.isSome_iff_exists.mp hs
  refine ⟨m, List.mem_of_find?_eq_some hm, (by have := List.find?_some hm; exact of_decide_eq_true this), ?_⟩
  unfold knownOf
  rw [if_neg (by simp), hm]
  rfl
theorem Right.none {D G n : Int} {rs : List L3} (h : Right D G n rs) (hD : 1 ≤ D ∧ D ≤ 3000000000) (hG : 1 ≤ G ∧ G ≤ 1000000000) (hn : 1 ≤ n ∧ n ≤ 1000) : lawF D G n rs = none := by
  have h1 : formS (rs.map (·.2.2)) = Option.none := form_ok fun s hs => by
    obtain ⟨l, hl, rfl⟩ := List.mem_map.mp hs
    have a := h.start l hl
    have b := h.hands l hl
    have : l.2.1 * (D + G + 3) ≤ 1000 * 4000000003 := Int.mul_le_mul (by omega) (by omega) (by omega) (by omega)
    omega
  have h2 : handF n 0 1 (rs.map fun l => (l.1, l.2.1)) = Option.none := hand_ok fun g hg => by
    obtain ⟨l, hl, rfl⟩ := List.mem_map.mp hg
    have b := h.hands l hl
    exact ⟨⟨b.1, by show l.1 < n; omega⟩, ⟨b.2.2.1, b.2.2.2⟩, by show l.1 ≠ l.2.1; omega⟩
  have h3 := again_ok h.nodup
  have h4 := nobody_ok h.all
  have h5 : earlyL D rs = Option.none := by
    unfold earlyL
    rw [first_none fun i hi => ?_]
    · rfl
    · have hl := List.getElem?_eq_getElem hi
      rw [getD_of hl]
      have hm : rs[i] ∈ rs := List.getElem_mem hi
      refine decide_eq_false fun ⟨c1, c2⟩ => ?_
      have b := h.hands _ hm
      obtain ⟨m, hm2, e1, e2⟩ := known_mem (D := D) (h.all rs[i].1 (by omega) (by omega))
      rw [e2] at c2
      have := h.order m _ hm2 hm (by omega)
      omega
  have h6 : gapL G rs = Option.none := by
    unfold gapL
    rw [first_none fun i hi => ?_]
    · rfl
    · have hl := List.getElem?_eq_getElem hi
      rw [getD_of hl, List.any_eq_false]
      intro q hq he
      obtain ⟨e1, e2, e3⟩ := of_decide_eq_true he
      obtain ⟨j, hj⟩ := List.mem_iff_getElem?.mp hq
      have hji : j < i := by
        have := (List.getElem?_eq_some_iff.mp hj).1
        rw [List.length_take] at this
        omega
      rw [List.getElem?_take, if_pos hji] at hj
      have hq' : q ∈ rs := List.mem_iff_getElem?.mpr ⟨j, hj⟩
      have hm : rs[i] ∈ rs := List.getElem_mem hi
      have hne : q.2.1 ≠ rs[i].2.1 := fun e => by
        have g1 : (recvs rs)[j]? = some q.2.1 := by unfold recvs; rw [List.getElem?_map, hj]; rfl
        have g2 : (recvs rs)[i]? = some rs[i].2.1 := by unfold recvs; rw [List.getElem?_map, hl]; rfl
        obtain ⟨k1, k2⟩ := List.getElem?_eq_some_iff.mp g1
        obtain ⟨k3, k4⟩ := List.getElem?_eq_some_iff.mp g2
        exact (List.pairwise_iff_getElem.mp h.nodup) j i k1 k3 hji (by rw [k2, k4]; exact e)
      rcases Int.lt_or_gt_of_ne hne with c | c
      · have := h.order q _ hq' hm c
        omega
      · have := h.order _ q hm hq' c
        omega
  unfold lawF
  rw [h1, h2, h3, h4, h5, h6]
  rfl
def Told (rs : List L3) : Prop := ∀ l, l ∈ rs → l.1 > 0 → ∃ m, m ∈ rs ∧ m.2.1 = l.1
theorem Right.told {D G n : Int} {rs : List L3} (h : Right D G n rs) : Told rs := fun l hl h0 => by
  have b := h.hands l hl
  obtain ⟨m, hm, e⟩ := List.mem_map.mp (h.all l.1 (by omega) (by omega))
  exact ⟨m, hm, e⟩
structure Chg (kind n D G : Int) (rs ss : List L3) : Prop where
  k0 : kind = 0 → ∃ (i : Nat) (l : L3) (b : Int), rs[i]? = some l ∧ ss = rs.set i (l.1, l.2.1, b) ∧ okStart b = false
  k1 : kind = 1 → ∃ (i : Nat) (l : L3) (g : Int × Int), rs[i]? = some l ∧ ss = rs.set i (g.1, g.2, l.2.2) ∧ badHand n 0 1 g = true
  k2 : kind = 2 → ∃ (i : Nat) (l : L3), l ∈ rs ∧ ss = rs.take i ++ [(l.1, l.2.1, l.2.2 + 3 * (D + G))] ++ rs.drop i
  k3 : kind = 3 → ∃ (i : Nat) (l : L3), rs[i]? = some l ∧ ss = rs.take i ++ rs.drop (i + 1)
  k4 : 4 ≤ kind → Told rs → Told ss
  len : ss.length ≤ rs.length + 1
def wordOf (kind : Int) : Str := if kind = 0 then "form" else if kind = 1 then "hand" else if kind = 2 then "again" else "nobody"
theorem atIx_word {w : Str} {o : Option Nat} (h : atIx w o ≠ none) : ∃ i, atIx w o = some (w, i) := by
  cases o with
  | none => exact absurd rfl h
  | some i => exact ⟨_, rfl⟩
theorem nobody_word {n : Int} {rs : List L3} (h : nobodyL n rs ≠ none) : ∃ i : Int, nobodyL n rs = some (("nobody" : Str), i) := by
  unfold nobodyL at h ⊢
  cases e : first (fun i => !decide ((1 + (i : Int)) ∈ recvs rs)) (n - 1).toNat with
  | none => rw [e] at h; exact absurd rfl h
  | some i => exact ⟨_, rfl⟩
/-- the fault of a plan changed in one way -/
theorem chg_word {kind D G n : Int} {rs ss : List L3} (h : Right D G n rs) (c : Chg kind n D G rs ss) (hk : 0 ≤ kind ∧ kind < 4) (hD : 1 ≤ D ∧ D ≤ 3000000000) (hG : 1 ≤ G ∧ G ≤ 1000000000) (hn : 1 ≤ n ∧ n ≤ 1000) : ∃ i, lawF D G n ss = some (wordOf kind, i) := by
  have hst : ∀ l, l ∈ rs → 0 ≤ l.2.2 ∧ l.2.2 ≤ 4000000003000 := fun l hl => by
    have a := h.start l hl
    have b := h.hands l hl
    have : l.2.1 * (D + G + 3) ≤ 1000 * 4000000003 := Int.mul_le_mul (by omega) (by omega) (by omega) (by omega)
    omega
  have hgood : ∀ l, l ∈ rs → (0 ≤ l.1 ∧ l.1 < n) ∧ (1 ≤ l.2.1 ∧ l.2.1 < n) ∧ l.1 ≠ l.2.1 := fun l hl => by
    have b := h.hands l hl
    exact ⟨⟨b.1, by omega⟩, ⟨b.2.2.1, b.2.2.2⟩, by omega⟩
  have form : (∀ l, l ∈ ss → 0 ≤ l.2.2 ∧ l.2.2 ≤ 1000000000000000) → formS (ss.map (·.2.2)) = none := fun q => form_ok fun s hs => by
    obtain ⟨l, hl, rfl⟩ := List.mem_map.mp hs
    exact q l hl
  have hand : (∀ l, l ∈ ss → (0 ≤ l.1 ∧ l.1 < n) ∧ (1 ≤ l.2.1 ∧ l.2.1 < n) ∧ l.1 ≠ l.2.1) → handF n 0 1 (ss.map fun l => (l.1, l.2.1)) = none := fun q => hand_ok fun g hg => by
    obtain ⟨l, hl, rfl⟩ := List.mem_map.mp hg
    exact q l hl
  have hcases : kind = 0 ∨ kind = 1 ∨ kind = 2 ∨ kind = 3 := by omega
  unfold lawF
  rcases hcases with rfl | rfl | rfl | rfl
  · obtain ⟨i, l, b, hl, rfl, hb⟩ := c.k0 rfl
    have hi := (List.getElem?_eq_some_iff.mp hl).1
    have hne : formS ((rs.set i (l.1, l.2.1, b)).map (·.2.2)) ≠ none := fun z => by
      have := form_none z b (List.mem_map.mpr ⟨(l.1, l.2.1, b), List.mem_set hi _, rfl⟩)
      unfold okStart at hb
      rw [decide_eq_true this] at hb
      cases hb
    obtain ⟨j, hj⟩ := atIx_word hne
    refine ⟨j, ?_⟩
    have hj : formS ((rs.set i (l.1, l.2.1, b)).map (·.2.2)) = some (("form" : Str), j) := hj
    rw [hj]
    rfl
  · obtain ⟨i, l, g, hl, rfl, hb⟩ := c.k1 rfl
    have hi := (List.getElem?_eq_some_iff.mp hl).1
    have hlm := List.mem_iff_getElem?.mpr ⟨i, hl⟩
    rw [form fun x hx => by
      rcases List.mem_or_eq_of_mem_set hx with hx | rfl
      · have := hst x hx; omega
      · have := hst l hlm; dsimp only; omega]
    have hne : handF n 0 1 ((rs.set i (g.1, g.2, l.2.2)).map fun l => (l.1, l.2.1)) ≠ none := fun z => by
      have := hand_none z (g.1, g.2) (List.mem_map.mpr ⟨(g.1, g.2, l.2.2), List.mem_set hi _, rfl⟩)
      unfold badHand at hb
      rw [decide_eq_true this] at hb
      cases hb
    obtain ⟨j, hj⟩ := atIx_word hne
    have hj : handF n 0 1 ((rs.set i (g.1, g.2, l.2.2)).map fun l => (l.1, l.2.1)) = some (("hand" : Str), j) := hj
    exact ⟨j, by rw [hj]; rfl⟩
  · obtain ⟨i, l, hlm, hss⟩ := c.k2 rfl
    have hmem : ∀ x, x ∈ ss → x ∈ rs ∨ x = (l.1, l.2.1, l.2.2 + 3 * (D + G)) := fun x hx => by
      rw [hss, List.append_assoc] at hx
      rcases List.mem_append.mp hx with hx | hx
      · exact .inl (List.mem_of_mem_take hx)
      · rcases List.mem_append.mp hx with hx | hx
        · exact .inr (List.mem_singleton.mp hx)
        · exact .inl (List.mem_of_mem_drop hx)
    rw [form fun x hx => by
      rcases hmem x hx with hx | rfl
      · have := hst x hx; omega
      · have := hst l hlm; dsimp only; omega]
    rw [hand fun x hx => by
      rcases hmem x hx with hx | rfl
      · exact hgood x hx
      · exact hgood l hlm]
    have hne : againL ss ≠ none := fun z => by
      have hnd := again_nodup z
      unfold recvs at hnd
      rw [hss, List.append_assoc, List.map_append, List.map_append] at hnd
      have hin : l.2.1 ∈ (rs.take i).map (·.2.1) ++ (rs.drop i).map (·.2.1) := by
        rw [← List.map_append, List.take_append_drop]
        exact List.mem_map.mpr ⟨l, hlm, rfl⟩
      have hp : ((rs.take i).map (·.2.1) ++ ([(l.1, l.2.1, l.2.2 + 3 * (D + G))].map (·.2.1) ++ (rs.drop i).map (·.2.1))).Perm (l.2.1 :: ((rs.take i).map (·.2.1) ++ (rs.drop i).map (·.2.1))) := List.perm_middle
      have := (hp.nodup_iff.mp hnd)
      exact (List.nodup_cons.mp this).1 hin
    obtain ⟨j, hj⟩ := atIx_word hne
    have hj : againL ss = some (("again" : Str), j) := hj
    exact ⟨j, by rw [hj]; rfl⟩
  · obtain ⟨i, l, hl, hss⟩ := c.k3 rfl
    have hlm := List.mem_iff_getElem?.mpr ⟨i, hl⟩
    have hi := (List.getElem?_eq_some_iff.mp hl).1
    have hp : rs.Perm (l :: ss) := by
      have e : rs = rs.take i ++ l :: rs.drop (i + 1) := by
        conv => lhs; rw [← List.take_append_drop i rs]
        rw [List.drop_eq_getElem_cons hi, (List.getElem?_eq_some_iff.mp hl).2]
      rw [hss]
      conv => lhs; rw [e]
      exact List.perm_middle
    have hmem : ∀ x, x ∈ ss → x ∈ rs := fun x hx => hp.mem_iff.mpr (List.mem_cons_of_mem _ hx)
    have hnd : (l.2.1 :: recvs ss).Nodup := List.Perm.nodup_iff (show (recvs rs).Perm (l.2.1 :: recvs ss) from hp.map _) |>.mp h.nodup
    rw [form fun x hx => by have := hst x (hmem x hx); omega, hand fun x hx => hgood x (hmem x hx), again_ok (List.nodup_cons.mp hnd).2]
    have hne : nobodyL n ss ≠ none := fun z => by
      have b := h.hands l hlm
      exact (List.nodup_cons.mp hnd).1 (nobody_all z l.2.1 b.2.2.1 b.2.2.2)
    obtain ⟨j, hj⟩ := nobody_word hne
    exact ⟨j, by rw [hj]; rfl⟩

/-! ### plans drawn by a law: grown row by row -/
structure Grow (D G n most : Int) (k : Nat) (R T : List Int) (sn fr : Int → Int) (rs : List L3) : Prop where
  lenR : (R.length : Int) + k = n - 1
  lenT : T.length = k + 1
  lenL : rs.length = k
  inR : ∀ x, x ∈ R → 1 ≤ x ∧ x < n
  inT : ∀ x, x ∈ T → 0 ≤ x ∧ x < n
  cover : ∀ x : Int, 0 ≤ x → x < n → x ∈ R ∨ x ∈ T
  apart : ∀ x, x ∈ R → x ∉ T
  nodR : R.Nodup
  told : ∀ x, x ∈ recvs rs ↔ x ∈ T ∧ x ≠ 0
  nodL : (recvs rs).Nodup
  send : ∀ l, l ∈ rs → l.1 ∈ T ∧ l.1 ≠ l.2.1
  free0 : ∀ x, x ∈ T → 0 ≤ fr x ∧ fr x ≤ (k : Int) * (4 * (D + G))
  free1 : ∀ l, l ∈ rs → l.2.2 + G ≤ fr l.1
  freeK : ∀ l, l ∈ rs → l.2.2 + D ≤ fr l.2.1
  start : ∀ l, l ∈ rs → 0 ≤ l.2.2 ∧ l.2.2 ≤ (k : Int) * (4 * (D + G))
  known : ∀ l, l ∈ rs → l.1 ≠ 0 → ∃ m, m ∈ rs ∧ m.2.1 = l.1 ∧ m.2.2 + D ≤ l.2.2
  gaps : ∀ l m, l ∈ rs → m ∈ rs → l.1 = m.1 → l.2.1 ≠ m.2.1 → l.2.2 + G ≤ m.2.2 ∨ m.2.2 + G ≤ l.2.2
  turns : ∀ x, x ∈ T → sn x = ((rs.countP fun l => decide (l.1 = x) : Nat) : Int) ∧ sn x ≤ most
  idle : ∃ x, x ∈ T ∧ sn x = 0
theorem recvs_mem {rs : List L3} {l : L3} (h : l ∈ rs) : l.2.1 ∈ recvs rs := List.mem_map.mpr ⟨l, h, rfl⟩
theorem Grow.perm {D G n most : Int} {k : Nat} {R T : List Int} {sn fr : Int → Int} {rs ss : List L3} (h : Grow D G n most k R T sn fr rs) (p : rs.Perm ss) : Grow D G n most k R T sn fr ss :=
  { h with
    lenL := by rw [← p.length_eq]; exact h.lenL
    told := fun x => ((List.Perm.mem_iff (show (recvs rs).Perm (recvs ss) from p.map _)).symm).trans (h.told x)
    nodL := List.Perm.nodup_iff (show (recvs rs).Perm (recvs ss) from p.map _) |>.mp h.nodL
    send := fun l hl => h.send l (p.mem_iff.mpr hl)
    free1 := fun l hl => h.free1 l (p.mem_iff.mpr hl)
    freeK := fun l hl => h.freeK l (p.mem_iff.mpr hl)
    start := fun l hl => h.start l (p.mem_iff.mpr hl)
    known := fun l hl h0 => let ⟨m, hm, e⟩ := h.known l (p.mem_iff.mpr hl) h0; ⟨m, p.mem_iff.mp hm, e⟩
    gaps := fun l m hl hm => h.gaps l m (p.mem_iff.mpr hl) (p.mem_iff.mpr hm)
    turns := fun x hx => by rw [← p.countP_eq]; exact h.turns x hx }
theorem Grow.first {D G n most : Int} (hn : 1 ≤ n) (hm : 0 ≤ most) (R : List Int) (hR : (R.length : Int) = n - 1) (hi : ∀ x, x ∈ R ↔ 1 ≤ x ∧ x < n) (nd : R.Nodup) : Grow D G n most 0 R [0] (fun _ => 0) (fun _ => 0) [] where
  lenR := by rw [hR]; omega
  lenT := rfl
  lenL := rfl
  inR := fun x hx => (hi x).mp hx
  inT := fun x hx => by rw [List.mem_singleton] at hx; omega
  cover := fun x h0 h1 => by
    by_cases c : x = 0
    · exact .inr (by rw [c]; exact List.mem_singleton.mpr rfl)
    · exact .inl ((hi x).mpr (by omega))
  apart := fun x hx z => by rw [List.mem_singleton] at z; have := (hi x).mp hx; omega
  nodR := nd
  told := fun x => ⟨(fun z => nomatch z), fun ⟨z, e⟩ => absurd (List.mem_singleton.mp z) e⟩
  nodL := List.nodup_nil
  send := fun l hl => nomatch hl
  free0 := fun x hx => ⟨Int.le_refl _, by rw [show ((0 : Nat) : Int) = 0 from rfl, Int.zero_mul]; exact Int.le_refl _⟩
  free1 := fun l hl => nomatch hl
  freeK := fun l hl => nomatch hl
  start := fun l hl => nomatch hl
  known := fun l hl => nomatch hl
  gaps := fun l m hl => nomatch hl
  turns := fun x hx => ⟨rfl, hm⟩
  idle := ⟨0, List.mem_singleton.mpr rfl, rfl⟩
theorem Grow.step {D G n most : Int} {k i : Nat} {R T : List Int} {sn fr : Int → Int} {rs : List L3} {x y wt : Int} (h : Grow D G n most k R T sn fr rs) (hD : 0 ≤ D) (hG : 0 ≤ G) (hy : R[i]? = some y) (hx : x ∈ T) (hs : sn x < most) (w0 : 0 ≤ wt) (w9 : wt ≤ 3 * (D + G)) (s0 : 0 ≤ sn x) :
    Grow D G n most (k + 1) (R.eraseIdx i) (T ++ [y]) (fun z => if z = y then 0 else if z = x then sn x + 1 else sn z) (fun z => if z = y then fr x + wt + D else if z = x then fr x + wt + G else fr z) (rs ++ [(x, y, fr x + wt)]) := by
  have hyR : y ∈ R := List.mem_iff_getElem?.mpr ⟨i, hy⟩
  have hyT := h.apart y hyR
  have yb := h.inR y hyR
  have xy : x ≠ y := fun e => hyT (e ▸ hx)
  have fx := h.free0 x hx
  have hk : ((k + 1 : Nat) : Int) * (4 * (D + G)) = (k : Int) * (4 * (D + G)) + 4 * (D + G) := by rw [Int.natCast_add, Int.add_mul]; omega
  have hny : ∀ l, l ∈ rs → l.1 ≠ y := fun l hl e => hyT (e ▸ (h.send l hl).1)
  have hnr : ∀ l, l ∈ rs → l.2.1 ≠ y := fun l hl e => hyT (e ▸ ((h.told _).mp (recvs_mem hl)).1)
  have hil := (List.getElem?_eq_some_iff.mp hy).1
  have rc : recvs (rs ++ [(x, y, fr x + wt)]) = recvs rs ++ [y] := by unfold recvs; rw [List.map_append]; rfl
  refine ⟨?_, ?_, ?_, ?_, ?_, ?_, ?_, ?_, ?_, ?_, ?_, ?_, ?_, ?_, ?_, ?_, ?_, ?_, ?_⟩
  · rw [List.length_eraseIdx_of_lt hil]; have := h.lenR; omega
  · rw [List.length_append, h.lenT]; rfl
  · rw [List.length_append, h.lenL]; rfl
  · exact fun z hz => h.inR z (List.mem_of_mem_eraseIdx hz)
  · intro z hz
    rcases List.mem_append.mp hz with hz | hz
    · exact h.inT z hz
    · rw [List.mem_singleton] at hz; omega
  · intro z h0 h1
    by_cases c : z = y
    · exact .inr (List.mem_append_right _ (List.mem_singleton.mpr c))
    · rcases h.cover z h0 h1 with q | q
      · left
        obtain ⟨j, hj⟩ := List.mem_iff_getElem?.mp q
        have hji : j ≠ i := fun e => by rw [e, hy] at hj; exact c (Option.some.inj hj).symm
        rw [List.mem_iff_getElem?]
        by_cases lt : j < i
        · exact ⟨j, by rw [List.getElem?_eraseIdx_of_lt lt]; exact hj⟩
        · exact ⟨j - 1, by rw [List.getElem?_eraseIdx_of_ge (by omega), show j - 1 + 1 = j by omega]; exact hj⟩
      · exact .inr (List.mem_append_left _ q)
  · intro z hz q
    rcases List.mem_append.mp q with q | q
    · exact h.apart z (List.mem_of_mem_eraseIdx hz) q
    · rw [List.mem_singleton] at q
      subst q
      obtain ⟨j, hj⟩ := List.mem_iff_getElem?.mp hz
      have nd := List.pairwise_iff_getElem.mp h.nodR
      have hRi : R[i] = z := by rw [List.getElem?_eq_getElem hil] at hy; exact Option.some.inj hy
      by_cases lt : j < i
      · rw [List.getElem?_eraseIdx_of_lt lt] at hj
        obtain ⟨a1, a2⟩ := List.getElem?_eq_some_iff.mp hj
        exact nd j i a1 hil lt (by rw [a2, hRi])
      · rw [List.getElem?_eraseIdx_of_ge (by omega)] at hj
        obtain ⟨a1, a2⟩ := List.getElem?_eq_some_iff.mp hj
        exact nd i (j + 1) hil a1 (by omega) (by rw [a2, hRi])
  · exact List.Nodup.sublist (List.eraseIdx_sublist _ _) h.nodR
  · intro z
    rw [rc, List.mem_append, List.mem_append, List.mem_singleton, h.told z]
    constructor
    · rintro (⟨q, e⟩ | q)
      · exact ⟨.inl q, e⟩
      · exact ⟨.inr q, by omega⟩
    · rintro ⟨q | q, e⟩
      · exact .inl ⟨q, e⟩
      · exact .inr q
  · rw [rc]
    have hp : (recvs rs ++ [y]).Perm (y :: recvs rs) := List.perm_append_comm
    exact hp.nodup_iff.mpr (List.nodup_cons.mpr ⟨fun z => hyT ((h.told y).mp z).1, h.nodL⟩)
  · intro l hl
    rcases List.mem_append.mp hl with hl | hl
    · exact ⟨List.mem_append_left _ (h.send l hl).1, (h.send l hl).2⟩
    · rw [List.mem_singleton] at hl; subst hl; exact ⟨List.mem_append_left _ hx, xy⟩
  · intro z hz
    try dsimp only
    rw [hk]
    split
    · omega
    · rename_i c
      split
      · omega
      · rcases List.mem_append.mp hz with hz | hz
        · have := h.free0 z hz; omega
        · exact absurd (List.mem_singleton.mp hz) c
  · intro l hl
    try dsimp only
    rcases List.mem_append.mp hl with hl | hl
    · rw [if_neg (hny l hl)]
      have := h.free1 l hl
      split
      · rename_i c; rw [c] at this; omega
      · exact this
    · rw [List.mem_singleton] at hl; subst hl; rw [if_neg xy, if_pos rfl]; exact Int.le_refl _
  · intro l hl
    try dsimp only
    rcases List.mem_append.mp hl with hl | hl
    · rw [if_neg (hnr l hl)]
      have := h.freeK l hl
      split
      · rename_i c; rw [c] at this; omega
      · exact this
    · rw [List.mem_singleton] at hl; subst hl; rw [if_pos rfl]; exact Int.le_refl _
  · intro l hl
    rw [hk]
    rcases List.mem_append.mp hl with hl | hl
    · have := h.start l hl; omega
    · rw [List.mem_singleton] at hl; subst hl; dsimp only; omega
  · intro l hl h0
    rcases List.mem_append.mp hl with hl | hl
    · obtain ⟨m, hm, e⟩ := h.known l hl h0
      exact ⟨m, List.mem_append_left _ hm, e⟩
    · rw [List.mem_singleton] at hl; subst hl
      obtain ⟨m, hm, e⟩ := List.mem_map.mp ((h.told x).mpr ⟨hx, h0⟩)
      have := h.freeK m hm
      try dsimp only at e
      rw [e] at this
      exact ⟨m, List.mem_append_left _ hm, e, by dsimp only; omega⟩
  · intro l m hl hm e ne
    rcases List.mem_append.mp hl with hl | hl
    · rcases List.mem_append.mp hm with hm | hm
      · exact h.gaps l m hl hm e ne
      · rw [List.mem_singleton] at hm; subst hm
        have := h.free1 l hl
        rw [e] at this
        exact .inl (by dsimp only at this ⊢; omega)
    · rw [List.mem_singleton] at hl; subst hl
      rcases List.mem_append.mp hm with hm | hm
      · have := h.free1 m hm
        rw [← e] at this
        exact .inr (by dsimp only at this ⊢; omega)
      · rw [List.mem_singleton] at hm; subst hm; exact absurd rfl ne
  · intro z hz
    try dsimp only
    rw [List.countP_append]
    by_cases c : z = y
    · rw [if_pos c, c]
      have e0 : rs.countP (fun l => decide (l.1 = y)) = 0 := List.countP_eq_zero.mpr fun l hl => by simpa using hny l hl
      rw [e0, List.countP_singleton, if_neg (by simpa using xy)]
      exact ⟨rfl, by omega⟩
    · rw [if_neg c]
      have hzT : z ∈ T := (List.mem_append.mp hz).resolve_right fun q => c (List.mem_singleton.mp q)
      have t := h.turns z hzT
      by_cases d : z = x
      · rw [if_pos d, d, List.countP_singleton, if_pos (by simp)]
        rw [d] at t
        omega
      · rw [if_neg d, List.countP_singleton, if_neg (by simpa using fun e : x = z => d e.symm)]
        exact t
  · exact ⟨y, List.mem_append_right _ (List.mem_singleton.mpr rfl), if_pos rfl⟩
/-- a right plan, as a law draws it -/
structure RightP (D G n most : Int) (rs : List L3) : Prop where
  len : (rs.length : Int) = n - 1
  hands : ∀ l, l ∈ rs → (0 ≤ l.1 ∧ l.1 < n) ∧ (1 ≤ l.2.1 ∧ l.2.1 < n) ∧ l.1 ≠ l.2.1
  start : ∀ l, l ∈ rs → 0 ≤ l.2.2 ∧ l.2.2 ≤ (n - 1) * (4 * (D + G))
  nodup : (recvs rs).Nodup
  all : ∀ x : Int, 1 ≤ x → x < n → x ∈ recvs rs
  known : ∀ l, l ∈ rs → l.1 ≠ 0 → ∃ m, m ∈ rs ∧ m.2.1 = l.1 ∧ m.2.2 + D ≤ l.2.2
  gaps : ∀ l m, l ∈ rs → m ∈ rs → l.1 = m.1 → l.2.1 ≠ m.2.1 → l.2.2 + G ≤ m.2.2 ∨ m.2.2 + G ≤ l.2.2
  turns : ∀ x : Int, 0 ≤ x → x < n → ((rs.countP fun l => decide (l.1 = x) : Nat) : Int) ≤ most
theorem Grow.right {D G n most : Int} {k : Nat} {R T : List Int} {sn fr : Int → Int} {rs : List L3} (h : Grow D G n most k R T sn fr rs) (hk : (k : Int) = n - 1) : RightP D G n most rs := by
  have hR : R = [] := List.eq_nil_of_length_eq_zero (by have := h.lenR; omega)
  have hc : ∀ x : Int, 0 ≤ x → x < n → x ∈ T := fun x h0 h1 => (h.cover x h0 h1).resolve_left fun z => by rw [hR] at z; nomatch z
  refine ⟨by rw [h.lenL]; exact hk, fun l hl => ?_, fun l hl => ?_, h.nodL, fun x h0 h1 => (h.told x).mpr ⟨hc x (by omega) h1, by omega⟩, h.known, h.gaps, fun x h0 h1 => ?_⟩
  · have a := h.send l hl
    have b := h.inT _ a.1
    have c := (h.told _).mp (recvs_mem hl)
    have d := h.inT _ c.1
    have e := c.2
    exact ⟨b, ⟨by omega, d.2⟩, a.2⟩
  · have := h.start l hl
    rw [hk] at this
    exact this
  · have t := h.turns x (hc x h0 h1)
    omega
theorem RightP.none {D G n most : Int} {rs : List L3} (h : RightP D G n most rs) (hD : 1 ≤ D ∧ D ≤ 3000000000) (hG : 1 ≤ G ∧ G ≤ 1000000000) (hn : 1 ≤ n ∧ n ≤ 1000) : lawF D G n rs = Option.none := by
  have h1 : formS (rs.map (·.2.2)) = Option.none := form_ok fun s hs => by
    obtain ⟨l, hl, rfl⟩ := List.mem_map.mp hs
    have a := h.start l hl
    have : (n - 1) * (4 * (D + G)) ≤ 1000 * 16000000000 := Int.mul_le_mul (by omega) (by omega) (by omega) (by omega)
    omega
  have h2 : handF n 0 1 (rs.map fun l => (l.1, l.2.1)) = Option.none := hand_ok fun g hg => by
    obtain ⟨l, hl, rfl⟩ := List.mem_map.mp hg
    exact h.hands l hl
  have h3 := again_ok h.nodup
  have h4 := nobody_ok h.all
  have uniq : ∀ l m, l ∈ rs → m ∈ rs → l.2.1 = m.2.1 → l = m := fun l m hl hm e => by
    obtain ⟨i, hi⟩ := List.mem_iff_getElem?.mp hl
    obtain ⟨j, hj⟩ := List.mem_iff_getElem?.mp hm
    have g1 : (recvs rs)[i]? = some l.2.1 := by unfold recvs; rw [List.getElem?_map, hi]; rfl
    have g2 : (recvs rs)[j]? = some m.2.1 := by unfold recvs; rw [List.getElem?_map, hj]; rfl
    obtain ⟨k1, k2⟩ := List.getElem?_eq_some_iff.mp g1
    obtain ⟨k3, k4⟩ := List.getElem?_eq_some_iff.mp g2
    have nd := List.pairwise_iff_getElem.mp h.nodup
    rcases Nat.lt_trichotomy i j with c | c | c
    · exact absurd (k2.trans (e.trans k4.symm)) (nd i j k1 k3 c)
    · subst c; exact Option.some.inj (hi.symm.trans hj)
    · exact absurd (k4.trans (e.symm.trans k2.symm)) (nd j i k3 k1 c)
  have h5 : earlyL D rs = Option.none := by
    unfold earlyL
    rw [first_none fun i hi => ?_]
    · rfl
    · have hl := List.getElem?_eq_getElem hi
      rw [getD_of hl]
      have hm : rs[i] ∈ rs := List.getElem_mem hi
      refine decide_eq_false fun ⟨c1, c2⟩ => ?_
      obtain ⟨m, hm1, e1, e2⟩ := h.known _ hm (by omega)
      have b := (h.hands _ hm).1
      obtain ⟨m2, hm2, e3, e4⟩ := known_mem (D := D) (h.all rs[i].1 (by omega) (by omega))
      rw [e4, uniq m2 m hm2 hm1 (e3.trans e1.symm)] at c2
      omega
  have h6 : gapL G rs = Option.none := by
    unfold gapL
    rw [first_none fun i hi => ?_]
    · rfl
    · have hl := List.getElem?_eq_getElem hi
      rw [getD_of hl, List.any_eq_false]
      intro q hq he
      obtain ⟨e1, e2, e3⟩ := of_decide_eq_true he
      obtain ⟨j, hj⟩ := List.mem_iff_getElem?.mp hq
      have hji : j < i := by
        have := (List.getElem?_eq_some_iff.mp hj).1
        rw [List.length_take] at this
        omega
      rw [List.getElem?_take, if_pos hji] at hj
      have hq' : q ∈ rs := List.mem_iff_getElem?.mpr ⟨j, hj⟩
      have hm : rs[i] ∈ rs := List.getElem_mem hi
      have hne : q.2.1 ≠ rs[i].2.1 := fun e => by
        have g1 : (recvs rs)[j]? = some q.2.1 := by unfold recvs; rw [List.getElem?_map, hj]; rfl
        have g2 : (recvs rs)[i]? = some rs[i].2.1 := by unfold recvs; rw [List.getElem?_map, hl]; rfl
        obtain ⟨k1, k2⟩ := List.getElem?_eq_some_iff.mp g1
        obtain ⟨k3, k4⟩ := List.getElem?_eq_some_iff.mp g2
        exact (List.pairwise_iff_getElem.mp h.nodup) j i k1 k3 hji (by rw [k2, k4]; exact e)
      rcases h.gaps q _ hq' hm e1 hne with c | c <;> omega
  unfold lawF
  rw [h1, h2, h3, h4, h5, h6]
  rfl
theorem RightP.ok {D G n most : Int} {rs : List L3} (h : RightP D G n most rs) (hD : 1 ≤ D ∧ D ≤ 3000000000) (hG : 1 ≤ G ∧ G ≤ 1000000000) (hn : 1 ≤ n ∧ n ≤ 1000) : faultF D G n rs = Option.none := (law_fault hn.1 (by omega)).symm.trans (h.none hD hG hn)

/-! ### compares of strings -/
theorem r_eqStr {H : Hp} {Q : VK} {x y : Str} (b : Bool) (h : decide (V.str x = V.str y) = b) (q : Q (.bl b) H) : rEq (.str x) (.str y) H Q := ⟨rfl, by rw [h]; exact q⟩
theorem r_neStr {H : Hp} {Q : VK} {x y : Str} (b : Bool) (h : decide (V.str x = V.str y) = b) (q : Q (.bl (!b)) H) : rNe (.str x) (.str y) H Q := ⟨rfl, by rw [h]; exact q⟩
theorem r_isNs {H : Hp} {Q : VK} {s : Str} (q : Q (.bl false) H) : rIsNo (.str s) .non H Q := ⟨rfl, q⟩
theorem r_notNs {H : Hp} {Q : VK} {s : Str} (q : Q (.bl true) H) : rNotNo (.str s) .non H Q := ⟨rfl, q⟩

/-! ### rows of three in a list, kept and changed -/
theorem tup_but {H H' : Hp} {p q f : Addr} {xs : List V} (e : H f = some (.tup xs)) (hs : SrcAt H p q) (b : But p H H') : H' f = some (.tup xs) := b _ _ e (fun z => by
  obtain ⟨cs, i, big, cnt, st, h1, _⟩ := hs
  rw [z, h1] at e; cases e)
theorem TrisAt.but {H H' : Hp} {xs : List V} {ls : List L3} {p q : Addr} (h : TrisAt H xs ls) (hs : SrcAt H p q) (b : But p H H') : TrisAt H' xs ls := ⟨h.1, fun i g hg => let ⟨t, e, z⟩ := h.2 i g hg; ⟨t, e, tup_but z hs b⟩⟩
theorem TrisAt.split {H : Hp} {x : V} {i : Nat} {xs : List V} {l : L3} {ls : List L3} {t : Addr} (h : TrisAt H xs ls) (hx : x = .ref t) (e : H t = some (.tup (triV l))) : TrisAt H (xs.take i ++ [x] ++ xs.drop i) (ls.take i ++ [l] ++ ls.drop i) := by
  subst hx
  have hl := h.1
  refine ⟨by simp [hl], fun j g hg => ?_⟩
  rw [List.append_assoc] at hg ⊢
  by_cases c1 : j < (ls.take i).length
  · rw [List.getElem?_append_left c1] at hg
    rw [List.getElem?_append_left (by rw [List.length_take] at c1 ⊢; omega)]
    have hji : j < i := by rw [List.length_take] at c1; omega
    rw [List.getElem?_take, if_pos hji] at hg ⊢
    exact h.2 j g hg
  · have e1 : (ls.take i).length = (xs.take i).length := by rw [List.length_take, List.length_take, hl]
    rw [List.getElem?_append_right (by omega)] at hg
    rw [List.getElem?_append_right (by omega), ← e1]
    cases c2 : j - (ls.take i).length with
    | zero =>
      rw [c2] at hg
      obtain rfl := Option.some.inj hg
      exact ⟨t, rfl, e⟩
    | succ m =>
      rw [c2] at hg
      have hg : (ls.drop i)[m]? = some g := hg
      show ∃ t, (xs.drop i)[m]? = some (.ref t) ∧ _
      rw [List.getElem?_drop] at hg ⊢
      exact h.2 _ g hg
theorem TrisAt.set {H : Hp} {xs : List V} {ls : List L3} {t : Addr} {l : L3} {i : Nat} (h : TrisAt H xs ls) (e : H t = some (.tup (triV l))) : TrisAt H (xs.set i (.ref t)) (ls.set i l) := ⟨by rw [List.length_set, List.length_set, h.1], fun j g hg => by
  rw [List.getElem?_set] at hg ⊢
  by_cases c : i = j
  · rw [if_pos c] at hg ⊢
    split at hg
    · rename_i hlt
      rw [if_pos (by rw [h.1]; exact hlt)]
      obtain rfl := Option.some.inj hg
      exact ⟨t, rfl, e⟩
    · cases hg
  · rw [if_neg c] at hg ⊢
    exact h.2 j g hg⟩
theorem TrisAt.cat {H : Hp} {xs ys : List V} {ls ms : List L3} (h : TrisAt H xs ls) (k : TrisAt H ys ms) : TrisAt H (xs ++ ys) (ls ++ ms) := ⟨by rw [List.length_append, List.length_append, h.1, k.1], fun i r hr => by
  by_cases hi : i < ls.length
  · rw [List.getElem?_append_left hi] at hr
    rw [List.getElem?_append_left (by rw [h.1]; exact hi)]
    exact h.2 i r hr
  · rw [List.getElem?_append_right (by omega)] at hr
    rw [List.getElem?_append_right (by rw [h.1]; omega), h.1]
    exact k.2 _ r hr⟩
theorem TrisAt.take {H : Hp} {xs : List V} {ls : List L3} {i : Nat} (h : TrisAt H xs ls) : TrisAt H (xs.take i) (ls.take i) := ⟨by rw [List.length_take, List.length_take, h.1], fun j g hg => by
  rw [List.getElem?_take] at hg ⊢
  by_cases c : j < i
  · rw [if_pos c] at hg ⊢; exact h.2 j g hg
  · rw [if_neg c] at hg; cases hg⟩
theorem TrisAt.drop {H : Hp} {xs : List V} {ls : List L3} {i : Nat} (h : TrisAt H xs ls) : TrisAt H (xs.drop i) (ls.drop i) := ⟨by rw [List.length_drop, List.length_drop, h.1], fun j g hg => by
  rw [List.getElem?_drop] at hg ⊢; exact h.2 _ g hg⟩
def Kp (p L : Addr) (H H' : Hp) : Prop := ∀ b o, H b = some o → b ≠ p → b ≠ L → H' b = some o
theorem Kp.refl (p L : Addr) (H : Hp) : Kp p L H H := fun _ _ h _ _ => h
structure S3 (p q L : Addr) (H0 : Hp) (xs : List V) (rs : List L3) (H : Hp) : Prop where
  hs : SrcAt H p q
  kp : Kp p L H0 H
  eL : H L = some (.lst xs)
  hA : TrisAt H xs rs
  nLp : L ≠ p
  nLq : L ≠ q
theorem S3.keep {p q L : Addr} {H0 H H' : Hp} {xs : List V} {rs : List L3} (h : S3 p q L H0 xs rs H) (s : Same H H') : S3 p q L H0 xs rs H' := ⟨h.hs.keep s, fun b o e n1 n2 => s _ _ (h.kp b o e n1 n2), s _ _ h.eL, h.hA.keep s, h.nLp, h.nLq⟩
theorem S3.but {p q L : Addr} {H0 H H' : Hp} {xs : List V} {rs : List L3} (h : S3 p q L H0 xs rs H) (hs : SrcAt H' p q) (b : But p H H') : S3 p q L H0 xs rs H' := ⟨hs, fun c o e n1 n2 => b _ _ (h.kp c o e n1 n2) n1, b _ _ h.eL h.nLp, h.hA.but h.hs b, h.nLp, h.nLq⟩
theorem S3.put {p q L : Addr} {H0 H : Hp} {xs ys : List V} {rs ss : List L3} (h : S3 p q L H0 xs rs H) (k : TrisAt H ys ss) : S3 p q L H0 ys ss (L2.upd H L (.lst ys)) := ⟨h.hs.upd h.nLp h.nLq, fun b o e n1 n2 => (upd_ne n2).trans (h.kp b o e n1 n2), upd_same, k.upd h.eL, h.nLp, h.nLq⟩
theorem at_int {α : Type} {xs : List α} {d : Int} (h0 : 0 ≤ d) (h1 : d < xs.length) : atI xs d = some (xs[d.toNat]'(by omega)) := by
  have e : d = ((d.toNat : Nat) : Int) := by omega
  conv => lhs; rw [e]
  exact atI_nat (List.getElem?_eq_getElem (by omega))
theorem ix_int {n : Nat} {d : Int} (h0 : 0 ≤ d) (h1 : d < n) : ixN n d = some d.toNat := by
  unfold ixN
  rw [if_pos h0, if_pos h1]
theorem u65 {k : Nat} {A : Around} (r : Room k A) : A.units + 65 < cLine := by have := r.un; omega

/-! ### a law's own fault of a plan, read -/
theorem or_r {H : Hp} {v : V} {f g : Flt} (n : f = none) (h : FltAt H v g) : FltAt H v (f.or g) := by subst n; exact h
theorem cut_upto {xs : List V} {i : Nat} (h : i ≤ xs.length) : cutV xs none (some (0 + (i : Int))) = xs.take i := by
  have e : HT.sIx xs.length xs.length (some (0 + (i : Int))) = i := by
    show (if 0 + (i : Int) < 0 then (0 + (i : Int) + (xs.length : Int)).toNat else min (0 + (i : Int)).toNat xs.length) = i
    rw [if_neg (by omega)]
    omega
  unfold cutV
  rw [e]
  show (xs.drop 0).take (i - 0) = _
  simp
theorem knownL {rs : List L3} {D : Int} {j : Nat} {l : L3} (hj : rs[j]? = some l) (hno : ∀ m, m < j → (recvs rs).getD m 0 ≠ l.2.1) : knownOf rs [] D l.2.1 = l.2.2 + D := by
  have hlt := (List.getElem?_eq_some_iff.mp hj).1
  have e : rs = rs.take j ++ l :: rs.drop (j + 1) := by
    conv => lhs; rw [← List.take_append_drop j rs]
    rw [List.drop_eq_getElem_cons hlt, (List.getElem?_eq_some_iff.mp hj).2]
  unfold knownOf
  rw [if_neg (by simp)]
  have h1 : (rs.take j).find? (fun x => decide (x.2.1 = l.2.1)) = none := by
    rw [List.find?_eq_none]
    intro x hx he
    obtain ⟨m, hm⟩ := List.mem_iff_getElem?.mp hx
    have hmj : m < j := by
      have := (List.getElem?_eq_some_iff.mp hm).1
      rw [List.length_take] at this
      omega
    rw [List.getElem?_take, if_pos hmj] at hm
    refine hno m hmj ?_
    unfold recvs
    rw [getD_of (by rw [List.getElem?_map, hm]; rfl)]
    exact of_decide_eq_true he
  rw [e, List.find?_append, h1, List.find?_cons, decide_eq_true rfl]
  rfl

/-! ### the law's own reading of things of any kind -/
def spLawRowG (M : Addr) : Sp := fun vs H Q _ => ∃ (av : List Addr) (x : V) (o : Option L3), vs = [x] ∧ RowK M av H x o ∧ ∀ H', Same H H' → Q (.bl (okRow o)) H'
def lawO (D G n : Int) (os : List (Option L3)) : Flt := (formO os).or (lawF D G n (os.filterMap id))
theorem lawO_is {D G n : Int} {os : List (Option L3)} (hl : os.length ≤ 400) (hn : 1 ≤ n) (hG : 0 < G) : lawO D G n os = faultW D G n (some os) := by
  cases e : formO os with
  | none =>
    obtain ⟨rs, rfl, _⟩ := formO_none e
    unfold lawO
    rw [e, show (rs.map some).filterMap id = rs from rowsOf_map rs, law_fault hn hG, faultW_rows (by rw [List.length_map] at hl; exact hl)]
    rfl
  | some z =>
    unfold lawO faultW rowW
    rw [formW_small (by omega), e]
    rfl
def spLawFaultG (M : Addr) : Sp := fun vs H Q _ => ∃ (av : List Addr) (p : Addr) (D G n : Int) (xs : List V) (os : List (Option L3)), vs = [.int D, .int G, .int n, .ref p] ∧ H p = some (.lst xs) ∧ RowsK M av H xs os ∧ os.length ≤ 400 ∧ 1 ≤ n ∧ n ≤ 1000 ∧ ∀ v H', Same H H' → FltAt H' v (lawO D G n os) → Q v H'
section
variable {P : Program} {w : World} {K : PySem.W.Frag} {mg : Str → Option Value} {base : Heap} {a : Adr}
theorem ok__law_row (T : Txt K mg a) : FnOk P w K mg base CX0 1 a.a__law_row a.d__law_row ["_law_row_here"] (spLawRowG a.c_Machine) := by
  refine T.F__law_row.ok sc__law_row (fun vs H Q E h => ?_) (fun cdv A outer s H vs Q E hr h => ?_)
  · obtain ⟨av, x, o, rfl, _⟩ := h
    rfl
  · obtain ⟨av, x, o, rfl, hx, k⟩ := h
    refine ⟨_, (pss_cons (ps_if (PW.pt (pw_or (pt_not (pt_val (pe_callB call_isi (by rfl) T.n_isinstance (by decide +kernel) (pa_cons (pv 0) (pa_cons (pe_bltn (v := .ty "tuple") (u := .type "tuple") (by rfl) T.n_tuple (by decide +kernel) rfl) pa_nil))))) (pw_or1 (pt_cmpR op_ne (pe_callB call_len_seq (by rfl) T.n_len (by decide +kernel) (pa_cons (pv 0) pa_nil)) pe_int (nomark _))))) (pss_one (ps_ret pe_bl))
 pss_nil)
 (pss_cons (ps_if (pt_not (pt_val (pe_callB (cr_all rfl) (by rfl) T.n_all (by decide +kernel) (pa_cons (pe_lc (own := [("_law_part", 1)]) (g := gName 1) (tt := tYes) rfl sc__law_row.nd (pi_tup (pv 0)) (blkOk_by (own := [("_law_part", 1)]) (N := ["_law_row_here", "_law_part"]) (sc := defScope s__law_row) (by decide +kernel)) (fun _ _ _ _ _ => (pg_name (i := 1) sc__law_row.nd rfl (Or.inl rfl))) (fun _ _ _ _ _ => pts_nil) (fun _ _ _ _ _ => (pe_and (pe_callB (call_isiK (K := K) rfl) (by rfl) T.n_isinstance (by decide +kernel) (pa_cons (pv 1) (pa_cons (pe_bltn (v := .ty "int") (u := .type "int") (by rfl) T.n_int (by decide +kernel) rfl) pa_nil))) (pe_one (pe_not (pe_callB (call_isiK (K := K) rfl) (by rfl) T.n_isinstance (by decide +kernel) (pa_cons (pv 1) (pa_cons (pe_bltn (v := .ty "bool") (u := .type "bool") (by rfl) T.n_bool (by decide +kernel) rfl) pa_nil)))))))) pa_nil)))) (pss_one (ps_ret pe_bl))
 pss_nil)
 (pss_one (ps_ret (pe_chain op_le op_le pe_int (pe_ix ix_tup (pv 0) pe_int (fun _ _ => rfl)) (pe_powN (z := 1000000000000000) ⟨by decide, by decide, by decide⟩ (by decide +kernel))))))), ?_⟩
    cases o with
    | some l =>
      obtain ⟨t, rfl, et⟩ := hx
      have et : H t = some (.tup [.int l.1, .int l.2.1, .int l.2.2]) := et
      repeat first | walk_at "rd" | walk_at "rdi"
      refine r_isiTu true et (by decide +kernel) ?_
      repeat first | walk_at "rd" | walk_at "rdi"
      refine ⟨t, rfl, ⟨_, SqT.of et⟩, fun D hD => lc_tup (K := K) (a := t) (xs := [.int l.1, .int l.2.1, .int l.2.2]) (fun i H' => H' D = some (.lst ((List.replicate i true).map V.bl)) ∧ Same H H') ⟨upd_same, Same.new hD⟩ (fun i H' _ h => SqT.of (h.2 _ _ et)) ?_ ?_⟩
      · rintro i x H1 hi ⟨e1, s1⟩
        obtain ⟨z, hz, rfl⟩ := int_of_get (ns := [l.1, l.2.1, l.2.2]) hi
        have hi9 : i < 3 := (List.getElem?_eq_some_iff.mp hz).1
        repeat walk_at "rd"
        refine ⟨rfl, ?_⟩
        repeat first | walk_at "rd" | walk_at "rdi"
        refine ⟨_, e1, small1000 (by rw [List.length_map, List.length_replicate]; omega), ?_, s1.over hD e1⟩
        rw [upd_same, List.replicate_succ', List.map_append]
        rfl
      · rintro H1 ⟨e1, s1⟩
        have et := s1 _ _ et
        repeat first | walk_at "rd" | walk_at "rdi"
        refine ⟨D, List.replicate 3 true, rfl, SqL.of e1, ?_⟩
        rw [show (List.replicate 3 true).all id = true by decide]
        repeat first | walk_at "rd" | walk_at "rdi"
        refine ite_d (fun hc => ?_) (fun hc => ?_)
        · repeat walk_at "rd"
          have := k H1 s1
          rw [show okRow (some l) = decide (l.2.2 ≤ 1000000000000000) from decide_eq_decide.mpr ⟨fun h => h.2, fun h => ⟨hc, h⟩⟩] at this
          exact this
        · have := k H1 s1
          rw [show okRow (some l) = false from decide_eq_false fun h => hc h.1] at this
          exact this
    | none =>
      rcases hx with hx | ⟨t, xs, rfl, et, hp, hbad⟩
      · obtain ⟨ty, tyx, hk⟩ := hx.ty T
        repeat first | walk_at "rd" | walk_at "rdi"
        refine r_isi tyx hk ?_
        repeat first | walk_at "rd" | walk_at "rdi"
        exact k _ (Same.refl _)
      · repeat first | walk_at "rd" | walk_at "rdi"
        refine r_isiTu true et (by decide +kernel) ?_
        repeat first | walk_at "rd" | walk_at "rdi"
        refine r_nD (fun hc => ?_) (fun hc => ?_)
        · repeat walk_at "rd"
          exact k _ (Same.refl _)
        · have hc : xs.length = 3 := by omega
          have hf : xs.all isI = false := hbad.resolve_left fun z => z hc
          repeat first | walk_at "rd" | walk_at "rdi"
          refine ⟨t, rfl, ⟨_, SqT.of et⟩, fun D hD => lc_tup (K := K) (a := t) (xs := xs) (fun i H' => H' D = some (.lst (((xs.take i).map isI).map V.bl)) ∧ Same H H') ⟨upd_same, Same.new hD⟩ (fun i H' _ h => SqT.of (h.2 _ _ et)) ?_ ?_⟩
          · rintro i x H1 hi ⟨e1, s1⟩
            have hpx : primV x = true := List.all_eq_true.mp hp x (List.mem_iff_getElem?.mpr ⟨i, hi⟩)
            have hi9 : i < 3 := by have := (List.getElem?_eq_some_iff.mp hi).1; omega
            have fin : ∀ H2, H2 = H1 → H2 D = some (.lst (((xs.take i).map isI).map V.bl)) := fun H2 e => by rw [e]; exact e1
            repeat walk_at "rd"
            refine ⟨rfl, ?_⟩
            have step : upd H1 D (.lst (((xs.take i).map isI).map V.bl ++ [V.bl (isI x)])) D = some (.lst (((xs.take (i + 1)).map isI).map V.bl)) := by
              rw [upd_same, take_more hi, List.map_append, List.map_append]
              rfl
            have hlen : (((xs.take i).map isI).map V.bl).length ≤ 1000 := by rw [List.length_map, List.length_map, List.length_take]; omega
            cases x with
            | int z =>
              repeat first | walk_at "rd" | walk_at "rdi"
              exact ⟨_, e1, small1000 hlen, step, s1.over hD e1⟩
            | bl b =>
              repeat first | walk_at "rd" | walk_at "rdi"
              exact ⟨_, e1, small1000 hlen, step, s1.over hD e1⟩
            | str z =>
              repeat first | walk_at "rd" | walk_at "rdi"
              refine r_isi (.base (.str z)) (b := false) (kit_ty (by decide +kernel)) ?_
              repeat first | walk_at "rd" | walk_at "rdi"
              exact ⟨_, e1, small1000 hlen, step, s1.over hD e1⟩
            | non =>
              repeat first | walk_at "rd" | walk_at "rdi"
              refine r_isi (.base .non) (b := false) (kit_ty (by decide +kernel)) ?_
              repeat first | walk_at "rd" | walk_at "rdi"
              exact ⟨_, e1, small1000 hlen, step, s1.over hD e1⟩
            | byt _ => cases hpx
            | flt _ => cases hpx
            | ref _ => cases hpx
            | ty _ => cases hpx
          · rintro H1 ⟨e1, s1⟩
            rw [List.take_length] at e1
            repeat first | walk_at "rd" | walk_at "rdi"
            refine ⟨D, xs.map isI, rfl, SqL.of e1, ?_⟩
            rw [show (xs.map isI).all id = false by rw [List.all_map]; exact hf]
            repeat first | walk_at "rd" | walk_at "rdi"
            exact k _ s1
end

section
variable {P : Program} {w : World} {K : PySem.W.Frag} {mg : Str → Option Value} {base : Heap} {a : Adr}
theorem ok__law_same_fault (T : Txt K mg a) : FnOk P w K mg base CX0 2 a.a__law_same_fault a.d__law_same_fault ["_law_told", "_law_due"] spSameF := by
  refine T.F__law_same_fault.ok sc__law_same_fault (fun vs H Q E h => ?_) (fun cdv A outer s H vs Q E hr h => ?_)
  · obtain ⟨u, v, f, rfl, _⟩ := h
    rfl
  · obtain ⟨u, v, f, rfl, hu, hv, k⟩ := h
    refine ⟨_, (pss_cons (ps_if (pt_cmpR op_isNo (pv 1) pe_non (nomark _)) (pss_one (ps_ret (pe_cmpR op_isNo (pv 0) pe_non (nomark _))))
 pss_nil)
 (pss_cons (ps_if (PW.pt (pw_or (pt_not (pt_val (pe_callB call_isi (by rfl) T.n_isinstance (by decide +kernel) (pa_cons (pv 0) (pa_cons (pe_bltn (v := .ty "tuple") (u := .type "tuple") (by rfl) T.n_tuple (by decide +kernel) rfl) pa_nil))))) (pw_or (pt_cmpR op_ne (pe_callB call_len_seq (by rfl) T.n_len (by decide +kernel) (pa_cons (pv 0) pa_nil)) pe_int (nomark _)) (pw_or1 (pt_not (pt_val (pe_callB call_isi (by rfl) T.n_isinstance (by decide +kernel) (pa_cons (pe_ix ix_tup (pv 0) pe_int (fun _ _ => rfl)) (pa_cons (pe_bltn (v := .ty "str") (u := .type "str") (by rfl) T.n_str (by decide +kernel) rfl) pa_nil))))))))) (pss_one (ps_ret pe_bl))
 pss_nil)
 (pss_one (ps_ret (pe_and (pe_cmpR op_eq (pe_ix ix_tup (pv 0) pe_int (fun _ _ => rfl)) (pe_ix ix_tup (pv 1) pe_int (fun _ _ => rfl)) (nomark _)) (pe_one (pe_call (ok__law_is T) (hr.mono (by decide)) (by rfl) T.g__law_is T.F__law_is.kp T.b__law_is .nil pass0 (pa_cons (pe_ix ix_tup (pv 0) pe_int (fun _ _ => rfl)) (pa_cons (pe_ix ix_tup (pv 1) pe_int (fun _ _ => rfl)) pa_nil))))))))), ?_⟩
    cases f with
    | none =>
      have hu : u = .non := hu
      have hv : v = .non := hv
      subst hu; subst hv
      repeat first | exact k | walk_at "rd" | walk_at "rdi"
    | some f =>
      obtain ⟨p, rfl, ep⟩ := hu
      obtain ⟨q, rfl, eq⟩ := hv
      repeat first | walk_at "rd" | walk_at "rdi"
      refine r_isiTu true ep (by decide +kernel) ?_
      repeat first | walk_at "rd" | walk_at "rdi"
      refine r_isi (n := "str") (b := true) (.base (.str _)) (kit_ty (by decide +kernel)) ?_
      repeat first | walk_at "rd" | walk_at "rdi"
      refine ⟨rfl, ?_⟩
      rw [decide_eq_true (show V.str f.1 = V.str f.1 from rfl)]
      repeat first | walk_at "rd" | walk_at "rdi"
      refine ⟨_, _, rfl, ?_⟩
      rw [decide_eq_true rfl]
      exact k
end

section
variable {P : Program} {w : World} {K : PySem.W.Frag} {mg : Str → Option Value} {base : Heap} {a : Adr}
set_option maxHeartbeats 0 in
theorem ok__law_fault (T : Txt K mg a) : FnOk P w K mg base CX0 2 a.a__law_fault a.d__law_fault ["_law_letter", "_law_gap", "_law_n", "_law_thing"] (spLawFaultG a.c_Machine) := by
  refine T.F__law_fault.ok sc__law_fault (fun vs H Q E h => ?_) (fun cdv A outer s H vs Q E hr h => ?_)
  · obtain ⟨av, p, D, G, n, xs, os, rfl, _⟩ := h
    rfl
  · obtain ⟨av, p, D, G, n, xs, os, rfl, ep, hK, hl, n1, n9, k⟩ := h
    refine ⟨_, (pss_cons (ps_if (PW.pt (pw_or (pt_not (pt_val (pe_callB call_isiT (by rfl) T.n_isinstance (by decide +kernel) (pa_cons (pv 3) (pa_cons (pe_tup (pa_cons (pe_bltn (v := .ty "list") (u := .type "list") (by rfl) T.n_list (by decide +kernel) rfl) (pa_cons (pe_bltn (v := .ty "tuple") (u := .type "tuple") (by rfl) T.n_tuple (by decide +kernel) rfl) pa_nil))) pa_nil))))) (pw_or1 (pt_cmpR op_gt (pe_callB call_len_seq (by rfl) T.n_len (by decide +kernel) (pa_cons (pv 3) pa_nil)) pe_int (nomark _))))) (pss_one (ps_ret (pe_tup (pa_cons pe_str (pa_cons (pe_un un_neg pe_int) pa_nil)))))
 pss_nil)
 (pss_cons (ps_for (by exact PassesOwn.never) rfl (pi_range1 (by rfl) T.n_range (pa_cons (pe_callB call_len_seq (by rfl) T.n_len (by decide +kernel) (pa_cons (pv 3) pa_nil)) pa_nil)) (pg_name (i := 4) sc__law_fault.nd rfl (Or.inl rfl))
 (pss_one (ps_if (pt_not (pt_val (pe_call (ok__law_row T) (hr.mono (by decide)) (by rfl) T.g__law_row T.F__law_row.kp T.b__law_row .nil pass0 (pa_cons (pe_ix ix_list (pv 3) (pv 4) (fun _ _ => rfl)) pa_nil)))) (pss_one (ps_ret (pe_tup (pa_cons pe_str (pa_cons (pv 4) pa_nil)))))
 pss_nil)))
 (pss_cons (ps_for (by exact PassesOwn.never) rfl (pi_range1 (by rfl) T.n_range (pa_cons (pe_callB call_len_seq (by rfl) T.n_len (by decide +kernel) (pa_cons (pv 3) pa_nil)) pa_nil)) (pg_name (i := 4) sc__law_fault.nd rfl (Or.inl rfl))
 (pss_cons (ps_asg (pe_ix ix_list (pv 3) (pv 4) (fun _ _ => rfl)) (pg_tup (by rfl) (pgs_cons (pg_name (i := 5) sc__law_fault.nd rfl (Or.inl rfl)) (pgs_cons (pg_name (i := 6) sc__law_fault.nd rfl (Or.inl rfl)) (pgs_cons (pg_name (i := 7) sc__law_fault.nd rfl (Or.inl rfl)) pgs_nil)))))
 (pss_one (ps_if (PW.pt (pw_or (pt_cmpR op_lt (pv 5) pe_int (nomark _)) (pw_or (pt_cmpR op_ge (pv 5) (pv 2) (nomark _)) (pw_or (pt_cmpR op_lt (pv 6) pe_int (nomark _)) (pw_or (pt_cmpR op_ge (pv 6) (pv 2) (nomark _)) (pw_or1 (pt_cmpR op_eq (pv 5) (pv 6) (nomark _)))))))) (pss_one (ps_ret (pe_tup (pa_cons pe_str (pa_cons (pv 4) pa_nil)))))
 pss_nil))))
 (pss_cons (ps_setLc (i := 9) (own := [("_law_row_here", 8)]) (g := gName 8) (tt := tYes) rfl sc__law_fault.nd rfl rfl (sw_true rfl rfl rfl (by decide +kernel)) (pi_list (pv 3)) (blkOk_by (own := [("_law_row_here", 8)]) (N := ["_law_letter", "_law_gap", "_law_n", "_law_thing", "_law_at", "_law_sender", "_law_receiver", "_law_start", "_law_row_here", "_law_receivers", "_law_hand"]) (sc := defScope s__law_fault) (by decide +kernel)) (fun _ _ _ _ _ => (pg_name (i := 8) sc__law_fault.nd rfl (Or.inl rfl))) (fun _ _ _ _ _ => pts_nil) (fun _ _ _ _ _ => (pe_ix (ix_tupK (K := K) rfl) (pv 8) pe_int (fun _ _ => rfl))))
 (pss_cons (ps_for (by exact PassesOwn.never) rfl (pi_range1 (by rfl) T.n_range (pa_cons (pe_callB call_len_seq (by rfl) T.n_len (by decide +kernel) (pa_cons (pv 3) pa_nil)) pa_nil)) (pg_name (i := 4) sc__law_fault.nd rfl (Or.inl rfl))
 (pss_one (ps_if (pt_cmpR op_in_seq (pe_ix ix_list (pv 9) (pv 4) (fun _ _ => rfl)) (pe_slice sl_list (pv 9) po_none (po_some (pv 4))) (by rfl)) (pss_one (ps_ret (pe_tup (pa_cons pe_str (pa_cons (pv 4) pa_nil)))))
 pss_nil)))
 (pss_cons (ps_for (by exact PassesOwn.never) rfl (pi_range2 (by rfl) T.n_range (pa_cons pe_int (pa_cons (pv 2) pa_nil))) (pg_name (i := 10) sc__law_fault.nd rfl (Or.inl rfl))
 (pss_one (ps_if (pt_cmpR op_notIn_seq (pv 10) (pv 9) (by rfl)) (pss_one (ps_ret (pe_tup (pa_cons pe_str (pa_cons (pv 10) pa_nil)))))
 pss_nil)))
 (pss_cons (ps_for (by exact PassesOwn.never) rfl (pi_range1 (by rfl) T.n_range (pa_cons (pe_callB call_len_seq (by rfl) T.n_len (by decide +kernel) (pa_cons (pv 3) pa_nil)) pa_nil)) (pg_name (i := 4) sc__law_fault.nd rfl (Or.inl rfl))
 (pss_one (ps_if (PW.pt (pw_and (pt_cmpR op_gt (pe_ix ix_tup (pe_ix ix_list (pv 3) (pv 4) (fun _ _ => rfl)) pe_int (fun _ _ => rfl)) pe_int (nomark _)) (pw_and1 (pt_cmpR op_lt (pe_ix ix_tup (pe_ix ix_list (pv 3) (pv 4) (fun _ _ => rfl)) pe_int (fun _ _ => rfl)) (pe_op op_add (pe_ix ix_tup (pe_ix ix_list (pv 3) (pe_bm PySem.F.plainAttrs_list PySem.F.slot_list_index PySem.F.type_list_index mt_index (pv 9) (pa_cons (pe_ix ix_tup (pe_ix ix_list (pv 3) (pv 4) (fun _ _ => rfl)) pe_int (fun _ _ => rfl)) pa_nil)) (fun _ _ => rfl)) pe_int (fun _ _ => rfl)) (pv 0)) (nomark _))))) (pss_one (ps_ret (pe_tup (pa_cons pe_str (pa_cons (pv 4) pa_nil)))))
 pss_nil)))
 (pss_cons (ps_for (by exact PassesOwn.never) rfl (pi_range1 (by rfl) T.n_range (pa_cons (pe_callB call_len_seq (by rfl) T.n_len (by decide +kernel) (pa_cons (pv 3) pa_nil)) pa_nil)) (pg_name (i := 4) sc__law_fault.nd rfl (Or.inl rfl))
 (pss_one (ps_for (by exact PassesOwn.never) rfl (pi_list (pe_slice sl_list (pv 3) po_none (po_some (pv 4)))) (pg_name (i := 8) sc__law_fault.nd rfl (Or.inl rfl))
 (pss_one (ps_if (PW.pt (pw_and (pt_cmpR op_eq (pe_ix ix_tup (pv 8) pe_int (fun _ _ => rfl)) (pe_ix ix_tup (pe_ix ix_list (pv 3) (pv 4) (fun _ _ => rfl)) pe_int (fun _ _ => rfl)) (nomark _)) (pw_and1 (pt_chain op_lt op_lt (pe_un un_neg (pv 1)) (pe_op op_sub (pe_ix ix_tup (pv 8) pe_int (fun _ _ => rfl)) (pe_ix ix_tup (pe_ix ix_list (pv 3) (pv 4) (fun _ _ => rfl)) pe_int (fun _ _ => rfl))) (pv 1))))) (pss_one (ps_ret (pe_tup (pa_cons pe_str (pa_cons (pv 4) pa_nil)))))
 pss_nil)))))
 (pss_one (ps_ret pe_non)))))))))), ?_⟩
    have hxo : xs.length = os.length := hK.1
    have atK : ∀ {H' : Hp} {i : Nat}, i < os.length → Same H H' → ∃ (x : V) (o : Option L3), atI xs (0 + (i : Int)) = some x ∧ os[i]? = some o ∧ RowK a.c_Machine av H' x o := fun {H' i} hi s => by
      have hx : xs[i]? = some (xs[i]'(by omega)) := List.getElem?_eq_getElem _
      obtain ⟨o, ho, r⟩ := (hK.keep s).get hx
      exact ⟨_, o, by rw [show 0 + (i : Int) = i by omega]; exact atI_nat hx, ho, r⟩
    walk_at "rdi"
    repeat walk_at "rd"
    refine new_at (Nat.le_of_ble_eq_true rfl) (fun u H1 nu s1 e1 => ?_)
    have ep1 := s1 _ _ ep
    obtain ⟨ty, tyx, hk⟩ := isiLT (K := K) (.inl ep1)
    repeat walk_at "rd"
    refine ⟨_, u, [.ty "list", .ty "tuple"], ty, [.type "list", .type "tuple"], true, rfl, e1, .cons (.ty _) (.cons (.ty _) .nil), tyx, hk, ?_⟩
    repeat walk_at "rd"
    refine ite_ff (by omega) ?_
    clear e1 tyx hk
    repeat first | walk_at "rd" | walk_at "rdi"
    -- form
    refine ⟨by omega, by omega, for_range (lo := 0) (n := ((xs.length : Nat) : Int).toNat) (fun i σ H' => ∃ v4 : Option V, σ = [some (.int D), some (.int G), some (.int n), some (.ref p), v4, none, none, none, none, none, none] ∧ Same H1 H' ∧ ∀ j, j < i → okRow (os.getD j none) = true) ⟨_, rfl, Same.refl _, fun j hj => absurd hj (by omega)⟩ ?_ ?_⟩
    · rintro i σ H2 hi ⟨v4, rfl, s2, hb⟩
      rw [Int.toNat_natCast] at hi
      have s12 := s1.trans s2
      obtain ⟨x, o, ea, ho, hr⟩ := atK (by omega : i < os.length) s12
      have ep2 := s2 _ _ ep1
      repeat first | walk_at "rd" | walk_at "rdi"
      refine r_ixL ep2 ea ?_
      repeat first | walk_at "rd" | walk_at "rdi"
      refine ⟨av, x, o, rfl, hr, fun H3 s3 => ?_⟩
      cases hok : okRow o with
      | true =>
        repeat first | exact ⟨_, rfl, s2.trans s3, fun j hj => by
          by_cases e : j = i
          · subst e; rw [getD_of ho]; exact hok
          · exact hb j (by omega)⟩ | walk_at "rd" | walk_at "rdi"
      | false =>
        repeat first | walk_at "rd" | walk_at "rdi"
        refine new_at (Nat.le_of_ble_eq_true rfl) (fun z H4 nz s4 ez => ?_)
        refine k _ _ ((s12.trans s3).trans s4) ?_
        unfold lawO formO
        rw [first_some (i := i) (by omega) (by rw [getD_of ho, hok]; rfl) (fun j hj => by rw [hb j hj]; rfl)]
        exact ⟨z, rfl, by rw [ez]; rw [show 0 + (i : Int) = i by omega]⟩
    rintro σ H2 ⟨v4, rfl, s2, hb⟩
    rw [Int.toNat_natCast, hxo] at hb
    have hfo : formO os = none := by
      unfold formO
      rw [first_none (fun j hj => by rw [hb j hj]; rfl)]
      rfl
    obtain ⟨rs, rfl, hf⟩ := formO_none hfo
    have hA : TrisAt H xs rs := hK.tris
    rw [List.length_map] at hl
    have hxl : xs.length = rs.length := hA.1
    have at_ : ∀ {H' : Hp} {i : Nat}, i < rs.length → Same H H' → ∃ (t : Addr) (l : L3), atI xs (0 + (i : Int)) = some (.ref t) ∧ rs[i]? = some l ∧ H' t = some (.tup [.int l.1, .int l.2.1, .int l.2.2]) := fun {H' i} hi s => by
      have hx : xs[i]? = some (xs[i]'(by rw [hA.1]; exact hi)) := List.getElem?_eq_getElem _
      obtain ⟨t, l, e1, e2, e3⟩ := (hA.keep s).get hx
      refine ⟨t, l, ?_, e2, e3⟩
      rw [show 0 + (i : Int) = i by omega, ← e1]
      exact atI_nat hx
    have k : ∀ v H', Same H H' → FltAt H' v (lawF D G n rs) → Q v H' := fun v H' h1 h2 => k v H' h1 (by unfold lawO; rw [show (rs.map some).filterMap id = rs from rowsOf_map rs]; exact or_r hfo h2)
    clear atK hxo hK hfo
    have k : ∀ v H', Same H H' → FltAt H' v ((handF n 0 1 (rs.map fun l => (l.1, l.2.1))).or ((againL rs).or ((nobodyL n rs).or ((earlyL D rs).or (gapL G rs))))) → Q v H' := fun v H' h1 h2 => k v H' h1 (or_r hf h2)
    have s12 := s1.trans s2
    have ep2 := s12 _ _ ep
    clear hb s1 s2 ep1 nu
    repeat first | walk_at "rd" | walk_at "rdi"
    -- hand
    refine ⟨by omega, by omega, for_range (lo := 0) (n := ((xs.length : Nat) : Int).toNat) (fun i σ H' => ∃ v4 v5 v6 v7 : Option V, σ = [some (.int D), some (.int G), some (.int n), some (.ref p), v4, v5, v6, v7, none, none, none] ∧ H' = H2 ∧ ∀ j, j < i → badHand n 0 1 ((rs.map fun l => (l.1, l.2.1)).getD j (0, 0)) = false) ⟨_, _, _, _, rfl, rfl, fun j hj => absurd hj (by omega)⟩ ?_ ?_⟩
    · rintro i σ H3 hi ⟨v4, v5, v6, v7, rfl, rfl, hb⟩
      rw [Int.toNat_natCast] at hi
      obtain ⟨t, l, ea, hl1, et⟩ := at_ (by omega : i < rs.length) s12
      have hgs : (rs.map fun l => (l.1, l.2.1))[i]? = some (l.1, l.2.1) := by rw [List.getElem?_map, hl1]; rfl
      have fin : ∀ D' : Ends, D'.rt = Q → badHand n 0 1 (l.1, l.2.1) = true → tRet (tTup (tCons (tC (.str "hand")) (tCons (tVar 4) tNil))) D' [some (.int D), some (.int G), some (.int n), some (.ref p), some (.int (0 + (i : Nat))), some (.int l.1), some (.int l.2.1), some (.int l.2.2), none, none, none] H3 := fun D' hD hbad => by
        repeat walk_at "rd"
        refine new_at (Nat.le_of_ble_eq_true rfl) (fun z H4 nz s4 ez => ?_)
        rw [hD]
        refine k _ _ (s12.trans s4) ?_
        unfold handF
        rw [first_some (i := i) (by rw [List.length_map]; omega) (by rw [getD_of hgs]; exact hbad) hb]
        exact ⟨z, rfl, by rw [ez]; rw [show 0 + (i : Int) = i by omega]⟩
      have bad : ¬ ((0 ≤ l.1 ∧ l.1 < n) ∧ (1 ≤ l.2.1 ∧ l.2.1 < n) ∧ l.1 ≠ l.2.1) → badHand n 0 1 (l.1, l.2.1) = true := fun h => by unfold badHand; rw [decide_eq_false h]; rfl
      repeat walk_at "rd"
      refine r_ixL ep2 ea ?_
      repeat first | walk_at "rd" | walk_at "rdi"
      refine ite_d (fun c1 => ?_) (fun c1 => ?_)
      · repeat first | exact fin _ rfl (bad (by omega)) | walk_at "rd"
      repeat first | walk_at "rd" | walk_at "rdi"
      refine ite_d (fun c2 => ?_) (fun c2 => ?_)
      · repeat first | exact fin _ rfl (bad (by omega)) | walk_at "rd"
      repeat first | walk_at "rd" | walk_at "rdi"
      refine ite_d (fun c3 => ?_) (fun c3 => ?_)
      · repeat first | exact fin _ rfl (bad (by omega)) | walk_at "rd"
      repeat first | walk_at "rd" | walk_at "rdi"
      refine ite_d (fun c4 => ?_) (fun c4 => ?_)
      · repeat first | exact fin _ rfl (bad (by omega)) | walk_at "rd"
      repeat first | walk_at "rd" | walk_at "rdi"
      refine ite_d (fun c5 => ?_) (fun c5 => ?_)
      · repeat first | exact fin _ rfl (bad (by omega)) | walk_at "rd"
      have good : badHand n 0 1 (l.1, l.2.1) = false := by unfold badHand; rw [decide_eq_true ⟨⟨by dsimp only; omega, by dsimp only; omega⟩, ⟨by dsimp only; omega, by dsimp only; omega⟩, c5⟩]; rfl
      repeat first | exact ⟨_, _, _, _, rfl, rfl, fun j hj => by
        by_cases e : j = i
        · subst e; rw [getD_of hgs]; exact good
        · exact hb j (by omega)⟩ | walk_at "rd"
    rintro σ H3 ⟨v4, v5, v6, v7, rfl, rfl, hb⟩
    rw [Int.toNat_natCast, hxl] at hb
    have hh : handF n 0 1 (rs.map fun l => (l.1, l.2.1)) = none := by
      unfold handF
      rw [first_none (fun j hj => hb j (by rw [List.length_map] at hj; exact hj))]
      rfl
    have k : ∀ v H', Same H H' → FltAt H' v ((againL rs).or ((nobodyL n rs).or ((earlyL D rs).or (gapL G rs)))) → Q v H' := fun v H' h1 h2 => k v H' h1 (or_r hh h2)
    clear hb
    repeat walk_at "rd"
    refine ⟨p, rfl, ⟨_, SqL.of ep2⟩, fun L hL => lc_list (K := K) (a := p) (xs := xs) (fun i H' => H' L = some (.lst ((recvs (rs.take i)).map V.int)) ∧ Same H3 H') ⟨upd_same, Same.new hL⟩ (fun i H' _ h => SqL.of (h.2 _ _ ep2)) ?_ ?_⟩
    · rintro i x H4 hx ⟨e1, s1⟩
      obtain ⟨t, l, rfl, hl1, et⟩ := (hA.keep (s12.trans s1)).get hx
      have hi9 := (List.getElem?_eq_some_iff.mp hl1).1
      repeat walk_at "rd"
      refine ⟨rfl, ?_⟩
      repeat walk_at "rd"
      unfold recvs at e1 ⊢
      refine ⟨_, e1, small1000 (by rw [List.length_map, List.length_map, List.length_take]; omega), ?_, s1.over hL e1⟩
      rw [upd_same, take_more hl1, List.map_append, List.map_append]
      rfl
    rintro H4 ⟨eL, s4⟩
    rw [hxl, List.take_length] at eL
    have s14 := s12.trans s4
    have ep4 := s14 _ _ ep
    have hrl : (recvs rs).length = rs.length := List.length_map _
    clear ep2 s12
    repeat first | walk_at "rd" | walk_at "rdi"
    -- again
    refine ⟨by omega, by omega, for_range (lo := 0) (n := ((xs.length : Nat) : Int).toNat) (fun i σ H' => ∃ v4 : Option V, σ = [some (.int D), some (.int G), some (.int n), some (.ref p), v4, v5, v6, v7, none, some (.ref L), none] ∧ Same H4 H' ∧ ∀ j, j < i → decide ((recvs rs).getD j 0 ∈ (recvs rs).take j) = false) ⟨_, rfl, Same.refl _, fun j hj => absurd hj (by omega)⟩ ?_ ?_⟩
    · rintro i σ H5 hi ⟨v4, rfl, s5, hb⟩
      rw [Int.toNat_natCast] at hi
      have eL5 := s5 _ _ eL
      have hz : (recvs rs)[i]? = some ((recvs rs)[i]'(by omega)) := List.getElem?_eq_getElem _
      obtain ⟨z, hzz⟩ : ∃ z, (recvs rs)[i]'(by omega) = z := ⟨_, rfl⟩
      rw [hzz] at hz
      have ea : atI ((recvs rs).map V.int) (0 + (i : Int)) = some (.int z) := by
        rw [show 0 + (i : Int) = i by omega]
        exact atI_nat (by rw [List.getElem?_map, hz]; rfl)
      repeat first | walk_at "rd" | walk_at "rdi"
      refine r_ixL eL5 ea ?_
      repeat first | walk_at "rd" | walk_at "rdi"
      refine r_slL (SqL.of eL5) (fun c H6 nc s6 ec => ?_)
      have ec : H6 c = some (.lst (((recvs rs).take i).map V.int)) := by
        rw [ec, cut_upto (by rw [List.length_map]; omega), List.map_take]
      refine r_inS ec ?_
      repeat first | walk_at "rd" | walk_at "rdi"
      refine ite_d (fun hc => ?_) (fun hc => ?_)
      · repeat first | walk_at "rd" | walk_at "rdi"
        refine new_at (Nat.le_of_ble_eq_true rfl) (fun z' H7 nz s7 ez => ?_)
        refine k _ _ (((s14.trans s5).trans s6).trans s7) ?_
        unfold againL
        rw [first_some (i := i) (by omega) (by rw [getD_of hz]; exact decide_eq_true hc) hb]
        exact ⟨z', rfl, by rw [ez]; rw [show 0 + (i : Int) = i by omega]⟩
      · repeat first | exact ⟨_, rfl, s5.trans s6, fun j hj => by
          by_cases e : j = i
          · subst e; rw [getD_of hz]; exact decide_eq_false hc
          · exact hb j (by omega)⟩ | walk_at "rd" | walk_at "rdi"
    rintro σ H5 ⟨v4, rfl, s5, hb⟩
    rw [Int.toNat_natCast, hxl] at hb
    have hag : againL rs = none := by
      unfold againL
      rw [first_none hb]
      rfl
    have k : ∀ v H', Same H H' → FltAt H' v ((nobodyL n rs).or ((earlyL D rs).or (gapL G rs))) → Q v H' := fun v H' h1 h2 => k v H' h1 (or_r hag h2)
    have s15 := s14.trans s5
    have eL := s5 _ _ eL
    have ep5 := s5 _ _ ep4
    clear hb s14 s4 s5 ep4
    repeat first | walk_at "rd" | walk_at "rdi"
    -- nobody
    refine ⟨by omega, for_range (lo := 1) (n := (n - 1).toNat) (fun i σ H' => ∃ v10 : Option V, σ = [some (.int D), some (.int G), some (.int n), some (.ref p), v4, v5, v6, v7, none, some (.ref L), v10] ∧ H' = H5 ∧ ∀ j, j < i → (!decide ((1 + (j : Int)) ∈ recvs rs)) = false) ⟨_, rfl, rfl, fun j hj => absurd hj (by omega)⟩ ?_ ?_⟩
    · rintro i σ H6 hi ⟨v10, rfl, rfl, hb⟩
      repeat first | walk_at "rd" | walk_at "rdi"
      refine r_ninS eL ?_
      repeat first | walk_at "rd" | walk_at "rdi"
      refine r_nD (fun hc => ?_) (fun hc => ?_)
      · repeat first | walk_at "rd" | walk_at "rdi"
        refine new_at (Nat.le_of_ble_eq_true rfl) (fun z' H7 nz s7 ez => ?_)
        refine k _ _ (s15.trans s7) ?_
        unfold nobodyL
        rw [first_some (i := i) hi (by rw [decide_eq_false hc]; rfl) hb]
        exact ⟨z', rfl, ez⟩
      · repeat first | exact ⟨_, rfl, rfl, fun j hj => by
          by_cases e : j = i
          · subst e; rw [decide_eq_true hc]; rfl
          · exact hb j (by omega)⟩ | walk_at "rd" | walk_at "rdi"
    rintro σ H6 ⟨v10, rfl, rfl, hb⟩
    have hnb : nobodyL n rs = none := by
      unfold nobodyL
      rw [first_none hb]
      rfl
    have k : ∀ v H', Same H H' → FltAt H' v ((earlyL D rs).or (gapL G rs)) → Q v H' := fun v H' h1 h2 => k v H' h1 (or_r hnb h2)
    have hall : ∀ x : Int, 1 ≤ x → x < n → x ∈ recvs rs := fun x h1 h2 => by
      have := hb (x - 1).toNat (by omega)
      rw [show 1 + (((x - 1).toNat : Nat) : Int) = x by omega] at this
      simpa using this
    have hhd := hand_none hh
    clear hb
    repeat first | walk_at "rd" | walk_at "rdi"
    -- early
    refine ⟨by omega, by omega, for_range (lo := 0) (n := ((xs.length : Nat) : Int).toNat) (fun i σ H' => ∃ v4 : Option V, σ = [some (.int D), some (.int G), some (.int n), some (.ref p), v4, v5, v6, v7, none, some (.ref L), v10] ∧ H' = H6 ∧ ∀ j, j < i → decide ((rs.getD j (0, 0, 0)).1 > 0 ∧ (rs.getD j (0, 0, 0)).2.2 < knownOf rs [] D (rs.getD j (0, 0, 0)).1) = false) ⟨_, rfl, rfl, fun j hj => absurd hj (by omega)⟩ ?_ ?_⟩
    · rintro i σ H7 hi ⟨v4, rfl, rfl, hb⟩
      rw [Int.toNat_natCast] at hi
      obtain ⟨t, l, ea, hl1, et⟩ := at_ (by omega : i < rs.length) s15
      have go : ¬ (l.1 > 0 ∧ l.2.2 < knownOf rs [] D l.1) → ∃ v4' : Option V, [some (.int D), some (.int G), some (.int n), some (.ref p), some (.int (0 + (i : Nat))), v5, v6, v7, none, some (.ref L), v10] = [some (.int D), some (.int G), some (.int n), some (.ref p), v4', v5, v6, v7, none, some (.ref L), v10] ∧ H7 = H7 ∧ ∀ j, j < i + 1 → decide ((rs.getD j (0, 0, 0)).1 > 0 ∧ (rs.getD j (0, 0, 0)).2.2 < knownOf rs [] D (rs.getD j (0, 0, 0)).1) = false := fun h => ⟨_, rfl, rfl, fun j hj => by
        by_cases e : j = i
        · subst e; rw [getD_of hl1]; exact decide_eq_false h
        · exact hb j (by omega)⟩
      repeat first | walk_at "rd" | walk_at "rdi"
      refine r_ixL ep5 ea ?_
      repeat first | walk_at "rd" | walk_at "rdi"
      refine ite_d (fun c1 => ?_) (fun c1 => ?_)
      · have hs := hhd _ (List.mem_map.mpr ⟨l, List.mem_iff_getElem?.mpr ⟨i, hl1⟩, rfl⟩)
        have hmem := hall l.1 (by omega) hs.1.2
        repeat first | walk_at "rd" | walk_at "rdi"
        refine r_ixL ep5 ea ?_
        repeat first | walk_at "rd" | walk_at "rdi"
        refine ⟨.inl ⟨rfl, _, SqL.of eL⟩, ?_⟩
        repeat first | walk_at "rd" | walk_at "rdi"
        refine r_ixL ep5 ea ?_
        repeat first | walk_at "rd" | walk_at "rdi"
        refine r_index eL hmem (fun j hj hno => ?_)
        have hjl : j < rs.length := by
          have := (List.getElem?_eq_some_iff.mp hj).1
          omega
        obtain ⟨t2, l2, ea2, hl2, et2⟩ := at_ hjl s15
        rw [show 0 + (j : Int) = j by omega] at ea2
        have hrec : l2.2.1 = l.1 := by
          unfold recvs at hj
          rw [List.getElem?_map, hl2] at hj
          exact Option.some.inj hj
        have hkn : knownOf rs [] D l.1 = l2.2.2 + D := by rw [← hrec]; exact knownL hl2 (by rw [hrec]; exact hno)
        refine r_ixL ep5 ea2 ?_
        repeat first | walk_at "rd" | walk_at "rdi"
        refine ite_d (fun c2 => ?_) (fun c2 => ?_)
        · repeat first | walk_at "rd" | walk_at "rdi"
          refine new_at (Nat.le_of_ble_eq_true rfl) (fun z' H8 nz s8 ez => ?_)
          refine k _ _ (s15.trans s8) ?_
          unfold earlyL
          rw [first_some (i := i) (by omega) (by rw [getD_of hl1, hkn]; exact decide_eq_true ⟨c1, c2⟩) hb]
          exact ⟨z', rfl, by rw [ez]; rw [show 0 + (i : Int) = i by omega]⟩
        · have := go (fun h => c2 (by rw [← hkn]; exact h.2))
          repeat first | exact this | walk_at "rd" | walk_at "rdi"
      · have := go (fun h => c1 h.1)
        repeat first | exact this | walk_at "rd" | walk_at "rdi"
    rintro σ H7 ⟨v4, rfl, rfl, hb⟩
    rw [Int.toNat_natCast, hxl] at hb
    have hea : earlyL D rs = none := by
      unfold earlyL
      rw [first_none hb]
      rfl
    have k : ∀ v H', Same H H' → FltAt H' v (gapL G rs) → Q v H' := fun v H' h1 h2 => k v H' h1 (or_r hea h2)
    clear hb
    repeat first | walk_at "rd" | walk_at "rdi"
    -- gap
    refine ⟨by omega, by omega, for_range (lo := 0) (n := ((xs.length : Nat) : Int).toNat) (fun i σ H' => ∃ v4 v8 : Option V, σ = [some (.int D), some (.int G), some (.int n), some (.ref p), v4, v5, v6, v7, v8, some (.ref L), v10] ∧ Same H7 H' ∧ ∀ j, j < i → ((rs.take j).any fun q => decide (q.1 = (rs.getD j (0, 0, 0)).1 ∧ -G < q.2.2 - (rs.getD j (0, 0, 0)).2.2 ∧ q.2.2 - (rs.getD j (0, 0, 0)).2.2 < G)) = false) ⟨_, _, rfl, Same.refl _, fun j hj => absurd hj (by omega)⟩ ?_ ?_⟩
    · rintro i σ H8 hi ⟨v4, v8, rfl, s8, hb⟩
      rw [Int.toNat_natCast] at hi
      have s18 := s15.trans s8
      have ep8 := s8 _ _ ep5
      repeat first | walk_at "rd" | walk_at "rdi"
      refine r_slL (SqL.of ep8) (fun c H9 nc s9 ec => ?_)
      have ec : H9 c = some (.lst (xs.take i)) := by
        rw [ec, cut_upto (by omega)]
      have s19 := s18.trans s9
      obtain ⟨t, l, ea, hl1, et⟩ := at_ (by omega : i < rs.length) s19
      have ep9 := s19 _ _ ep
      repeat first | walk_at "rd" | walk_at "rdi"
      refine ⟨c, rfl, ⟨_, SqL.of ec⟩, for_list (K := K) (a := c) (xs := xs.take i) (fun j σ H' => ∃ v8 : Option V, σ = [some (.int D), some (.int G), some (.int n), some (.ref p), some (.int (0 + (i : Nat))), v5, v6, v7, v8, some (.ref L), v10] ∧ H' = H9 ∧ ∀ j', j' < j → decide ((rs.getD j' (0, 0, 0)).1 = l.1 ∧ -G < (rs.getD j' (0, 0, 0)).2.2 - l.2.2 ∧ (rs.getD j' (0, 0, 0)).2.2 - l.2.2 < G) = false) ⟨_, rfl, rfl, fun j hj => absurd hj (by omega)⟩ (fun j σ H' _ ⟨_, _, e, _⟩ => by rw [e]; exact SqL.of ec) ?_ ?_⟩
      · rintro j y σ H10 hy ⟨v8, rfl, rfl, hb2⟩
        have hji : j < i := by
          have := (List.getElem?_eq_some_iff.mp hy).1
          rw [List.length_take] at this
          omega
        rw [List.getElem?_take, if_pos hji] at hy
        obtain ⟨t2, q, rfl, hq, et2⟩ := (hA.keep s19).get hy
        have fin : ∀ D' : Ends, D'.rt = Q → (q.1 = l.1 ∧ -G < q.2.2 - l.2.2 ∧ q.2.2 - l.2.2 < G) → tRet (tTup (tCons (tC (.str "gap")) (tCons (tVar 4) tNil))) D' [some (.int D), some (.int G), some (.int n), some (.ref p), some (.int (0 + (i : Nat))), v5, v6, v7, some (.ref t2), some (.ref L), v10] H10 := fun D' hD hbad => by
          repeat walk_at "rd"
          refine new_at (Nat.le_of_ble_eq_true rfl) (fun z H11 nz s11 ez => ?_)
          rw [hD]
          refine k _ _ (s19.trans s11) ?_
          unfold gapL
          rw [first_some (i := i) (by omega) ?_ hb]
          · exact ⟨z, rfl, by rw [ez]; rw [show 0 + (i : Int) = i by omega]⟩
          · rw [List.any_eq_true]
            exact ⟨q, List.mem_iff_getElem?.mpr ⟨j, by rw [List.getElem?_take, if_pos hji]; exact hq⟩, by rw [getD_of hl1]; exact decide_eq_true hbad⟩
        have go : ¬ (q.1 = l.1 ∧ -G < q.2.2 - l.2.2 ∧ q.2.2 - l.2.2 < G) → ∃ v8' : Option V, [some (.int D), some (.int G), some (.int n), some (.ref p), some (.int (0 + (i : Nat))), v5, v6, v7, some (.ref t2), some (.ref L), v10] = [some (.int D), some (.int G), some (.int n), some (.ref p), some (.int (0 + (i : Nat))), v5, v6, v7, v8', some (.ref L), v10] ∧ H10 = H10 ∧ ∀ j', j' < j + 1 → decide ((rs.getD j' (0, 0, 0)).1 = l.1 ∧ -G < (rs.getD j' (0, 0, 0)).2.2 - l.2.2 ∧ (rs.getD j' (0, 0, 0)).2.2 - l.2.2 < G) = false := fun h => ⟨_, rfl, rfl, fun j' hj' => by
          by_cases e : j' = j
          · subst e; rw [getD_of hq]; exact decide_eq_false h
          · exact hb2 j' (by omega)⟩
        repeat first | walk_at "rd" | walk_at "rdi"
        refine r_ixL ep9 ea ?_
        repeat first | walk_at "rd" | walk_at "rdi"
        refine ite_d (fun c1 => ?_) (fun c1 => ?_)
        · repeat first | walk_at "rd" | walk_at "rdi"
          refine r_ixL ep9 ea ?_
          repeat first | walk_at "rd" | walk_at "rdi"
          refine ite_d (fun c2 => ?_) (fun c2 => ?_)
          · repeat first | walk_at "rd" | walk_at "rdi"
            refine ite_d (fun c3 => ?_) (fun c3 => ?_)
            · exact fin _ rfl ⟨c1, c2, c3⟩
            · have := go (fun h => c3 h.2.2)
              repeat first | exact this | walk_at "rd" | walk_at "rdi"
          · have := go (fun h => c2 h.2.1)
            repeat first | exact this | walk_at "rd" | walk_at "rdi"
        · have := go (fun h => c1 h.1)
          repeat first | exact this | walk_at "rd" | walk_at "rdi"
      · rintro σ H10 ⟨v8, rfl, rfl, hb2⟩
        refine ⟨_, _, rfl, s8.trans s9, fun j hj => ?_⟩
        by_cases e : j = i
        · subst e
          rw [List.any_eq_false]
          intro q hq
          obtain ⟨m, hm⟩ := List.mem_iff_getElem?.mp hq
          have hmj : m < j := by
            have := (List.getElem?_eq_some_iff.mp hm).1
            rw [List.length_take] at this
            omega
          rw [List.getElem?_take, if_pos hmj] at hm
          have := hb2 m (by rw [List.length_take]; omega)
          rw [getD_of hm] at this
          rw [getD_of hl1, this]
          exact Bool.false_ne_true
        · exact hb j (by omega)
    · rintro σ H8 ⟨v4, v8, rfl, s8, hb⟩
      rw [Int.toNat_natCast, hxl] at hb
      repeat walk_at "rd"
      refine k _ _ (s15.trans s8) ?_
      unfold gapL
      rw [first_none hb]
      rfl
end

/-! ### plans drawn by a law, read -/
structure Pl (p q r t s f L : Addr) (H0 : Hp) (R T : List Int) (sk fk : List (L2.Key × V)) (xs : List V) (rs : List L3) (H : Hp) : Prop where
  hs : SrcAt H p q
  kp : But p H0 H
  eR : H r = some (.lst (R.map V.int))
  eT : H t = some (.lst (T.map V.int))
  eS : H s = some (.dK sk)
  eF : H f = some (.dK fk)
  eL : H L = some (.lst xs)
  hA : TrisAt H xs rs
  nd : [p, q, r, t, s, f, L].Nodup
  fr : ∀ x, x ∈ [r, t, s, f, L] → H0 x = none
theorem Pl.keep {p q r t s f L : Addr} {H0 H H' : Hp} {R T : List Int} {sk fk : List (L2.Key × V)} {xs : List V} {rs : List L3} (h : Pl p q r t s f L H0 R T sk fk xs rs H) (z : Same H H') : Pl p q r t s f L H0 R T sk fk xs rs H' :=
  ⟨h.hs.keep z, h.kp.trans (But.of_same z), z _ _ h.eR, z _ _ h.eT, z _ _ h.eS, z _ _ h.eF, z _ _ h.eL, h.hA.keep z, h.nd, h.fr⟩
theorem Pl.ne {p q r t s f L : Addr} {H0 H : Hp} {R T : List Int} {sk fk : List (L2.Key × V)} {xs : List V} {rs : List L3} (h : Pl p q r t s f L H0 R T sk fk xs rs H) : (p ≠ q ∧ p ≠ r ∧ p ≠ t ∧ p ≠ s ∧ p ≠ f ∧ p ≠ L) ∧ (q ≠ r ∧ q ≠ t ∧ q ≠ s ∧ q ≠ f ∧ q ≠ L) ∧ (r ≠ t ∧ r ≠ s ∧ r ≠ f ∧ r ≠ L) ∧ (t ≠ s ∧ t ≠ f ∧ t ≠ L) ∧ (s ≠ f ∧ s ≠ L) ∧ f ≠ L := by
  have := h.nd
  simpa [List.nodup_cons, and_assoc, not_or] using this
theorem Pl.but {p q r t s f L : Addr} {H0 H H' : Hp} {R T : List Int} {sk fk : List (L2.Key × V)} {xs : List V} {rs : List L3} (h : Pl p q r t s f L H0 R T sk fk xs rs H) (hs : SrcAt H' p q) (b : But p H H') : Pl p q r t s f L H0 R T sk fk xs rs H' := by
  obtain ⟨⟨a1, a2, a3, a4, a5, a6⟩, _⟩ := h.ne
  exact ⟨hs, h.kp.trans b, b _ _ h.eR a2.symm, b _ _ h.eT a3.symm, b _ _ h.eS a4.symm, b _ _ h.eF a5.symm, b _ _ h.eL a6.symm, h.hA.but h.hs b, h.nd, h.fr⟩
theorem Pl.putR {p q r t s f L : Addr} {H0 H : Hp} {R R' T : List Int} {sk fk : List (L2.Key × V)} {xs : List V} {rs : List L3} (h : Pl p q r t s f L H0 R T sk fk xs rs H) {ys : List V} (e : ys = R'.map V.int) : Pl p q r t s f L H0 R' T sk fk xs rs (L2.upd H r (.lst ys)) := by
  obtain ⟨⟨a1, a2, a3, a4, a5, a6⟩, ⟨b2, b3, b4, b5, b6⟩, ⟨c3, c4, c5, c6⟩, _⟩ := h.ne
  subst e
  exact ⟨h.hs.upd a2.symm b2.symm, h.kp.updOver (h.fr r (by simp)) h.eR, upd_same, (upd_ne c3.symm).trans h.eT, (upd_ne c4.symm).trans h.eS, (upd_ne c5.symm).trans h.eF, (upd_ne c6.symm).trans h.eL, h.hA.upd h.eR, h.nd, h.fr⟩
theorem Pl.putT {p q r t s f L : Addr} {H0 H : Hp} {R T T' : List Int} {sk fk : List (L2.Key × V)} {xs : List V} {rs : List L3} (h : Pl p q r t s f L H0 R T sk fk xs rs H) {ys : List V} (e : ys = T'.map V.int) : Pl p q r t s f L H0 R T' sk fk xs rs (L2.upd H t (.lst ys)) := by
  obtain ⟨⟨a1, a2, a3, a4, a5, a6⟩, ⟨b2, b3, b4, b5, b6⟩, ⟨c3, c4, c5, c6⟩, ⟨d4, d5, d6⟩, _⟩ := h.ne
  subst e
  exact ⟨h.hs.upd a3.symm b3.symm, h.kp.updOver (h.fr t (by simp)) h.eT, (upd_ne c3).trans h.eR, upd_same, (upd_ne d4.symm).trans h.eS, (upd_ne d5.symm).trans h.eF, (upd_ne d6.symm).trans h.eL, h.hA.upd h.eT, h.nd, h.fr⟩
theorem TrisAt.updD {H : Hp} {xs : List V} {ls : List L3} {d : Addr} {kvs : List (L2.Key × V)} {o : HO} (h : TrisAt H xs ls) (e : H d = some (.dK kvs)) : TrisAt (L2.upd H d o) xs ls := ⟨h.1, fun i g hg => let ⟨t, e1, z⟩ := h.2 i g hg; ⟨t, e1, (upd_ne (fun y => by rw [y, e] at z; cases z)).trans z⟩⟩
theorem Pl.putS {p q r t s f L : Addr} {H0 H : Hp} {R T : List Int} {sk sk' fk : List (L2.Key × V)} {xs : List V} {rs : List L3} (h : Pl p q r t s f L H0 R T sk fk xs rs H) : Pl p q r t s f L H0 R T sk' fk xs rs (L2.upd H s (.dK sk')) := by
  obtain ⟨⟨a1, a2, a3, a4, a5, a6⟩, ⟨b2, b3, b4, b5, b6⟩, ⟨c3, c4, c5, c6⟩, ⟨d4, d5, d6⟩, ⟨e5, e6⟩, f6⟩ := h.ne
  exact ⟨h.hs.upd a4.symm b4.symm, h.kp.updOver (h.fr s (by simp)) h.eS, (upd_ne c4).trans h.eR, (upd_ne d4).trans h.eT, upd_same, (upd_ne e5.symm).trans h.eF, (upd_ne e6.symm).trans h.eL, h.hA.updD h.eS, h.nd, h.fr⟩
theorem Pl.putF {p q r t s f L : Addr} {H0 H : Hp} {R T : List Int} {sk fk fk' : List (L2.Key × V)} {xs : List V} {rs : List L3} (h : Pl p q r t s f L H0 R T sk fk xs rs H) : Pl p q r t s f L H0 R T sk fk' xs rs (L2.upd H f (.dK fk')) := by
  obtain ⟨⟨a1, a2, a3, a4, a5, a6⟩, ⟨b2, b3, b4, b5, b6⟩, ⟨c3, c4, c5, c6⟩, ⟨d4, d5, d6⟩, ⟨e5, e6⟩, f6⟩ := h.ne
  exact ⟨h.hs.upd a5.symm b5.symm, h.kp.updOver (h.fr f (by simp)) h.eF, (upd_ne c5).trans h.eR, (upd_ne d5).trans h.eT, (upd_ne e5).trans h.eS, upd_same, (upd_ne f6.symm).trans h.eL, h.hA.updD h.eF, h.nd, h.fr⟩
theorem Pl.putL {p q r t s f L : Addr} {H0 H : Hp} {R T : List Int} {sk fk : List (L2.Key × V)} {xs ys : List V} {rs ss : List L3} (h : Pl p q r t s f L H0 R T sk fk xs rs H) (k : TrisAt H ys ss) : Pl p q r t s f L H0 R T sk fk ys ss (L2.upd H L (.lst ys)) := by
  obtain ⟨⟨a1, a2, a3, a4, a5, a6⟩, ⟨b2, b3, b4, b5, b6⟩, ⟨c3, c4, c5, c6⟩, ⟨d4, d5, d6⟩, ⟨e5, e6⟩, f6⟩ := h.ne
  exact ⟨h.hs.upd a6.symm b6.symm, h.kp.updOver (h.fr L (by simp)) h.eL, (upd_ne c6).trans h.eR, (upd_ne d6).trans h.eT, (upd_ne e6).trans h.eS, (upd_ne f6).trans h.eF, upd_same, k.upd h.eL, h.nd, h.fr⟩
theorem r_lstRg2 {ta tb : TE} {σ : St} {H : Hp} {Q : VK} (h : ta σ H fun x H1 => tb σ H1 fun y H2 => ∃ i j, x = .int i ∧ y = .int j ∧ (RgOk i j ∧ ∀ q, H2 q = none → Q (.ref q) (upd H2 q (.lst (rgV i j))))) : tLstRg (tRg2 ta tb) σ H Q := h
theorem map_erase : ∀ (l : List Int) (i : Nat), (l.map V.int).eraseIdx i = (l.eraseIdx i).map V.int
  | [], _ => rfl
  | _ :: _, 0 => rfl
  | x :: l, i + 1 => congrArg (V.int x :: ·) (map_erase l i)
def from1 (n : Int) : List Int := (List.range (n - 1).toNat).map fun h : Nat => 1 + (h : Int)
theorem rg_from1 (n : Int) : rgV 1 n = (from1 n).map V.int := by
  unfold rgV from1
  rw [List.map_map]
  rfl
theorem mem_from1 {n x : Int} : x ∈ from1 n ↔ 1 ≤ x ∧ x < n := by
  unfold from1
  rw [List.mem_map]
  constructor
  · rintro ⟨k, hk, rfl⟩
    have := List.mem_range.mp hk
    omega
  · intro h
    exact ⟨(x - 1).toNat, List.mem_range.mpr (by omega), by omega⟩
theorem nd_from1 {n : Int} : (from1 n).Nodup := by
  unfold from1
  unfold List.Nodup
  rw [List.pairwise_map]
  exact List.nodup_range.imp (fun h e => h (by omega))
theorem len_from1 {n : Int} (h : 1 ≤ n) : ((from1 n).length : Int) = n - 1 := by
  unfold from1
  rw [List.length_map, List.length_range]
  omega
theorem r_disp1 {σ : St} {H : Hp} {Q : VK} {i : Int} {v : V} (k : ∀ p H', H p = none → Same H H' → H' p = some (.dK [(.inl i, v)]) → Q (.ref p) H') : tDisp [(tC (.int i), tC v)] σ H Q := fun p hp => by
  show _ ∧ _
  exact ⟨upd_same, [(.inl i, v)], rfl, Nat.le_of_ble_eq_true rfl, k p _ hp ((Same.new hp).over hp upd_same) upd_same⟩
/-- what a dict says of the hands told -/
def Says (kvs : List (L2.Key × V)) (T : List Int) (g : Int → Int) : Prop := ∀ x, x ∈ T → valV kvs (.inl x) = some (.int (g x))
theorem Says.two {kvs : List (L2.Key × V)} {T : List Int} {g : Int → Int} {x y u v : Int} (h : Says kvs T g) : Says (putK (putK kvs (.inl x) (.int u)) (.inl y) (.int v)) (T ++ [y]) (fun z => if z = y then v else if z = x then u else g z) := fun z hz => by
  show valV _ _ = some (.int (if z = y then v else if z = x then u else g z))
  rw [valV_putK, valV_putK]
  by_cases c : z = y
  · rw [if_pos (by rw [c]), if_pos c]
  · rw [if_neg (fun e => c (Sum.inl.inj e)), if_neg c]
    by_cases d : z = x
    · rw [if_pos (by rw [d]), if_pos d]
    · rw [if_neg (fun e => d (Sum.inl.inj e)), if_neg d]
      exact h z ((List.mem_append.mp hz).resolve_right fun q => c (List.mem_singleton.mp q))
theorem perm_split {α : Type} (rs : List α) (i : Nat) (l : α) : (rs ++ [l]).Perm (rs.take i ++ [l] ++ rs.drop i) := by
  conv => lhs; rw [← List.take_append_drop i rs]
  rw [List.append_assoc, List.append_assoc]
  exact List.Perm.append_left _ List.perm_append_comm
def spPlan : Sp := fun vs H Q _ => ∃ (p q : Addr) (D G n most : Int), vs = [.ref p, .int D, .int G, .int n, .int most] ∧ SrcAt H p q ∧ (1 ≤ D ∧ D ≤ 3000000000) ∧ (1 ≤ G ∧ G ≤ 1000000000) ∧ (1 ≤ n ∧ n ≤ 100) ∧ (1 ≤ most ∧ most ≤ 1000) ∧
  ∀ (L : Addr) (xs : List V) (rs : List L3) (H' : Hp), SrcAt H' p q → But p H H' → H' L = some (.lst xs) → TrisAt H' xs rs → L ≠ p → L ≠ q → H L = none → RightP D G n most rs → Q (.ref L) H'
section
variable {P : Program} {w : World} {K : PySem.W.Frag} {mg : Str → Option Value} {base : Heap} {a : Adr}
set_option maxHeartbeats 0 in
theorem ok__law_plan (T : Txt K mg a) : FnOk P w K mg base CX0 3 a.a__law_plan a.d__law_plan ["_law_source_here", "_law_letter", "_law_gap", "_law_n", "_law_most"] spPlan := by
  refine T.F__law_plan.ok sc__law_plan (fun vs H Q E h => ?_) (fun cdv A outer s H vs Q E hr h => ?_)
  · obtain ⟨p, q, D, G, n, most, rfl, _⟩ := h
    rfl
  · obtain ⟨p, q, D, G, n, most, rfl, hs, hD, hG, hn, hm, k⟩ := h
    refine ⟨_, (pss_cons (ps_set (i := 5) sc__law_plan.nd rfl (Or.inl rfl) (pe_listRg rfl (by rfl) T.n_list (prg_2 (by rfl) T.n_range pe_int (pv 3))))
 (pss_cons (ps_set (i := 6) sc__law_plan.nd rfl (Or.inl rfl) (pe_lst (pa_cons pe_int pa_nil)))
 (pss_cons (ps_set (i := 7) sc__law_plan.nd rfl (Or.inr rfl) (pe_disp (pps_cons pe_int pe_int pps_nil) rfl rfl (by decide) (by decide)))
 (pss_cons (ps_set (i := 8) sc__law_plan.nd rfl (Or.inl rfl) (pe_disp (pps_cons pe_int pe_int pps_nil) rfl rfl (by decide) (by decide)))
 (pss_cons (ps_set (i := 9) sc__law_plan.nd rfl (Or.inl rfl) (pe_lst pa_nil))
 (pss_cons (ps_set (i := 10) sc__law_plan.nd rfl (Or.inl rfl) (pe_call (ok__law_draw T) (hr.mono (by decide)) (by rfl) T.g__law_draw T.F__law_draw.kp T.b__law_draw .nil pass0 (pa_cons (pv 0) (pa_cons pe_int pa_nil))))
 (pss_cons (ps_set (i := 11) sc__law_plan.nd rfl (Or.inl rfl) (pe_call (ok__law_draw T) (hr.mono (by decide)) (by rfl) T.g__law_draw T.F__law_draw.kp T.b__law_draw .nil pass0 (pa_cons (pv 0) (pa_cons pe_int pa_nil))))
 (pss_cons (ps_for (by exact PassesOwn.never) rfl (pi_range1 (by rfl) T.n_range (pa_cons (pe_op op_sub (pv 3) pe_int) pa_nil)) (pg_name (i := 12) sc__law_plan.nd rfl (Or.inl rfl))
 (pss_cons (ps_set (i := 13) sc__law_plan.nd rfl (Or.inl rfl) (pe_bm PySem.F.plainAttrs_list PySem.F.slot_list_pop PySem.F.type_list_pop mt_popAt (pv 5) (pa_cons (pe_call (ok__law_draw T) (hr.mono (by decide)) (by rfl) T.g__law_draw T.F__law_draw.kp T.b__law_draw .nil pass0 (pa_cons (pv 0) (pa_cons (pe_callB call_len_seq (by rfl) T.n_len (by decide +kernel) (pa_cons (pv 5) pa_nil)) pa_nil))) pa_nil)))
 (pss_cons (ps_setLc (i := 14) (own := [("_law_other", 18)]) (g := gName 18) rfl sc__law_plan.nd rfl rfl (sw_true rfl rfl rfl (by decide +kernel)) (pi_list (pv 6)) (blkOk_by (own := [("_law_other", 18)]) (N := ["_law_source_here", "_law_letter", "_law_gap", "_law_n", "_law_most", "_law_rest", "_law_told", "_law_sent", "_law_free", "_law_rows", "_law_shape", "_law_calm", "_law_k", "_law_hand", "_law_able", "_law_sender", "_law_wait", "_law_start", "_law_other"]) (sc := defScope s__law_plan) (by decide +kernel)) (fun _ _ _ _ _ => (pg_name (i := 18) sc__law_plan.nd rfl (Or.inl rfl))) (fun _ _ _ _ _ => pts_one (pt_cmpR op_lt (pe_dget (u1 hr.units) (pv 7) (pv 18) (fun _ _ => rfl)) (pv 4) (nomark _))) (fun _ _ _ _ _ => (pv 18)))
 (pss_cons (ps_set (i := 15) sc__law_plan.nd rfl (Or.inl rfl) (pe_ix ix_list (pv 14) (pe_call (ok__law_draw T) (hr.mono (by decide)) (by rfl) T.g__law_draw T.F__law_draw.kp T.b__law_draw .nil pass0 (pa_cons (pv 0) (pa_cons (pe_callB call_len_seq (by rfl) T.n_len (by decide +kernel) (pa_cons (pv 14) pa_nil)) pa_nil))) (fun _ _ => rfl)))
 (pss_cons (ps_if (pt_cmpR op_eq (pv 10) pe_int (nomark _)) (pss_one (ps_set (i := 15) sc__law_plan.nd rfl (Or.inl rfl) (pe_ix ix_list (pv 14) pe_int (fun _ _ => rfl))))
 pss_nil)
 (pss_cons (ps_if (pt_cmpR op_eq (pv 10) pe_int (nomark _)) (pss_one (ps_set (i := 15) sc__law_plan.nd rfl (Or.inl rfl) (pe_ix ix_list (pv 14) (pe_un un_neg pe_int) (fun _ _ => rfl))))
 pss_nil)
 (pss_cons (ps_set (i := 16) sc__law_plan.nd rfl (Or.inl rfl) pe_int)
 (pss_cons (ps_if (pt_cmpR op_gt (pv 11) pe_int (nomark _)) (pss_one (ps_set (i := 16) sc__law_plan.nd rfl (Or.inl rfl) (pe_ix ix_list (pe_lst (pa_cons pe_int (pa_cons pe_int (pa_cons pe_int (pa_cons (pv 2) (pa_cons (pv 1) (pa_cons (pe_call (ok__law_big T) (hr.mono (by decide)) (by rfl) T.g__law_big T.F__law_big.kp T.b__law_big .nil pass0 (pa_cons (pv 0) (pa_cons (pe_op op_mul pe_int (pe_op op_add (pv 1) (pv 2))) pa_nil))) pa_nil))))))) (pe_call (ok__law_draw T) (hr.mono (by decide)) (by rfl) T.g__law_draw T.F__law_draw.kp T.b__law_draw .nil pass0 (pa_cons (pv 0) (pa_cons pe_int pa_nil))) (fun _ _ => rfl))))
 pss_nil)
 (pss_cons (ps_set (i := 17) sc__law_plan.nd rfl (Or.inl rfl) (pe_op op_add (pe_dget (u1 hr.units) (pv 8) (pv 15) (fun _ _ => rfl)) (pv 16)))
 (pss_cons (ps_expr (pe_bm PySem.F.plainAttrs_list PySem.F.slot_list_insert PySem.F.type_list_insert mt_insert (pv 9) (pa_cons (pe_call (ok__law_draw T) (hr.mono (by decide)) (by rfl) T.g__law_draw T.F__law_draw.kp T.b__law_draw .nil pass0 (pa_cons (pv 0) (pa_cons (pe_op op_add (pe_callB call_len_seq (by rfl) T.n_len (by decide +kernel) (pa_cons (pv 9) pa_nil)) pe_int) pa_nil))) (pa_cons (pe_tup (pa_cons (pv 15) (pa_cons (pv 13) (pa_cons (pv 17) pa_nil)))) pa_nil))))
 (pss_cons (ps_asg (pe_op op_add (pv 17) (pv 2)) (pg_sub (pv 8) (pv 15) (set_dict (u1 hr.units))))
 (pss_cons (ps_augS (pv 7) (pv 15) (gt_dict (u1 hr.units)) pe_int ip_add (set_dict (u1 hr.units)))
 (pss_cons (ps_asg (pe_op op_add (pv 17) (pv 1)) (pg_sub (pv 8) (pv 13) (set_dict (u1 hr.units))))
 (pss_cons (ps_asg pe_int (pg_sub (pv 7) (pv 13) (set_dict (u1 hr.units))))
 (pss_one (ps_expr (pe_bm PySem.F.plainAttrs_list PySem.F.slot_list_append PySem.F.type_list_append mt_append (pv 6) (pa_cons (pv 13) pa_nil))))))))))))))))))
 (pss_one (ps_ret (pv 9))))))))))), ?_⟩
    repeat walk_at "rd"
    refine r_lstRg2 ?_
    repeat walk_at "rd"
    refine ⟨1, n, rfl, rfl, RgOk.of_le (by omega) (by omega) (by omega) (by omega), fun r nr => ?_⟩
    rw [rg_from1]
    have s1 : Same H (upd H r (.lst ((from1 n).map V.int))) := Same.new nr
    have e1 : upd H r (.lst ((from1 n).map V.int)) r = some (.lst ((from1 n).map V.int)) := upd_same
    revert s1 e1
    generalize upd H r (.lst ((from1 n).map V.int)) = H1
    intro s1 e1
    repeat walk_at "rd"
    refine new_at (Nat.le_of_ble_eq_true rfl) (fun t H2 nt s2 e2 => ?_)
    repeat walk_at "rd"
    refine r_disp1 (fun s H3 ns s3 e3 => ?_)
    repeat walk_at "rd"
    refine r_disp1 (fun f H4 nf s4 e4 => ?_)
    repeat walk_at "rd"
    refine new_at (Nat.zero_le _) (fun L H5 nL s5 e5 => ?_)
    have c2 := s1.trans s2
    have c3 := c2.trans s3
    have c4 := c3.trans s4
    have d0 := ne_of_none e1 nt
    have e1 := s2 _ _ e1
    have e1' := s3 _ _ e1
    have e2' := s3 _ _ e2
    have e1'' := s4 _ _ e1'
    have e2'' := s4 _ _ e2'
    have e3'' := s4 _ _ e3
    have S : Pl p q r t s f L H (from1 n) [0] [(.inl 0, .int 0)] [(.inl 0, .int 0)] [] [] H5 := ⟨hs.keep (c4.trans s5), But.of_same (c4.trans s5), s5 _ _ e1'', s5 _ _ e2'', s5 _ _ e3'', s5 _ _ e4, e5, TrisAt.nil, by
      have a2 := hs.ne nr
      have b2 := hs.neq nr
      have a3 := (hs.keep s1).ne nt
      have b3 := (hs.keep s1).neq nt
      have a4 := (hs.keep c2).ne ns
      have b4 := (hs.keep c2).neq ns
      have a5 := (hs.keep c3).ne nf
      have b5 := (hs.keep c3).neq nf
      have a6 := (hs.keep c4).ne nL
      have b6 := (hs.keep c4).neq nL
      have a1 : q ≠ p := by obtain ⟨_, _, _, _, _, _, _, z, _⟩ := hs; exact z
      have d1 := ne_of_none e1 ns
      have d2 := ne_of_none e1' nf
      have d3 := ne_of_none e1'' nL
      have d4 := ne_of_none e2 ns
      have d5 := ne_of_none e2' nf
      have d6 := ne_of_none e2'' nL
      have d7 := ne_of_none e3 nf
      have d8 := ne_of_none e3'' nL
      have d9 := ne_of_none e4 nL
      simp [a1.symm, a2.symm, b2.symm, a3.symm, b3.symm, a4.symm, b4.symm, a5.symm, b5.symm, a6.symm, b6.symm, d0, d1, d2, d3, d4, d5, d6, d7, d8, d9], by
      intro x hx
      simp only [List.mem_cons, List.not_mem_nil, or_false] at hx
      rcases hx with rfl | rfl | rfl | rfl | rfl
      · exact nr
      · exact s1.free nt
      · exact c2.free ns
      · exact c3.free nf
      · exact c4.free nL⟩
    clear e1 e1' e1'' e2 e2' e2'' e3 e3'' e4 e5 d0 nr nt ns nf nL s1 s2 s3 s4 s5 c2 c3 c4
    have hg : Grow D G n most 0 (from1 n) [0] (fun _ => 0) (fun _ => 0) [] := Grow.first hn.1 (by omega) _ (len_from1 hn.1) (fun x => mem_from1) nd_from1
    repeat walk_at "rd"
    refine ⟨p, q, 4, rfl, S.hs, by decide, by decide, fun shape H6 sh0 sh4 hs6 b6 => ?_⟩
    have S := S.but hs6 b6
    clear hs6 b6
    repeat walk_at "rd"
    refine ⟨p, q, 3, rfl, S.hs, by decide, by decide, fun calm H7 ca0 ca3 hs7 b7 => ?_⟩
    have S := S.but hs7 b7
    clear hs7 b7
    repeat walk_at "rd"
    refine ⟨by omega, by omega, for_range (lo := 0) (n := (n - 1).toNat) (fun i σ H' => ∃ (v12 v13 v14 v15 v16 v17 : Option V) (R T : List Int) (sn fr : Int → Int) (sk fk : List (L2.Key × V)) (xs : List V) (rs : List L3), σ = [some (.ref p), some (.int D), some (.int G), some (.int n), some (.int most), some (.ref r), some (.ref t), some (.ref s), some (.ref f), some (.ref L), some (.int shape), some (.int calm), v12, v13, v14, v15, v16, v17, none] ∧ Pl p q r t s f L H R T sk fk xs rs H' ∧ Grow D G n most i R T sn fr rs ∧ Says sk T sn ∧ Says fk T fr ∧ sk.length ≤ 2 * i + 1 ∧ fk.length ≤ 2 * i + 1) ⟨_, _, _, _, _, _, _, _, _, _, _, _, _, _, rfl, S, hg, fun x hx => by rw [List.mem_singleton] at hx; subst hx; rfl, fun x hx => by rw [List.mem_singleton] at hx; subst hx; rfl, Nat.le_refl _, Nat.le_refl _⟩ ?_ ?_⟩
    · clear S hg
      rintro i σ H8 hi ⟨v12, v13, v14, v15, v16, v17, R, T, sn, fr, sk, fk, xs, rs, rfl, S, hg, y1, y2, l1, l2⟩
      have hRl := hg.lenR
      have eR := S.eR
      repeat walk_at "rd"
      refine ⟨.inl ⟨rfl, _, SqL.of S.eR⟩, ?_⟩
      repeat walk_at "rd"
      refine ⟨p, q, _, rfl, S.hs, by rw [List.length_map]; omega, by rw [List.length_map]; omega, fun d H9 d0 d1 hs9 b9 => ?_⟩
      rw [List.length_map] at d1
      clear eR
      have S := S.but hs9 b9
      clear hs9 b9
      repeat walk_at "rd"
      have hdR : d.toNat < R.length := by omega
      obtain ⟨y, hy⟩ : ∃ y, R[d.toNat]? = some y := ⟨_, List.getElem?_eq_getElem hdR⟩
      refine ⟨r, _, d, d.toNat, .int y, rfl, rfl, S.eR, by omega, by omega, seqIndex_of d0 (by rw [List.length_map]; omega), by rw [List.getElem?_map, hy]; rfl, ?_⟩
      have S := S.putR (R' := R.eraseIdx d.toNat) (ys := (R.map V.int).eraseIdx d.toNat) (map_erase R d.toNat)
      revert S
      generalize upd H9 r (.lst ((R.map V.int).eraseIdx d.toNat)) = H10
      intro S
      repeat walk_at "rd"
      refine ⟨t, rfl, ⟨_, SqL.of S.eT⟩, fun Z hZ => lc_list (K := K) (a := t) (xs := T.map V.int) (fun i H' => Same H10 H' ∧ H' Z = some (.lst (((T.take i).filter fun x => decide (sn x < most)).map V.int))) ⟨Same.new hZ, upd_same⟩ (fun i H' _ h => SqL.of (h.1 _ _ S.eT)) ?_ ?_⟩
      · rintro i x H11 hi ⟨s11, e11⟩
        obtain ⟨z, hz, rfl⟩ := int_of_get hi
        have hT := hg.lenT
        repeat walk_at "rd"
        refine ⟨rfl, ?_⟩
        refine r_dget ?_
        repeat walk_at "rd"
        refine r_getK (s11 _ _ S.eS) (y1 z (List.mem_iff_getElem?.mpr ⟨_, hz⟩)) ?_
        repeat walk_at "rd"
        refine ite_d (fun hc => ?_) (fun hc => ?_)
        · repeat walk_at "rd"
          refine ⟨_, e11, small1000 (by rw [List.length_map]; have := List.length_filter_le (fun x => decide (sn x < most)) (T.take i); rw [List.length_take] at this; omega), s11.over hZ e11, ?_⟩
          rw [upd_same, take_more hz, List.filter_append, List.map_append]
          rw [show [z].filter (fun x => decide (sn x < most)) = [z] by simp [hc]]
          rfl
        · refine ⟨s11, ?_⟩
          rw [e11, take_more hz, List.filter_append, show [z].filter (fun x => decide (sn x < most)) = [] by simp [hc], List.append_nil]
      · rintro H11 ⟨s11, e11⟩
        rw [List.length_map, List.take_length] at e11
        have zp := S.hs.ne hZ
        have S := S.keep s11
        obtain ⟨AB, hAB⟩ : ∃ l, l = T.filter fun x => decide (sn x < most) := ⟨_, rfl⟩
        rw [← hAB] at e11
        have hAm : ∀ x, x ∈ AB → x ∈ T ∧ sn x < most := fun x hx => by
          rw [hAB, List.mem_filter] at hx
          exact ⟨hx.1, of_decide_eq_true hx.2⟩
        have hA0 : 0 < AB.length := by
          obtain ⟨x, h1, h2⟩ := hg.idle
          have : x ∈ AB := by rw [hAB, List.mem_filter]; exact ⟨h1, decide_eq_true (by omega)⟩
          exact List.length_pos_of_mem this
        have hA9 : AB.length ≤ 100 := by
          have := List.length_filter_le (fun x => decide (sn x < most)) T
          rw [← hAB, hg.lenT] at this
          omega
        clear hAB
        repeat walk_at "rd"
        refine ⟨p, q, _, rfl, S.hs, by rw [List.length_map]; omega, by rw [List.length_map]; omega, fun d2 H12 f0 f1 hs12 b12 => ?_⟩
        rw [List.length_map] at f1
        have eZ := b12 _ _ e11 zp
        have S := S.but hs12 b12
        clear hs12 b12 e11 s11 hZ
        obtain ⟨x, hx, ex⟩ : ∃ x, x ∈ AB ∧ atI (AB.map V.int) d2 = some (.int x) := ⟨AB[d2.toNat]'(by omega), List.getElem_mem _, by rw [at_int f0 (by rw [List.length_map]; omega), List.getElem_map]⟩
        refine r_ixL eZ ex ?_
        have hcase : shape = 1 ∨ shape = 2 ∨ (shape ≠ 1 ∧ shape ≠ 2) := by omega
        obtain ⟨x1, hx1, ex1⟩ : ∃ x, x ∈ AB ∧ atI (AB.map V.int) 0 = some (.int x) := ⟨AB[0]'hA0, List.getElem_mem _, by rw [at_int (Int.le_refl 0) (by rw [List.length_map]; omega), List.getElem_map]; rfl⟩
        obtain ⟨x2, hx2, ex2⟩ : ∃ x, x ∈ AB ∧ atI (AB.map V.int) (-1) = some (.int x) := by
          have hne : AB ≠ [] := fun e => by rw [e] at hA0; exact absurd hA0 (by decide)
          have := at_end AB.dropLast (AB.getLast hne)
          rw [List.dropLast_concat_getLast hne] at this
          exact ⟨_, List.getLast_mem hne, this⟩
        repeat first | walk_at "rd" | walk_at "rdi"
        rcases hcase with c | c | ⟨c, c'⟩
        all_goals first
          | (refine ite_tt c ?_
             repeat first | walk_at "rd" | walk_at "rdi"
             refine r_ixL eZ ex1 ?_
             repeat first | walk_at "rd" | walk_at "rdi"
             refine ite_ff (by omega) ?_
             repeat first | walk_at "rd" | walk_at "rdi"
             clear ex ex1 ex2 hx hx2 eZ
             revert hx1
             generalize x1 = x
             intro hx)
          | (refine ite_ff (by omega) ?_
             repeat first | walk_at "rd" | walk_at "rdi"
             refine ite_tt c ?_
             repeat first | walk_at "rd" | walk_at "rdi"
             refine r_ixL eZ ex2 ?_
             repeat first | walk_at "rd" | walk_at "rdi"
             clear ex ex1 ex2 hx hx1 eZ
             revert hx2
             generalize x2 = x
             intro hx)
          | (refine ite_ff c ?_
             repeat first | walk_at "rd" | walk_at "rdi"
             refine ite_ff c' ?_
             repeat first | walk_at "rd" | walk_at "rdi"
             clear ex ex1 ex2 hx1 hx2 eZ)
        any_goals clear c
        any_goals clear c'
        all_goals by_cases hca : 0 < calm
        all_goals first
          | (refine ite_tt hca ?_
             repeat first | walk_at "rd" | walk_at "rdi"
             refine ⟨p, q, _, rfl, S.hs, by omega, fun bg H13 bg0 bg9 hs13 b13 => ?_⟩
             have S := S.but hs13 b13
             clear hs13 b13
             repeat first | walk_at "rd" | walk_at "rdi"
             refine new_at (Nat.le_of_ble_eq_true rfl) (fun W H14 nW s14 eW => ?_)
             have wp := S.hs.ne nW
             have S := S.keep s14
             clear s14 nW
             repeat first | walk_at "rd" | walk_at "rdi"
             refine ⟨p, q, 6, rfl, S.hs, by decide, by decide, fun e6 H15 g0 g6 hs15 b15 => ?_⟩
             have eW := b15 _ _ eW wp
             have S := S.but hs15 b15
             clear hs15 b15
             obtain ⟨wt, w0, w9, ew⟩ : ∃ wt : Int, 0 ≤ wt ∧ wt ≤ 3 * (D + G) ∧ atI [V.int 0, .int 0, .int 1, .int G, .int D, .int bg] e6 = some (.int wt) := by
               have : e6 = 0 ∨ e6 = 1 ∨ e6 = 2 ∨ e6 = 3 ∨ e6 = 4 ∨ e6 = 5 := by omega
               rcases this with rfl | rfl | rfl | rfl | rfl | rfl
               · exact ⟨0, by omega, by omega, rfl⟩
               · exact ⟨0, by omega, by omega, rfl⟩
               · exact ⟨1, by omega, by omega, rfl⟩
               · exact ⟨G, by omega, by omega, rfl⟩
               · exact ⟨D, by omega, by omega, rfl⟩
               · exact ⟨bg, by omega, by omega, rfl⟩
             refine r_ixL eW ew ?_
             repeat first | walk_at "rd" | walk_at "rdi"
             clear eW ew wp g0 g6 bg0 bg9 hca)
          | (refine ite_ff hca ?_
             repeat first | walk_at "rd" | walk_at "rdi"
             have w0 : (0 : Int) ≤ 0 := Int.le_refl 0
             have w9 : (0 : Int) ≤ 3 * (D + G) := by omega
             clear hca)
        all_goals
          have hxT := hAm x hx
          have sx0 : 0 ≤ sn x := by have := (hg.turns x hxT.1).1; omega
          have hyR : y ∈ R := List.mem_iff_getElem?.mpr ⟨_, hy⟩
          have hyT := hg.apart y hyR
          refine r_dget ?_
          repeat walk_at "rd"
          refine r_getK S.eF (y2 x hxT.1) ?_
          repeat first | walk_at "rd" | walk_at "rdi"
          refine ⟨.inl ⟨rfl, _, SqL.of S.eL⟩, ?_⟩
          have eL := S.eL
          have hxl := S.hA.1
          have hrl := hg.lenL
          repeat first | walk_at "rd" | walk_at "rdi"
          refine ⟨p, q, _, rfl, S.hs, by omega, by omega, fun d3 H16 i0 i9 hs16 b16 => ?_⟩
          have S := S.but hs16 b16
          clear hs16 b16 eL
          repeat first | walk_at "rd" | walk_at "rdi"
          refine new_at (Nat.le_of_ble_eq_true rfl) (fun u H17 nu s17 eu => ?_)
          have S := S.keep s17
          clear s17 nu
          repeat first | walk_at "rd" | walk_at "rdi"
          refine ⟨L, xs, d3, .ref u, rfl, rfl, S.eL, small1000 (by omega), i0, by omega, ?_⟩
          have S := S.putL (S.hA.split (i := d3.toNat) (l := (x, y, _)) rfl eu)
          revert S
          generalize upd H17 L _ = H18
          intro S
          repeat first | walk_at "rd" | walk_at "rdi"
          refine r_setK S.eF (by omega) ?_
          generalize e1 : putK fk (.inl x) (V.int _) = fk1
          have lf1 : fk1.length ≤ fk.length + 1 := by rw [← e1]; exact len_putK
          have S := S.putF (fk' := fk1)
          revert S
          generalize upd H18 f _ = H19
          intro S
          repeat first | walk_at "rd" | walk_at "rdi"
          refine r_getK S.eS (y1 x hxT.1) ?_
          repeat first | walk_at "rd" | walk_at "rdi"
          refine r_setK S.eS (by omega) ?_
          generalize e2 : putK sk (.inl x) (V.int _) = sk1
          have ls1 : sk1.length ≤ sk.length + 1 := by rw [← e2]; exact len_putK
          have S := S.putS (sk' := sk1)
          revert S
          generalize upd H19 s _ = H20
          intro S
          repeat first | walk_at "rd" | walk_at "rdi"
          refine r_setK S.eF (by omega) ?_
          generalize e3 : putK fk1 (.inl y) (V.int _) = fk2
          have lf2 : fk2.length ≤ fk1.length + 1 := by rw [← e3]; exact len_putK
          have S := S.putF (fk' := fk2)
          revert S
          generalize upd H20 f _ = H21
          intro S
          repeat first | walk_at "rd" | walk_at "rdi"
          refine r_setK S.eS (by omega) ?_
          generalize e4 : putK sk1 (.inl y) (V.int _) = sk2
          have ls2 : sk2.length ≤ sk1.length + 1 := by rw [← e4]; exact len_putK
          have S := S.putS (sk' := sk2)
          revert S
          generalize upd H21 s _ = H22
          intro S
          repeat first | walk_at "rd" | walk_at "rdi"
          have hT := hg.lenT
          refine ⟨.inl ⟨rfl, _, SqL.of S.eT⟩, ?_⟩
          repeat first | walk_at "rd" | walk_at "rdi"
          refine r_app S.eT (small1000 (by rw [List.length_map]; omega)) ?_
          have S := S.putT (T' := T ++ [y]) (ys := T.map V.int ++ [V.int y]) (by rw [List.map_append]; rfl)
          subst e1 e2 e3 e4
          exact ⟨_, _, _, _, _, _, R.eraseIdx d.toNat, T ++ [y], _, _, _, _, _, _, rfl, S, (hg.step (by omega) (by omega) hy hxT.1 hxT.2 w0 w9 sx0).perm (perm_split _ _ _), y1.two, y2.two, by omega, by omega⟩
    · clear S hg
      rintro σ H8 ⟨v12, v13, v14, v15, v16, v17, R, T, sn, fr, sk, fk, xs, rs, rfl, S, hg, y1, y2, l1, l2⟩
      repeat walk_at "rd"
      obtain ⟨⟨a1, a2, a3, a4, a5, a6⟩, ⟨b2, b3, b4, b5, b6⟩, _⟩ := S.ne
      exact k L xs rs H8 S.hs S.kp S.eL S.hA a6.symm b6.symm (S.fr L (by simp)) (hg.right (by omega))
end

/-! ### the law of k23: wrong things in a plan -/
theorem r_catTT {K : PySem.W.Frag} {H : Hp} {Q : VK} {a b : Addr} {xs ys : List V} (h1 : H a = some (.tup xs)) (h2 : H b = some (.tup ys)) (n1 : xs ≠ []) (n2 : ys ≠ []) (hl : xs.length + ys.length ≤ 1000) (q : ∀ p H', H p = none → Same H H' → H' p = some (.tup (xs ++ ys)) → Q (.ref p) H') : rCatT K (.ref a) (.ref b) H Q :=
  ⟨a, b, xs, ys, rfl, rfl, SqT.of h1, SqT.of h2, n1, Nat.le_trans hl (by decide), fun e => absurd e n2, fun _ => new_of q⟩
def spWrong (M : Addr) : Sp := fun vs H Q _ => ∃ (av : List Addr) (p q t m : Addr) (l : L3) (o_ l_ g_ : Int), vs = [.ref p, .ref t, .ref m] ∧ SrcAt H p q ∧ H t = some (.tup (triV l)) ∧ MachAt M H m o_ l_ g_ ∧ m ∉ av ∧ (∀ b, b ∈ av → H b ≠ none) ∧
  ∀ (x : V) (o : Option L3) (H' : Hp), RowK M av H' x o → SrcAt H' p q → But p H H' → Q x H'
section
variable {P : Program} {w : World} {K : PySem.W.Frag} {mg : Str → Option Value} {base : Heap} {a : Adr}
set_option maxHeartbeats 0 in
theorem ok__law_wrong (T : Txt K mg a) : FnOk P w K mg base CX0 2 a.a__law_wrong a.d__law_wrong ["_law_source_here", "_law_row_here", "_law_machine"] (spWrong a.c_Machine) := by
  refine T.F__law_wrong.ok sc__law_wrong (fun vs H Q E h => ?_) (fun cdv A outer s H vs Q E hr h => ?_)
  · obtain ⟨av, p, q, t, m, l, o_, l_, g_, rfl, _⟩ := h
    rfl
  · obtain ⟨av, p, q, t, m, l, o_, l_, g_, rfl, hs, et, hm, hmv, hav, k⟩ := h
    refine ⟨_, (pss_cons (ps_set (i := 3) sc__law_wrong.nd rfl (Or.inl rfl) (pe_lst (pa_cons pe_non (pa_cons (pe_callTy cr_list (by rfl) T.n_list (by decide +kernel) (pa_cons (pv 1) pa_nil)) (pa_cons (pe_slice sl_tup (pv 1) po_none (po_some pe_int)) (pa_cons (pe_op op_catT (pv 1) (pe_tup (pa_cons pe_int pa_nil))) (pa_cons (pe_tup (pa_cons (pe_ix ix_tup (pv 1) pe_int (fun _ _ => rfl)) (pa_cons (pe_ix ix_tup (pv 1) pe_int (fun _ _ => rfl)) (pa_cons (pe_un un_neg pe_int) pa_nil)))) (pa_cons (pe_tup (pa_cons (pe_ix ix_tup (pv 1) pe_int (fun _ _ => rfl)) (pa_cons (pe_ix ix_tup (pv 1) pe_int (fun _ _ => rfl)) (pa_cons (pe_op op_add (pe_powN (z := 1000000000000000) ⟨by decide, by decide, by decide⟩ (by decide +kernel)) pe_int) pa_nil)))) (pa_cons (pe_tup (pa_cons pe_bl (pa_cons (pe_ix ix_tup (pv 1) pe_int (fun _ _ => rfl)) (pa_cons (pe_ix ix_tup (pv 1) pe_int (fun _ _ => rfl)) pa_nil)))) (pa_cons (pe_tup (pa_cons (pe_ix ix_tup (pv 1) pe_int (fun _ _ => rfl)) (pa_cons pe_str (pa_cons (pe_ix ix_tup (pv 1) pe_int (fun _ _ => rfl)) pa_nil)))) (pa_cons (pe_tup (pa_cons (pe_ix ix_tup (pv 1) pe_int (fun _ _ => rfl)) (pa_cons (pe_ix ix_tup (pv 1) pe_int (fun _ _ => rfl)) (pa_cons pe_non pa_nil)))) (pa_cons pe_str (pa_cons pe_int (pa_cons (pe_tup pa_nil) (pa_cons (pv 2) pa_nil)))))))))))))))
 (pss_one (ps_ret (pe_ix ix_list (pv 3) (pe_call (ok__law_draw T) (hr.mono (by decide)) (by rfl) T.g__law_draw T.F__law_draw.kp T.b__law_draw .nil pass0 (pa_cons (pv 0) (pa_cons pe_int pa_nil))) (fun _ _ => rfl))))), ?_⟩
    have et : H t = some (.tup [.int l.1, .int l.2.1, .int l.2.2]) := et
    repeat first | walk_at "rd" | walk_at "rdi"
    refine r_listT et (fun b1 H1 n1 s1 e1 => ?_)
    have et1 := s1 _ _ et
    repeat first | walk_at "rd" | walk_at "rdi"
    refine r_slT (SqT.of et1) (by simp [HT.sIx]) (fun b2 H2 n2 s2 e2 => ?_)
    have et2 := s2 _ _ et1
    have e2 : H2 b2 = some (.tup [.int l.1, .int l.2.1]) := by rw [e2]; rfl
    repeat first | walk_at "rd" | walk_at "rdi"
    refine new_at (Nat.le_of_ble_eq_true rfl) (fun b0 H3 n3 s3 e3 => ?_)
    have et3 := s3 _ _ et2
    repeat first | walk_at "rd" | walk_at "rdi"
    refine r_catTT et3 e3 (by simp) (by simp) (Nat.le_of_ble_eq_true rfl) (fun b4 H4 n4 s4 e4 => ?_)
    have et4 := s4 _ _ et3
    repeat first | walk_at "rd" | walk_at "rdi"
    refine new_at (Nat.le_of_ble_eq_true rfl) (fun b5 H5 n5 s5 e5 => ?_)
    have et5 := s5 _ _ et4
    repeat first | walk_at "rd" | walk_at "rdi"
    refine new_at (Nat.le_of_ble_eq_true rfl) (fun b6 H6 n6 s6 e6 => ?_)
    have et6 := s6 _ _ et5
    repeat first | walk_at "rd" | walk_at "rdi"
    refine new_at (Nat.le_of_ble_eq_true rfl) (fun b7 H7 n7 s7 e7 => ?_)
    have et7 := s7 _ _ et6
    repeat first | walk_at "rd" | walk_at "rdi"
    refine new_at (Nat.le_of_ble_eq_true rfl) (fun b8 H8 n8 s8 e8 => ?_)
    have et8 := s8 _ _ et7
    repeat first | walk_at "rd" | walk_at "rdi"
    refine new_at (Nat.le_of_ble_eq_true rfl) (fun b9 H9 n9 s9 e9 => ?_)
    have et9 := s9 _ _ et8
    repeat first | walk_at "rd" | walk_at "rdi"
    refine new_at (Nat.le_of_ble_eq_true rfl) (fun b10 H10 n10 s10 e10 => ?_)
    have et10 := s10 _ _ et9
    repeat first | walk_at "rd" | walk_at "rdi"
    refine new_at (Nat.le_of_ble_eq_true rfl) (fun W H11 n11 s11 e11 => ?_)
    have c10 := ((((((((s1.trans s2).trans s3).trans s4).trans s5).trans s6).trans s7).trans s8).trans s9).trans s10
    have c11 := c10.trans s11
    have nW := c10.free n11
    repeat first | walk_at "rd" | walk_at "rdi"
    refine ⟨p, q, 13, rfl, hs.keep c11, by decide, by decide, fun d H12 d0 d13 hs12 b12 => ?_⟩
    have eW := b12 _ _ e11 (hs.ne nW)
    have up : But p H H12 := (But.of_same c11).trans b12
    -- the things, as they stand at last
    have at10 : ∀ {b : Addr} {u : HO}, H10 b = some u → b ≠ p → H12 b = some u := fun h n => b12 _ _ (s11 _ _ h) n
    have np : ∀ {b : Addr} {H' : Hp}, Same H H' → H' b = none → b ≠ p := fun s n => hs.ne (s.free n)
    have c2 := s1.trans s2
    have c3 := c2.trans s3
    have c4 := c3.trans s4
    have c5 := c4.trans s5
    have c6 := c5.trans s6
    have c7 := c6.trans s7
    have c8 := c7.trans s8
    have c9 := c8.trans s9
    have t9 := s10
    have t8 := s9.trans t9
    have t7 := s8.trans t8
    have t6 := s7.trans t7
    have t5 := s6.trans t6
    have t4 := s5.trans t5
    have t3 := s4.trans t4
    have t2 := s3.trans t3
    have t1 := s2.trans t2
    have g1 := at10 (t1 _ _ e1) (hs.ne n1)
    have g2 := at10 (t2 _ _ e2) (np s1 n2)
    have g4 := at10 (t4 _ _ e4) (np c3 n4)
    have g5 := at10 (t5 _ _ e5) (np c4 n5)
    have g6 := at10 (t6 _ _ e6) (np c5 n6)
    have g7 := at10 (t7 _ _ e7) (np c6 n7)
    have g8 := at10 (t8 _ _ e8) (np c7 n8)
    have g9 := at10 (t9 _ _ e9) (np c8 n9)
    have g10 := at10 e10 (np c9 n10)
    have hv1 : b1 ∉ av := fun z => hav _ z n1
    have mp : m ≠ p := by
      obtain ⟨dx, em⟩ := hm
      obtain ⟨cs, i, big, cnt, st, h1, _⟩ := hs
      intro z
      rw [z, h1] at em
      cases em
    obtain ⟨dx, em⟩ := hm
    have gm := up _ _ em mp
    have go : ∀ (x : V), (∃ o, RowK a.c_Machine av H12 x o) → Q x H12 := fun x ⟨o, r⟩ => k x o H12 r hs12 up
    have hd : d = 0 ∨ d = 1 ∨ d = 2 ∨ d = 3 ∨ d = 4 ∨ d = 5 ∨ d = 6 ∨ d = 7 ∨ d = 8 ∨ d = 9 ∨ d = 10 ∨ d = 11 ∨ d = 12 := by omega
    have bt : ∀ {u : Addr} {xs : List V}, H12 u = some (.tup xs) → xs.all primV = true → (xs.length ≠ 3 ∨ xs.all isI = false) → ∃ o, RowK a.c_Machine av H12 (.ref u) o := fun e h1 h2 => ⟨none, .inr ⟨_, _, rfl, e, h1, h2⟩⟩
    rcases hd with rfl | rfl | rfl | rfl | rfl | rfl | rfl | rfl | rfl | rfl | rfl | rfl | rfl
    all_goals refine r_ixL eW rfl ?_
    · exact go _ ⟨none, .inl (.inl rfl)⟩
    · exact go _ ⟨none, .inl (.inr ⟨b1, rfl, hv1, .inl ⟨_, g1⟩⟩)⟩
    · exact go _ (bt g2 rfl (.inl (by simp)))
    · exact go _ (bt g4 rfl (.inl (by simp)))
    · exact go _ ⟨some (l.1, l.2.1, -1), _, rfl, g5⟩
    · exact go _ ⟨some (l.1, l.2.1, 1000000000000000 + 1), _, rfl, g6⟩
    · exact go _ (bt g7 rfl (.inr rfl))
    · exact go _ (bt g8 rfl (.inr rfl))
    · exact go _ (bt g9 rfl (.inr rfl))
    · exact go _ ⟨none, .inl (.inl rfl)⟩
    · exact go _ ⟨none, .inl (.inl rfl)⟩
    · exact go _ (bt g10 rfl (.inl (by decide)))
    · exact go _ ⟨none, .inl (.inr ⟨m, rfl, hmv, .inr (.inr ⟨dx, _, gm⟩)⟩)⟩
end

/-! ### rows of any kind in a list, kept and changed -/
theorem NoTup.but {M p : Addr} {av : List Addr} {H H' : Hp} {x : V} (h : NoTup M av H x) (hp : p ∈ av) (b : But p H H') : NoTup M av H' x := by
  rcases h with h | ⟨r, e, n, ⟨xs, h⟩ | h | ⟨dx, fs, h⟩⟩
  · exact .inl h
  · exact .inr ⟨r, e, n, .inl ⟨xs, b _ _ h fun z => n (by rw [z]; exact hp)⟩⟩
  · exact .inr ⟨r, e, n, .inr (.inl (b _ _ h fun z => n (by rw [z]; exact hp)))⟩
  · exact .inr ⟨r, e, n, .inr (.inr ⟨dx, fs, b _ _ h fun z => n (by rw [z]; exact hp)⟩)⟩
theorem RowK.but {M p q : Addr} {av : List Addr} {H H' : Hp} {x : V} {o : Option L3} (h : RowK M av H x o) (hp : p ∈ av) (hs : SrcAt H p q) (b : But p H H') : RowK M av H' x o := by
  cases o with
  | some l => obtain ⟨t, e, h⟩ := h; exact ⟨t, e, tup_but h hs b⟩
  | none =>
    rcases h with h | ⟨t, xs, e, h, r⟩
    · exact .inl (h.but hp b)
    · exact .inr ⟨t, xs, e, tup_but h hs b, r⟩
theorem NoTup.upd {M L : Addr} {av : List Addr} {H : Hp} {x : V} {u : HO} (h : NoTup M av H x) (hL : L ∈ av) : NoTup M av (L2.upd H L u) x := by
  rcases h with h | ⟨r, e, n, ⟨xs, h⟩ | h | ⟨dx, fs, h⟩⟩
  · exact .inl h
  · exact .inr ⟨r, e, n, .inl ⟨xs, (upd_ne fun z => n (by rw [z]; exact hL)).trans h⟩⟩
  · exact .inr ⟨r, e, n, .inr (.inl ((upd_ne fun z => n (by rw [z]; exact hL)).trans h))⟩
  · exact .inr ⟨r, e, n, .inr (.inr ⟨dx, fs, (upd_ne fun z => n (by rw [z]; exact hL)).trans h⟩)⟩
theorem RowK.upd {M L : Addr} {av : List Addr} {H : Hp} {x : V} {u : HO} {zs : List V} {o : Option L3} (h : RowK M av H x o) (hL : L ∈ av) (eL : H L = some (.lst zs)) : RowK M av (L2.upd H L u) x o := by
  have ne : ∀ {t : Addr} {xs : List V}, H t = some (.tup xs) → t ≠ L := fun e z => by rw [z, eL] at e; cases e
  cases o with
  | some l => obtain ⟨t, e, h⟩ := h; exact ⟨t, e, (upd_ne (ne h)).trans h⟩
  | none =>
    rcases h with h | ⟨t, xs, e, h, r⟩
    · exact .inl (h.upd hL)
    · exact .inr ⟨t, xs, e, (upd_ne (ne h)).trans h, r⟩
/-- another address to stay away from, where nothing stood -/
theorem RowK.more {M L : Addr} {av : List Addr} {H : Hp} {x : V} {o : Option L3} (h : RowK M av H x o) (n : H L = none) : RowK M (L :: av) H x o := by
  have ne : ∀ {r : Addr} {u : HO}, H r = some u → r ∉ av → r ∉ L :: av := fun e m z => by
    rcases List.mem_cons.mp z with z | z
    · rw [z, n] at e; cases e
    · exact m z
  cases o with
  | some l => exact h
  | none =>
    rcases h with (h | ⟨r, e, m, ⟨xs, h⟩ | h | ⟨dx, fs, h⟩⟩) | h
    · exact .inl (.inl h)
    · exact .inl (.inr ⟨r, e, ne h m, .inl ⟨xs, h⟩⟩)
    · exact .inl (.inr ⟨r, e, ne h m, .inr (.inl h)⟩)
    · exact .inl (.inr ⟨r, e, ne h m, .inr (.inr ⟨dx, fs, h⟩)⟩)
    · exact .inr h
theorem RowsK.imp {M : Addr} {av av' : List Addr} {H H' : Hp} {xs : List V} {os : List (Option L3)} (h : RowsK M av H xs os) (f : ∀ x o, RowK M av H x o → RowK M av' H' x o) : RowsK M av' H' xs os := ⟨h.1, fun i o ho => let ⟨x, e, r⟩ := h.2 i o ho; ⟨x, e, f x o r⟩⟩
theorem RowsK.set {M : Addr} {av : List Addr} {H : Hp} {xs : List V} {os : List (Option L3)} {x : V} {o : Option L3} {i : Nat} (h : RowsK M av H xs os) (e : RowK M av H x o) : RowsK M av H (xs.set i x) (os.set i o) := ⟨by rw [List.length_set, List.length_set, h.1], fun j g hg => by
  rw [List.getElem?_set] at hg ⊢
  by_cases c : i = j
  · rw [if_pos c] at hg ⊢
    split at hg
    · rename_i hlt
      rw [if_pos (by rw [h.1]; exact hlt)]
      obtain rfl := Option.some.inj hg
      exact ⟨x, rfl, e⟩
    · cases hg
  · rw [if_neg c] at hg ⊢
    exact h.2 j g hg⟩
theorem RowsK.cat {M : Addr} {av : List Addr} {H : Hp} {xs ys : List V} {os ps : List (Option L3)} (h : RowsK M av H xs os) (k : RowsK M av H ys ps) : RowsK M av H (xs ++ ys) (os ++ ps) := ⟨by rw [List.length_append, List.length_append, h.1, k.1], fun i r hr => by
  by_cases hi : i < os.length
  · rw [List.getElem?_append_left hi] at hr
    rw [List.getElem?_append_left (by rw [h.1]; exact hi)]
    exact h.2 i r hr
  · rw [List.getElem?_append_right (by omega)] at hr
    rw [List.getElem?_append_right (by rw [h.1]; omega), h.1]
    exact k.2 _ r hr⟩
theorem RowsK.take {M : Addr} {av : List Addr} {H : Hp} {xs : List V} {os : List (Option L3)} {i : Nat} (h : RowsK M av H xs os) : RowsK M av H (xs.take i) (os.take i) := ⟨by rw [List.length_take, List.length_take, h.1], fun j g hg => by
  rw [List.getElem?_take] at hg ⊢
  by_cases c : j < i
  · rw [if_pos c] at hg ⊢; exact h.2 j g hg
  · rw [if_neg c] at hg; cases hg⟩
theorem RowsK.drop {M : Addr} {av : List Addr} {H : Hp} {xs : List V} {os : List (Option L3)} {i : Nat} (h : RowsK M av H xs os) : RowsK M av H (xs.drop i) (os.drop i) := ⟨by rw [List.length_drop, List.length_drop, h.1], fun j g hg => by
  rw [List.getElem?_drop] at hg ⊢; exact h.2 _ g hg⟩
theorem RowsK.one {M : Addr} {av : List Addr} {H : Hp} {x : V} {o : Option L3} (h : RowK M av H x o) : RowsK M av H [x] [o] := ⟨rfl, fun i g hg => by
  cases i with
  | zero => obtain rfl := Option.some.inj hg; exact ⟨x, rfl, h⟩
  | succ i => cases hg⟩

/-! ### the law of k23: plans spoiled -/
theorem cut_to {xs : List V} {d : Int} (h0 : 0 ≤ d) (h : d ≤ xs.length) : cutV xs none (some d) = xs.take d.toNat := by
  have e : d = 0 + ((d.toNat : Nat) : Int) := by omega
  conv => lhs; rw [e]
  exact cut_upto (by omega)
theorem cut_from {xs : List V} {d : Int} (h0 : 0 ≤ d) (h : d ≤ xs.length) : cutV xs (some d) none = xs.drop d.toNat := by
  have e : HT.sIx xs.length 0 (some d) = d.toNat := by
    show (if d < 0 then (d + (xs.length : Int)).toNat else min d.toNat xs.length) = d.toNat
    rw [if_neg (by omega)]
    omega
  unfold cutV
  rw [e]
  show (xs.drop d.toNat).take (xs.length - d.toNat) = _
  rw [List.take_of_length_le (by rw [List.length_drop]; omega)]
theorem RowK.tri {M : Addr} {av : List Addr} {H : Hp} {t : Addr} {i j k : Int} (h : H t = some (.tup [.int i, .int j, .int k])) : RowK M av H (.ref t) (some (i, j, k)) := ⟨t, rfl, h⟩
theorem RowK.less {M p L M4 : Addr} {H : Hp} {x : V} {o : Option L3} (h : RowK M (M4 :: [p, L]) H x o) (_ : True) : RowK M [p, M4] H x o := by
  cases o with
  | some l => exact h
  | none =>
    rcases h with (h | ⟨r, e, m, h⟩) | h
    · exact .inl (.inl h)
    · exact .inl (.inr ⟨r, e, by simp at m ⊢; exact ⟨m.2.1, m.1⟩, h⟩)
    · exact .inr h
structure S4 (M p q L : Addr) (H0 : Hp) (xs : List V) (os : List (Option L3)) (H : Hp) : Prop where
  hs : SrcAt H p q
  kp : Kp p L H0 H
  eL : H L = some (.lst xs)
  hA : RowsK M [p, L] H xs os
  nLp : L ≠ p
  nLq : L ≠ q
theorem S4.keep {M p q L : Addr} {H0 H H' : Hp} {xs : List V} {os : List (Option L3)} (h : S4 M p q L H0 xs os H) (s : Same H H') : S4 M p q L H0 xs os H' := ⟨h.hs.keep s, fun b o e n1 n2 => s _ _ (h.kp b o e n1 n2), s _ _ h.eL, h.hA.keep s, h.nLp, h.nLq⟩
theorem S4.but {M p q L : Addr} {H0 H H' : Hp} {xs : List V} {os : List (Option L3)} (h : S4 M p q L H0 xs os H) (hs : SrcAt H' p q) (b : But p H H') : S4 M p q L H0 xs os H' := ⟨hs, fun c o e n1 n2 => b _ _ (h.kp c o e n1 n2) n1, b _ _ h.eL h.nLp, h.hA.imp fun x o r => r.but (by simp) h.hs b, h.nLp, h.nLq⟩
theorem S4.put {M p q L : Addr} {H0 H : Hp} {xs ys : List V} {os ps : List (Option L3)} (h : S4 M p q L H0 xs os H) (k : RowsK M [p, L] H ys ps) : S4 M p q L H0 ys ps (L2.upd H L (.lst ys)) := ⟨h.hs.upd h.nLp h.nLq, fun b o e n1 n2 => (upd_ne n2).trans (h.kp b o e n1 n2), upd_same, k.imp fun x o r => r.upd (by simp) h.eL, h.nLp, h.nLq⟩
def spSpoiled (M : Addr) : Sp := fun vs H Q _ => ∃ (p q L m : Addr) (n G o_ l_ g_ : Int) (xs : List V) (os : List (Option L3)), vs = [.ref p, .ref L, .int n, .int G, .ref m] ∧ SrcAt H p q ∧ L ≠ p ∧ L ≠ q ∧ H L = some (.lst xs) ∧ RowsK M [p, L] H xs os ∧ 0 < os.length ∧ os.length ≤ 200 ∧ MachAt M H m o_ l_ g_ ∧ (1 ≤ n ∧ n ≤ 100) ∧ (1 ≤ G ∧ G ≤ 1000000000) ∧
  ∀ (L' : Addr) (ys : List V) (ss : List (Option L3)) (H' : Hp), SrcAt H' p q → Kp p L H H' → H' L' = some (.lst ys) → RowsK M [p, L'] H' ys ss → L' ≠ p → L' ≠ q → ss.length ≤ os.length + 1 → Q (.ref L') H'
section
variable {P : Program} {w : World} {K : PySem.W.Frag} {mg : Str → Option Value} {base : Heap} {a : Adr}
set_option maxHeartbeats 0 in
theorem ok__law_spoiled (T : Txt K mg a) : FnOk P w K mg base CX0 3 a.a__law_spoiled a.d__law_spoiled ["_law_source_here", "_law_rows", "_law_n", "_law_gap", "_law_machine"] (spSpoiled a.c_Machine) := by
  refine T.F__law_spoiled.ok sc__law_spoiled (fun vs H Q E h => ?_) (fun cdv A outer s H vs Q E hr h => ?_)
  · obtain ⟨p, q, L, m, n, G, o_, l_, g_, xs, os, rfl, _⟩ := h
    rfl
  · obtain ⟨p, q, L, m, n, G, o_, l_, g_, xs, os, rfl, hs, nLp, nLq, eL, hA, h0, h9, hm, hn, hG, k⟩ := h
    refine ⟨_, (pss_cons (ps_set (i := 5) sc__law_spoiled.nd rfl (Or.inl rfl) (pe_call (ok__law_draw T) (hr.mono (by decide)) (by rfl) T.g__law_draw T.F__law_draw.kp T.b__law_draw .nil pass0 (pa_cons (pv 0) (pa_cons pe_int pa_nil))))
 (pss_cons (ps_set (i := 6) sc__law_spoiled.nd rfl (Or.inl rfl) (pe_call (ok__law_draw T) (hr.mono (by decide)) (by rfl) T.g__law_draw T.F__law_draw.kp T.b__law_draw .nil pass0 (pa_cons (pv 0) (pa_cons (pe_callB call_len_seq (by rfl) T.n_len (by decide +kernel) (pa_cons (pv 1) pa_nil)) pa_nil))))
 (pss_cons (ps_asg (pe_tup (pa_cons pe_int (pa_cons pe_int (pa_cons pe_int pa_nil)))) (pg_tup (by rfl) (pgs_cons (pg_name (i := 7) sc__law_spoiled.nd rfl (Or.inl rfl)) (pgs_cons (pg_name (i := 8) sc__law_spoiled.nd rfl (Or.inl rfl)) (pgs_cons (pg_name (i := 9) sc__law_spoiled.nd rfl (Or.inl rfl)) pgs_nil)))))
 (pss_cons (ps_if (pt_val (pe_call (ok__law_row T) (hr.mono (by decide)) (by rfl) T.g__law_row T.F__law_row.kp T.b__law_row .nil pass0 (pa_cons (pe_ix ix_list (pv 1) (pv 6) (fun _ _ => rfl)) pa_nil))) (pss_one (ps_asg (pe_ix ix_list (pv 1) (pv 6) (fun _ _ => rfl)) (pg_tup (by rfl) (pgs_cons (pg_name (i := 7) sc__law_spoiled.nd rfl (Or.inl rfl)) (pgs_cons (pg_name (i := 8) sc__law_spoiled.nd rfl (Or.inl rfl)) (pgs_cons (pg_name (i := 9) sc__law_spoiled.nd rfl (Or.inl rfl)) pgs_nil))))))
 pss_nil)
 (pss_cons (ps_if (pt_cmpR op_lt (pv 5) pe_int (nomark _)) (pss_cons (ps_set (i := 10) sc__law_spoiled.nd rfl (Or.inl rfl) (pe_ix ix_list (pe_lst (pa_cons pe_int (pa_cons (pv 3) (pa_cons (pe_op op_add (pe_op op_mul pe_int (pv 3)) pe_int) pa_nil)))) (pe_call (ok__law_draw T) (hr.mono (by decide)) (by rfl) T.g__law_draw T.F__law_draw.kp T.b__law_draw .nil pass0 (pa_cons (pv 0) (pa_cons pe_int pa_nil))) (fun _ _ => rfl)))
 (pss_one (ps_asg (pe_tup (pa_cons (pv 7) (pa_cons (pv 8) (pa_cons (pe_callB (call_max2 rfl) (by rfl) T.n_max (by decide +kernel) (pa_cons pe_int (pa_cons (pe_op op_add (pv 9) (pe_ix ix_list (pe_lst (pa_cons (pe_un un_neg (pv 10)) (pa_cons (pv 10) pa_nil))) (pv 5) (fun _ _ => rfl))) pa_nil))) pa_nil)))) (pg_sub (pv 1) (pv 6) set_list))))
 pss_nil)
 (pss_cons (ps_if (pt_cmpR op_eq (pv 5) pe_int (nomark _)) (pss_one (ps_asg (pe_tup (pa_cons (pe_op op_sub (pe_call (ok__law_draw T) (hr.mono (by decide)) (by rfl) T.g__law_draw T.F__law_draw.kp T.b__law_draw .nil pass0 (pa_cons (pv 0) (pa_cons (pe_op op_add (pv 2) pe_int) pa_nil))) pe_int) (pa_cons (pv 8) (pa_cons (pv 9) pa_nil)))) (pg_sub (pv 1) (pv 6) set_list)))
 pss_nil)
 (pss_cons (ps_if (pt_cmpR op_eq (pv 5) pe_int (nomark _)) (pss_one (ps_asg (pe_tup (pa_cons (pv 7) (pa_cons (pe_op op_sub (pe_call (ok__law_draw T) (hr.mono (by decide)) (by rfl) T.g__law_draw T.F__law_draw.kp T.b__law_draw .nil pass0 (pa_cons (pv 0) (pa_cons (pe_op op_add (pv 2) pe_int) pa_nil))) pe_int) (pa_cons (pv 9) pa_nil)))) (pg_sub (pv 1) (pv 6) set_list)))
 pss_nil)
 (pss_cons (ps_if (pt_cmpR op_eq (pv 5) pe_int (nomark _)) (pss_one (ps_set (i := 1) sc__law_spoiled.nd rfl (Or.inl rfl) (pe_op op_cat (pe_slice sl_list (pv 1) po_none (po_some (pv 6))) (pe_slice sl_list (pv 1) (po_some (pe_op op_add (pv 6) pe_int)) po_none))))
 pss_nil)
 (pss_cons (ps_if (pt_cmpR op_eq (pv 5) pe_int (nomark _)) (pss_one (ps_expr (pe_bm PySem.F.plainAttrs_list PySem.F.slot_list_insert PySem.F.type_list_insert mt_insert (pv 1) (pa_cons (pe_call (ok__law_draw T) (hr.mono (by decide)) (by rfl) T.g__law_draw T.F__law_draw.kp T.b__law_draw .nil pass0 (pa_cons (pv 0) (pa_cons (pe_op op_add (pe_callB call_len_seq (by rfl) T.n_len (by decide +kernel) (pa_cons (pv 1) pa_nil)) pe_int) pa_nil))) (pa_cons (pe_ix ix_list (pv 1) (pv 6) (fun _ _ => rfl)) pa_nil)))))
 pss_nil)
 (pss_cons (ps_if (pt_cmpR op_eq (pv 5) pe_int (nomark _)) (pss_cons (ps_set (i := 11) sc__law_spoiled.nd rfl (Or.inl rfl) (pe_call (ok__law_draw T) (hr.mono (by decide)) (by rfl) T.g__law_draw T.F__law_draw.kp T.b__law_draw .nil pass0 (pa_cons (pv 0) (pa_cons (pe_callB call_len_seq (by rfl) T.n_len (by decide +kernel) (pa_cons (pv 1) pa_nil)) pa_nil))))
 (pss_one (ps_asg (pe_tup (pa_cons (pe_ix ix_list (pv 1) (pv 11) (fun _ _ => rfl)) (pa_cons (pe_ix ix_list (pv 1) (pv 6) (fun _ _ => rfl)) pa_nil))) (pg_tup (by rfl) (pgs_cons (pg_sub (pv 1) (pv 6) set_list) (pgs_cons (pg_sub (pv 1) (pv 11) set_list) pgs_nil))))))
 pss_nil)
 (pss_cons (ps_if (pt_cmpR op_eq (pv 5) pe_int (nomark _)) (pss_one (ps_asg (pe_call (ok__law_wrong T) (hr.mono (by decide)) (by rfl) T.g__law_wrong T.F__law_wrong.kp T.b__law_wrong .nil pass0 (pa_cons (pv 0) (pa_cons (pe_tup (pa_cons (pv 7) (pa_cons (pv 8) (pa_cons (pv 9) pa_nil)))) (pa_cons (pv 4) pa_nil)))) (pg_sub (pv 1) (pv 6) set_list)))
 pss_nil)
 (pss_one (ps_ret (pv 1)))))))))))))), ?_⟩
    have S : S4 a.c_Machine p q L H xs os H := ⟨hs, Kp.refl _ _ _, eL, hA, nLp, nLq⟩
    have done : ∀ (ys : List V) (ss : List (Option L3)) (H' : Hp), S4 a.c_Machine p q L H ys ss H' → ss.length ≤ os.length + 1 → Q (.ref L) H' := fun ys ss H' S c => k L ys ss H' S.hs S.kp S.eL S.hA S.nLp S.nLq c
    obtain ⟨dx, em⟩ := hm
    have mp : m ≠ p := fun z => by
      obtain ⟨cs, i, big, cnt, st, h1, _⟩ := hs
      rw [z, h1] at em; cases em
    have mL : m ≠ L := fun z => by rw [z, eL] at em; cases em
    have hxl : xs.length = os.length := hA.1
    repeat walk_at "rd"
    refine ⟨p, q, 9, rfl, S.hs, by decide, by decide, fun kind H1 k0 k9 hs1 b1 => ?_⟩
    have S := S.but hs1 b1
    clear hs1 b1 hs eL hA
    have eL := S.eL
    repeat first | walk_at "rd" | walk_at "rdi"
    refine ⟨p, q, _, rfl, S.hs, by omega, by omega, fun d H2 d0 d1 hs2 b2 => ?_⟩
    clear eL
    have S := S.but hs2 b2
    clear hs2 b2
    have hdx : d.toNat < xs.length := by omega
    obtain ⟨x, hx⟩ : ∃ x, xs[d.toNat]? = some x := ⟨_, List.getElem?_eq_getElem hdx⟩
    obtain ⟨o, ho, hr⟩ := S.hA.get hx
    have ea : atI xs d = some x := by rw [at_int d0 (by omega)]; rw [← hx, List.getElem?_eq_getElem hdx]
    have ix : ixN xs.length d = some d.toNat := ix_int d0 (by omega)
    have eL := S.eL
    repeat first | walk_at "rd" | walk_at "rdi"
    refine new_at (Nat.le_of_ble_eq_true rfl) (fun z0 H21 n21 s21 e21 => ?_)
    have S := S.keep s21
    have hr := hr.keep s21
    clear eL s21 n21
    repeat first | walk_at "rd" | walk_at "rdi"
    refine r_ixL S.eL ea ?_
    repeat first | walk_at "rd" | walk_at "rdi"
    refine ⟨_, x, o, rfl, hr, fun H3 s3 => ?_⟩
    have S := S.keep s3
    have hr := hr.keep s3
    clear s3 e21
    have eL := S.eL
    have two : okRow o = false ∨ ∃ l : L3, okRow o = true ∧ o = some l := by
      cases o with
      | none => exact .inl rfl
      | some l => cases h : okRow (some l) with
        | false => exact .inl rfl
        | true => exact .inr ⟨l, rfl, rfl⟩
    rcases two with hok | ⟨l, hok, rfl⟩
    all_goals rw [hok]
    all_goals first
      | (obtain ⟨t, rfl, et⟩ := hr
         have et : H3 t = some (.tup [.int l.1, .int l.2.1, .int l.2.2]) := et
         repeat first | walk_at "rd" | walk_at "rdi"
         refine r_ixL S.eL ea ?_
         repeat first | walk_at "rd" | walk_at "rdi"
         clear et)
      | (repeat first | walk_at "rd" | walk_at "rdi"
         clear hr)
    all_goals clear eL
    all_goals have eL := S.eL
    all_goals have hk : kind = 0 ∨ kind = 1 ∨ kind = 2 ∨ kind = 3 ∨ kind = 4 ∨ kind = 5 ∨ kind = 6 ∨ kind = 7 ∨ kind = 8 := by omega
    all_goals rcases hk with rfl | rfl | rfl | rfl | rfl | rfl | rfl | rfl | rfl
    · repeat first | refine ite_tt (by decide) ?_ | refine ite_ff (by decide) ?_ | walk_at "rd" | walk_at "rdi"
      refine new_at (Nat.le_of_ble_eq_true rfl) (fun u H4 nu s4 eu => ?_)
      have up := S.hs.ne nu
      have S := S.keep s4
      repeat first | refine ite_tt (by decide) ?_ | refine ite_ff (by decide) ?_ | walk_at "rd" | walk_at "rdi"
      refine ⟨p, q, 3, rfl, S.hs, by decide, by decide, fun e H5 i0 i3 hs5 b5 => ?_⟩
      have eu := b5 _ _ eu up
      have S := S.but hs5 b5
      obtain ⟨sh, hsh⟩ : ∃ sh : Int, atI [V.int 1, .int G, .int (2 * G + 1)] e = some (.int sh) := by
        have : e = 0 ∨ e = 1 ∨ e = 2 := by omega
        rcases this with rfl | rfl | rfl
        · exact ⟨_, rfl⟩
        · exact ⟨_, rfl⟩
        · exact ⟨_, rfl⟩
      refine r_ixL eu hsh ?_
      repeat first | refine ite_tt (by decide) ?_ | refine ite_ff (by decide) ?_ | walk_at "rd" | walk_at "rdi"
      refine new_at (Nat.le_of_ble_eq_true rfl) (fun v H6 nv s6 ev => ?_)
      have S := S.keep s6
      repeat first | refine ite_tt (by decide) ?_ | refine ite_ff (by decide) ?_ | walk_at "rd" | walk_at "rdi"
      try refine r_ixL ev rfl ?_
      repeat first | refine ite_tt (by decide) ?_ | refine ite_ff (by decide) ?_ | walk_at "rd" | walk_at "rdi"
      refine new_at (Nat.le_of_ble_eq_true rfl) (fun w1 H7 nw s7 ew => ?_)
      have S := S.keep s7
      repeat first | refine ite_tt (by decide) ?_ | refine ite_ff (by decide) ?_ | walk_at "rd" | walk_at "rdi"
      refine ⟨L, xs, d, d.toNat, rfl, rfl, S.eL, ix, ?_⟩
      have S := S.put (S.hA.set (i := d.toNat) (RowK.tri ew))
      repeat first | exact done _ _ _ S (by rw [List.length_set]; omega) | refine ite_ff (by decide) ?_ | walk_at "rd" | walk_at "rdi"
    · repeat first | refine ite_tt (by decide) ?_ | refine ite_ff (by decide) ?_ | walk_at "rd" | walk_at "rdi"
      refine new_at (Nat.le_of_ble_eq_true rfl) (fun u H4 nu s4 eu => ?_)
      have up := S.hs.ne nu
      have S := S.keep s4
      repeat first | refine ite_tt (by decide) ?_ | refine ite_ff (by decide) ?_ | walk_at "rd" | walk_at "rdi"
      refine ⟨p, q, 3, rfl, S.hs, by decide, by decide, fun e H5 i0 i3 hs5 b5 => ?_⟩
      have eu := b5 _ _ eu up
      have S := S.but hs5 b5
      obtain ⟨sh, hsh⟩ : ∃ sh : Int, atI [V.int 1, .int G, .int (2 * G + 1)] e = some (.int sh) := by
        have : e = 0 ∨ e = 1 ∨ e = 2 := by omega
        rcases this with rfl | rfl | rfl
        · exact ⟨_, rfl⟩
        · exact ⟨_, rfl⟩
        · exact ⟨_, rfl⟩
      refine r_ixL eu hsh ?_
      repeat first | refine ite_tt (by decide) ?_ | refine ite_ff (by decide) ?_ | walk_at "rd" | walk_at "rdi"
      refine new_at (Nat.le_of_ble_eq_true rfl) (fun v H6 nv s6 ev => ?_)
      have S := S.keep s6
      repeat first | refine ite_tt (by decide) ?_ | refine ite_ff (by decide) ?_ | walk_at "rd" | walk_at "rdi"
      try refine r_ixL ev rfl ?_
      repeat first | refine ite_tt (by decide) ?_ | refine ite_ff (by decide) ?_ | walk_at "rd" | walk_at "rdi"
      refine new_at (Nat.le_of_ble_eq_true rfl) (fun w1 H7 nw s7 ew => ?_)
      have S := S.keep s7
      repeat first | refine ite_tt (by decide) ?_ | refine ite_ff (by decide) ?_ | walk_at "rd" | walk_at "rdi"
      refine ⟨L, xs, d, d.toNat, rfl, rfl, S.eL, ix, ?_⟩
      have S := S.put (S.hA.set (i := d.toNat) (RowK.tri ew))
      repeat first | exact done _ _ _ S (by rw [List.length_set]; omega) | refine ite_ff (by decide) ?_ | walk_at "rd" | walk_at "rdi"
    · repeat first | refine ite_tt (by decide) ?_ | refine ite_ff (by decide) ?_ | walk_at "rd" | walk_at "rdi"
      refine ⟨p, q, _, rfl, S.hs, by omega, by omega, fun e H5 i0 i3 hs5 b5 => ?_⟩
      have S := S.but hs5 b5
      repeat first | refine ite_tt (by decide) ?_ | refine ite_ff (by decide) ?_ | walk_at "rd" | walk_at "rdi"
      refine new_at (Nat.le_of_ble_eq_true rfl) (fun w1 H7 nw s7 ew => ?_)
      have S := S.keep s7
      repeat first | refine ite_tt (by decide) ?_ | refine ite_ff (by decide) ?_ | walk_at "rd" | walk_at "rdi"
      refine ⟨L, xs, d, d.toNat, rfl, rfl, S.eL, ix, ?_⟩
      have S := S.put (S.hA.set (i := d.toNat) (RowK.tri ew))
      repeat first | exact done _ _ _ S (by rw [List.length_set]; omega) | refine ite_ff (by decide) ?_ | walk_at "rd" | walk_at "rdi"
    · repeat first | refine ite_tt (by decide) ?_ | refine ite_ff (by decide) ?_ | walk_at "rd" | walk_at "rdi"
      refine ⟨p, q, _, rfl, S.hs, by omega, by omega, fun e H5 i0 i3 hs5 b5 => ?_⟩
      have S := S.but hs5 b5
      repeat first | refine ite_tt (by decide) ?_ | refine ite_ff (by decide) ?_ | walk_at "rd" | walk_at "rdi"
      refine new_at (Nat.le_of_ble_eq_true rfl) (fun w1 H7 nw s7 ew => ?_)
      have S := S.keep s7
      repeat first | refine ite_tt (by decide) ?_ | refine ite_ff (by decide) ?_ | walk_at "rd" | walk_at "rdi"
      refine ⟨L, xs, d, d.toNat, rfl, rfl, S.eL, ix, ?_⟩
      have S := S.put (S.hA.set (i := d.toNat) (RowK.tri ew))
      repeat first | exact done _ _ _ S (by rw [List.length_set]; omega) | refine ite_ff (by decide) ?_ | walk_at "rd" | walk_at "rdi"
    · repeat first | refine ite_tt (by decide) ?_ | refine ite_ff (by decide) ?_ | walk_at "rd" | walk_at "rdi"
      refine r_slL (SqL.of S.eL) (fun u H4 nu s4 eu => ?_)
      have S := S.keep s4
      rw [cut_to d0 (by omega)] at eu
      repeat first | refine ite_tt (by decide) ?_ | refine ite_ff (by decide) ?_ | walk_at "rd" | walk_at "rdi"
      refine r_slL (SqL.of S.eL) (fun v H5 nv s5 ev => ?_)
      have S := S.keep s5
      have eu := s5 _ _ eu
      rw [cut_from (by omega) (by omega)] at ev
      repeat first | refine ite_tt (by decide) ?_ | refine ite_ff (by decide) ?_ | walk_at "rd" | walk_at "rdi"
      refine r_cat eu ev (by rw [List.length_take, List.length_drop]; omega) (fun M4 H6 nM s6 eM => ?_)
      have hA3 := S.hA
      have nMp := S.hs.ne nM
      have nMq := S.hs.neq nM
      have S := S.keep s6
      have hA4 := (hA3.take (i := d.toNat)).cat (hA3.drop (i := (d + 1).toNat))
      have hA5 : RowsK a.c_Machine [p, M4] H6 _ _ := (hA4.imp fun x o r => r.more nM).imp fun x o r => (r.keep s6).less trivial
      have fin := k M4 _ _ H6 S.hs S.kp eM hA5 nMp nMq (by rw [List.length_append, List.length_take, List.length_drop]; omega)
      repeat first | exact fin | refine ite_ff (by decide) ?_ | walk_at "rd" | walk_at "rdi"
    · repeat first | refine ite_tt (by decide) ?_ | refine ite_ff (by decide) ?_ | walk_at "rd" | walk_at "rdi"
      refine ⟨.inl ⟨rfl, _, SqL.of S.eL⟩, ?_⟩
      repeat first | refine ite_tt (by decide) ?_ | refine ite_ff (by decide) ?_ | walk_at "rd" | walk_at "rdi"
      refine ⟨p, q, _, rfl, S.hs, by omega, by omega, fun e H5 i0 i3 hs5 b5 => ?_⟩
      have S := S.but hs5 b5
      repeat first | refine ite_tt (by decide) ?_ | refine ite_ff (by decide) ?_ | walk_at "rd" | walk_at "rdi"
      refine r_ixL S.eL ea ?_
      repeat first | refine ite_tt (by decide) ?_ | refine ite_ff (by decide) ?_ | walk_at "rd" | walk_at "rdi"
      refine ⟨L, xs, e, _, rfl, rfl, S.eL, small1000 (by omega), i0, by omega, ?_⟩
      obtain ⟨o2, ho2, hr2⟩ := S.hA.get hx
      have S := S.put (((S.hA.take (i := e.toNat)).cat (RowsK.one hr2)).cat (S.hA.drop (i := e.toNat)))
      repeat first | exact done _ _ _ S (by simp; omega) | refine ite_ff (by decide) ?_ | walk_at "rd" | walk_at "rdi"
    · repeat first | refine ite_tt (by decide) ?_ | refine ite_ff (by decide) ?_ | walk_at "rd" | walk_at "rdi"
      refine ⟨p, q, _, rfl, S.hs, by omega, by omega, fun e H5 i0 i3 hs5 b5 => ?_⟩
      have S := S.but hs5 b5
      have hex : e.toNat < xs.length := by omega
      obtain ⟨y, hy⟩ : ∃ y, xs[e.toNat]? = some y := ⟨_, List.getElem?_eq_getElem hex⟩
      obtain ⟨oy, hoy, hry⟩ := S.hA.get hy
      obtain ⟨ox, hox, hrx⟩ := S.hA.get hx
      have eb : atI xs e = some y := by rw [at_int i0 (by omega)]; rw [← hy, List.getElem?_eq_getElem hex]
      repeat first | refine ite_tt (by decide) ?_ | refine ite_ff (by decide) ?_ | walk_at "rd" | walk_at "rdi"
      refine r_ixL S.eL eb ?_
      repeat first | refine ite_tt (by decide) ?_ | refine ite_ff (by decide) ?_ | walk_at "rd" | walk_at "rdi"
      refine r_ixL S.eL ea ?_
      repeat first | refine ite_tt (by decide) ?_ | refine ite_ff (by decide) ?_ | walk_at "rd" | walk_at "rdi"
      refine new_at (Nat.le_of_ble_eq_true rfl) (fun u H6 nu s6 eu => ?_)
      have S := S.keep s6
      have hrx := hrx.keep s6
      have hry := hry.keep s6
      repeat first | refine ite_tt (by decide) ?_ | refine ite_ff (by decide) ?_ | walk_at "rd" | walk_at "rdi"
      refine ⟨L, xs, d, d.toNat, rfl, rfl, S.eL, ix, ?_⟩
      have hrx := hrx.upd (u := .lst (xs.set d.toNat y)) (show L ∈ [p, L] by simp) S.eL
      have S := S.put (S.hA.set (i := d.toNat) hry)
      repeat first | refine ite_tt (by decide) ?_ | refine ite_ff (by decide) ?_ | walk_at "rd" | walk_at "rdi"
      refine ⟨L, _, e, e.toNat, rfl, rfl, S.eL, ix_int i0 (by rw [List.length_set]; omega), ?_⟩
      have S := S.put (S.hA.set (i := e.toNat) hrx)
      repeat first | exact done _ _ _ S (by rw [List.length_set, List.length_set]; omega) | refine ite_ff (by decide) ?_ | walk_at "rd" | walk_at "rdi"
    · repeat first | refine ite_tt (by decide) ?_ | refine ite_ff (by decide) ?_ | walk_at "rd" | walk_at "rdi"
      refine new_at (Nat.le_of_ble_eq_true rfl) (fun u H4 nu s4 eu => ?_)
      have S := S.keep s4
      repeat first | refine ite_tt (by decide) ?_ | refine ite_ff (by decide) ?_ | walk_at "rd" | walk_at "rdi"
      refine ⟨[p, L], p, q, u, m, (0, 0, 0), o_, l_, g_, rfl, S.hs, eu, ⟨dx, S.kp _ _ em mp mL⟩, by simp [mp, mL], fun b hb => ?_, fun y oy H5 hry hs5 b5 => ?_⟩
      · rcases List.mem_cons.mp hb with rfl | hb
        · obtain ⟨cs, i, big, cnt, st, h1, _⟩ := S.hs
          rw [h1]; exact fun z => nomatch z
        · rw [List.mem_singleton] at hb
          rw [hb, S.eL]; exact fun z => nomatch z
      · have S := S.but hs5 b5
        repeat first | refine ite_tt (by decide) ?_ | refine ite_ff (by decide) ?_ | walk_at "rd" | walk_at "rdi"
        refine ⟨L, xs, d, d.toNat, rfl, rfl, S.eL, ix, ?_⟩
        have S := S.put (S.hA.set (i := d.toNat) hry)
        repeat first | exact done _ _ _ S (by rw [List.length_set]; omega) | refine ite_ff (by decide) ?_ | walk_at "rd" | walk_at "rdi"
    · repeat first | exact done _ _ _ S (by omega) | refine ite_ff (by decide) ?_ | walk_at "rd" | walk_at "rdi"
    · repeat first | refine ite_tt (by decide) ?_ | refine ite_ff (by decide) ?_ | walk_at "rd" | walk_at "rdi"
      refine new_at (Nat.le_of_ble_eq_true rfl) (fun u H4 nu s4 eu => ?_)
      have up := S.hs.ne nu
      have S := S.keep s4
      repeat first | refine ite_tt (by decide) ?_ | refine ite_ff (by decide) ?_ | walk_at "rd" | walk_at "rdi"
      refine ⟨p, q, 3, rfl, S.hs, by decide, by decide, fun e H5 i0 i3 hs5 b5 => ?_⟩
      have eu := b5 _ _ eu up
      have S := S.but hs5 b5
      obtain ⟨sh, hsh⟩ : ∃ sh : Int, atI [V.int 1, .int G, .int (2 * G + 1)] e = some (.int sh) := by
        have : e = 0 ∨ e = 1 ∨ e = 2 := by omega
        rcases this with rfl | rfl | rfl
        · exact ⟨_, rfl⟩
        · exact ⟨_, rfl⟩
        · exact ⟨_, rfl⟩
      refine r_ixL eu hsh ?_
      repeat first | refine ite_tt (by decide) ?_ | refine ite_ff (by decide) ?_ | walk_at "rd" | walk_at "rdi"
      refine new_at (Nat.le_of_ble_eq_true rfl) (fun v H6 nv s6 ev => ?_)
      have S := S.keep s6
      repeat first | refine ite_tt (by decide) ?_ | refine ite_ff (by decide) ?_ | walk_at "rd" | walk_at "rdi"
      try refine r_ixL ev rfl ?_
      repeat first | refine ite_tt (by decide) ?_ | refine ite_ff (by decide) ?_ | walk_at "rd" | walk_at "rdi"
      refine new_at (Nat.le_of_ble_eq_true rfl) (fun w1 H7 nw s7 ew => ?_)
      have S := S.keep s7
      repeat first | refine ite_tt (by decide) ?_ | refine ite_ff (by decide) ?_ | walk_at "rd" | walk_at "rdi"
      refine ⟨L, xs, d, d.toNat, rfl, rfl, S.eL, ix, ?_⟩
      have S := S.put (S.hA.set (i := d.toNat) (RowK.tri ew))
      repeat first | exact done _ _ _ S (by rw [List.length_set]; omega) | refine ite_ff (by decide) ?_ | walk_at "rd" | walk_at "rdi"
    · repeat first | refine ite_tt (by decide) ?_ | refine ite_ff (by decide) ?_ | walk_at "rd" | walk_at "rdi"
      refine new_at (Nat.le_of_ble_eq_true rfl) (fun u H4 nu s4 eu => ?_)
      have up := S.hs.ne nu
      have S := S.keep s4
      repeat first | refine ite_tt (by decide) ?_ | refine ite_ff (by decide) ?_ | walk_at "rd" | walk_at "rdi"
      refine ⟨p, q, 3, rfl, S.hs, by decide, by decide, fun e H5 i0 i3 hs5 b5 => ?_⟩
      have eu := b5 _ _ eu up
      have S := S.but hs5 b5
      obtain ⟨sh, hsh⟩ : ∃ sh : Int, atI [V.int 1, .int G, .int (2 * G + 1)] e = some (.int sh) := by
        have : e = 0 ∨ e = 1 ∨ e = 2 := by omega
        rcases this with rfl | rfl | rfl
        · exact ⟨_, rfl⟩
        · exact ⟨_, rfl⟩
        · exact ⟨_, rfl⟩
      refine r_ixL eu hsh ?_
      repeat first | refine ite_tt (by decide) ?_ | refine ite_ff (by decide) ?_ | walk_at "rd" | walk_at "rdi"
      refine new_at (Nat.le_of_ble_eq_true rfl) (fun v H6 nv s6 ev => ?_)
      have S := S.keep s6
      repeat first | refine ite_tt (by decide) ?_ | refine ite_ff (by decide) ?_ | walk_at "rd" | walk_at "rdi"
      try refine r_ixL ev rfl ?_
      repeat first | refine ite_tt (by decide) ?_ | refine ite_ff (by decide) ?_ | walk_at "rd" | walk_at "rdi"
      refine new_at (Nat.le_of_ble_eq_true rfl) (fun w1 H7 nw s7 ew => ?_)
      have S := S.keep s7
      repeat first | refine ite_tt (by decide) ?_ | refine ite_ff (by decide) ?_ | walk_at "rd" | walk_at "rdi"
      refine ⟨L, xs, d, d.toNat, rfl, rfl, S.eL, ix, ?_⟩
      have S := S.put (S.hA.set (i := d.toNat) (RowK.tri ew))
      repeat first | exact done _ _ _ S (by rw [List.length_set]; omega) | refine ite_ff (by decide) ?_ | walk_at "rd" | walk_at "rdi"
    · repeat first | refine ite_tt (by decide) ?_ | refine ite_ff (by decide) ?_ | walk_at "rd" | walk_at "rdi"
      refine ⟨p, q, _, rfl, S.hs, by omega, by omega, fun e H5 i0 i3 hs5 b5 => ?_⟩
      have S := S.but hs5 b5
      repeat first | refine ite_tt (by decide) ?_ | refine ite_ff (by decide) ?_ | walk_at "rd" | walk_at "rdi"
      refine new_at (Nat.le_of_ble_eq_true rfl) (fun w1 H7 nw s7 ew => ?_)
      have S := S.keep s7
      repeat first | refine ite_tt (by decide) ?_ | refine ite_ff (by decide) ?_ | walk_at "rd" | walk_at "rdi"
      refine ⟨L, xs, d, d.toNat, rfl, rfl, S.eL, ix, ?_⟩
      have S := S.put (S.hA.set (i := d.toNat) (RowK.tri ew))
      repeat first | exact done _ _ _ S (by rw [List.length_set]; omega) | refine ite_ff (by decide) ?_ | walk_at "rd" | walk_at "rdi"
    · repeat first | refine ite_tt (by decide) ?_ | refine ite_ff (by decide) ?_ | walk_at "rd" | walk_at "rdi"
      refine ⟨p, q, _, rfl, S.hs, by omega, by omega, fun e H5 i0 i3 hs5 b5 => ?_⟩
      have S := S.but hs5 b5
      repeat first | refine ite_tt (by decide) ?_ | refine ite_ff (by decide) ?_ | walk_at "rd" | walk_at "rdi"
      refine new_at (Nat.le_of_ble_eq_true rfl) (fun w1 H7 nw s7 ew => ?_)
      have S := S.keep s7
      repeat first | refine ite_tt (by decide) ?_ | refine ite_ff (by decide) ?_ | walk_at "rd" | walk_at "rdi"
      refine ⟨L, xs, d, d.toNat, rfl, rfl, S.eL, ix, ?_⟩
      have S := S.put (S.hA.set (i := d.toNat) (RowK.tri ew))
      repeat first | exact done _ _ _ S (by rw [List.length_set]; omega) | refine ite_ff (by decide) ?_ | walk_at "rd" | walk_at "rdi"
    · repeat first | refine ite_tt (by decide) ?_ | refine ite_ff (by decide) ?_ | walk_at "rd" | walk_at "rdi"
      refine r_slL (SqL.of S.eL) (fun u H4 nu s4 eu => ?_)
      have S := S.keep s4
      rw [cut_to d0 (by omega)] at eu
      repeat first | refine ite_tt (by decide) ?_ | refine ite_ff (by decide) ?_ | walk_at "rd" | walk_at "rdi"
      refine r_slL (SqL.of S.eL) (fun v H5 nv s5 ev => ?_)
      have S := S.keep s5
      have eu := s5 _ _ eu
      rw [cut_from (by omega) (by omega)] at ev
      repeat first | refine ite_tt (by decide) ?_ | refine ite_ff (by decide) ?_ | walk_at "rd" | walk_at "rdi"
      refine r_cat eu ev (by rw [List.length_take, List.length_drop]; omega) (fun M4 H6 nM s6 eM => ?_)
      have hA3 := S.hA
      have nMp := S.hs.ne nM
      have nMq := S.hs.neq nM
      have S := S.keep s6
      have hA4 := (hA3.take (i := d.toNat)).cat (hA3.drop (i := (d + 1).toNat))
      have hA5 : RowsK a.c_Machine [p, M4] H6 _ _ := (hA4.imp fun x o r => r.more nM).imp fun x o r => (r.keep s6).less trivial
      have fin := k M4 _ _ H6 S.hs S.kp eM hA5 nMp nMq (by rw [List.length_append, List.length_take, List.length_drop]; omega)
      repeat first | exact fin | refine ite_ff (by decide) ?_ | walk_at "rd" | walk_at "rdi"
    · repeat first | refine ite_tt (by decide) ?_ | refine ite_ff (by decide) ?_ | walk_at "rd" | walk_at "rdi"
      refine ⟨.inl ⟨rfl, _, SqL.of S.eL⟩, ?_⟩
      repeat first | refine ite_tt (by decide) ?_ | refine ite_ff (by decide) ?_ | walk_at "rd" | walk_at "rdi"
      refine ⟨p, q, _, rfl, S.hs, by omega, by omega, fun e H5 i0 i3 hs5 b5 => ?_⟩
      have S := S.but hs5 b5
      repeat first | refine ite_tt (by decide) ?_ | refine ite_ff (by decide) ?_ | walk_at "rd" | walk_at "rdi"
      refine r_ixL S.eL ea ?_
      repeat first | refine ite_tt (by decide) ?_ | refine ite_ff (by decide) ?_ | walk_at "rd" | walk_at "rdi"
      refine ⟨L, xs, e, _, rfl, rfl, S.eL, small1000 (by omega), i0, by omega, ?_⟩
      obtain ⟨o2, ho2, hr2⟩ := S.hA.get hx
      have S := S.put (((S.hA.take (i := e.toNat)).cat (RowsK.one hr2)).cat (S.hA.drop (i := e.toNat)))
      repeat first | exact done _ _ _ S (by simp; omega) | refine ite_ff (by decide) ?_ | walk_at "rd" | walk_at "rdi"
    · repeat first | refine ite_tt (by decide) ?_ | refine ite_ff (by decide) ?_ | walk_at "rd" | walk_at "rdi"
      refine ⟨p, q, _, rfl, S.hs, by omega, by omega, fun e H5 i0 i3 hs5 b5 => ?_⟩
      have S := S.but hs5 b5
      have hex : e.toNat < xs.length := by omega
      obtain ⟨y, hy⟩ : ∃ y, xs[e.toNat]? = some y := ⟨_, List.getElem?_eq_getElem hex⟩
      obtain ⟨oy, hoy, hry⟩ := S.hA.get hy
      obtain ⟨ox, hox, hrx⟩ := S.hA.get hx
      have eb : atI xs e = some y := by rw [at_int i0 (by omega)]; rw [← hy, List.getElem?_eq_getElem hex]
      repeat first | refine ite_tt (by decide) ?_ | refine ite_ff (by decide) ?_ | walk_at "rd" | walk_at "rdi"
      refine r_ixL S.eL eb ?_
      repeat first | refine ite_tt (by decide) ?_ | refine ite_ff (by decide) ?_ | walk_at "rd" | walk_at "rdi"
      refine r_ixL S.eL ea ?_
      repeat first | refine ite_tt (by decide) ?_ | refine ite_ff (by decide) ?_ | walk_at "rd" | walk_at "rdi"
      refine new_at (Nat.le_of_ble_eq_true rfl) (fun u H6 nu s6 eu => ?_)
      have S := S.keep s6
      have hrx := hrx.keep s6
      have hry := hry.keep s6
      repeat first | refine ite_tt (by decide) ?_ | refine ite_ff (by decide) ?_ | walk_at "rd" | walk_at "rdi"
      refine ⟨L, xs, d, d.toNat, rfl, rfl, S.eL, ix, ?_⟩
      have hrx := hrx.upd (u := .lst (xs.set d.toNat y)) (show L ∈ [p, L] by simp) S.eL
      have S := S.put (S.hA.set (i := d.toNat) hry)
      repeat first | refine ite_tt (by decide) ?_ | refine ite_ff (by decide) ?_ | walk_at "rd" | walk_at "rdi"
      refine ⟨L, _, e, e.toNat, rfl, rfl, S.eL, ix_int i0 (by rw [List.length_set]; omega), ?_⟩
      have S := S.put (S.hA.set (i := e.toNat) hrx)
      repeat first | exact done _ _ _ S (by rw [List.length_set, List.length_set]; omega) | refine ite_ff (by decide) ?_ | walk_at "rd" | walk_at "rdi"
    · repeat first | refine ite_tt (by decide) ?_ | refine ite_ff (by decide) ?_ | walk_at "rd" | walk_at "rdi"
      refine new_at (Nat.le_of_ble_eq_true rfl) (fun u H4 nu s4 eu => ?_)
      have S := S.keep s4
      repeat first | refine ite_tt (by decide) ?_ | refine ite_ff (by decide) ?_ | walk_at "rd" | walk_at "rdi"
      refine ⟨[p, L], p, q, u, m, (l.1, l.2.1, l.2.2), o_, l_, g_, rfl, S.hs, eu, ⟨dx, S.kp _ _ em mp mL⟩, by simp [mp, mL], fun b hb => ?_, fun y oy H5 hry hs5 b5 => ?_⟩
      · rcases List.mem_cons.mp hb with rfl | hb
        · obtain ⟨cs, i, big, cnt, st, h1, _⟩ := S.hs
          rw [h1]; exact fun z => nomatch z
        · rw [List.mem_singleton] at hb
          rw [hb, S.eL]; exact fun z => nomatch z
      · have S := S.but hs5 b5
        repeat first | refine ite_tt (by decide) ?_ | refine ite_ff (by decide) ?_ | walk_at "rd" | walk_at "rdi"
        refine ⟨L, xs, d, d.toNat, rfl, rfl, S.eL, ix, ?_⟩
        have S := S.put (S.hA.set (i := d.toNat) hry)
        repeat first | exact done _ _ _ S (by rw [List.length_set]; omega) | refine ite_ff (by decide) ?_ | walk_at "rd" | walk_at "rdi"
    · repeat first | exact done _ _ _ S (by omega) | refine ite_ff (by decide) ?_ | walk_at "rd" | walk_at "rdi"
end

/-! ### != of two lists of the same items -/
theorem same_items {P : Program} {w : World} {K : PySem.W.Frag} {A : Around} {s : Shared} : ∀ {xs : List V} {us ws : List Value}, (∀ v, v ∈ xs → flatB v = true ∨ ∃ p, v = .ref p) → Vals xs us → Vals xs ws → ∀ j (h1 : j < us.length) (h2 : j < ws.length), SeqAt.EqAt A s us[j] ws[j] true
  | [], us, ws, _, r1, _, j, h1, _ => by cases r1; exact absurd h1 (Nat.not_lt_zero j)
  | x :: xs, us, ws, hf, r1, r2, j, h1, h2 => by
    cases r1 with
    | cons a1 b1 =>
      cases r2 with
      | cons a2 b2 =>
        cases j with
        | zero =>
          rcases hf x (List.mem_cons_self ..) with h | ⟨p, rfl⟩
          · exact eqAt_same a1 a2 h
          · rename_i y1 _ y2 _
            obtain rfl : y1 = Value.ref p := a1
            obtain rfl : y2 = Value.ref p := a2
            exact SeqAt.EqAt.same _
        | succ j => exact same_items (P := P) (w := w) (K := K) (fun v hv => hf v (List.mem_cons_of_mem _ hv)) b1 b2 j (Nat.lt_of_succ_lt_succ h1) (Nat.lt_of_succ_lt_succ h2)
/-- xs != ys, two lists of the same items: it is false -/
def rNeSame (K : PySem.W.Frag) : R2 := fun x y H Q => ∃ (a b : Addr) (xs : List V), x = .ref a ∧ y = .ref b ∧ SqL K H a xs ∧ SqL K H b xs ∧ (∀ v, v ∈ xs → flatB v = true ∨ ∃ p, v = .ref p) ∧ Q (.bl false) H
theorem op_neSame {X : Cx} (hu : X.A.units + 64 < cLine) : OpR X (compareOp .NotEq) (rNeSame X.K) := by
  intro pins s σ H x y v u Q I rx ry h
  obtain ⟨a, b, xs, rfl, rfl, ha, hb, hf, q⟩ := h
  obtain rfl : v = Value.ref a := rx
  obtain rfl : u = Value.ref b := ry
  obtain ⟨us, r1, p1, _⟩ := I.list ha
  obtain ⟨ws, r2, p2, _⟩ := I.list hb
  have hsz : us.toArray.size = ws.toArray.size := by
    rw [List.size_toArray, List.size_toArray, ← r1.length, ← r2.length]
  have go := SeqAt.RcNeAt.lists (A := X.A) (e := fun _ => true) p1.isList p2.isList hsz (by omega) (fun j h1 h2 => by
    have k := same_items (P := X.prog) (w := X.w) (K := X.K) (A := X.A.in1) (s := s) hf r1 r2 j (by simpa using h1) (by simpa using h2)
    simpa using k)
  refine go X.prog X.w _ _ ?_
  rw [show ((List.range us.toArray.size).all fun _ => true) = true from List.all_eq_true.mpr fun _ _ => rfl]
  exact ⟨.bl false, H, I, rfl, q⟩
/-! ### the law of k23 -/
structure Bq (M p q m : Addr) (o l g : Int) (H : Hp) : Prop where
  hs : SrcAt H p q
  hm : MachAt M H m o l g
theorem Bq.keep {M p q m : Addr} {o l g : Int} {H H' : Hp} (h : Bq M p q m o l g H) (s : Same H H') : Bq M p q m o l g H' := ⟨h.hs.keep s, h.hm.keep s⟩
theorem Bq.mp {M p q m : Addr} {o l g : Int} {H : Hp} (h : Bq M p q m o l g H) : m ≠ p := fun z => by
  obtain ⟨dx, e⟩ := h.hm
  obtain ⟨cs, i, big, cnt, st, h1, _⟩ := h.hs
  rw [z, h1] at e
  cases e
theorem Bq.mL {M p q m L : Addr} {o l g : Int} {H : Hp} {xs : List V} (h : Bq M p q m o l g H) (e : H L = some (.lst xs)) : m ≠ L := fun z => by
  obtain ⟨dx, e2⟩ := h.hm
  rw [z, e] at e2
  cases e2
theorem Bq.but {M p q m : Addr} {o l g : Int} {H H' : Hp} (h : Bq M p q m o l g H) (hs : SrcAt H' p q) (b : But p H H') : Bq M p q m o l g H' := ⟨hs, h.hm.but b h.mp⟩
theorem Bq.kp {M p q m L : Addr} {o l g : Int} {H H' : Hp} (h : Bq M p q m o l g H) (hs : SrcAt H' p q) (k : Kp p L H H') (nm : m ≠ L) : Bq M p q m o l g H' := ⟨hs, let ⟨dx, e⟩ := h.hm; ⟨dx, k _ _ e h.mp nm⟩⟩
theorem NoTup.flat {M : Addr} {av : List Addr} {H : Hp} {x : V} (h : NoTup M av H x) : flatB x = true ∨ ∃ p, x = .ref p := by
  rcases h with h | ⟨p, e, _⟩
  · left
    cases x with
    | non => rfl
    | bl b => rfl
    | int i => rfl
    | str s => rfl
    | byt _ => cases h
    | flt _ => cases h
    | ref _ => cases h
    | ty _ => cases h
  · exact .inr ⟨p, e⟩
theorem RowsK.flat {M : Addr} {av : List Addr} {H : Hp} {xs : List V} {os : List (Option L3)} (h : RowsK M av H xs os) : ∀ v, v ∈ xs → flatB v = true ∨ ∃ p, v = .ref p := fun v hv => by
  obtain ⟨i, hi⟩ := List.mem_iff_getElem?.mp hv
  obtain ⟨o, _, r⟩ := h.get hi
  cases o with
  | some l => obtain ⟨t, e, _⟩ := r; exact .inr ⟨t, e⟩
  | none =>
    rcases r with r | ⟨t, _, e, _⟩
    · exact r.flat
    · exact .inr ⟨t, e⟩
theorem WholeK.keep {M : Addr} {av : List Addr} {H H' : Hp} {x : V} {wh : Option (List (Option L3))} (h : WholeK M av H x wh) (s : Same H H') : WholeK M av H' x wh := by
  cases wh with
  | some os => obtain ⟨p, xs, e, sv, r⟩ := h; exact ⟨p, xs, e, sv.keep s, r.keep s⟩
  | none =>
    rcases h with h | ⟨p, e, h | ⟨dx, fs, h⟩⟩
    · exact .inl h
    · exact .inr ⟨p, e, .inl (s _ _ h)⟩
    · exact .inr ⟨p, e, .inr ⟨dx, fs, s _ _ h⟩⟩
/-- a thing that has not the form of a plan -/
def Bad (M : Addr) (H : Hp) (x : V) : Prop := ∃ wh, WholeK M [] H x wh ∧ formW 400 wh = some (("form" : Str), (-1 : Int))
theorem Bad.keep {M : Addr} {H H' : Hp} {x : V} (h : Bad M H x) (s : Same H H') : Bad M H' x := let ⟨wh, a, b⟩ := h; ⟨wh, a.keep s, b⟩
theorem Bad.prim {M : Addr} {H : Hp} {x : V} (h : primV x = true) : Bad M H x := ⟨none, .inl h, rfl⟩
theorem faultW_bad {D G n : Int} {wh : Option (List (Option L3))} (h : formW 400 wh = some (("form" : Str), (-1 : Int))) : faultW D G n wh = some (("form" : Str), (-1 : Int)) := by
  unfold faultW rowW
  rw [h]
  rfl
def manyO (n : Nat) : List (Option L3) := List.replicate n (some (0, 1, 0))
theorem rows_rep {M T : Addr} {av : List Addr} {H : Hp} {n : Nat} (e : H T = some (.tup [.int 0, .int 1, .int 0])) : RowsK M av H (List.replicate n [V.ref T]).flatten (manyO n) := by
  have e1 : (List.replicate n [V.ref T]).flatten = List.replicate n (V.ref T) := by
    induction n with
    | zero => rfl
    | succ n ih => rw [List.replicate_succ, List.flatten_cons, ih]; rfl
  rw [e1]
  unfold manyO
  refine ⟨by rw [List.length_replicate, List.length_replicate], fun i o ho => ?_⟩
  rw [List.getElem?_replicate] at ho ⊢
  split at ho
  · rename_i c
    rw [if_pos c]
    obtain rfl := Option.some.inj ho
    exact ⟨_, rfl, T, rfl, e⟩
  · cases ho
theorem bad_many {M p : Addr} {H : Hp} {xs : List V} (h : SeqV H p xs) (hA : RowsK M [] H xs (manyO 401)) : Bad M H (.ref p) := ⟨some (manyO 401), ⟨p, xs, rfl, h, hA⟩, formW_big (by unfold manyO; rw [List.length_replicate]; decide)⟩
theorem fault_many {D G : Int} (hG : 0 < G) : faultW D G 3 (some (manyO 400)) = some (("again" : Str), (1 : Int)) := by
  have e : manyO 400 = (List.replicate 400 ((0, 1, 0) : L3)).map some := by unfold manyO; rw [List.map_replicate]
  rw [e, faultW_rows (by rw [List.length_replicate]; decide), ← law_fault (by decide) hG]
  have hr : recvs (List.replicate 400 ((0, 1, 0) : L3)) = List.replicate 400 1 := by unfold recvs; rw [List.map_replicate]
  have hf : formS ((List.replicate 400 ((0, 1, 0) : L3)).map (·.2.2)) = none := by
    rw [List.map_replicate]
    refine form_okS fun s hs => ?_
    rw [(List.mem_replicate.mp hs).2]
    rfl
  have hh : handF 3 0 1 ((List.replicate 400 ((0, 1, 0) : L3)).map fun l => (l.1, l.2.1)) = none := by
    unfold handF
    rw [List.map_replicate, first_none fun i hi => ?_]
    · rfl
    · have e : (List.replicate 400 ((0 : Int), (1 : Int)))[i]? = some (0, 1) := by
        rw [List.getElem?_replicate, if_pos (by rw [List.length_replicate] at hi; exact hi)]
      rw [getD_of e]
      rfl
  have ha : againL (List.replicate 400 ((0, 1, 0) : L3)) = some (("again" : Str), (1 : Int)) := by
    unfold againL
    rw [hr, first_some (i := 1) (by rw [List.length_replicate]; decide) (by decide) (fun j hj => by
      obtain rfl : j = 0 := by omega
      decide)]
    rfl
  unfold lawF
  rw [hf, hh, ha]
  rfl
def spLaw (K : PySem.W.Frag) : Sp := fun vs H Q _ => ∃ (b : Addr) (ns : List Int), vs = [.ref b] ∧ SqL K H b (ns.map V.int) ∧ ns.length ≤ 63 ∧ ∀ H', Q (.bl true) H'
theorem r_tupS {K : PySem.W.Frag} {H : Hp} {Q : VK} {a : Addr} {xs : List V} (h : SqL K H a xs) (q : ∀ p H', H p = none → Same H H' → H' p = some (.tup xs) → Q (.ref p) H') : rTupOf K [.ref a] H Q := ⟨a, xs, rfl, .inl ⟨h, new_of q⟩⟩
theorem r_rep {H : Hp} {Q : VK} {l : Addr} {k : Int} {xs : List V} (h : H l = some (.lst xs)) (k1 : -(2 ^ 63) ≤ k) (k2 : k < 2 ^ 63) (k3 : xs.length * k.toNat ≤ sizeLine) (q : ∀ p H', H p = none → Same H H' → H' p = some (.lst (List.replicate k.toNat xs).flatten) → Q (.ref p) H') : rRep (.ref l) (.int k) H Q := ⟨l, k, xs, rfl, rfl, h, k1, k2, k3, new_of q⟩
theorem r_repT {K : PySem.W.Frag} {H : Hp} {Q : VK} {l : Addr} {k : Int} {xs : List V} (h : SqT K H l xs) (k1 : xs ≠ []) (k2 : 2 ≤ k) (k3 : k ≤ 1000) (k4 : xs.length ≤ 1000) (q : ∀ p H', H p = none → Same H H' → H' p = some (.tup (List.replicate k.toNat xs).flatten) → Q (.ref p) H') : rRepT K (.ref l) (.int k) H Q := ⟨l, k, xs, rfl, rfl, h, k1, k2, k3, k4, new_of q⟩
theorem r_int1B {x : Bool} {R1 : Int → Prop} {H : Hp} {Q : VK} (q : Q (.int (if x = true then 1 else 0)) H) : (∃ i, [V.bl x] = [.int i] ∧ R1 i) ∨ ∃ k, [V.bl x] = [.bl k] ∧ Q (.int (if k then 1 else 0)) H := .inr ⟨x, rfl, q⟩
section
variable {P : Program} {w : World} {K : PySem.W.Frag} {mg : Str → Option Value} {base : Heap} {a : Adr}
set_option maxHeartbeats 0 in
theorem ok_law (T : Txt K mg a) : FnOk P w K mg base CX0 9 a.a_law a.d_law ["_law_script"] (spLaw K) := by
  refine T.F_law.ok sc_law (fun vs H Q E h => ?_) (fun cdv A0 outer s H vs Q E hr h => ?_)
  · obtain ⟨b, ns, rfl, _⟩ := h
    rfl
  · obtain ⟨b, ns, rfl, hS, hn, k⟩ := h
    refine ⟨_, (pss_cons (ps_set (i := 1) sc_law.nd rfl (Or.inl rfl) (pe_call (ok__law_source T) (hr.mono (by decide)) (by rfl) T.g__law_source T.F__law_source.kp T.b__law_source .nil pass0 (pa_cons (pv 0) pa_nil)))
 (pss_cons (ps_set (i := 2) sc_law.nd rfl (Or.inl rfl) (pe_call (ok__law_numbers T) (hr.mono (by decide)) (by rfl) T.g__law_numbers T.F__law_numbers.kp T.b__law_numbers .nil pass0 (pa_cons (pv 1) pa_nil)))
 (pss_cons (ps_asg (pe_call (ok__law_times T) (hr.mono (by decide)) (by rfl) T.g__law_times T.F__law_times.kp T.b__law_times .nil pass0 (pa_cons (pv 2) pa_nil)) (pg_tup (by rfl) (pgs_cons (pg_name (i := 3) sc_law.nd rfl (Or.inl rfl)) (pgs_cons (pg_name (i := 4) sc_law.nd rfl (Or.inl rfl)) pgs_nil))))
 (pss_cons (ps_set (i := 5) sc_law.nd rfl (Or.inl rfl) (pe_make T.mk_Machine (ok_Machine_init T) (hr.mono (by decide)) (by rfl) T.g_Machine T.b_Machine_init .nil pass0 (pa_cons (pe_ix ix_tup (pv 2) pe_int (fun _ _ => rfl)) (pa_cons (pe_ix ix_tup (pv 2) pe_int (fun _ _ => rfl)) (pa_cons (pe_ix ix_tup (pv 2) pe_int (fun _ _ => rfl)) pa_nil)))))
 (pss_cons (ps_for (by exact PassesOwn.never) rfl (pi_range1 (by rfl) T.n_range (pa_cons pe_int pa_nil)) (pg_name (i := 6) sc_law.nd rfl (Or.inl rfl))
 (pss_cons (ps_set (i := 7) sc_law.nd rfl (Or.inl rfl) (pe_op op_add pe_int (pe_call (ok__law_draw T) (hr.mono (by decide)) (by rfl) T.g__law_draw T.F__law_draw.kp T.b__law_draw .nil pass0 (pa_cons (pv 1) (pa_cons (pe_ix ix_list (pe_lst (pa_cons pe_int (pa_cons pe_int (pa_cons pe_int pa_nil)))) (pe_op op_add (pe_op op_mul (pe_callTy call_int1 (by rfl) T.n_int (by decide +kernel) (pa_cons (pe_cmpR op_eq (pv 6) pe_int (nomark _)) pa_nil)) pe_int) (pe_callTy call_int1 (by rfl) T.n_int (by decide +kernel) (pa_cons (pe_cmpR op_eq (pv 6) pe_int (nomark _)) pa_nil))) (fun _ _ => rfl)) pa_nil)))))
 (pss_cons (ps_set (i := 8) sc_law.nd rfl (Or.inl rfl) (pe_call (ok__law_plan T) (hr.mono (by decide)) (by rfl) T.g__law_plan T.F__law_plan.kp T.b__law_plan .nil pass0 (pa_cons (pv 1) (pa_cons (pv 3) (pa_cons (pv 4) (pa_cons (pv 7) (pa_cons (pe_ix ix_list (pe_lst (pa_cons pe_int (pa_cons pe_int (pa_cons pe_int pa_nil)))) (pe_call (ok__law_draw T) (hr.mono (by decide)) (by rfl) T.g__law_draw T.F__law_draw.kp T.b__law_draw .nil pass0 (pa_cons (pv 1) (pa_cons pe_int pa_nil))) (fun _ _ => rfl)) pa_nil)))))))
 (pss_cons (ps_if (PW.pt (pw_or (pt_cmpR op_notNo (pe_call (ok__law_fault T) (hr.mono (by decide)) (by rfl) T.g__law_fault T.F__law_fault.kp T.b__law_fault .nil pass0 (pa_cons (pv 3) (pa_cons (pv 4) (pa_cons (pv 7) (pa_cons (pv 8) pa_nil))))) pe_non (nomark _)) (pw_or1 (pt_cmpR op_notNo (pe_call (ok_fault T) (hr.mono (by decide)) (by rfl) T.g_fault T.F_fault.kp T.b_fault .nil pass0 (pa_cons (pv 5) (pa_cons (pv 7) (pa_cons (pe_callTy cr_list (by rfl) T.n_list (by decide +kernel) (pa_cons (pv 8) pa_nil)) pa_nil)))) pe_non (nomark _))))) (pss_one (ps_ret pe_bl))
 pss_nil)
 (pss_cons (ps_for (by exact PassesOwn.never) rfl (pi_range1 (by rfl) T.n_range (pa_cons (pe_call (ok__law_draw T) (hr.mono (by decide)) (by rfl) T.g__law_draw T.F__law_draw.kp T.b__law_draw .nil pass0 (pa_cons (pv 1) (pa_cons pe_int pa_nil))) pa_nil)) (pg_name (i := 9) sc_law.nd rfl (Or.inl rfl))
 (pss_one (ps_if (pt_cmpR op_gt (pe_callB call_len_seq (by rfl) T.n_len (by decide +kernel) (pa_cons (pv 8) pa_nil)) pe_int (nomark _)) (pss_one (ps_set (i := 8) sc_law.nd rfl (Or.inl rfl) (pe_call (ok__law_spoiled T) (hr.mono (by decide)) (by rfl) T.g__law_spoiled T.F__law_spoiled.kp T.b__law_spoiled .nil pass0 (pa_cons (pv 1) (pa_cons (pv 8) (pa_cons (pv 7) (pa_cons (pv 4) (pa_cons (pv 5) pa_nil))))))))
 pss_nil)))
 (pss_cons (ps_set (i := 10) sc_law.nd rfl (Or.inl rfl) (pe_call (ok__law_fault T) (hr.mono (by decide)) (by rfl) T.g__law_fault T.F__law_fault.kp T.b__law_fault .nil pass0 (pa_cons (pv 3) (pa_cons (pv 4) (pa_cons (pv 7) (pa_cons (pv 8) pa_nil))))))
 (pss_cons (ps_set (i := 11) sc_law.nd rfl (Or.inl rfl) (pe_callTy cr_list (by rfl) T.n_list (by decide +kernel) (pa_cons (pv 8) pa_nil)))
 (pss_cons (ps_if (PW.pt (pw_or (pt_not (pt_val (pe_call (ok__law_same_fault T) (hr.mono (by decide)) (by rfl) T.g__law_same_fault T.F__law_same_fault.kp T.b__law_same_fault .nil pass0 (pa_cons (pe_call (ok_fault T) (hr.mono (by decide)) (by rfl) T.g_fault T.F_fault.kp T.b_fault .nil pass0 (pa_cons (pv 5) (pa_cons (pv 7) (pa_cons (pv 11) pa_nil)))) (pa_cons (pv 10) pa_nil))))) (pw_or1 (pt_cmpR (op_neSame hr.units) (pv 11) (pv 8) (nomark _))))) (pss_one (ps_ret pe_bl))
 pss_nil)
 (pss_one (ps_if (pt_not (pt_val (pe_call (ok__law_same_fault T) (hr.mono (by decide)) (by rfl) T.g__law_same_fault T.F__law_same_fault.kp T.b__law_same_fault .nil pass0 (pa_cons (pe_call (ok_fault T) (hr.mono (by decide)) (by rfl) T.g_fault T.F_fault.kp T.b_fault .nil pass0 (pa_cons (pv 5) (pa_cons (pv 7) (pa_cons (pe_callTy cr_tup (by rfl) T.n_tuple (by decide +kernel) (pa_cons (pv 8) pa_nil)) pa_nil)))) (pa_cons (pv 10) pa_nil))))) (pss_one (ps_ret pe_bl))
 pss_nil))))))))))
 (pss_cons (ps_for (by exact PassesOwn.never) rfl (pi_list (pe_lst (pa_cons pe_non (pa_cons pe_dnewK (pa_cons pe_str (pa_cons pe_int (pa_cons pe_bl (pa_cons (pv 5) (pa_cons (pe_op op_rep (pe_lst (pa_cons (pe_tup (pa_cons pe_int (pa_cons pe_int (pa_cons pe_int pa_nil)))) pa_nil)) pe_int) (pa_cons (pe_op op_repT (pe_tup (pa_cons (pe_tup (pa_cons pe_int (pa_cons pe_int (pa_cons pe_int pa_nil)))) pa_nil)) pe_int) pa_nil)))))))))) (pg_name (i := 12) sc_law.nd rfl (Or.inl rfl))
 (pss_one (ps_if (pt_not (pt_val (pe_call (ok__law_same_fault T) (hr.mono (by decide)) (by rfl) T.g__law_same_fault T.F__law_same_fault.kp T.b__law_same_fault .nil pass0 (pa_cons (pe_call (ok_fault T) (hr.mono (by decide)) (by rfl) T.g_fault T.F_fault.kp T.b_fault .nil pass0 (pa_cons (pv 5) (pa_cons pe_int (pa_cons (pv 12) pa_nil)))) (pa_cons (pe_tup (pa_cons pe_str (pa_cons (pe_un un_neg pe_int) pa_nil))) pa_nil))))) (pss_one (ps_ret pe_bl))
 pss_nil)))
 (pss_one (ps_ret (pe_call (ok__law_same_fault T) (hr.mono (by decide)) (by rfl) T.g__law_same_fault T.F__law_same_fault.kp T.b__law_same_fault .nil pass0 (pa_cons (pe_call (ok_fault T) (hr.mono (by decide)) (by rfl) T.g_fault T.F_fault.kp T.b_fault .nil pass0 (pa_cons (pv 5) (pa_cons pe_int (pa_cons (pe_op op_rep (pe_lst (pa_cons (pe_tup (pa_cons pe_int (pa_cons pe_int (pa_cons pe_int pa_nil)))) pa_nil)) pe_int) pa_nil)))) (pa_cons (pe_tup (pa_cons pe_str (pa_cons pe_int pa_nil))) pa_nil))))))))))), ?_⟩
    repeat walk_at "rd"
    refine ⟨b, ns, rfl, hS, hn, fun p q H1 hs1 np nq s1 => ?_⟩
    repeat walk_at "rd"
    refine ⟨p, q, rfl, hs1, fun t o l g H2 hN nt hs2 b2 => ?_⟩
    have ht := hN.at_
    repeat walk_at "rd"
    refine ⟨t, o, l, g, rfl, ht, fun u H3 nu s3 eu => ?_⟩
    have ht := s3 _ _ ht
    repeat walk_at "rd"
    refine r_Machine ⟨hN.o0, hN.o9⟩ ⟨hN.l0, hN.l9⟩ ⟨hN.g1, hN.g9⟩ hN.pos (fun m H4 nm hm s4 => ?_)
    have hD : 1 ≤ 2 * o + l ∧ 2 * o + l ≤ 3000000000 := by have := hN.pos; have := hN.o9; have := hN.l9; omega
    have hG : 1 ≤ gapOf o g ∧ gapOf o g ≤ 1000000000 := by
      have := hN.g1; have := hN.g9; have := hN.o9
      unfold gapOf; split <;> omega
    have hs4 := (hs2.keep s3).keep s4
    have B : Bq a.c_Machine p q m o l g H4 := ⟨hs4, hm⟩
    clear hs1 b2 ht hN nt s1 hs2 nm s3 s4 eu nu hs4 hm
    obtain ⟨D, hDe⟩ : ∃ D, 2 * o + l = D := ⟨_, rfl⟩
    obtain ⟨G, hGe⟩ : ∃ G, gapOf o g = G := ⟨_, rfl⟩
    have hG0 : 0 ≤ gapOf o g ∧ gapOf o g < 2 ^ 64 := by omega
    rw [hDe] at hD
    rw [hGe] at hG
    have hgf : ∀ n wh, faultW (2 * o + l) (gapOf o g) n wh = faultW D G n wh := fun n wh => by rw [hDe, hGe]
    repeat walk_at "rd"
    rw [hDe, hGe]
    refine ⟨by decide, by decide, for_range (lo := 0) (n := 5) (fun i σ H' => ∃ v6 v7 v8 v9 v10 v11 v12 : Option V, σ = [some (.ref b), some (.ref p), some (.ref t), some (.int D), some (.int G), some (.ref m), v6, v7, v8, v9, v10, v11, v12] ∧ Bq a.c_Machine p q m o l g H') ⟨_, _, _, _, _, _, _, rfl, B⟩ ?_ ?_⟩
    · clear B
      rintro i σ H6 hi ⟨v6, v7, v8, v9, v10, v11, v12, rfl, B⟩
      repeat walk_at "rd"
      refine new_at (Nat.le_of_ble_eq_true rfl) (fun z1 H7 n1 s7 e7 => ?_)
      have B := B.keep s7
      repeat first | walk_at "rd" | refine Or.inr ⟨_, rfl, ?_⟩
      obtain ⟨lim, hlim, l0, l9⟩ : ∃ lim : Int, atI [V.int 4, .int 9, .int 100] ((if decide (0 + (i : Int) = 4) = true then 1 else 0) * 2 + (if decide (0 + (i : Int) = 2) = true then 1 else 0)) = some (.int lim) ∧ 1 ≤ lim ∧ lim ≤ 100 := by
        match i, hi with
        | 0, _ => exact ⟨4, rfl, by decide, by decide⟩
        | 1, _ => exact ⟨4, rfl, by decide, by decide⟩
        | 2, _ => exact ⟨9, rfl, by decide, by decide⟩
        | 3, _ => exact ⟨4, rfl, by decide, by decide⟩
        | 4, _ => exact ⟨100, rfl, by decide, by decide⟩
        | i + 5, h => exact absurd h (by omega)
      refine r_ixL e7 hlim ?_
      repeat walk_at "rd"
      refine ⟨p, q, lim, rfl, B.hs, by omega, by omega, fun n0 H8 n00 n09 hs8 b8 => ?_⟩
      have B := B.but hs8 b8
      clear hs8 b8 e7 s7 n1
      obtain ⟨n, hne⟩ : ∃ n, 1 + n0 = n := ⟨_, rfl⟩
      have hn : 1 ≤ n ∧ n ≤ 100 := by omega
      repeat walk_at "rd"
      rw [hne]
      refine new_at (Nat.le_of_ble_eq_true rfl) (fun z2 H9 n2 s9 e9 => ?_)
      have z2p := B.hs.ne n2
      have B := B.keep s9
      repeat walk_at "rd"
      refine ⟨p, q, 3, rfl, B.hs, by decide, by decide, fun kd H10 k0 k3 hs10 b10 => ?_⟩
      have e9 := b10 _ _ e9 z2p
      have B := B.but hs10 b10
      obtain ⟨most, hmost, m0, m9⟩ : ∃ most : Int, atI [V.int 2, .int 100, .int 100] kd = some (.int most) ∧ 1 ≤ most ∧ most ≤ 1000 := by
        have : kd = 0 ∨ kd = 1 ∨ kd = 2 := by omega
        rcases this with rfl | rfl | rfl
        · exact ⟨_, rfl, by decide, by decide⟩
        · exact ⟨_, rfl, by decide, by decide⟩
        · exact ⟨_, rfl, by decide, by decide⟩
      refine r_ixL e9 hmost ?_
      clear hs10 b10 e9 s9 n2
      repeat walk_at "rd"
      refine ⟨p, q, D, G, n, most, rfl, B.hs, hD, hG, hn, ⟨m0, m9⟩, fun R xs rs H11 hs11 b11 eR hA nRp nRq nR hR => ?_⟩
      have B := B.but hs11 b11
      clear hs11 b11
      have hrl : rs.length ≤ 99 := by have := hR.len; omega
      have hnone : faultW D G n (some (rs.map some)) = none := by
        rw [faultW_rows (by omega)]
        exact hR.ok hD hG (by omega)
      have hnone2 : lawO D G n (rs.map some) = none := by
        rw [lawO_is (by rw [List.length_map]; omega) hn.1 (by omega)]
        exact hnone
      have hA := TrisAt.rows (M := a.c_Machine) (av := [p, R]) hA
      repeat first | walk_at "rd" | walk_at "rdi"
      refine ⟨[p, R], R, D, G, n, xs, rs.map some, rfl, eR, hA, by rw [List.length_map]; omega, hn.1, by omega, fun v H12 s12 hv => ?_⟩
      rw [hnone2] at hv
      obtain rfl : v = .non := hv
      have B := B.keep s12
      have eR := s12 _ _ eR
      have hA := hA.keep s12
      repeat first | walk_at "rd" | walk_at "rdi"
      refine r_listL eR (fun A1 H13 nA s13 eA => ?_)
      have B := B.keep s13
      have eR := s13 _ _ eR
      have hA := hA.keep s13
      repeat first | walk_at "rd" | walk_at "rdi"
      refine ⟨m, [p, R], .ref A1, o, l, g, n, some (rs.map some), rfl, B.hm, hG0.1, hG0.2, hn, ⟨A1, xs, rfl, .inl eA, hA⟩, fun v H14 s14 hv => ?_⟩
      rw [hgf, hnone] at hv
      obtain rfl : v = .non := hv
      have B := B.keep s14
      have eR := s14 _ _ eR
      have hA := hA.keep s14
      clear s12 s13 s14 nA eA nR
      repeat first | walk_at "rd" | walk_at "rdi"
      refine ⟨p, q, 4, rfl, B.hs, by decide, by decide, fun e H15 e0 e4 hs15 b15 => ?_⟩
      have B0 := B
      have B := B.but hs15 b15
      have eR := b15 _ _ eR nRp
      have hA := hA.imp fun x o r => r.but (by simp) B0.hs b15
      clear hs15 b15 B0
      repeat first | walk_at "rd" | walk_at "rdi"
      refine ⟨by omega, by omega, for_range (lo := 0) (n := e.toNat) (fun j σ H' => ∃ (L : Addr) (ys : List V) (ss : List (Option L3)) (v9 v10 v11 v12 : Option V), σ = [some (.ref b), some (.ref p), some (.ref t), some (.int D), some (.int G), some (.ref m), some (.int (0 + (i : Nat))), some (.int n), some (.ref L), v9, v10, v11, v12] ∧ Bq a.c_Machine p q m o l g H' ∧ H' L = some (.lst ys) ∧ RowsK a.c_Machine [p, L] H' ys ss ∧ L ≠ p ∧ L ≠ q ∧ ss.length ≤ 99 + j) ⟨R, xs, rs.map some, _, _, _, _, rfl, B, eR, hA, nRp, nRq, by rw [List.length_map]; omega⟩ ?_ ?_⟩
      · clear B eR hA
        rintro j σ H16 hj ⟨L, ys, ss, v9, v10, v11, v12, rfl, B, eL, hA, nLp, nLq, hl⟩
        have hyl := hA.1
        repeat first | walk_at "rd" | walk_at "rdi"
        refine ite_d (fun hc => ?_) (fun hc => ?_)
        · repeat first | walk_at "rd" | walk_at "rdi"
          refine ⟨p, q, L, m, n, G, o, l, g, ys, ss, rfl, B.hs, nLp, nLq, eL, hA, by omega, by omega, B.hm, hn, hG, fun L2_ ys2 ss2 H17 hs17 kp17 eL2 hA2 nLp2 nLq2 hl2 => ?_⟩
          have B := B.kp hs17 kp17 (B.mL eL)
          have fin := fun x : Option V => (⟨L2_, ys2, ss2, x, v10, v11, v12, rfl, B, eL2, hA2, nLp2, nLq2, by omega⟩ : ∃ (L : Addr) (zs : List V) (us : List (Option L3)) (w9 w10 w11 w12 : Option V), [some (V.ref b), some (.ref p), some (.ref t), some (.int D), some (.int G), some (.ref m), some (.int (0 + (i : Nat))), some (.int n), some (.ref L2_), x, v10, v11, v12] = [some (.ref b), some (.ref p), some (.ref t), some (.int D), some (.int G), some (.ref m), some (.int (0 + (i : Nat))), some (.int n), some (.ref L), w9, w10, w11, w12] ∧ Bq a.c_Machine p q m o l g H17 ∧ H17 L = some (.lst zs) ∧ RowsK a.c_Machine [p, L] H17 zs us ∧ L ≠ p ∧ L ≠ q ∧ us.length ≤ 99 + (j + 1))
          repeat first | exact fin _ | walk_at "rd" | walk_at "rdi"
        · repeat first | exact ⟨L, ys, ss, _, _, _, _, rfl, B, eL, hA, nLp, nLq, by omega⟩ | walk_at "rd" | walk_at "rdi"
      · clear B eR hA
        rintro σ H16 ⟨L, ys, ss, v9, v10, v11, v12, rfl, B, eL, hA, nLp, nLq, hl⟩
        have hsl : ss.length ≤ 102 := by omega
        repeat first | walk_at "rd" | walk_at "rdi"
        refine ⟨[p, L], L, D, G, n, ys, ss, rfl, eL, hA, by omega, hn.1, by omega, fun due H17 s17 hdue => ?_⟩
        rw [lawO_is (by omega) hn.1 (by omega)] at hdue
        have B := B.keep s17
        have eL := s17 _ _ eL
        have hA := hA.keep s17
        repeat first | walk_at "rd" | walk_at "rdi"
        refine r_listL eL (fun A1 H18 nA s18 eA => ?_)
        have B := B.keep s18
        have eL := s18 _ _ eL
        have hA := hA.keep s18
        have hdue := hdue.keep s18
        repeat first | walk_at "rd" | walk_at "rdi"
        refine ⟨m, [p, L], .ref A1, o, l, g, n, some ss, rfl, B.hm, hG0.1, hG0.2, hn, ⟨A1, ys, rfl, .inl eA, hA⟩, fun v H19 s19 hv => ?_⟩
        rw [hgf] at hv
        have B := B.keep s19
        have eL := s19 _ _ eL
        have hA := hA.keep s19
        have eA := s19 _ _ eA
        have hdue := hdue.keep s19
        repeat first | walk_at "rd" | walk_at "rdi"
        refine ⟨v, due, _, rfl, hv, hdue, ?_⟩
        repeat first | walk_at "rd" | walk_at "rdi"
        refine ⟨A1, L, ys, rfl, rfl, SqL.of eA, SqL.of eL, hA.flat, ?_⟩
        repeat first | walk_at "rd" | walk_at "rdi"
        refine r_tupS (SqL.of eL) (fun A2 H20 nA2 s20 eA2 => ?_)
        have B := B.keep s20
        have hA := hA.keep s20
        have hdue := hdue.keep s20
        repeat first | walk_at "rd" | walk_at "rdi"
        refine ⟨m, [p, L], .ref A2, o, l, g, n, some ss, rfl, B.hm, hG0.1, hG0.2, hn, ⟨A2, ys, rfl, .inr eA2, hA⟩, fun v2 H21 s21 hv2 => ?_⟩
        rw [hgf] at hv2
        have B := B.keep s21
        have hdue := hdue.keep s21
        repeat first | walk_at "rd" | walk_at "rdi"
        refine ⟨v2, due, _, rfl, hv2, hdue, ?_⟩
        repeat first | exact ⟨_, _, _, _, _, _, _, rfl, B⟩ | walk_at "rd" | walk_at "rdi"
    · clear B
      rintro σ H6 ⟨v6, v7, v8, v9, v10, v11, v12, rfl, B⟩
      repeat first | walk_at "rd" | walk_at "rdi"
      refine r_dnew (fun d H7 nd s7 ed => ?_)
      repeat first | walk_at "rd" | walk_at "rdi"
      refine new_at (Nat.le_of_ble_eq_true rfl) (fun t1 H8 n8 s8 e8 => ?_)
      repeat first | walk_at "rd" | walk_at "rdi"
      refine new_at (Nat.le_of_ble_eq_true rfl) (fun l1 H9 n9 s9 e9 => ?_)
      repeat first | walk_at "rd" | walk_at "rdi"
      refine r_rep e9 (by decide) (by decide) (Nat.le_of_ble_eq_true rfl) (fun l2 H10 n10 s10 e10 => ?_)
      repeat first | walk_at "rd" | walk_at "rdi"
      refine new_at (Nat.le_of_ble_eq_true rfl) (fun t2 H11 n11 s11 e11 => ?_)
      repeat first | walk_at "rd" | walk_at "rdi"
      refine new_at (Nat.le_of_ble_eq_true rfl) (fun l3 H12 n12 s12 e12 => ?_)
      repeat first | walk_at "rd" | walk_at "rdi"
      refine r_repT (SqT.of e12) (by simp) (by decide) (by decide) (Nat.le_of_ble_eq_true rfl) (fun l4 H13 n13 s13 e13 => ?_)
      repeat first | walk_at "rd" | walk_at "rdi"
      refine new_at (Nat.le_of_ble_eq_true rfl) (fun W H14 n14 s14 e14 => ?_)
      have B := (((((((B.keep s7).keep s8).keep s9).keep s10).keep s11).keep s12).keep s13).keep s14
      have e8 : H14 t1 = some (.tup [.int 0, .int 1, .int 0]) := s14 _ _ (s13 _ _ (s12 _ _ (s11 _ _ (s10 _ _ (s9 _ _ e8)))))
      have e10 := s14 _ _ (s13 _ _ (s12 _ _ (s11 _ _ e10)))
      have e11 : H14 t2 = some (.tup [.int 0, .int 1, .int 0]) := s14 _ _ (s13 _ _ (s12 _ _ e11))
      have e13 := s14 _ _ e13
      have ed := s14 _ _ (s13 _ _ (s12 _ _ (s11 _ _ (s10 _ _ (s9 _ _ (s8 _ _ ed))))))
      have hbad : ∀ x, x ∈ [V.non, .ref d, .str "rows", .int 5, .bl true, .ref m, .ref l2, .ref l4] → Bad a.c_Machine H14 x := fun x hx => by
        have hx : x = .non ∨ x = .ref d ∨ x = .str "rows" ∨ x = .int 5 ∨ x = .bl true ∨ x = .ref m ∨ x = .ref l2 ∨ x = .ref l4 := by simpa using hx
        rcases hx with rfl | rfl | rfl | rfl | rfl | rfl | rfl | rfl
        · exact Bad.prim rfl
        · exact ⟨none, .inr ⟨d, rfl, .inl ed⟩, rfl⟩
        · exact Bad.prim rfl
        · exact Bad.prim rfl
        · exact Bad.prim rfl
        · obtain ⟨dx, em⟩ := B.hm
          exact ⟨none, .inr ⟨m, rfl, .inr ⟨dx, _, em⟩⟩, rfl⟩
        · exact bad_many (.inl e10) (rows_rep e8)
        · exact bad_many (.inr e13) (rows_rep e11)
      clear ed e8 e9 e10 e11 e12 e13 s7 s8 s9 s10 s11 s12 s13 s14 nd n8 n9 n10 n11 n12 n13 n14
      repeat first | walk_at "rd" | walk_at "rdi"
      refine ⟨W, rfl, ⟨_, SqL.of e14⟩, for_list (K := K) (a := W) (xs := [V.non, .ref d, .str "rows", .int 5, .bl true, .ref m, .ref l2, .ref l4]) (fun i σ H' => ∃ v12 : Option V, σ = [some (.ref b), some (.ref p), some (.ref t), some (.int D), some (.int G), some (.ref m), v6, v7, v8, v9, v10, v11, v12] ∧ Same H14 H') ⟨_, rfl, Same.refl _⟩ (fun i σ H' _ ⟨_, _, s⟩ => SqL.of (s _ _ e14)) ?_ ?_⟩
      · rintro i x σ H15 hx ⟨v12, rfl, s15⟩
        obtain ⟨wh, hw, hf⟩ := (hbad x (List.mem_iff_getElem?.mpr ⟨i, hx⟩)).keep s15
        have B := B.keep s15
        repeat first | walk_at "rd" | walk_at "rdi"
        refine ⟨m, [], x, o, l, g, 3, wh, rfl, B.hm, hG0.1, hG0.2, by decide, hw, fun v H16 s16 hv => ?_⟩
        rw [hgf, faultW_bad hf] at hv
        repeat first | walk_at "rd" | walk_at "rdi"
        refine new_at (Nat.le_of_ble_eq_true rfl) (fun T1 H17 n17 s17 e17 => ?_)
        repeat first | walk_at "rd" | walk_at "rdi"
        refine ⟨v, .ref T1, some (("form" : Str), (-1 : Int)), rfl, hv.keep s17, ⟨T1, rfl, e17⟩, ?_⟩
        repeat first | exact ⟨_, rfl, (s15.trans s16).trans s17⟩ | walk_at "rd" | walk_at "rdi"
      · rintro σ H15 ⟨v12, rfl, s15⟩
        have B := B.keep s15
        repeat first | walk_at "rd" | walk_at "rdi"
        refine new_at (Nat.le_of_ble_eq_true rfl) (fun t3 H16 n16 s16 e16 => ?_)
        repeat first | walk_at "rd" | walk_at "rdi"
        refine new_at (Nat.le_of_ble_eq_true rfl) (fun l5 H17 n17 s17 e17 => ?_)
        repeat first | walk_at "rd" | walk_at "rdi"
        refine r_rep e17 (by decide) (by decide) (Nat.le_of_ble_eq_true rfl) (fun l6 H18 n18 s18 e18 => ?_)
        have B := ((B.keep s16).keep s17).keep s18
        have e16 : H18 t3 = some (.tup [.int 0, .int 1, .int 0]) := s18 _ _ (s17 _ _ e16)
        repeat first | walk_at "rd" | walk_at "rdi"
        refine ⟨m, [], .ref l6, o, l, g, 3, some (manyO 400), rfl, B.hm, hG0.1, hG0.2, by decide, ⟨l6, _, rfl, .inl e18, rows_rep e16⟩, fun v H19 s19 hv => ?_⟩
        rw [hgf, fault_many (by omega)] at hv
        repeat first | walk_at "rd" | walk_at "rdi"
        refine new_at (Nat.le_of_ble_eq_true rfl) (fun T1 H20 n20 s20 e20 => ?_)
        repeat first | walk_at "rd" | walk_at "rdi"
        exact ⟨v, .ref T1, some (("again" : Str), (1 : Int)), rfl, hv.keep s20, ⟨T1, rfl, e20⟩, k _⟩
end

theorem all_mk {P : Program} {w : World} {K : PySem.W.Frag} {h : Heap} {mg : Str → Option Value} {fa : Addr} (X : K.In h) (G : h.Ns mainGlobals mg) (hfa : mg "law" = some (.ref fa))
    {c_Machine : Addr} {oc_is_integer : Value} {od_is_integer : Option Addr} {an_is_integer : Option Addr} {sl_is_integer : Array (Option Value)} {kV_is_integer : Value} {dc_is_integer : Value} {pm_is_integer : Value} {cd_is_integer : Value} {ct_is_integer : Value} {f_is_integer : Addr} {oc_is_between : Value} {od_is_between : Option Addr} {an_is_between : Option Addr} {sl_is_between : Array (Option Value)} {kV_is_between : Value} {dc_is_between : Value} {pm_is_between : Value} {cd_is_between : Value} {ct_is_between : Value} {f_is_between : Addr} {oc_check_count : Value} {od_check_count : Option Addr} {an_check_count : Option Addr} {sl_check_count : Array (Option Value)} {kV_check_count : Value} {dc_check_count : Value} {pm_check_count : Value} {cd_check_count : Value} {ct_check_count : Value} {f_check_count : Addr} {oc_is_row : Value} {od_is_row : Option Addr} {an_is_row : Option Addr} {sl_is_row : Array (Option Value)} {kV_is_row : Value} {dc_is_row : Value} {pm_is_row : Value} {cd_is_row : Value} {ct_is_row : Value} {f_is_row : Addr} {oc_form_fault : Value} {od_form_fault : Option Addr} {an_form_fault : Option Addr} {sl_form_fault : Array (Option Value)} {kV_form_fault : Value} {dc_form_fault : Value} {pm_form_fault : Value} {cd_form_fault : Value} {ct_form_fault : Value} {f_form_fault : Addr} {oc_hand_fault : Value} {od_hand_fault : Option Addr} {an_hand_fault : Option Addr} {sl_hand_fault : Array (Option Value)} {kV_hand_fault : Value} {dc_hand_fault : Value} {pm_hand_fault : Value} {cd_hand_fault : Value} {ct_hand_fault : Value} {f_hand_fault : Addr} {oc_again_fault : Value} {od_again_fault : Option Addr} {an_again_fault : Option Addr} {sl_again_fault : Array (Option Value)} {kV_again_fault : Value} {dc_again_fault : Value} {pm_again_fault : Value} {cd_again_fault : Value} {ct_again_fault : Value} {f_again_fault : Addr} {oc_nobody_fault : Value} {od_nobody_fault : Option Addr} {an_nobody_fault : Option Addr} {sl_nobody_fault : Array (Option Value)} {kV_nobody_fault : Value} {dc_nobody_fault : Value} {pm_nobody_fault : Value} {cd_nobody_fault : Value} {ct_nobody_fault : Value} {f_nobody_fault : Addr} {oc_early_fault : Value} {od_early_fault : Option Addr} {an_early_fault : Option Addr} {sl_early_fault : Array (Option Value)} {kV_early_fault : Value} {dc_early_fault : Value} {pm_early_fault : Value} {cd_early_fault : Value} {ct_early_fault : Value} {f_early_fault : Addr} {oc_telling_fault : Value} {od_telling_fault : Option Addr} {an_telling_fault : Option Addr} {sl_telling_fault : Array (Option Value)} {kV_telling_fault : Value} {dc_telling_fault : Value} {pm_telling_fault : Value} {cd_telling_fault : Value} {ct_telling_fault : Value} {f_telling_fault : Addr} {oc_is_near : Value} {od_is_near : Option Addr} {an_is_near : Option Addr} {sl_is_near : Array (Option Value)} {kV_is_near : Value} {dc_is_near : Value} {pm_is_near : Value} {cd_is_near : Value} {ct_is_near : Value} {f_is_near : Addr} {oc_near_fault : Value} {od_near_fault : Option Addr} {an_near_fault : Option Addr} {sl_near_fault : Array (Option Value)} {kV_near_fault : Value} {dc_near_fault : Value} {pm_near_fault : Value} {cd_near_fault : Value} {ct_near_fault : Value} {f_near_fault : Addr} {oc_row_fault : Value} {od_row_fault : Option Addr} {an_row_fault : Option Addr} {sl_row_fault : Array (Option Value)} {kV_row_fault : Value} {dc_row_fault : Value} {pm_row_fault : Value} {cd_row_fault : Value} {ct_row_fault : Value} {f_row_fault : Addr} {oc_fault : Value} {od_fault : Option Addr} {an_fault : Option Addr} {sl_fault : Array (Option Value)} {kV_fault : Value} {dc_fault : Value} {pm_fault : Value} {cd_fault : Value} {ct_fault : Value} {f_fault : Addr} {oc_Machine_init : Value} {od_Machine_init : Option Addr} {an_Machine_init : Option Addr} {sl_Machine_init : Array (Option Value)} {kV_Machine_init : Value} {dc_Machine_init : Value} {pm_Machine_init : Value} {cd_Machine_init : Value} {ct_Machine_init : Value} {f_Machine_init : Addr} {oc__law_source : Value} {od__law_source : Option Addr} {an__law_source : Option Addr} {sl__law_source : Array (Option Value)} {kV__law_source : Value} {dc__law_source : Value} {pm__law_source : Value} {cd__law_source : Value} {ct__law_source : Value} {f__law_source : Addr} {oc__law_draw : Value} {od__law_draw : Option Addr} {an__law_draw : Option Addr} {sl__law_draw : Array (Option Value)} {kV__law_draw : Value} {dc__law_draw : Value} {pm__law_draw : Value} {cd__law_draw : Value} {ct__law_draw : Value} {f__law_draw : Addr} {oc__law_big : Value} {od__law_big : Option Addr} {an__law_big : Option Addr} {sl__law_big : Array (Option Value)} {kV__law_big : Value} {dc__law_big : Value} {pm__law_big : Value} {cd__law_big : Value} {ct__law_big : Value} {f__law_big : Addr} {oc__law_numbers : Value} {od__law_numbers : Option Addr} {an__law_numbers : Option Addr} {sl__law_numbers : Array (Option Value)} {kV__law_numbers : Value} {dc__law_numbers : Value} {pm__law_numbers : Value} {cd__law_numbers : Value} {ct__law_numbers : Value} {f__law_numbers : Addr} {oc__law_times : Value} {od__law_times : Option Addr} {an__law_times : Option Addr} {sl__law_times : Array (Option Value)} {kV__law_times : Value} {dc__law_times : Value} {pm__law_times : Value} {cd__law_times : Value} {ct__law_times : Value} {f__law_times : Addr} {oc__law_is : Value} {od__law_is : Option Addr} {an__law_is : Option Addr} {sl__law_is : Array (Option Value)} {kV__law_is : Value} {dc__law_is : Value} {pm__law_is : Value} {cd__law_is : Value} {ct__law_is : Value} {f__law_is : Addr} {oc__law_plan : Value} {od__law_plan : Option Addr} {an__law_plan : Option Addr} {sl__law_plan : Array (Option Value)} {kV__law_plan : Value} {dc__law_plan : Value} {pm__law_plan : Value} {cd__law_plan : Value} {ct__law_plan : Value} {f__law_plan : Addr} {oc__law_row : Value} {od__law_row : Option Addr} {an__law_row : Option Addr} {sl__law_row : Array (Option Value)} {kV__law_row : Value} {dc__law_row : Value} {pm__law_row : Value} {cd__law_row : Value} {ct__law_row : Value} {f__law_row : Addr} {oc__law_fault : Value} {od__law_fault : Option Addr} {an__law_fault : Option Addr} {sl__law_fault : Array (Option Value)} {kV__law_fault : Value} {dc__law_fault : Value} {pm__law_fault : Value} {cd__law_fault : Value} {ct__law_fault : Value} {f__law_fault : Addr} {oc__law_same_fault : Value} {od__law_same_fault : Option Addr} {an__law_same_fault : Option Addr} {sl__law_same_fault : Array (Option Value)} {kV__law_same_fault : Value} {dc__law_same_fault : Value} {pm__law_same_fault : Value} {cd__law_same_fault : Value} {ct__law_same_fault : Value} {f__law_same_fault : Addr} {oc__law_wrong : Value} {od__law_wrong : Option Addr} {an__law_wrong : Option Addr} {sl__law_wrong : Array (Option Value)} {kV__law_wrong : Value} {dc__law_wrong : Value} {pm__law_wrong : Value} {cd__law_wrong : Value} {ct__law_wrong : Value} {f__law_wrong : Addr} {oc__law_spoiled : Value} {od__law_spoiled : Option Addr} {an__law_spoiled : Option Addr} {sl__law_spoiled : Array (Option Value)} {kV__law_spoiled : Value} {dc__law_spoiled : Value} {pm__law_spoiled : Value} {cd__law_spoiled : Value} {ct__law_spoiled : Value} {f__law_spoiled : Addr} {oc_law : Value} {od_law : Option Addr} {an_law : Option Addr} {sl_law : Array (Option Value)} {kV_law : Value} {dc_law : Value} {pm_law : Value} {cd_law : Value} {ct_law : Value} {f_law : Addr} {t_MOST_PLANNED : Tok} {t_MOST_ROWS : Tok} {t_LATEST_START : Tok} {t_GREATEST_PART : Tok}
    (H_g_Machine : PySem.W.nsIn K mainGlobals "Machine" = some (some (.ref c_Machine)))
    (H_a_is_integer : PySem.W.nsIn K mainGlobals "is_integer" = some (some (.ref f_is_integer)))
    (H_l_is_integer : K.lookup f_is_integer = some ⟨oc_is_integer, od_is_integer, .func (PySem.W.fnOf "is_integer" "is_integer" (defArgs s_is_integer) (defBody s_is_integer) (defScope s_is_integer) .none kV_is_integer dc_is_integer pm_is_integer an_is_integer cd_is_integer ct_is_integer), sl_is_integer⟩)
    (H_c_is_integer : PySem.W.codeIn K cd_is_integer "is_integer" = true)
    (H_k_is_integer : PySem.W.keepIn K (.ref f_is_integer) = true)
    (H_a_is_between : PySem.W.nsIn K mainGlobals "is_between" = some (some (.ref f_is_between)))
    (H_l_is_between : K.lookup f_is_between = some ⟨oc_is_between, od_is_between, .func (PySem.W.fnOf "is_between" "is_between" (defArgs s_is_between) (defBody s_is_between) (defScope s_is_between) .none kV_is_between dc_is_between pm_is_between an_is_between cd_is_between ct_is_between), sl_is_between⟩)
    (H_c_is_between : PySem.W.codeIn K cd_is_between "is_between" = true)
    (H_k_is_between : PySem.W.keepIn K (.ref f_is_between) = true)
    (H_a_check_count : PySem.W.nsIn K mainGlobals "check_count" = some (some (.ref f_check_count)))
    (H_l_check_count : K.lookup f_check_count = some ⟨oc_check_count, od_check_count, .func (PySem.W.fnOf "check_count" "check_count" (defArgs s_check_count) (defBody s_check_count) (defScope s_check_count) .none kV_check_count dc_check_count pm_check_count an_check_count cd_check_count ct_check_count), sl_check_count⟩)
    (H_c_check_count : PySem.W.codeIn K cd_check_count "check_count" = true)
    (H_k_check_count : PySem.W.keepIn K (.ref f_check_count) = true)
    (H_a_is_row : PySem.W.nsIn K mainGlobals "is_row" = some (some (.ref f_is_row)))
    (H_l_is_row : K.lookup f_is_row = some ⟨oc_is_row, od_is_row, .func (PySem.W.fnOf "is_row" "is_row" (defArgs s_is_row) (defBody s_is_row) (defScope s_is_row) .none kV_is_row dc_is_row pm_is_row an_is_row cd_is_row ct_is_row), sl_is_row⟩)
    (H_c_is_row : PySem.W.codeIn K cd_is_row "is_row" = true)
    (H_k_is_row : PySem.W.keepIn K (.ref f_is_row) = true)
    (H_a_form_fault : PySem.W.nsIn K mainGlobals "form_fault" = some (some (.ref f_form_fault)))
    (H_l_form_fault : K.lookup f_form_fault = some ⟨oc_form_fault, od_form_fault, .func (PySem.W.fnOf "form_fault" "form_fault" (defArgs s_form_fault) (defBody s_form_fault) (defScope s_form_fault) .none kV_form_fault dc_form_fault pm_form_fault an_form_fault cd_form_fault ct_form_fault), sl_form_fault⟩)
    (H_c_form_fault : PySem.W.codeIn K cd_form_fault "form_fault" = true)
    (H_k_form_fault : PySem.W.keepIn K (.ref f_form_fault) = true)
    (H_a_hand_fault : PySem.W.nsIn K mainGlobals "hand_fault" = some (some (.ref f_hand_fault)))
    (H_l_hand_fault : K.lookup f_hand_fault = some ⟨oc_hand_fault, od_hand_fault, .func (PySem.W.fnOf "hand_fault" "hand_fault" (defArgs s_hand_fault) (defBody s_hand_fault) (defScope s_hand_fault) .none kV_hand_fault dc_hand_fault pm_hand_fault an_hand_fault cd_hand_fault ct_hand_fault), sl_hand_fault⟩)
    (H_c_hand_fault : PySem.W.codeIn K cd_hand_fault "hand_fault" = true)
    (H_k_hand_fault : PySem.W.keepIn K (.ref f_hand_fault) = true)
    (H_a_again_fault : PySem.W.nsIn K mainGlobals "again_fault" = some (some (.ref f_again_fault)))
    (H_l_again_fault : K.lookup f_again_fault = some ⟨oc_again_fault, od_again_fault, .func (PySem.W.fnOf "again_fault" "again_fault" (defArgs s_again_fault) (defBody s_again_fault) (defScope s_again_fault) .none kV_again_fault dc_again_fault pm_again_fault an_again_fault cd_again_fault ct_again_fault), sl_again_fault⟩)
    (H_c_again_fault : PySem.W.codeIn K cd_again_fault "again_fault" = true)
    (H_k_again_fault : PySem.W.keepIn K (.ref f_again_fault) = true)
    (H_a_nobody_fault : PySem.W.nsIn K mainGlobals "nobody_fault" = some (some (.ref f_nobody_fault)))
    (H_l_nobody_fault : K.lookup f_nobody_fault = some ⟨oc_nobody_fault, od_nobody_fault, .func (PySem.W.fnOf "nobody_fault" "nobody_fault" (defArgs s_nobody_fault) (defBody s_nobody_fault) (defScope s_nobody_fault) .none kV_nobody_fault dc_nobody_fault pm_nobody_fault an_nobody_fault cd_nobody_fault ct_nobody_fault), sl_nobody_fault⟩)
    (H_c_nobody_fault : PySem.W.codeIn K cd_nobody_fault "nobody_fault" = true)
    (H_k_nobody_fault : PySem.W.keepIn K (.ref f_nobody_fault) = true)
    (H_a_early_fault : PySem.W.nsIn K mainGlobals "early_fault" = some (some (.ref f_early_fault)))
    (H_l_early_fault : K.lookup f_early_fault = some ⟨oc_early_fault, od_early_fault, .func (PySem.W.fnOf "early_fault" "early_fault" (defArgs s_early_fault) (defBody s_early_fault) (defScope s_early_fault) .none kV_early_fault dc_early_fault pm_early_fault an_early_fault cd_early_fault ct_early_fault), sl_early_fault⟩)
    (H_c_early_fault : PySem.W.codeIn K cd_early_fault "early_fault" = true)
    (H_k_early_fault : PySem.W.keepIn K (.ref f_early_fault) = true)
    (H_a_telling_fault : PySem.W.nsIn K mainGlobals "telling_fault" = some (some (.ref f_telling_fault)))
    (H_l_telling_fault : K.lookup f_telling_fault = some ⟨oc_telling_fault, od_telling_fault, .func (PySem.W.fnOf "telling_fault" "telling_fault" (defArgs s_telling_fault) (defBody s_telling_fault) (defScope s_telling_fault) .none kV_telling_fault dc_telling_fault pm_telling_fault an_telling_fault cd_telling_fault ct_telling_fault), sl_telling_fault⟩)
    (H_c_telling_fault : PySem.W.codeIn K cd_telling_fault "telling_fault" = true)
    (H_k_telling_fault : PySem.W.keepIn K (.ref f_telling_fault) = true)
    (H_a_is_near : PySem.W.nsIn K mainGlobals "is_near" = some (some (.ref f_is_near)))
    (H_l_is_near : K.lookup f_is_near = some ⟨oc_is_near, od_is_near, .func (PySem.W.fnOf "is_near" "is_near" (defArgs s_is_near) (defBody s_is_near) (defScope s_is_near) .none kV_is_near dc_is_near pm_is_near an_is_near cd_is_near ct_is_near), sl_is_near⟩)
    (H_c_is_near : PySem.W.codeIn K cd_is_near "is_near" = true)
    (H_k_is_near : PySem.W.keepIn K (.ref f_is_near) = true)
    (H_a_near_fault : PySem.W.nsIn K mainGlobals "near_fault" = some (some (.ref f_near_fault)))
    (H_l_near_fault : K.lookup f_near_fault = some ⟨oc_near_fault, od_near_fault, .func (PySem.W.fnOf "near_fault" "near_fault" (defArgs s_near_fault) (defBody s_near_fault) (defScope s_near_fault) .none kV_near_fault dc_near_fault pm_near_fault an_near_fault cd_near_fault ct_near_fault), sl_near_fault⟩)
    (H_c_near_fault : PySem.W.codeIn K cd_near_fault "near_fault" = true)
    (H_k_near_fault : PySem.W.keepIn K (.ref f_near_fault) = true)
    (H_a_row_fault : PySem.W.nsIn K mainGlobals "row_fault" = some (some (.ref f_row_fault)))
    (H_l_row_fault : K.lookup f_row_fault = some ⟨oc_row_fault, od_row_fault, .func (PySem.W.fnOf "row_fault" "row_fault" (defArgs s_row_fault) (defBody s_row_fault) (defScope s_row_fault) .none kV_row_fault dc_row_fault pm_row_fault an_row_fault cd_row_fault ct_row_fault), sl_row_fault⟩)
    (H_c_row_fault : PySem.W.codeIn K cd_row_fault "row_fault" = true)
    (H_k_row_fault : PySem.W.keepIn K (.ref f_row_fault) = true)
    (H_a_fault : PySem.W.nsIn K mainGlobals "fault" = some (some (.ref f_fault)))
    (H_l_fault : K.lookup f_fault = some ⟨oc_fault, od_fault, .func (PySem.W.fnOf "fault" "fault" (defArgs s_fault) (defBody s_fault) (defScope s_fault) .none kV_fault dc_fault pm_fault an_fault cd_fault ct_fault), sl_fault⟩)
    (H_c_fault : PySem.W.codeIn K cd_fault "fault" = true)
    (H_k_fault : PySem.W.keepIn K (.ref f_fault) = true)
    (H_a_Machine_init : PySem.W.findIn K (.ref c_Machine) "__init__" = some (some (.ref f_Machine_init)))
    (H_i_Machine_init : PySem.W.isFn K (.ref f_Machine_init) = true)
    (H_l_Machine_init : K.lookup f_Machine_init = some ⟨oc_Machine_init, od_Machine_init, .func (PySem.W.fnOf "__init__" "Machine.__init__" (defArgs s_Machine_init) (defBody s_Machine_init) (defScope s_Machine_init) .none kV_Machine_init dc_Machine_init pm_Machine_init an_Machine_init cd_Machine_init ct_Machine_init), sl_Machine_init⟩)
    (H_c_Machine_init : PySem.W.codeIn K cd_Machine_init "Machine.__init__" = true)
    (H_k_Machine_init : PySem.W.keepIn K (.ref f_Machine_init) = true)
    (H_a__law_source : PySem.W.nsIn K mainGlobals "_law_source" = some (some (.ref f__law_source)))
    (H_l__law_source : K.lookup f__law_source = some ⟨oc__law_source, od__law_source, .func (PySem.W.fnOf "_law_source" "_law_source" (defArgs s__law_source) (defBody s__law_source) (defScope s__law_source) .none kV__law_source dc__law_source pm__law_source an__law_source cd__law_source ct__law_source), sl__law_source⟩)
    (H_c__law_source : PySem.W.codeIn K cd__law_source "_law_source" = true)
    (H_k__law_source : PySem.W.keepIn K (.ref f__law_source) = true)
    (H_a__law_draw : PySem.W.nsIn K mainGlobals "_law_draw" = some (some (.ref f__law_draw)))
    (H_l__law_draw : K.lookup f__law_draw = some ⟨oc__law_draw, od__law_draw, .func (PySem.W.fnOf "_law_draw" "_law_draw" (defArgs s__law_draw) (defBody s__law_draw) (defScope s__law_draw) .none kV__law_draw dc__law_draw pm__law_draw an__law_draw cd__law_draw ct__law_draw), sl__law_draw⟩)
    (H_c__law_draw : PySem.W.codeIn K cd__law_draw "_law_draw" = true)
    (H_k__law_draw : PySem.W.keepIn K (.ref f__law_draw) = true)
    (H_a__law_big : PySem.W.nsIn K mainGlobals "_law_big" = some (some (.ref f__law_big)))
    (H_l__law_big : K.lookup f__law_big = some ⟨oc__law_big, od__law_big, .func (PySem.W.fnOf "_law_big" "_law_big" (defArgs s__law_big) (defBody s__law_big) (defScope s__law_big) .none kV__law_big dc__law_big pm__law_big an__law_big cd__law_big ct__law_big), sl__law_big⟩)
    (H_c__law_big : PySem.W.codeIn K cd__law_big "_law_big" = true)
    (H_k__law_big : PySem.W.keepIn K (.ref f__law_big) = true)
    (H_a__law_numbers : PySem.W.nsIn K mainGlobals "_law_numbers" = some (some (.ref f__law_numbers)))
    (H_l__law_numbers : K.lookup f__law_numbers = some ⟨oc__law_numbers, od__law_numbers, .func (PySem.W.fnOf "_law_numbers" "_law_numbers" (defArgs s__law_numbers) (defBody s__law_numbers) (defScope s__law_numbers) .none kV__law_numbers dc__law_numbers pm__law_numbers an__law_numbers cd__law_numbers ct__law_numbers), sl__law_numbers⟩)
    (H_c__law_numbers : PySem.W.codeIn K cd__law_numbers "_law_numbers" = true)
    (H_k__law_numbers : PySem.W.keepIn K (.ref f__law_numbers) = true)
    (H_a__law_times : PySem.W.nsIn K mainGlobals "_law_times" = some (some (.ref f__law_times)))
    (H_l__law_times : K.lookup f__law_times = some ⟨oc__law_times, od__law_times, .func (PySem.W.fnOf "_law_times" "_law_times" (defArgs s__law_times) (defBody s__law_times) (defScope s__law_times) .none kV__law_times dc__law_times pm__law_times an__law_times cd__law_times ct__law_times), sl__law_times⟩)
    (H_c__law_times : PySem.W.codeIn K cd__law_times "_law_times" = true)
    (H_k__law_times : PySem.W.keepIn K (.ref f__law_times) = true)
    (H_a__law_is : PySem.W.nsIn K mainGlobals "_law_is" = some (some (.ref f__law_is)))
    (H_l__law_is : K.lookup f__law_is = some ⟨oc__law_is, od__law_is, .func (PySem.W.fnOf "_law_is" "_law_is" (defArgs s__law_is) (defBody s__law_is) (defScope s__law_is) .none kV__law_is dc__law_is pm__law_is an__law_is cd__law_is ct__law_is), sl__law_is⟩)
    (H_c__law_is : PySem.W.codeIn K cd__law_is "_law_is" = true)
    (H_k__law_is : PySem.W.keepIn K (.ref f__law_is) = true)
    (H_a__law_plan : PySem.W.nsIn K mainGlobals "_law_plan" = some (some (.ref f__law_plan)))
    (H_l__law_plan : K.lookup f__law_plan = some ⟨oc__law_plan, od__law_plan, .func (PySem.W.fnOf "_law_plan" "_law_plan" (defArgs s__law_plan) (defBody s__law_plan) (defScope s__law_plan) .none kV__law_plan dc__law_plan pm__law_plan an__law_plan cd__law_plan ct__law_plan), sl__law_plan⟩)
    (H_c__law_plan : PySem.W.codeIn K cd__law_plan "_law_plan" = true)
    (H_k__law_plan : PySem.W.keepIn K (.ref f__law_plan) = true)
    (H_a__law_row : PySem.W.nsIn K mainGlobals "_law_row" = some (some (.ref f__law_row)))
    (H_l__law_row : K.lookup f__law_row = some ⟨oc__law_row, od__law_row, .func (PySem.W.fnOf "_law_row" "_law_row" (defArgs s__law_row) (defBody s__law_row) (defScope s__law_row) .none kV__law_row dc__law_row pm__law_row an__law_row cd__law_row ct__law_row), sl__law_row⟩)
    (H_c__law_row : PySem.W.codeIn K cd__law_row "_law_row" = true)
    (H_k__law_row : PySem.W.keepIn K (.ref f__law_row) = true)
    (H_a__law_fault : PySem.W.nsIn K mainGlobals "_law_fault" = some (some (.ref f__law_fault)))
    (H_l__law_fault : K.lookup f__law_fault = some ⟨oc__law_fault, od__law_fault, .func (PySem.W.fnOf "_law_fault" "_law_fault" (defArgs s__law_fault) (defBody s__law_fault) (defScope s__law_fault) .none kV__law_fault dc__law_fault pm__law_fault an__law_fault cd__law_fault ct__law_fault), sl__law_fault⟩)
    (H_c__law_fault : PySem.W.codeIn K cd__law_fault "_law_fault" = true)
    (H_k__law_fault : PySem.W.keepIn K (.ref f__law_fault) = true)
    (H_a__law_same_fault : PySem.W.nsIn K mainGlobals "_law_same_fault" = some (some (.ref f__law_same_fault)))
    (H_l__law_same_fault : K.lookup f__law_same_fault = some ⟨oc__law_same_fault, od__law_same_fault, .func (PySem.W.fnOf "_law_same_fault" "_law_same_fault" (defArgs s__law_same_fault) (defBody s__law_same_fault) (defScope s__law_same_fault) .none kV__law_same_fault dc__law_same_fault pm__law_same_fault an__law_same_fault cd__law_same_fault ct__law_same_fault), sl__law_same_fault⟩)
    (H_c__law_same_fault : PySem.W.codeIn K cd__law_same_fault "_law_same_fault" = true)
    (H_k__law_same_fault : PySem.W.keepIn K (.ref f__law_same_fault) = true)
    (H_a__law_wrong : PySem.W.nsIn K mainGlobals "_law_wrong" = some (some (.ref f__law_wrong)))
    (H_l__law_wrong : K.lookup f__law_wrong = some ⟨oc__law_wrong, od__law_wrong, .func (PySem.W.fnOf "_law_wrong" "_law_wrong" (defArgs s__law_wrong) (defBody s__law_wrong) (defScope s__law_wrong) .none kV__law_wrong dc__law_wrong pm__law_wrong an__law_wrong cd__law_wrong ct__law_wrong), sl__law_wrong⟩)
    (H_c__law_wrong : PySem.W.codeIn K cd__law_wrong "_law_wrong" = true)
    (H_k__law_wrong : PySem.W.keepIn K (.ref f__law_wrong) = true)
    (H_a__law_spoiled : PySem.W.nsIn K mainGlobals "_law_spoiled" = some (some (.ref f__law_spoiled)))
    (H_l__law_spoiled : K.lookup f__law_spoiled = some ⟨oc__law_spoiled, od__law_spoiled, .func (PySem.W.fnOf "_law_spoiled" "_law_spoiled" (defArgs s__law_spoiled) (defBody s__law_spoiled) (defScope s__law_spoiled) .none kV__law_spoiled dc__law_spoiled pm__law_spoiled an__law_spoiled cd__law_spoiled ct__law_spoiled), sl__law_spoiled⟩)
    (H_c__law_spoiled : PySem.W.codeIn K cd__law_spoiled "_law_spoiled" = true)
    (H_k__law_spoiled : PySem.W.keepIn K (.ref f__law_spoiled) = true)
    (H_a_law : PySem.W.nsIn K mainGlobals "law" = some (some (.ref f_law)))
    (H_l_law : K.lookup f_law = some ⟨oc_law, od_law, .func (PySem.W.fnOf "law" "law" (defArgs s_law) (defBody s_law) (defScope s_law) .none kV_law dc_law pm_law an_law cd_law ct_law), sl_law⟩)
    (H_c_law : PySem.W.codeIn K cd_law "law" = true)
    (H_k_law : PySem.W.keepIn K (.ref f_law) = true)
    (H_pg_Machine : PySem.W.plainGet K c_Machine Str.empty = true)
    (H_hd_Machine : PySem.W.hasDictIn K c_Machine = true)
    (H_po_Machine : PySem.W.plainOver K c_Machine = true)
    (H_sa_Machine : PySem.W.findIn K (.ref c_Machine) "__setattr__" = some (some (.builtin "object.__setattr__")))
    (H_mk_Machine : PySem.W.makesIn K c_Machine = true)
    (H_kc_Machine : PySem.W.keepIn K (.ref c_Machine) = true)
    (H_nF_Machine_o : PySem.W.findIn K (.ref c_Machine) "o" = some none)
    (H_nF_Machine_l : PySem.W.findIn K (.ref c_Machine) "l" = some none)
    (H_nF_Machine_g : PySem.W.findIn K (.ref c_Machine) "g" = some none)
    (H_nF_Machine_letter : PySem.W.findIn K (.ref c_Machine) "letter" = some none)
    (H_nF_Machine_gap : PySem.W.findIn K (.ref c_Machine) "gap" = some none)
    (H_n_abs : PySem.W.nsIn K mainGlobals "abs" = some none)
    (H_n_all : PySem.W.nsIn K mainGlobals "all" = some none)
    (H_n_bool : PySem.W.nsIn K mainGlobals "bool" = some none)
    (H_n_enumerate : PySem.W.nsIn K mainGlobals "enumerate" = some none)
    (H_n_int : PySem.W.nsIn K mainGlobals "int" = some none)
    (H_n_isinstance : PySem.W.nsIn K mainGlobals "isinstance" = some none)
    (H_n_len : PySem.W.nsIn K mainGlobals "len" = some none)
    (H_n_list : PySem.W.nsIn K mainGlobals "list" = some none)
    (H_n_max : PySem.W.nsIn K mainGlobals "max" = some none)
    (H_n_range : PySem.W.nsIn K mainGlobals "range" = some none)
    (H_n_set : PySem.W.nsIn K mainGlobals "set" = some none)
    (H_n_str : PySem.W.nsIn K mainGlobals "str" = some none)
    (H_n_tuple : PySem.W.nsIn K mainGlobals "tuple" = some none)
    (H_x_MOST_PLANNED : PySem.W.nsIn K mainGlobals "MOST_PLANNED" = some (some (.int 100 t_MOST_PLANNED)))
    (H_x_MOST_ROWS : PySem.W.nsIn K mainGlobals "MOST_ROWS" = some (some (.int 400 t_MOST_ROWS)))
    (H_x_LATEST_START : PySem.W.nsIn K mainGlobals "LATEST_START" = some (some (.int 1000000000000000 t_LATEST_START)))
    (H_x_GREATEST_PART : PySem.W.nsIn K mainGlobals "GREATEST_PART" = some (some (.int 1000000000 t_GREATEST_PART)))
    (H_ca_Machine : PySem.W.findIn K (.ref c_Machine) "__class__" = some (some (.builtin "object.__class__")))
    (H_ct_Machine : PySem.W.takesIn K (.builtin "object.__class__") = some true)
    (H_cg_Machine : PySem.W.specialIn K (.builtin "object.__class__") "__get__" = some (some (.builtin "getset_descriptor.__get__")))
    (H_co_Machine : PySem.W.mroIn K c_Machine (.type "object") = some true)
    (H_ic_Machine : PySem.W.isClsIn K c_Machine = true)
    (H_tc_Machine : PySem.W.typeIn K (.ref c_Machine) = some (.type "type"))
    (H_su_list_Machine : PySem.W.subIn K (.ref c_Machine) (.type "list") = some false)
    (H_su_tuple_Machine : PySem.W.subIn K (.ref c_Machine) (.type "tuple") = some false)
    : ∃ fd : FuncData, (∀ (s : Shared) (v : Value), BindsTo s fd ⟨[v], []⟩ [("_law_script", v)]) ∧ ∀ base : Heap, K.In base → base.Ns mainGlobals mg → FnOk P w K mg base CX0 9 fa fd ["_law_script"] (spLaw K) := by
  have e := hfa.symm.trans (PySem.W.mg_of X G H_a_law)
  cases e
  let a : Adr := { a_is_integer := f_is_integer, d_is_integer := PySem.W.fnOf "is_integer" "is_integer" (defArgs s_is_integer) (defBody s_is_integer) (defScope s_is_integer) .none kV_is_integer dc_is_integer pm_is_integer an_is_integer cd_is_integer ct_is_integer, a_is_between := f_is_between, d_is_between := PySem.W.fnOf "is_between" "is_between" (defArgs s_is_between) (defBody s_is_between) (defScope s_is_between) .none kV_is_between dc_is_between pm_is_between an_is_between cd_is_between ct_is_between, a_check_count := f_check_count, d_check_count := PySem.W.fnOf "check_count" "check_count" (defArgs s_check_count) (defBody s_check_count) (defScope s_check_count) .none kV_check_count dc_check_count pm_check_count an_check_count cd_check_count ct_check_count, a_is_row := f_is_row, d_is_row := PySem.W.fnOf "is_row" "is_row" (defArgs s_is_row) (defBody s_is_row) (defScope s_is_row) .none kV_is_row dc_is_row pm_is_row an_is_row cd_is_row ct_is_row, a_form_fault := f_form_fault, d_form_fault := PySem.W.fnOf "form_fault" "form_fault" (defArgs s_form_fault) (defBody s_form_fault) (defScope s_form_fault) .none kV_form_fault dc_form_fault pm_form_fault an_form_fault cd_form_fault ct_form_fault, a_hand_fault := f_hand_fault, d_hand_fault := PySem.W.fnOf "hand_fault" "hand_fault" (defArgs s_hand_fault) (defBody s_hand_fault) (defScope s_hand_fault) .none kV_hand_fault dc_hand_fault pm_hand_fault an_hand_fault cd_hand_fault ct_hand_fault, a_again_fault := f_again_fault, d_again_fault := PySem.W.fnOf "again_fault" "again_fault" (defArgs s_again_fault) (defBody s_again_fault) (defScope s_again_fault) .none kV_again_fault dc_again_fault pm_again_fault an_again_fault cd_again_fault ct_again_fault, a_nobody_fault := f_nobody_fault, d_nobody_fault := PySem.W.fnOf "nobody_fault" "nobody_fault" (defArgs s_nobody_fault) (defBody s_nobody_fault) (defScope s_nobody_fault) .none kV_nobody_fault dc_nobody_fault pm_nobody_fault an_nobody_fault cd_nobody_fault ct_nobody_fault, a_early_fault := f_early_fault, d_early_fault := PySem.W.fnOf "early_fault" "early_fault" (defArgs s_early_fault) (defBody s_early_fault) (defScope s_early_fault) .none kV_early_fault dc_early_fault pm_early_fault an_early_fault cd_early_fault ct_early_fault, a_telling_fault := f_telling_fault, d_telling_fault := PySem.W.fnOf "telling_fault" "telling_fault" (defArgs s_telling_fault) (defBody s_telling_fault) (defScope s_telling_fault) .none kV_telling_fault dc_telling_fault pm_telling_fault an_telling_fault cd_telling_fault ct_telling_fault, a_is_near := f_is_near, d_is_near := PySem.W.fnOf "is_near" "is_near" (defArgs s_is_near) (defBody s_is_near) (defScope s_is_near) .none kV_is_near dc_is_near pm_is_near an_is_near cd_is_near ct_is_near, a_near_fault := f_near_fault, d_near_fault := PySem.W.fnOf "near_fault" "near_fault" (defArgs s_near_fault) (defBody s_near_fault) (defScope s_near_fault) .none kV_near_fault dc_near_fault pm_near_fault an_near_fault cd_near_fault ct_near_fault, a_row_fault := f_row_fault, d_row_fault := PySem.W.fnOf "row_fault" "row_fault" (defArgs s_row_fault) (defBody s_row_fault) (defScope s_row_fault) .none kV_row_fault dc_row_fault pm_row_fault an_row_fault cd_row_fault ct_row_fault, a_fault := f_fault, d_fault := PySem.W.fnOf "fault" "fault" (defArgs s_fault) (defBody s_fault) (defScope s_fault) .none kV_fault dc_fault pm_fault an_fault cd_fault ct_fault, a_Machine_init := f_Machine_init, d_Machine_init := PySem.W.fnOf "__init__" "Machine.__init__" (defArgs s_Machine_init) (defBody s_Machine_init) (defScope s_Machine_init) .none kV_Machine_init dc_Machine_init pm_Machine_init an_Machine_init cd_Machine_init ct_Machine_init, a__law_source := f__law_source, d__law_source := PySem.W.fnOf "_law_source" "_law_source" (defArgs s__law_source) (defBody s__law_source) (defScope s__law_source) .none kV__law_source dc__law_source pm__law_source an__law_source cd__law_source ct__law_source, a__law_draw := f__law_draw, d__law_draw := PySem.W.fnOf "_law_draw" "_law_draw" (defArgs s__law_draw) (defBody s__law_draw) (defScope s__law_draw) .none kV__law_draw dc__law_draw pm__law_draw an__law_draw cd__law_draw ct__law_draw, a__law_big := f__law_big, d__law_big := PySem.W.fnOf "_law_big" "_law_big" (defArgs s__law_big) (defBody s__law_big) (defScope s__law_big) .none kV__law_big dc__law_big pm__law_big an__law_big cd__law_big ct__law_big, a__law_numbers := f__law_numbers, d__law_numbers := PySem.W.fnOf "_law_numbers" "_law_numbers" (defArgs s__law_numbers) (defBody s__law_numbers) (defScope s__law_numbers) .none kV__law_numbers dc__law_numbers pm__law_numbers an__law_numbers cd__law_numbers ct__law_numbers, a__law_times := f__law_times, d__law_times := PySem.W.fnOf "_law_times" "_law_times" (defArgs s__law_times) (defBody s__law_times) (defScope s__law_times) .none kV__law_times dc__law_times pm__law_times an__law_times cd__law_times ct__law_times, a__law_is := f__law_is, d__law_is := PySem.W.fnOf "_law_is" "_law_is" (defArgs s__law_is) (defBody s__law_is) (defScope s__law_is) .none kV__law_is dc__law_is pm__law_is an__law_is cd__law_is ct__law_is, a__law_plan := f__law_plan, d__law_plan := PySem.W.fnOf "_law_plan" "_law_plan" (defArgs s__law_plan) (defBody s__law_plan) (defScope s__law_plan) .none kV__law_plan dc__law_plan pm__law_plan an__law_plan cd__law_plan ct__law_plan, a__law_row := f__law_row, d__law_row := PySem.W.fnOf "_law_row" "_law_row" (defArgs s__law_row) (defBody s__law_row) (defScope s__law_row) .none kV__law_row dc__law_row pm__law_row an__law_row cd__law_row ct__law_row, a__law_fault := f__law_fault, d__law_fault := PySem.W.fnOf "_law_fault" "_law_fault" (defArgs s__law_fault) (defBody s__law_fault) (defScope s__law_fault) .none kV__law_fault dc__law_fault pm__law_fault an__law_fault cd__law_fault ct__law_fault, a__law_same_fault := f__law_same_fault, d__law_same_fault := PySem.W.fnOf "_law_same_fault" "_law_same_fault" (defArgs s__law_same_fault) (defBody s__law_same_fault) (defScope s__law_same_fault) .none kV__law_same_fault dc__law_same_fault pm__law_same_fault an__law_same_fault cd__law_same_fault ct__law_same_fault, a__law_wrong := f__law_wrong, d__law_wrong := PySem.W.fnOf "_law_wrong" "_law_wrong" (defArgs s__law_wrong) (defBody s__law_wrong) (defScope s__law_wrong) .none kV__law_wrong dc__law_wrong pm__law_wrong an__law_wrong cd__law_wrong ct__law_wrong, a__law_spoiled := f__law_spoiled, d__law_spoiled := PySem.W.fnOf "_law_spoiled" "_law_spoiled" (defArgs s__law_spoiled) (defBody s__law_spoiled) (defScope s__law_spoiled) .none kV__law_spoiled dc__law_spoiled pm__law_spoiled an__law_spoiled cd__law_spoiled ct__law_spoiled, a_law := fa, d_law := PySem.W.fnOf "law" "law" (defArgs s_law) (defBody s_law) (defScope s_law) .none kV_law dc_law pm_law an_law cd_law ct_law, c_Machine := c_Machine }
  have F_is_integer := fun_mk (st := s_is_integer) H_l_is_integer H_c_is_integer H_k_is_integer
  have F_is_between := fun_mk (st := s_is_between) H_l_is_between H_c_is_between H_k_is_between
  have F_check_count := fun_mk (st := s_check_count) H_l_check_count H_c_check_count H_k_check_count
  have F_is_row := fun_mk (st := s_is_row) H_l_is_row H_c_is_row H_k_is_row
  have F_form_fault := fun_mk (st := s_form_fault) H_l_form_fault H_c_form_fault H_k_form_fault
  have F_hand_fault := fun_mk (st := s_hand_fault) H_l_hand_fault H_c_hand_fault H_k_hand_fault
  have F_again_fault := fun_mk (st := s_again_fault) H_l_again_fault H_c_again_fault H_k_again_fault
  have F_nobody_fault := fun_mk (st := s_nobody_fault) H_l_nobody_fault H_c_nobody_fault H_k_nobody_fault
  have F_early_fault := fun_mk (st := s_early_fault) H_l_early_fault H_c_early_fault H_k_early_fault
  have F_telling_fault := fun_mk (st := s_telling_fault) H_l_telling_fault H_c_telling_fault H_k_telling_fault
  have F_is_near := fun_mk (st := s_is_near) H_l_is_near H_c_is_near H_k_is_near
  have F_near_fault := fun_mk (st := s_near_fault) H_l_near_fault H_c_near_fault H_k_near_fault
  have F_row_fault := fun_mk (st := s_row_fault) H_l_row_fault H_c_row_fault H_k_row_fault
  have F_fault := fun_mk (st := s_fault) H_l_fault H_c_fault H_k_fault
  have F_Machine_init := fun_mk (st := s_Machine_init) H_l_Machine_init H_c_Machine_init H_k_Machine_init
  have F__law_source := fun_mk (st := s__law_source) H_l__law_source H_c__law_source H_k__law_source
  have F__law_draw := fun_mk (st := s__law_draw) H_l__law_draw H_c__law_draw H_k__law_draw
  have F__law_big := fun_mk (st := s__law_big) H_l__law_big H_c__law_big H_k__law_big
  have F__law_numbers := fun_mk (st := s__law_numbers) H_l__law_numbers H_c__law_numbers H_k__law_numbers
  have F__law_times := fun_mk (st := s__law_times) H_l__law_times H_c__law_times H_k__law_times
  have F__law_is := fun_mk (st := s__law_is) H_l__law_is H_c__law_is H_k__law_is
  have F__law_plan := fun_mk (st := s__law_plan) H_l__law_plan H_c__law_plan H_k__law_plan
  have F__law_row := fun_mk (st := s__law_row) H_l__law_row H_c__law_row H_k__law_row
  have F__law_fault := fun_mk (st := s__law_fault) H_l__law_fault H_c__law_fault H_k__law_fault
  have F__law_same_fault := fun_mk (st := s__law_same_fault) H_l__law_same_fault H_c__law_same_fault H_k__law_same_fault
  have F__law_wrong := fun_mk (st := s__law_wrong) H_l__law_wrong H_c__law_wrong H_k__law_wrong
  have F__law_spoiled := fun_mk (st := s__law_spoiled) H_l__law_spoiled H_c__law_spoiled H_k__law_spoiled
  have F_law := fun_mk (st := s_law) H_l_law H_c_law H_k_law
  have T : Txt K mg a := {
    F_is_integer := F_is_integer,
    b_is_integer := F_is_integer.binds (ps := ["thing"]) fun _ _ _ _ _ _ us hl => match us, hl with | [_], _ => rfl,
    g_is_integer := PySem.W.mg_of X G H_a_is_integer,
    F_is_between := F_is_between,
    b_is_between := F_is_between.binds (ps := ["thing", "low", "high"]) fun _ _ _ _ _ _ us hl => match us, hl with | [_, _, _], _ => rfl,
    g_is_between := PySem.W.mg_of X G H_a_is_between,
    F_check_count := F_check_count,
    b_check_count := F_check_count.binds (ps := ["count", "low", "high"]) fun _ _ _ _ _ _ us hl => match us, hl with | [_, _, _], _ => rfl,
    g_check_count := PySem.W.mg_of X G H_a_check_count,
    F_is_row := F_is_row,
    b_is_row := F_is_row.binds (ps := ["thing", "parts"]) fun _ _ _ _ _ _ us hl => match us, hl with | [_, _], _ => rfl,
    g_is_row := PySem.W.mg_of X G H_a_is_row,
    F_form_fault := F_form_fault,
    b_form_fault := F_form_fault.binds (ps := ["thing", "most", "parts"]) fun _ _ _ _ _ _ us hl => match us, hl with | [_, _, _], _ => rfl,
    g_form_fault := PySem.W.mg_of X G H_a_form_fault,
    F_hand_fault := F_hand_fault,
    b_hand_fault := F_hand_fault.binds (ps := ["n", "pairs", "first_sender", "first_receiver"]) fun _ _ _ _ _ _ us hl => match us, hl with | [_, _, _, _], _ => rfl,
    g_hand_fault := PySem.W.mg_of X G H_a_hand_fault,
    F_again_fault := F_again_fault,
    b_again_fault := F_again_fault.binds (ps := ["keys", "taken"]) fun _ _ _ _ _ _ us hl => match us, hl with | [_, _], _ => rfl,
    g_again_fault := PySem.W.mg_of X G H_a_again_fault,
    F_nobody_fault := F_nobody_fault,
    b_nobody_fault := F_nobody_fault.binds (ps := ["wanted", "keys"]) fun _ _ _ _ _ _ us hl => match us, hl with | [_, _], _ => rfl,
    g_nobody_fault := PySem.W.mg_of X G H_a_nobody_fault,
    F_early_fault := F_early_fault,
    b_early_fault := F_early_fault.binds (ps := ["told", "roots", "letter"]) fun _ _ _ _ _ _ us hl => match us, hl with | [_, _, _], _ => rfl,
    g_early_fault := PySem.W.mg_of X G H_a_early_fault,
    F_telling_fault := F_telling_fault,
    b_telling_fault := F_telling_fault.binds (ps := ["told", "roots", "wanted", "letter"]) fun _ _ _ _ _ _ us hl => match us, hl with | [_, _, _, _], _ => rfl,
    g_telling_fault := PySem.W.mg_of X G H_a_telling_fault,
    F_is_near := F_is_near,
    b_is_near := F_is_near.binds (ps := ["times", "hand", "time", "width"]) fun _ _ _ _ _ _ us hl => match us, hl with | [_, _, _, _], _ => rfl,
    g_is_near := PySem.W.mg_of X G H_a_is_near,
    F_near_fault := F_near_fault,
    b_near_fault := F_near_fault.binds (ps := ["why", "marks", "width"]) fun _ _ _ _ _ _ us hl => match us, hl with | [_, _, _], _ => rfl,
    g_near_fault := PySem.W.mg_of X G H_a_near_fault,
    F_row_fault := F_row_fault,
    b_row_fault := F_row_fault.binds (ps := ["n", "thing"]) fun _ _ _ _ _ _ us hl => match us, hl with | [_, _], _ => rfl,
    g_row_fault := PySem.W.mg_of X G H_a_row_fault,
    F_fault := F_fault,
    b_fault := F_fault.binds (ps := ["machine", "n", "thing"]) fun _ _ _ _ _ _ us hl => match us, hl with | [_, _, _], _ => rfl,
    g_fault := PySem.W.mg_of X G H_a_fault,
    F_Machine_init := F_Machine_init,
    b_Machine_init := F_Machine_init.binds (ps := ["self", "o", "l", "g"]) fun _ _ _ _ _ _ us hl => match us, hl with | [_, _, _, _], _ => rfl,
    mk_Machine := ⟨H_mk_Machine, H_a_Machine_init, H_i_Machine_init, H_kc_Machine⟩,
    F__law_source := F__law_source,
    b__law_source := F__law_source.binds (ps := ["_law_script"]) fun _ _ _ _ _ _ us hl => match us, hl with | [_], _ => rfl,
    g__law_source := PySem.W.mg_of X G H_a__law_source,
    F__law_draw := F__law_draw,
    b__law_draw := F__law_draw.binds (ps := ["_law_source_here", "_law_limit"]) fun _ _ _ _ _ _ us hl => match us, hl with | [_, _], _ => rfl,
    g__law_draw := PySem.W.mg_of X G H_a__law_draw,
    F__law_big := F__law_big,
    b__law_big := F__law_big.binds (ps := ["_law_source_here", "_law_limit"]) fun _ _ _ _ _ _ us hl => match us, hl with | [_, _], _ => rfl,
    g__law_big := PySem.W.mg_of X G H_a__law_big,
    F__law_numbers := F__law_numbers,
    b__law_numbers := F__law_numbers.binds (ps := ["_law_source_here"]) fun _ _ _ _ _ _ us hl => match us, hl with | [_], _ => rfl,
    g__law_numbers := PySem.W.mg_of X G H_a__law_numbers,
    F__law_times := F__law_times,
    b__law_times := F__law_times.binds (ps := ["_law_numbers_here"]) fun _ _ _ _ _ _ us hl => match us, hl with | [_], _ => rfl,
    g__law_times := PySem.W.mg_of X G H_a__law_times,
    F__law_is := F__law_is,
    b__law_is := F__law_is.binds (ps := ["_law_thing", "_law_due"]) fun _ _ _ _ _ _ us hl => match us, hl with | [_, _], _ => rfl,
    g__law_is := PySem.W.mg_of X G H_a__law_is,
    F__law_plan := F__law_plan,
    b__law_plan := F__law_plan.binds (ps := ["_law_source_here", "_law_letter", "_law_gap", "_law_n", "_law_most"]) fun _ _ _ _ _ _ us hl => match us, hl with | [_, _, _, _, _], _ => rfl,
    g__law_plan := PySem.W.mg_of X G H_a__law_plan,
    F__law_row := F__law_row,
    b__law_row := F__law_row.binds (ps := ["_law_row_here"]) fun _ _ _ _ _ _ us hl => match us, hl with | [_], _ => rfl,
    g__law_row := PySem.W.mg_of X G H_a__law_row,
    F__law_fault := F__law_fault,
    b__law_fault := F__law_fault.binds (ps := ["_law_letter", "_law_gap", "_law_n", "_law_thing"]) fun _ _ _ _ _ _ us hl => match us, hl with | [_, _, _, _], _ => rfl,
    g__law_fault := PySem.W.mg_of X G H_a__law_fault,
    F__law_same_fault := F__law_same_fault,
    b__law_same_fault := F__law_same_fault.binds (ps := ["_law_told", "_law_due"]) fun _ _ _ _ _ _ us hl => match us, hl with | [_, _], _ => rfl,
    g__law_same_fault := PySem.W.mg_of X G H_a__law_same_fault,
    F__law_wrong := F__law_wrong,
    b__law_wrong := F__law_wrong.binds (ps := ["_law_source_here", "_law_row_here", "_law_machine"]) fun _ _ _ _ _ _ us hl => match us, hl with | [_, _, _], _ => rfl,
    g__law_wrong := PySem.W.mg_of X G H_a__law_wrong,
    F__law_spoiled := F__law_spoiled,
    b__law_spoiled := F__law_spoiled.binds (ps := ["_law_source_here", "_law_rows", "_law_n", "_law_gap", "_law_machine"]) fun _ _ _ _ _ _ us hl => match us, hl with | [_, _, _, _, _], _ => rfl,
    g__law_spoiled := PySem.W.mg_of X G H_a__law_spoiled,
    F_law := F_law,
    b_law := F_law.binds (ps := ["_law_script"]) fun _ _ _ _ _ _ us hl => match us, hl with | [_], _ => rfl,
    g_law := PySem.W.mg_of X G H_a_law,
    g_Machine := PySem.W.mg_of X G H_g_Machine,
    cl_Machine := ⟨H_pg_Machine, H_hd_Machine, H_po_Machine, H_sa_Machine⟩,
    nF_Machine_o := H_nF_Machine_o,
    nF_Machine_l := H_nF_Machine_l,
    nF_Machine_g := H_nF_Machine_g,
    nF_Machine_letter := H_nF_Machine_letter,
    nF_Machine_gap := H_nF_Machine_gap,
    n_abs := PySem.W.mg_none_of X G H_n_abs,
    n_all := PySem.W.mg_none_of X G H_n_all,
    n_bool := PySem.W.mg_none_of X G H_n_bool,
    n_enumerate := PySem.W.mg_none_of X G H_n_enumerate,
    n_int := PySem.W.mg_none_of X G H_n_int,
    n_isinstance := PySem.W.mg_none_of X G H_n_isinstance,
    n_len := PySem.W.mg_none_of X G H_n_len,
    n_list := PySem.W.mg_none_of X G H_n_list,
    n_max := PySem.W.mg_none_of X G H_n_max,
    n_range := PySem.W.mg_none_of X G H_n_range,
    n_set := PySem.W.mg_none_of X G H_n_set,
    n_str := PySem.W.mg_none_of X G H_n_str,
    n_tuple := PySem.W.mg_none_of X G H_n_tuple,
    g_MOST_PLANNED := ⟨_, PySem.W.mg_of X G H_x_MOST_PLANNED⟩,
    g_MOST_ROWS := ⟨_, PySem.W.mg_of X G H_x_MOST_ROWS⟩,
    g_LATEST_START := ⟨_, PySem.W.mg_of X G H_x_LATEST_START⟩,
    g_GREATEST_PART := ⟨_, PySem.W.mg_of X G H_x_GREATEST_PART⟩,
    ca_Machine := H_ca_Machine,
    ct_Machine := H_ct_Machine,
    cg_Machine := H_cg_Machine,
    co_Machine := H_co_Machine,
    ic_Machine := H_ic_Machine,
    tc_Machine := H_tc_Machine,
    su_list_Machine := H_su_list_Machine,
    su_tuple_Machine := H_su_tuple_Machine }
  exact ⟨a.d_law, fun s v => .of_eq rfl, fun base _ _ => ok_law T⟩
theorem walk {l : PySem.W.OpenLaw} {q : Program} {loose : List Str} {XP : (Str → Option Value) → Heap → Prop} {YP : World → Heap → Prop} {d : DefRec} {K : Params → PySem.W.Frag} (hn : l.most = some 63) (hdf : d.params.defaults = [])
    (hY : ∀ (w : World) (h : Heap), YP w h → (K w.params).In h)
    (F : ∀ (w : World) (mg : Str → Option Value) (fa : Addr) (h : Heap), (K w.params).In h → h.Ns mainGlobals mg → mg d.name = some (.ref fa) →
      ∃ fd : FuncData, (∀ (s : Shared) (u : Value), BindsTo s fd ⟨[u], []⟩ [("_law_script", u)]) ∧ ∀ base : Heap, (K w.params).In base → base.Ns mainGlobals mg → FnOk l.prog w (K w.params) mg base CX0 9 fa fd ["_law_script"] (spLaw (K w.params))) :
    PySem.W.WalkO q loose XP YP l.row.toRowW d [] (fun f vs => PySem.call f vs) :=
  L2.walk_of (n := 63) (k := 9) (x := "_law_script") (CX := fun _ => CX0) (sp := fun w => spLaw (K w.params)) hn (by decide) hdf ⟨rfl, by decide, by decide⟩ hY F (fun _ _ a ns hl _ hS => ⟨a, ns, rfl, hS, hl, fun _ => rfl⟩) fun _ _ _ _ _ z => z
end My
open PySem PySem.W PyProof.Rows
set_option maxRecDepth 100000 in
set_option maxHeartbeats 0 in
theorem PySem.Challenge.cw_tellontree_k23_whole_plans_judged_holds : PySem.Challenge.rw_tellontree_k23_whole_plans_judged.Holds := by
  w_on; o_law; k_head; (case hw => w_witness2)
  k_fill
  refine My.walk (l := PySem.Challenge.rw_tellontree_k23_whole_plans_judged) rfl rfl (fun w h Y => PySem.W.kIn_of Y) ?F
  case F =>
    intro w mg fa h KX G hmg
    refine' My.all_mk KX G hmg ?H_g_Machine ?H_a_is_integer ?H_l_is_integer ?H_c_is_integer ?H_k_is_integer ?H_a_is_between ?H_l_is_between ?H_c_is_between ?H_k_is_between ?H_a_check_count ?H_l_check_count ?H_c_check_count ?H_k_check_count ?H_a_is_row ?H_l_is_row ?H_c_is_row ?H_k_is_row ?H_a_form_fault ?H_l_form_fault ?H_c_form_fault ?H_k_form_fault ?H_a_hand_fault ?H_l_hand_fault ?H_c_hand_fault ?H_k_hand_fault ?H_a_again_fault ?H_l_again_fault ?H_c_again_fault ?H_k_again_fault ?H_a_nobody_fault ?H_l_nobody_fault ?H_c_nobody_fault ?H_k_nobody_fault ?H_a_early_fault ?H_l_early_fault ?H_c_early_fault ?H_k_early_fault ?H_a_telling_fault ?H_l_telling_fault ?H_c_telling_fault ?H_k_telling_fault ?H_a_is_near ?H_l_is_near ?H_c_is_near ?H_k_is_near ?H_a_near_fault ?H_l_near_fault ?H_c_near_fault ?H_k_near_fault ?H_a_row_fault ?H_l_row_fault ?H_c_row_fault ?H_k_row_fault ?H_a_fault ?H_l_fault ?H_c_fault ?H_k_fault ?H_a_Machine_init ?H_i_Machine_init ?H_l_Machine_init ?H_c_Machine_init ?H_k_Machine_init ?H_a__law_source ?H_l__law_source ?H_c__law_source ?H_k__law_source ?H_a__law_draw ?H_l__law_draw ?H_c__law_draw ?H_k__law_draw ?H_a__law_big ?H_l__law_big ?H_c__law_big ?H_k__law_big ?H_a__law_numbers ?H_l__law_numbers ?H_c__law_numbers ?H_k__law_numbers ?H_a__law_times ?H_l__law_times ?H_c__law_times ?H_k__law_times ?H_a__law_is ?H_l__law_is ?H_c__law_is ?H_k__law_is ?H_a__law_plan ?H_l__law_plan ?H_c__law_plan ?H_k__law_plan ?H_a__law_row ?H_l__law_row ?H_c__law_row ?H_k__law_row ?H_a__law_fault ?H_l__law_fault ?H_c__law_fault ?H_k__law_fault ?H_a__law_same_fault ?H_l__law_same_fault ?H_c__law_same_fault ?H_k__law_same_fault ?H_a__law_wrong ?H_l__law_wrong ?H_c__law_wrong ?H_k__law_wrong ?H_a__law_spoiled ?H_l__law_spoiled ?H_c__law_spoiled ?H_k__law_spoiled ?H_a_law ?H_l_law ?H_c_law ?H_k_law ?H_pg_Machine ?H_hd_Machine ?H_po_Machine ?H_sa_Machine ?H_mk_Machine ?H_kc_Machine ?H_nF_Machine_o ?H_nF_Machine_l ?H_nF_Machine_g ?H_nF_Machine_letter ?H_nF_Machine_gap ?H_n_abs ?H_n_all ?H_n_bool ?H_n_enumerate ?H_n_int ?H_n_isinstance ?H_n_len ?H_n_list ?H_n_max ?H_n_range ?H_n_set ?H_n_str ?H_n_tuple ?H_x_MOST_PLANNED ?H_x_MOST_ROWS ?H_x_LATEST_START ?H_x_GREATEST_PART ?H_ca_Machine ?H_ct_Machine ?H_cg_Machine ?H_co_Machine ?H_ic_Machine ?H_tc_Machine ?H_su_list_Machine ?H_su_tuple_Machine
    (case H_g_Machine => k_is)
    (case H_a_is_integer => k_is)
    (case H_l_is_integer => k_is)
    (case H_c_is_integer => k_is)
    (case H_k_is_integer => k_is)
    (case H_a_is_between => k_is)
    (case H_l_is_between => k_is)
    (case H_c_is_between => k_is)
    (case H_k_is_between => k_is)
    (case H_a_check_count => k_is)
    (case H_l_check_count => k_is)
    (case H_c_check_count => k_is)
    (case H_k_check_count => k_is)
    (case H_a_is_row => k_is)
    (case H_l_is_row => k_is)
    (case H_c_is_row => k_is)
    (case H_k_is_row => k_is)
    (case H_a_form_fault => k_is)
    (case H_l_form_fault => k_is)
    (case H_c_form_fault => k_is)
    (case H_k_form_fault => k_is)
    (case H_a_hand_fault => k_is)
    (case H_l_hand_fault => k_is)
    (case H_c_hand_fault => k_is)
    (case H_k_hand_fault => k_is)
    (case H_a_again_fault => k_is)
    (case H_l_again_fault => k_is)
    (case H_c_again_fault => k_is)
    (case H_k_again_fault => k_is)
    (case H_a_nobody_fault => k_is)
    (case H_l_nobody_fault => k_is)
    (case H_c_nobody_fault => k_is)
    (case H_k_nobody_fault => k_is)
    (case H_a_early_fault => k_is)
    (case H_l_early_fault => k_is)
    (case H_c_early_fault => k_is)
    (case H_k_early_fault => k_is)
    (case H_a_telling_fault => k_is)
    (case H_l_telling_fault => k_is)
    (case H_c_telling_fault => k_is)
    (case H_k_telling_fault => k_is)
    (case H_a_is_near => k_is)
    (case H_l_is_near => k_is)
    (case H_c_is_near => k_is)
    (case H_k_is_near => k_is)
    (case H_a_near_fault => k_is)
    (case H_l_near_fault => k_is)
    (case H_c_near_fault => k_is)
    (case H_k_near_fault => k_is)
    (case H_a_row_fault => k_is)
    (case H_l_row_fault => k_is)
    (case H_c_row_fault => k_is)
    (case H_k_row_fault => k_is)
    (case H_a_fault => k_is)
    (case H_l_fault => k_is)
    (case H_c_fault => k_is)
    (case H_k_fault => k_is)
    (case H_a_Machine_init => k_is)
    (case H_i_Machine_init => k_is)
    (case H_l_Machine_init => k_is)
    (case H_c_Machine_init => k_is)
    (case H_k_Machine_init => k_is)
    (case H_a__law_source => k_is)
    (case H_l__law_source => k_is)
    (case H_c__law_source => k_is)
    (case H_k__law_source => k_is)
    (case H_a__law_draw => k_is)
    (case H_l__law_draw => k_is)
    (case H_c__law_draw => k_is)
    (case H_k__law_draw => k_is)
    (case H_a__law_big => k_is)
    (case H_l__law_big => k_is)
    (case H_c__law_big => k_is)
    (case H_k__law_big => k_is)
    (case H_a__law_numbers => k_is)
    (case H_l__law_numbers => k_is)
    (case H_c__law_numbers => k_is)
    (case H_k__law_numbers => k_is)
    (case H_a__law_times => k_is)
    (case H_l__law_times => k_is)
    (case H_c__law_times => k_is)
    (case H_k__law_times => k_is)
    (case H_a__law_is => k_is)
    (case H_l__law_is => k_is)
    (case H_c__law_is => k_is)
    (case H_k__law_is => k_is)
    (case H_a__law_plan => k_is)
    (case H_l__law_plan => k_is)
    (case H_c__law_plan => k_is)
    (case H_k__law_plan => k_is)
    (case H_a__law_row => k_is)
    (case H_l__law_row => k_is)
    (case H_c__law_row => k_is)
    (case H_k__law_row => k_is)
    (case H_a__law_fault => k_is)
    (case H_l__law_fault => k_is)
    (case H_c__law_fault => k_is)
    (case H_k__law_fault => k_is)
    (case H_a__law_same_fault => k_is)
    (case H_l__law_same_fault => k_is)
    (case H_c__law_same_fault => k_is)
    (case H_k__law_same_fault => k_is)
    (case H_a__law_wrong => k_is)
    (case H_l__law_wrong => k_is)
    (case H_c__law_wrong => k_is)
    (case H_k__law_wrong => k_is)
    (case H_a__law_spoiled => k_is)
    (case H_l__law_spoiled => k_is)
    (case H_c__law_spoiled => k_is)
    (case H_k__law_spoiled => k_is)
    (case H_a_law => k_is)
    (case H_l_law => k_is)
    (case H_c_law => k_is)
    (case H_k_law => k_is)
    (case H_pg_Machine => k_is)
    (case H_hd_Machine => k_is)
    (case H_po_Machine => k_is)
    (case H_sa_Machine => k_is)
    (case H_mk_Machine => k_is)
    (case H_kc_Machine => k_is)
    (case H_nF_Machine_o => k_is)
    (case H_nF_Machine_l => k_is)
    (case H_nF_Machine_g => k_is)
    (case H_nF_Machine_letter => k_is)
    (case H_nF_Machine_gap => k_is)
    (case H_n_abs => k_is)
    (case H_n_all => k_is)
    (case H_n_bool => k_is)
    (case H_n_enumerate => k_is)
    (case H_n_int => k_is)
    (case H_n_isinstance => k_is)
    (case H_n_len => k_is)
    (case H_n_list => k_is)
    (case H_n_max => k_is)
    (case H_n_range => k_is)
    (case H_n_set => k_is)
    (case H_n_str => k_is)
    (case H_n_tuple => k_is)
    (case H_x_MOST_PLANNED => k_is)
    (case H_x_MOST_ROWS => k_is)
    (case H_x_LATEST_START => k_is)
    (case H_x_GREATEST_PART => k_is)
    (case H_ca_Machine => k_is)
    (case H_ct_Machine => k_is)
    (case H_cg_Machine => k_is)
    (case H_co_Machine => k_is)
    (case H_ic_Machine => k_is)
    (case H_tc_Machine => k_is)
    (case H_su_list_Machine => k_is)
    (case H_su_tuple_Machine => k_is)
