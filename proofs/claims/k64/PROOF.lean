import PyProof.Rows.All
import Wide.All
import OpenK.AllK
import Wide.FinOn
import HandS.Base
import HandS.Call
import HandS.List
import HandS.Comp
import HandS.Iter
import HandS.Ends
import HandS.Words
import HandS.WordsList
import HandS.IsInst
import HandS.Wide
import HandS.Style
import HandS.ClsMeth
import HandS.Defaults
import HandS.MakeKwOnly
import HandS.SlotsOwn
import HandS.Dict
import HandS.Gcd
import KE.KMathGC
import KE.GoesMore
import PySem.Challenge.RW_tellontree_k64_whole_told_back_in_great
set_option Elab.async false
set_option linter.all false
set_option maxRecDepth 100000
namespace My
open PySem L2
def top (i : Nat) : Stmt := PySem.Challenge.pw_tellontree_k64_whole_told_back_in_great.main.body.getD i (.Pass ⟨0, 0, 0, 0⟩)
abbrev s_is_integer : Stmt := top 9
theorem sc_is_integer : FnScope ["thing"] ["thing"] (defScope s_is_integer) := ⟨rfl, rfl, rfl, by decide +kernel, rfl, by decide +kernel, by decide +kernel⟩
abbrev s_is_between : Stmt := top 10
theorem sc_is_between : FnScope ["thing", "low", "high"] ["thing", "low", "high"] (defScope s_is_between) := ⟨rfl, rfl, rfl, by decide +kernel, rfl, by decide +kernel, by decide +kernel⟩
abbrev s_wrong_in_name : Stmt := top 11
theorem sc_wrong_in_name : FnScope ["thing", "turns", "roots", "greatest", "at", "item"] ["thing", "turns", "roots"] (defScope s_wrong_in_name) := ⟨rfl, rfl, rfl, by decide +kernel, rfl, by decide +kernel, by decide +kernel⟩
abbrev s_is_sighting : Stmt := top 12
theorem sc_is_sighting : FnScope ["thing", "name", "time"] ["thing"] (defScope s_is_sighting) := ⟨rfl, rfl, rfl, by decide +kernel, rfl, by decide +kernel, by decide +kernel⟩
abbrev s_check_sightings : Stmt := top 13
theorem sc_check_sightings : FnScope ["rows", "at", "row"] ["rows"] (defScope s_check_sightings) := ⟨rfl, rfl, rfl, by decide +kernel, rfl, by decide +kernel, by decide +kernel⟩
abbrev s_sums_of : Stmt := top 15
theorem sc_sums_of : FnScope ["rows", "name", "time"] ["rows"] (defScope s_sums_of) := ⟨rfl, rfl, rfl, by decide +kernel, rfl, by decide +kernel, by decide +kernel⟩
abbrev s_fits : Stmt := top 16
theorem sc_fits : FnScope ["sums", "letter", "gap", "k", "j", "time"] ["sums", "letter", "gap"] (defScope s_fits) := ⟨rfl, rfl, rfl, by decide +kernel, rfl, by decide +kernel, by decide +kernel⟩
abbrev s_told_by_two : Stmt := top 17
theorem sc_told_by_two : FnScope ["first", "other", "sums", "k", "j", "time", "m", "i", "last", "parts", "letter", "gap"] ["first", "other", "sums"] (defScope s_told_by_two) := ⟨rfl, rfl, rfl, by decide +kernel, rfl, by decide +kernel, by decide +kernel⟩
abbrev s_told_by_line : Stmt := top 18
theorem sc_told_by_line : FnScope ["k", "j", "time", "most", "gap", "first", "count"] ["k", "j", "time"] (defScope s_told_by_line) := ⟨rfl, rfl, rfl, by decide +kernel, rfl, by decide +kernel, by decide +kernel⟩
abbrev s_told_by_multiples : Stmt := top 19
theorem sc_told_by_multiples : FnScope ["sums", "k", "j", "time", "common", "least", "worth", "m", "_", "other"] ["sums"] (defScope s_told_by_multiples) := ⟨rfl, rfl, rfl, by decide +kernel, rfl, by decide +kernel, by decide +kernel⟩
abbrev s_told_back : Stmt := top 20
theorem sc_told_back : FnScope ["rows", "sums", "k", "j", "_", "m", "i", "time", "parts"] ["rows"] (defScope s_told_back) := ⟨rfl, rfl, rfl, by decide +kernel, rfl, by decide +kernel, by decide +kernel⟩
abbrev s__law_source : Stmt := top 22
theorem sc__law_source : FnScope ["_law_script", "_law_cell"] ["_law_script"] (defScope s__law_source) := ⟨rfl, rfl, rfl, by decide +kernel, rfl, by decide +kernel, by decide +kernel⟩
abbrev s__law_draw : Stmt := top 23
theorem sc__law_draw : FnScope ["_law_source_here", "_law_limit", "_law_cell", "_law_digit", "_law_one", "_law_two", "_law_three"] ["_law_source_here", "_law_limit"] (defScope s__law_draw) := ⟨rfl, rfl, rfl, by decide +kernel, rfl, by decide +kernel, by decide +kernel⟩
abbrev s__law_wide : Stmt := top 24
theorem sc__law_wide : FnScope ["_law_source_here", "_law_limit", "_law_high", "_law_middle", "_law_low"] ["_law_source_here", "_law_limit"] (defScope s__law_wide) := ⟨rfl, rfl, rfl, by decide +kernel, rfl, by decide +kernel, by decide +kernel⟩
abbrev s__law_integer : Stmt := top 25
theorem sc__law_integer : FnScope ["_law_thing"] ["_law_thing"] (defScope s__law_integer) := ⟨rfl, rfl, rfl, by decide +kernel, rfl, by decide +kernel, by decide +kernel⟩
abbrev s__law_name : Stmt := top 26
theorem sc__law_name : FnScope ["_law_source_here", "_law_size", "_law_kind", "_law_items", "_law_k"] ["_law_source_here"] (defScope s__law_name) := ⟨rfl, rfl, rfl, by decide +kernel, rfl, by decide +kernel, by decide +kernel⟩
abbrev s__law_sightings : Stmt := top 27
theorem sc__law_sightings : FnScope ["_law_source_here", "_law_many", "_law_limit", "_law_letter", "_law_gap", "_law_first", "_law_alike", "_law_rows", "_law_k", "_law_name_here", "_law_turn", "_law_time", "_law_at"] ["_law_source_here", "_law_many"] (defScope s__law_sightings) := ⟨rfl, rfl, rfl, by decide +kernel, rfl, by decide +kernel, by decide +kernel⟩
abbrev s__law_lines : Stmt := top 28
theorem sc__law_lines : FnScope ["_law_rows", "_law_name_here", "_law_time"] ["_law_rows"] (defScope s__law_lines) := ⟨rfl, rfl, rfl, by decide +kernel, rfl, by decide +kernel, by decide +kernel⟩
abbrev s__law_solves : Stmt := top 29
theorem sc__law_solves : FnScope ["_law_lines_here", "_law_pair_here", "_law_turns", "_law_total", "_law_time"] ["_law_lines_here", "_law_pair_here"] (defScope s__law_solves) := ⟨rfl, rfl, rfl, by decide +kernel, rfl, by decide +kernel, by decide +kernel⟩
abbrev s__law_divisor : Stmt := top 30
theorem sc__law_divisor : FnScope ["_law_a", "_law_b", "_law_k", "_law_rest"] ["_law_a", "_law_b"] (defScope s__law_divisor) := ⟨rfl, rfl, rfl, by decide +kernel, rfl, by decide +kernel, by decide +kernel⟩
abbrev s__law_pair : Stmt := top 31
theorem sc__law_pair : FnScope ["_law_thing"] ["_law_thing"] (defScope s__law_pair) := ⟨rfl, rfl, rfl, by decide +kernel, rfl, by decide +kernel, by decide +kernel⟩
abbrev s__law_unlike : Stmt := top 32
theorem sc__law_unlike : FnScope ["_law_lines_here", "_law_one", "_law_two"] ["_law_lines_here"] (defScope s__law_unlike) := ⟨rfl, rfl, rfl, by decide +kernel, rfl, by decide +kernel, by decide +kernel⟩
abbrev s__law_line_has_pair : Stmt := top 33
theorem sc__law_line_has_pair : FnScope ["_law_line", "_law_turns", "_law_total", "_law_time", "_law_common", "_law_gap", "_law_rest"] ["_law_line"] (defScope s__law_line_has_pair) := ⟨rfl, rfl, rfl, by decide +kernel, rfl, by decide +kernel, by decide +kernel⟩
abbrev s__law_none_is_right : Stmt := top 34
theorem sc__law_none_is_right : FnScope ["_law_lines_here", "_law_unlike_here", "_law_first", "_law_one", "_law_two", "_law_over", "_law_letter", "_law_gap", "_law_line"] ["_law_lines_here"] (defScope s__law_none_is_right) := ⟨rfl, rfl, rfl, by decide +kernel, rfl, by decide +kernel, by decide +kernel⟩
abbrev s__law_one_is_right : Stmt := top 35
theorem sc__law_one_is_right : FnScope ["_law_lines_here", "_law_pair_here", "_law_turns", "_law_total", "_law_time", "_law_common", "_law_line"] ["_law_lines_here", "_law_pair_here"] (defScope s__law_one_is_right) := ⟨rfl, rfl, rfl, by decide +kernel, rfl, by decide +kernel, by decide +kernel⟩
abbrev s__law_line_is_right : Stmt := top 36
theorem sc__law_line_is_right : FnScope ["_law_lines_here", "_law_first", "_law_step", "_law_count", "_law_last", "_law_line"] ["_law_lines_here", "_law_first", "_law_step", "_law_count"] (defScope s__law_line_is_right) := ⟨rfl, rfl, rfl, by decide +kernel, rfl, by decide +kernel, by decide +kernel⟩
abbrev s_law : Stmt := top 37
theorem sc_law : FnScope ["_law_script", "_law_source_here", "_law_many", "_law_rows", "_law_letter", "_law_gap", "_law_lines_here", "_law_told", "_law_line"] ["_law_script"] (defScope s_law) := ⟨rfl, rfl, rfl, by decide +kernel, rfl, by decide +kernel, by decide +kernel⟩
/-- where the top has written what -/
structure Adr where
  a_is_integer : Addr
  d_is_integer : FuncData
  a_is_between : Addr
  d_is_between : FuncData
  a_wrong_in_name : Addr
  d_wrong_in_name : FuncData
  a_is_sighting : Addr
  d_is_sighting : FuncData
  a_check_sightings : Addr
  d_check_sightings : FuncData
  a_sums_of : Addr
  d_sums_of : FuncData
  a_fits : Addr
  d_fits : FuncData
  a_told_by_two : Addr
  d_told_by_two : FuncData
  a_told_by_line : Addr
  d_told_by_line : FuncData
  a_told_by_multiples : Addr
  d_told_by_multiples : FuncData
  a_told_back : Addr
  d_told_back : FuncData
  a__law_source : Addr
  d__law_source : FuncData
  a__law_draw : Addr
  d__law_draw : FuncData
  a__law_wide : Addr
  d__law_wide : FuncData
  a__law_integer : Addr
  d__law_integer : FuncData
  a__law_name : Addr
  d__law_name : FuncData
  a__law_sightings : Addr
  d__law_sightings : FuncData
  a__law_lines : Addr
  d__law_lines : FuncData
  a__law_solves : Addr
  d__law_solves : FuncData
  a__law_divisor : Addr
  d__law_divisor : FuncData
  a__law_pair : Addr
  d__law_pair : FuncData
  a__law_unlike : Addr
  d__law_unlike : FuncData
  a__law_line_has_pair : Addr
  d__law_line_has_pair : FuncData
  a__law_none_is_right : Addr
  d__law_none_is_right : FuncData
  a__law_one_is_right : Addr
  d__law_one_is_right : FuncData
  a__law_line_is_right : Addr
  d__law_line_is_right : FuncData
  a_law : Addr
  d_law : FuncData
/-- what the walk asks of the top -/
structure Txt (K : PySem.W.Frag) (mg : Str → Option Value) (a : Adr) : Prop where
  F_is_integer : Fun K "is_integer" "is_integer" s_is_integer a.a_is_integer a.d_is_integer
  b_is_integer : Binds K a.d_is_integer ["thing"] []
  g_is_integer : mg "is_integer" = some (.ref a.a_is_integer)
  F_is_between : Fun K "is_between" "is_between" s_is_between a.a_is_between a.d_is_between
  b_is_between : Binds K a.d_is_between ["thing", "low", "high"] []
  g_is_between : mg "is_between" = some (.ref a.a_is_between)
  F_wrong_in_name : Fun K "wrong_in_name" "wrong_in_name" s_wrong_in_name a.a_wrong_in_name a.d_wrong_in_name
  b_wrong_in_name : Binds K a.d_wrong_in_name ["thing", "turns", "roots"] []
  g_wrong_in_name : mg "wrong_in_name" = some (.ref a.a_wrong_in_name)
  F_is_sighting : Fun K "is_sighting" "is_sighting" s_is_sighting a.a_is_sighting a.d_is_sighting
  b_is_sighting : Binds K a.d_is_sighting ["thing"] []
  g_is_sighting : mg "is_sighting" = some (.ref a.a_is_sighting)
  F_check_sightings : Fun K "check_sightings" "check_sightings" s_check_sightings a.a_check_sightings a.d_check_sightings
  b_check_sightings : Binds K a.d_check_sightings ["rows"] []
  g_check_sightings : mg "check_sightings" = some (.ref a.a_check_sightings)
  F_sums_of : Fun K "sums_of" "sums_of" s_sums_of a.a_sums_of a.d_sums_of
  b_sums_of : Binds K a.d_sums_of ["rows"] []
  g_sums_of : mg "sums_of" = some (.ref a.a_sums_of)
  F_fits : Fun K "fits" "fits" s_fits a.a_fits a.d_fits
  b_fits : Binds K a.d_fits ["sums", "letter", "gap"] []
  g_fits : mg "fits" = some (.ref a.a_fits)
  F_told_by_two : Fun K "told_by_two" "told_by_two" s_told_by_two a.a_told_by_two a.d_told_by_two
  b_told_by_two : Binds K a.d_told_by_two ["first", "other", "sums"] []
  g_told_by_two : mg "told_by_two" = some (.ref a.a_told_by_two)
  F_told_by_line : Fun K "told_by_line" "told_by_line" s_told_by_line a.a_told_by_line a.d_told_by_line
  b_told_by_line : Binds K a.d_told_by_line ["k", "j", "time"] []
  g_told_by_line : mg "told_by_line" = some (.ref a.a_told_by_line)
  F_told_by_multiples : Fun K "told_by_multiples" "told_by_multiples" s_told_by_multiples a.a_told_by_multiples a.d_told_by_multiples
  b_told_by_multiples : Binds K a.d_told_by_multiples ["sums"] []
  g_told_by_multiples : mg "told_by_multiples" = some (.ref a.a_told_by_multiples)
  F_told_back : Fun K "told_back" "told_back" s_told_back a.a_told_back a.d_told_back
  b_told_back : Binds K a.d_told_back ["rows"] []
  g_told_back : mg "told_back" = some (.ref a.a_told_back)
  F__law_source : Fun K "_law_source" "_law_source" s__law_source a.a__law_source a.d__law_source
  b__law_source : Binds K a.d__law_source ["_law_script"] []
  g__law_source : mg "_law_source" = some (.ref a.a__law_source)
  F__law_draw : Fun K "_law_draw" "_law_draw" s__law_draw a.a__law_draw a.d__law_draw
  b__law_draw : Binds K a.d__law_draw ["_law_source_here", "_law_limit"] []
  g__law_draw : mg "_law_draw" = some (.ref a.a__law_draw)
  F__law_wide : Fun K "_law_wide" "_law_wide" s__law_wide a.a__law_wide a.d__law_wide
  b__law_wide : Binds K a.d__law_wide ["_law_source_here", "_law_limit"] []
  g__law_wide : mg "_law_wide" = some (.ref a.a__law_wide)
  F__law_integer : Fun K "_law_integer" "_law_integer" s__law_integer a.a__law_integer a.d__law_integer
  b__law_integer : Binds K a.d__law_integer ["_law_thing"] []
  g__law_integer : mg "_law_integer" = some (.ref a.a__law_integer)
  F__law_name : Fun K "_law_name" "_law_name" s__law_name a.a__law_name a.d__law_name
  b__law_name : Binds K a.d__law_name ["_law_source_here"] []
  g__law_name : mg "_law_name" = some (.ref a.a__law_name)
  F__law_sightings : Fun K "_law_sightings" "_law_sightings" s__law_sightings a.a__law_sightings a.d__law_sightings
  b__law_sightings : Binds K a.d__law_sightings ["_law_source_here", "_law_many"] []
  g__law_sightings : mg "_law_sightings" = some (.ref a.a__law_sightings)
  F__law_lines : Fun K "_law_lines" "_law_lines" s__law_lines a.a__law_lines a.d__law_lines
  b__law_lines : Binds K a.d__law_lines ["_law_rows"] []
  g__law_lines : mg "_law_lines" = some (.ref a.a__law_lines)
  F__law_solves : Fun K "_law_solves" "_law_solves" s__law_solves a.a__law_solves a.d__law_solves
  b__law_solves : Binds K a.d__law_solves ["_law_lines_here", "_law_pair_here"] []
  g__law_solves : mg "_law_solves" = some (.ref a.a__law_solves)
  F__law_divisor : Fun K "_law_divisor" "_law_divisor" s__law_divisor a.a__law_divisor a.d__law_divisor
  b__law_divisor : Binds K a.d__law_divisor ["_law_a", "_law_b"] []
  g__law_divisor : mg "_law_divisor" = some (.ref a.a__law_divisor)
  F__law_pair : Fun K "_law_pair" "_law_pair" s__law_pair a.a__law_pair a.d__law_pair
  b__law_pair : Binds K a.d__law_pair ["_law_thing"] []
  g__law_pair : mg "_law_pair" = some (.ref a.a__law_pair)
  F__law_unlike : Fun K "_law_unlike" "_law_unlike" s__law_unlike a.a__law_unlike a.d__law_unlike
  b__law_unlike : Binds K a.d__law_unlike ["_law_lines_here"] []
  g__law_unlike : mg "_law_unlike" = some (.ref a.a__law_unlike)
  F__law_line_has_pair : Fun K "_law_line_has_pair" "_law_line_has_pair" s__law_line_has_pair a.a__law_line_has_pair a.d__law_line_has_pair
  b__law_line_has_pair : Binds K a.d__law_line_has_pair ["_law_line"] []
  g__law_line_has_pair : mg "_law_line_has_pair" = some (.ref a.a__law_line_has_pair)
  F__law_none_is_right : Fun K "_law_none_is_right" "_law_none_is_right" s__law_none_is_right a.a__law_none_is_right a.d__law_none_is_right
  b__law_none_is_right : Binds K a.d__law_none_is_right ["_law_lines_here"] []
  g__law_none_is_right : mg "_law_none_is_right" = some (.ref a.a__law_none_is_right)
  F__law_one_is_right : Fun K "_law_one_is_right" "_law_one_is_right" s__law_one_is_right a.a__law_one_is_right a.d__law_one_is_right
  b__law_one_is_right : Binds K a.d__law_one_is_right ["_law_lines_here", "_law_pair_here"] []
  g__law_one_is_right : mg "_law_one_is_right" = some (.ref a.a__law_one_is_right)
  F__law_line_is_right : Fun K "_law_line_is_right" "_law_line_is_right" s__law_line_is_right a.a__law_line_is_right a.d__law_line_is_right
  b__law_line_is_right : Binds K a.d__law_line_is_right ["_law_lines_here", "_law_first", "_law_step", "_law_count"] []
  g__law_line_is_right : mg "_law_line_is_right" = some (.ref a.a__law_line_is_right)
  F_law : Fun K "law" "law" s_law a.a_law a.d_law
  b_law : Binds K a.d_law ["_law_script"] []
  g_law : mg "law" = some (.ref a.a_law)
  g_gcd : mg "gcd" = some (.builtin "math.gcd")
  n_abs : mg "abs" = none
  n_any : mg "any" = none
  n_bool : mg "bool" = none
  n_enumerate : mg "enumerate" = none
  n_int : mg "int" = none
  n_isinstance : mg "isinstance" = none
  n_len : mg "len" = none
  n_list : mg "list" = none
  n_max : mg "max" = none
  n_min : mg "min" = none
  n_range : mg "range" = none
  n_str : mg "str" = none
  n_sum : mg "sum" = none
  n_tuple : mg "tuple" = none
  g_LONGEST_NAME : ∃ t, mg "LONGEST_NAME" = some (.int 200 t)
  g_GREATEST_ITEM : ∃ t, mg "GREATEST_ITEM" = some (.int 1000000000000000 t)
  g_MOST_SIGHTINGS : ∃ t, mg "MOST_SIGHTINGS" = some (.int 60 t)
  g_LATEST_SIGHTING : ∃ t, mg "LATEST_SIGHTING" = some (.int 100000000000000000000 t)
/-! ### core: rules that the layer lacks, what a draw's source is -/
section
variable {X : Cx}
/-- xs[i], read ahead of xs[i] op= e -/
theorem gt_list : PGet X (rIxL X.K) := by
  intro pins s σ H x y v u Q I rx ry h
  obtain ⟨p, xs, i, z, rfl, rfl, hq, he, q⟩ := h
  cases rx
  obtain ⟨t, rfl⟩ := ry
  obtain ⟨its, r, pl, hz⟩ := I.list hq
  obtain ⟨j, h1, h2, h3, h4, h5⟩ := atI_get he
  obtain ⟨w, ew, rw'⟩ := r.get h2
  have hl := r.length
  have hn := line63
  have fin : EP X pins σ Q w s := ⟨z, H, I, rw', q⟩
  by_cases h0 : 0 ≤ i
  · have hj : i.toNat = j := by
      rw [seqIndex_of h0 h5] at h1
      exact Option.some.inj h1
    exact PySem.wpAny_getItem_list pl.isList h0 (by omega) (by rw [hj]; simpa using ew) fin
  · have hj : (i + (its.toArray.size : Int)).toNat = j := by
      rw [seqIndex_neg (by omega) h4] at h1
      rw [List.size_toArray, ← hl]
      exact Option.some.inj h1
    exact PySem.wpAny_getItem_list_neg pl.isList (by omega) (by rw [List.size_toArray] <;> omega) (by omega) (by rw [hj]; simpa using ew) fin
end
theorem pe_powN {X : Cx} {i j z : Int} {p q pos : Pos} {k l : Nat} (hc : CPow i j) (h : i ^ j.toNat = z) : PE X (.BinOp (.Constant (.int i) k p) .Pow (.Constant (.int j) l q) pos) (tC (.int z)) :=
  ⟨fun pins s σ H Q I g => (pe_op op_pow pe_int pe_int).run pins s σ H Q I ⟨i, j, rfl, rfl, hc, by show Q (.int (i ^ j.toNat)) H; rw [h]; exact g⟩⟩
theorem ite_tt {c A B : Prop} [Decidable c] (hc : c) (h : A) : if decide c = true then A else B := by
  rw [if_pos (decide_eq_true hc)]
  exact h
theorem ite_ff {c A B : Prop} [Decidable c] (hc : ¬ c) (h : B) : if decide c = true then A else B := by
  rw [if_neg (by rw [decide_eq_false hc]; exact Bool.false_ne_true)]
  exact h
theorem ite_d {c A B : Prop} [Decidable c] (h1 : c → A) (h2 : ¬ c → B) : if decide c = true then A else B := by
  by_cases hc : c
  · exact ite_tt hc (h1 hc)
  · exact ite_ff hc (h2 hc)
theorem ite_b {b : Bool} {A B : Prop} (h1 : b = true → A) (h2 : b = false → B) : if b = true then A else B := by
  cases b with
  | true => exact iteT (h1 rfl)
  | false => exact iteF (h2 rfl)
/-! ### readings, turn by turn -/
/-- a new object -/
def NewAt (n : Nat) (o : HO) (H : Hp) (Q : VK) : Prop := n ≤ sizeLine ∧ ∀ p, H p = none → Q (.ref p) (upd H p o)
theorem Same.new {H : Hp} {p : Addr} {o : HO} (h : H p = none) : Same H (upd H p o) := fun b u e => by rw [upd_ne (ne_of_none e h)]; exact e
theorem Same.at {H H' : Hp} {b : Addr} {o : HO} (s : Same H H') (h : H b = some o) : H' b = some o := s b o h
/-- all but what stands at p is as it was -/
def But (p : Addr) (H H' : Hp) : Prop := ∀ b o, H b = some o → b ≠ p → H' b = some o
theorem But.refl (p : Addr) (H : Hp) : But p H H := fun _ _ h _ => h
theorem But.trans {p : Addr} {H H1 H2 : Hp} (a : But p H H1) (b : But p H1 H2) : But p H H2 := fun c o h n => b c o (a c o h n) n
theorem But.of_same {p : Addr} {H H' : Hp} (h : Same H H') : But p H H' := fun b o e _ => h b o e
theorem But.upd {p : Addr} {H : Hp} {o : HO} : But p H (upd H p o) := fun b u h n => by rw [upd_ne n]; exact h
theorem But.at {p b : Addr} {H H' : Hp} {o : HO} (s : But p H H') (n : b ≠ p) (h : H b = some o) : H' b = some o := s b o h n
theorem But.new {p q : Addr} {H : Hp} {o : HO} (h : H q = none) : But p H (L2.upd H q o) := But.of_same (Same.new h)
theorem But.some {p b : Addr} {H H' : Hp} {o : HO} (s : But p H H') (h : H b = Option.some o) (n : b ≠ p) : ∃ u, H' b = Option.some u := ⟨o, s b o h n⟩
theorem _root_.L2.Same.over {H H' : Hp} {D : Addr} {o u : HO} (s : Same H H') (n : H D = none) (e : H' D = some u) (hu : True := trivial) : Same H (upd H' D o) := fun b v h => (upd_ne (ne_of_none h n)).trans (s b v h)
theorem _root_.L2.Same.made0 {H : Hp} {x dx C : Addr} (nx : H x = none) (nd : H dx = none) : Same H (L2.upd (L2.upd H dx (.own x)) x (.ins C dx [])) := fun b o e => by
  rw [upd_ne (ne_of_none e nx), upd_ne (ne_of_none e nd)]; exact e
theorem But.updNone {H H' : Hp} {x L : Addr} {o : HO} (b : But x H H') (n : H L = none) : But x H (L2.upd H' L o) := fun c u hc hn => (upd_ne (ne_of_none hc n)).trans (b c u hc hn)
theorem But.updOver {H H' : Hp} {x L : Addr} {o u : HO} (b : But x H H') (n : H L = none) (e : H' L = Option.some u) : But x H (L2.upd H' L o) := b.updNone n

theorem new_at {n : Nat} {o : HO} {H : Hp} {Q : VK} (hn : n ≤ 1000) (k : ∀ p H', H p = none → Same H H' → H' p = some o → Q (.ref p) H') : NewAt n o H Q :=
  ⟨Nat.le_trans hn (by decide), fun p hp => k p _ hp (Same.new hp) upd_same⟩
theorem new_of {o : HO} {H : Hp} {Q : VK} (k : ∀ p H', H p = none → Same H H' → H' p = some o → Q (.ref p) H') : ∀ p, H p = none → Q (.ref p) (upd H p o) := fun p hp => k p _ hp (Same.new hp) upd_same
section
variable {K : PySem.W.Frag} {σ : St} {H : Hp} {Q : VK} {ta tb tc : TE} {x y v : V} {D : Ends} {t u : TS} {QT : Bool → Hp → Prop} {QA : List V → Hp → Prop} {i j : Int} {n m : Nat}
theorem r_var (e : σ[n]? = some (some v)) (q : Q v H) : tVar n σ H Q := ⟨v, e, q⟩
theorem r_c (q : Q v H) : tC v σ H Q := q
theorem r_op {r : R2} (h : ta σ H fun x H1 => tb σ H1 fun y H2 => r x y H2 Q) : tOp r ta tb σ H Q := h
theorem r_un {r : V → Hp → VK → Prop} (h : ta σ H fun x H1 => r x H1 Q) : tUn r ta σ H Q := h
theorem r_I0 {g : Int → Int → V} (q : Q (g i j) H) : rI0 g (.int i) (.int j) H Q := ⟨i, j, rfl, rfl, q⟩
theorem r_I {C : Int → Int → Prop} {g : Int → Int → V} (c : C i j) (q : Q (g i j) H) : rI C g (.int i) (.int j) H Q := ⟨i, j, rfl, rfl, c, q⟩
theorem r_add (q : Q (.int (i + j)) H) : rAdd (.int i) (.int j) H Q := ⟨i, j, rfl, rfl, q⟩
theorem r_sub (q : Q (.int (i - j)) H) : rSub (.int i) (.int j) H Q := ⟨i, j, rfl, rfl, q⟩
theorem r_U {g : Int → V} (q : Q (g i) H) : rU g (.int i) H Q := ⟨i, rfl, q⟩
theorem r_eqI (q : Q (.bl (decide (i = j))) H) : rEq (.int i) (.int j) H Q := ⟨rfl, by
  have e : decide (V.int i = V.int j) = decide (i = j) := by
    by_cases h : i = j
    · subst h; rw [decide_eq_true rfl, decide_eq_true rfl]
    · rw [decide_eq_false h, decide_eq_false fun z => h (V.int.inj z)]
  rw [e]; exact q⟩
theorem r_neI (q : Q (.bl (!decide (i = j))) H) : rNe (.int i) (.int j) H Q := ⟨rfl, by
  have e : decide (V.int i = V.int j) = decide (i = j) := by
    by_cases h : i = j
    · subst h; rw [decide_eq_true rfl, decide_eq_true rfl]
    · rw [decide_eq_false h, decide_eq_false fun z => h (V.int.inj z)]
  rw [e]; exact q⟩
theorem r_ixL {p : Addr} {xs : List V} (h : H p = some (.lst xs)) (e : atI xs i = some v) (q : Q v H) : rIxL K (.ref p) (.int i) H Q := ⟨p, xs, i, v, rfl, rfl, SqL.of h, e, q⟩
theorem r_ixT {p : Addr} {xs : List V} (h : H p = some (.tup xs)) (e : atI xs i = some v) (q : Q v H) : rIxT K (.ref p) (.int i) H Q := ⟨p, xs, i, v, rfl, rfl, SqT.of h, e, q⟩
theorem r_test (h : ta σ H fun x H' => ∃ k, x = .bl k ∧ QT k H') : tTest ta σ H QT := h
theorem r_tB (h : ta σ H fun x H' => ∃ k, x = .bl k ∧ QT k H') : tB ta σ H QT := h
theorem r_bl {b : Bool} {R : Bool → Prop} (h : R b) : ∃ k, V.bl b = .bl k ∧ R k := ⟨b, rfl, h⟩
theorem r_not {t : TT} (h : t σ H fun c H1 => QT (!c) H1) : tNot t σ H QT := h
theorem r_and {t u : TT} (h : t σ H fun c H1 => if c = true then u σ H1 QT else QT false H1) : tAnd t u σ H QT := h
theorem r_or {t u : TT} (h : t σ H fun c H1 => if c = true then QT true H1 else u σ H1 QT) : tOr t u σ H QT := h
theorem r_notV (h : ta σ H fun x H1 => ∃ c, x = .bl c ∧ Q (.bl (!c)) H1) : tNotV ta σ H Q := h
theorem r_andV (h : ta σ H fun x H1 => ∃ c, x = .bl c ∧ if c = true then tb σ H1 Q else Q (.bl false) H1) : tAndV ta tb σ H Q := h
theorem r_orV (h : ta σ H fun x H1 => ∃ c, x = .bl c ∧ if c = true then Q (.bl true) H1 else tb σ H1 Q) : tOrV ta tb σ H Q := h
theorem r_ifE {t : TT} (h : t σ H fun c H1 => if c = true then ta σ H1 Q else tb σ H1 Q) : tIf t ta tb σ H Q := h
theorem r_seq (h : t { D with nx := u D } σ H) : tSeq t u D σ H := h
theorem r_next (h : D.nx σ H) : tNext D σ H := h
theorem r_brk (h : D.bk σ H) : tBreak D σ H := h
theorem r_cont (h : D.ct σ H) : tCont D σ H := h
theorem r_drop (h : ta σ H fun _ H1 => D.nx σ H1) : tDrop ta D σ H := h
theorem r_ret (h : ta σ H D.rt) : tRet ta D σ H := h
theorem r_ifS {c : TT} (h : c σ H fun b H1 => if b = true then t D σ H1 else u D σ H1) : tIfS c t u D σ H := h
theorem r_asg {g : TG} (h : ta σ H fun x H1 => g x σ H1 D.nx) : tAsg ta g D σ H := h
theorem r_gName {R : St → Hp → Prop} (h : R (σ.set n (some v)) H) : gName n v σ H R := h
theorem r_gSub {s : TSet} {R : St → Hp → Prop} (h : ta σ H fun o H1 => tb σ H1 fun i H2 => s o i v H2 fun H3 => R σ H3) : gSub ta tb s v σ H R := h
theorem r_setL {p : Addr} {xs : List V} {k : Nat} {R : Hp → Prop} (h : H p = some (.lst xs)) (e : ixN xs.length i = some k) (q : R (upd H p (.lst (xs.set k v)))) : rSetL (.ref p) (.int i) v H R := ⟨p, xs, i, k, rfl, rfl, h, e, q⟩
theorem r_aug {ti : TIp} (e : σ[n]? = some (some x)) (h : ta σ H fun y H1 => ti x y H1 fun z H2 => D.nx (σ.set n (some z)) H2) : tAug n ta ti D σ H := ⟨x, e, h⟩
theorem r_augS {tg : V → V → Hp → VK → Prop} {tip : TIp} {ts : TSet} (h : ta σ H fun o H1 => tb σ H1 fun i H2 => tg o i H2 fun x H3 => tc σ H3 fun y H4 => tip x y H4 fun z H5 => ts o i z H5 fun H6 => D.nx σ H6) : tAugS ta tb tc tg tip ts D σ H := h
theorem r_ip {f : Int → Int → Int} (q : Q (.int (f i j)) H) : ipI f (.int i) (.int j) H Q := ⟨i, j, rfl, rfl, q⟩
theorem r_nil (h : QA [] H) : tNil σ H QA := h
theorem r_cons {tr : TA} (h : ta σ H fun x H1 => tr σ H1 fun xs H2 => QA (x :: xs) H2) : tCons ta tr σ H QA := h
theorem r_tup {t : TA} (h : t σ H fun xs H1 => NewAt xs.length (.tup xs) H1 Q) : tTup t σ H Q := h
theorem r_lst {t : TA} (h : t σ H fun xs H1 => NewAt xs.length (.lst xs) H1 Q) : tLst t σ H Q := h
theorem r_CB {r : List V → Hp → VK → Prop} {t : TA} (h : t σ H fun vs H1 => r vs H1 Q) : tCB r t σ H Q := h
theorem r_call {sp : Sp} {dvs : List V} {E : XK} {t : TA} (h : t σ H fun vs H1 => sp (vs ++ dvs) H1 Q E) : tCall sp dvs E t σ H Q := h
theorem r_callN {k l : Nat} {sp : Sp} {gV : List V → List V → List V} {E : XK} {t tk : TA} (h : t σ H fun vs H1 => tk σ H1 fun zs H2 => vs.length = k ∧ zs.length = l ∧ sp (gV vs zs) H2 Q E) : tCallN k l sp gV E t tk σ H Q := h
theorem r_fld {p C dx : Addr} {fs : List (Str × V)} {f : Str} {R : V → Prop} (hc : Cls K C) (hn : NoAttr K C f) (hx : H p = some (.ins C dx fs)) (e : fs.lookup f = some v) (q : R v) : (∃ a C dx fs v, V.ref p = .ref a ∧ H a = some (.ins C dx fs) ∧ Cls K C ∧ NoAttr K C f ∧ fs.lookup f = some v ∧ R v) := ⟨p, C, dx, fs, v, rfl, hx, hc, hn, e, q⟩
theorem r_tFld {f : Str} (h : ta σ H fun x H1 => ∃ a C dx fs v, x = .ref a ∧ H1 a = some (.ins C dx fs) ∧ Cls K C ∧ NoAttr K C f ∧ fs.lookup f = some v ∧ Q v H1) : tFld K ta f σ H Q := h
theorem r_sl {r : V → Option Int → Option Int → Hp → VK → Prop} {tl th : TO} (h : ta σ H fun x H1 => tl σ H1 fun l H2 => th σ H2 fun u H3 => r x l u H3 Q) : tSl r ta tl th σ H Q := h
theorem r_noP {R : Option Int → Hp → Prop} (h : R none H) : tNoPart σ H R := h
theorem r_part {R : Option Int → Hp → Prop} (h : ta σ H fun x H1 => ∃ i, x = .int i ∧ R (some i) H1) : tPart ta σ H R := h
theorem r_in {R : Int → Prop} (h : R i) : ∃ k, V.int i = .int k ∧ R k := ⟨i, rfl, h⟩
theorem r_Bm {T : String} {r : V → List V → Hp → VK → Prop} {t : TA} (h : ta σ H fun x H1 => tyV K T x H1 ∧ t σ H1 fun xs H2 => r x xs H2 Q) : tBM K T r ta t σ H Q := h
theorem r_app {l : Addr} {xs : List V} (h : H l = some (.lst xs)) (hz : xs.length < sizeLine) (q : Q .non (upd H l (.lst (xs ++ [y])))) : rAppend (.ref l) [y] H Q := ⟨l, xs, y, rfl, rfl, h, hz, q⟩
end
theorem at_nat {ns : List Int} {i : Int} (h0 : 0 ≤ i) (h : i < (ns.map V.int).length) : ∃ n, atI (ns.map V.int) i = some (.int n) ∧ n ∈ ns := by
  obtain ⟨j, rfl⟩ : ∃ j : Nat, i = j := ⟨i.toNat, by omega⟩
  rw [List.length_map] at h
  have hj : j < ns.length := by omega
  exact ⟨ns[j], atI_nat (by rw [List.getElem?_map, List.getElem?_eq_getElem hj]; rfl), List.getElem_mem hj⟩
theorem fmod_nn {a b : Int} (h : 0 < b) : 0 ≤ a.fmod b := by rw [Int.fmod_eq_emod_of_nonneg a (by omega)]; exact Int.emod_nonneg a (by omega)
theorem fmod_lt {a b : Int} (h : 0 < b) : a.fmod b < b := by rw [Int.fmod_eq_emod_of_nonneg a (by omega)]; exact Int.emod_lt_of_pos a h
theorem lim_div {lim : Int} (h0 : 0 < lim) (h : lim < 2 ^ 200) : CDivW lim lim := wide_div (b := 200) h0 (by omega) (by decide) (by decide)
theorem cdiv_of {i lim : Int} (h0 : 0 < lim) (h : lim < 2 ^ 200) : CDivW i lim := ⟨h0, (lim_div h0 h).2⟩
theorem mulL {i j : Int} (h1 : -(2 ^ 64) < i) (h2 : i < 2 ^ 64) : CMul i j := Or.inl ⟨h1, h2⟩
theorem mulR {i j : Int} (h1 : -(2 ^ 64) < j) (h2 : j < 2 ^ 64) : CMul i j := Or.inr ⟨h1, h2⟩
theorem powOk {i j : Int} (h1 : 0 ≤ j) (h2 : j ≤ 1000000) (h3 : i.natAbs < 2 ^ 64) : CPow i j := ⟨h1, h2, h3⟩
theorem r_for {wi : TI} {g : TG} {tb : TS} {D : Ends} {σ : St} {H : Hp} (h : wi σ H fun J H1 => ∃ W : Nat → Nat → St → Hp → Prop, (∃ m, W 0 m σ H1) ∧ ∀ i m σ H, W i m σ H →
  (J.stop i H ∧ D.nx σ H) ∨ (J.go i H ∧ ∃ N : St → Hp → Prop, (∀ σ' H', N σ' H' → ∃ m', m' < m ∧ W (i + 1) m' σ' H') ∧ ∀ x H', J.yld i H x H' → g x σ H' fun σ2 H2 => tb { D with nx := N, ct := N, bk := D.nx } σ2 H2)) : tFor wi g tb D σ H := h
theorem r_iR1 {ta : TA} {σ : St} {H : Hp} {R : It → Hp → Prop} (h : ta σ H fun vs H1 => ∃ j : Int, vs = [.int j] ∧ -(2 ^ 62) ≤ j ∧ j < 2 ^ 62 ∧ R (Itr 0 j.toNat) H1) : iRng1 ta σ H R := h
theorem r_iR2 {ta : TA} {σ : St} {H : Hp} {R : It → Hp → Prop} (h : ta σ H fun vs H1 => ∃ i j : Int, vs = [.int i, .int j] ∧ (-(2 ^ 62) ≤ i ∧ i < 2 ^ 62 ∧ -(2 ^ 62) ≤ j ∧ j < 2 ^ 62) ∧ R (Itr i (j - i).toNat) H1) : iRng2 ta σ H R := h
theorem r_tMeth {C : Addr} {m : Str} {sp : Sp} {dvs : List V} {E : XK} {ta : TE} {t : TA} {σ : St} {H : Hp} {Q : VK} (h : ta σ H fun x H1 => ∃ a dx fs, x = .ref a ∧ H1 a = some (.ins C dx fs) ∧ fs.lookup m = none ∧ t σ H1 fun vs H2 => sp (x :: (vs ++ dvs)) H2 Q E) : tMeth C m sp dvs E ta t σ H Q := h
theorem r_meth {C p dx : Addr} {fs : List (Str × V)} {m : Str} {H : Hp} {R : Prop} (hx : H p = some (.ins C dx fs)) (hl : fs.lookup m = none) (q : R) : ∃ a dx fs, V.ref p = .ref a ∧ H a = some (.ins C dx fs) ∧ fs.lookup m = none ∧ R := ⟨p, dx, fs, rfl, hx, hl, q⟩
theorem r_iT {K : PySem.W.Frag} {tl : TE} {σ : St} {H : Hp} {R : It → Hp → Prop} (h : tl σ H fun x H1 => ∃ a, x = .ref a ∧ (∃ xs, SqT K H1 a xs) ∧ R (Itt K a) H1) : iTup K tl σ H R := h
theorem r_iL {K : PySem.W.Frag} {tl : TE} {σ : St} {H : Hp} {R : It → Hp → Prop} (h : tl σ H fun x H1 => ∃ a, x = .ref a ∧ (∃ xs, SqL K H1 a xs) ∧ R (Itl K a) H1) : iList K tl σ H R := h
theorem r_lc {wi : TI} {g : TG} {tt : TT} {te : TE} {vs : List Nat} {σ : St} {H : Hp} {Q : VK} (h : wi σ H fun J H1 => ∀ D, H1 D = none → ∃ W : Nat → Nat → Hp → Prop, (∃ m, W 0 m (upd H1 D (.lst []))) ∧ ∀ i m H, W i m H →
  (J.stop i H ∧ Q (.ref D) H) ∨ (J.go i H ∧ ∃ Nx : Hp → Prop, (∀ H', Nx H' → ∃ m', m' < m ∧ W (i + 1) m' H') ∧ ∀ x H', J.yld i H x H' → g x (wipe σ vs) H' fun σ2 H2 => wipe σ2 vs = wipe σ vs ∧ tt σ2 H2 fun b H3 =>
    if b = true then te σ2 H3 fun y H4 => ∃ acc, H4 D = some (.lst acc) ∧ acc.length < sizeLine ∧ Nx (upd H4 D (.lst (acc ++ [y]))) else Nx H3)) : tLc wi g tt te vs σ H Q := h
theorem r_isiI {K : PySem.W.Frag} {H : Hp} {Q : VK} {i : Int} {n : String} (b : Bool) (h : kitB "int" n = some b) (q : Q (.bl b) H) : rIsi K [.int i, .ty n] H Q := ⟨_, _, .type "int", .type n, b, rfl, .ty n, .base (.int i), kit_ty h, q⟩
theorem r_isiB {K : PySem.W.Frag} {H : Hp} {Q : VK} {i : Bool} {n : String} (b : Bool) (h : kitB "bool" n = some b) (q : Q (.bl b) H) : rIsi K [.bl i, .ty n] H Q := ⟨_, _, .type "bool", .type n, b, rfl, .ty n, .base (.bl i), kit_ty h, q⟩
theorem r_slL {K : PySem.W.Frag} {H : Hp} {Q : VK} {a : Addr} {xs : List V} {lo hi : Option Int} (h : SqL K H a xs) (q : ∀ p H', H p = none → Same H H' → H' p = some (.lst (cutV xs lo hi)) → Q (.ref p) H') : rSlL K (.ref a) lo hi H Q := ⟨a, xs, rfl, h, new_of q⟩
theorem r_slT {K : PySem.W.Frag} {H : Hp} {Q : VK} {a : Addr} {xs : List V} {lo hi : Option Int} (h : SqT K H a xs) (hn : ¬ (HT.sIx xs.length 0 lo = 0 ∧ HT.sIx xs.length xs.length hi = xs.length)) (q : ∀ p H', H p = none → Same H H' → H' p = some (.tup (cutV xs lo hi)) → Q (.ref p) H') : rSlT K (.ref a) lo hi H Q := ⟨a, xs, rfl, h, hn, new_of q⟩
def rListOf (K : PySem.W.Frag) : List V → Hp → VK → Prop := fun xs H Q => ∃ p ys, xs = [.ref p] ∧ (SqL K H p ys ∨ SqT K H p ys) ∧ ∀ l, H l = none → Q (.ref l) (upd H l (.lst ys))
def rTupOf (K : PySem.W.Frag) : List V → Hp → VK → Prop := fun xs H Q => ∃ p ys, xs = [.ref p] ∧ ((SqL K H p ys ∧ ∀ l, H l = none → Q (.ref l) (upd H l (.tup ys))) ∨ (SqT K H p ys ∧ Q (.ref p) H))
theorem cr_list {X : Cx} : CallR X (.type "list") (rListOf X.K) := call_list_of
theorem cr_tup {X : Cx} : CallR X (.type "tuple") (rTupOf X.K) := call_tuple_of
theorem r_listS {K : PySem.W.Frag} {H : Hp} {Q : VK} {a : Addr} {xs : List V} (h : SqL K H a xs ∨ SqT K H a xs) (q : ∀ p H', H p = none → Same H H' → H' p = some (.lst xs) → Q (.ref p) H') : rListOf K [.ref a] H Q := ⟨a, xs, rfl, h, new_of q⟩
theorem r_listL {K : PySem.W.Frag} {H : Hp} {Q : VK} {a : Addr} {xs : List V} (h : H a = some (.lst xs)) (q : ∀ p H', H p = none → Same H H' → H' p = some (.lst xs) → Q (.ref p) H') : rListOf K [.ref a] H Q := r_listS (.inl (SqL.of h)) q
theorem r_listT {K : PySem.W.Frag} {H : Hp} {Q : VK} {a : Addr} {xs : List V} (h : H a = some (.tup xs)) (q : ∀ p H', H p = none → Same H H' → H' p = some (.lst xs) → Q (.ref p) H') : rListOf K [.ref a] H Q := r_listS (.inr (SqT.of h)) q
theorem r_tupL {K : PySem.W.Frag} {H : Hp} {Q : VK} {a : Addr} {xs : List V} (h : H a = some (.lst xs)) (q : ∀ p H', H p = none → Same H H' → H' p = some (.tup xs) → Q (.ref p) H') : rTupOf K [.ref a] H Q := ⟨a, xs, rfl, .inl ⟨SqL.of h, new_of q⟩⟩
theorem r_tupT {K : PySem.W.Frag} {H : Hp} {Q : VK} {a : Addr} {xs : List V} (h : H a = some (.tup xs)) (q : Q (.ref a) H) : rTupOf K [.ref a] H Q := ⟨a, xs, rfl, .inr ⟨SqT.of h, q⟩⟩
theorem r_nF {A B : Prop} (h : A) : if (!false) = true then A else B := h
theorem r_nT {A B : Prop} (h : B) : if (!true) = true then A else B := by
  rw [if_neg (by decide)]
  exact h
theorem r_nD {c A B : Prop} [Decidable c] (h1 : ¬ c → A) (h2 : c → B) : if (!decide c) = true then A else B := by
  by_cases hc : c
  · rw [decide_eq_true hc]; exact r_nT (h2 hc)
  · rw [decide_eq_false hc]; exact r_nF (h1 hc)
theorem cut_take {xs : List V} {k : Int} (h : (xs.length : Int) ≤ k) : cutV xs none (some k) = xs := by
  have e : HT.sIx xs.length xs.length (some k) = xs.length := by
    show (if k < 0 then (k + (xs.length : Int)).toNat else min k.toNat xs.length) = xs.length
    rw [if_neg (by omega)]; omega
  unfold cutV
  rw [e]
  show (xs.drop 0).take (xs.length - 0) = xs
  simp
theorem r_yes {σ : St} {H : Hp} {R : Bool → Hp → Prop} (h : R true H) : tYes σ H R := h
theorem int_of_get {ns : List Int} {i : Nat} {y : V} (h : (ns.map V.int)[i]? = some y) : ∃ z, ns[i]? = some z ∧ y = V.int z := by
  rw [List.getElem?_map] at h
  cases e : ns[i]? with
  | none => rw [e] at h; cases h
  | some z => rw [e] at h; exact ⟨z, rfl, (Option.some.inj h).symm⟩
theorem take_more {α : Type} {l : List α} {i : Nat} {x : α} (h : l[i]? = some x) : l.take (i + 1) = l.take i ++ [x] := by
  rw [List.take_succ, h]; rfl
theorem r_chain {r r' : R2} {ta tb tc : TE} {σ : St} {H : Hp} {Q : VK} (h : ta σ H fun x H1 => tb σ H1 fun y H2 => r x y H2 fun z H3 => ∃ k, z = .bl k ∧ (if k = true then tc σ H3 fun w' H4 => r' y w' H4 Q else Q (.bl false) H3)) : tChain r r' ta tb tc σ H Q := h
theorem r_sFld {K : PySem.W.Frag} {ta tv : TE} {f : Str} {D : Ends} {σ : St} {H : Hp} (h : tv σ H fun y H1 => ta σ H1 fun x H2 => ∃ a C dx fs, x = .ref a ∧ H2 a = some (.ins C dx fs) ∧ Cls K C ∧ NoAttr K C f ∧ fs.length < 1000 ∧ D.nx σ (upd H2 a (.ins C dx (putF f y fs)))) : sFld K ta tv f D σ H := h
theorem r_put {K : PySem.W.Frag} {p C dx : Addr} {fs : List (Str × V)} {f : Str} {H : Hp} {R : Addr → Addr → Addr → List (Str × V) → Prop} (hc : Cls K C) (hn : NoAttr K C f) (hx : H p = some (.ins C dx fs)) (hl : fs.length ≤ 900) (q : R p C dx fs) :
    ∃ a C dx fs, V.ref p = .ref a ∧ H a = some (.ins C dx fs) ∧ Cls K C ∧ NoAttr K C f ∧ fs.length < 1000 ∧ R a C dx fs := ⟨p, C, dx, fs, rfl, hx, hc, hn, by omega, q⟩
theorem putF_len (f : Str) (v : V) : ∀ fs : List (Str × V), (putF f v fs).length ≤ fs.length + 1
  | [] => Nat.le_refl _
  | (g, x) :: r => by
    unfold putF
    by_cases h : g = f
    · rw [if_pos h, List.length_cons, List.length_cons]; omega
    · rw [if_neg h, List.length_cons, List.length_cons]
      have := putF_len f v r
      omega
theorem putF_le {f : Str} {v : V} {fs : List (Str × V)} {n : Nat} (h : fs.length ≤ n) : (putF f v fs).length ≤ n + 1 := Nat.le_trans (putF_len f v fs) (by omega)
def MakeAt (C : Addr) (sp : Sp) (vs : List V) (E : XK) (H : Hp) (Q : VK) : Prop := ∀ x dx, H x = none → H dx = none → dx ≠ x → sp (.ref x :: vs) (upd (upd H dx (.own x)) x (.ins C dx [])) (fun v H2 => v = .non ∧ Q (.ref x) H2) E
theorem r_make {C : Addr} {sp : Sp} {dvs : List V} {E : XK} {t : TA} {σ : St} {H : Hp} {Q : VK} (h : t σ H fun vs H1 => MakeAt C sp (vs ++ dvs) E H1 Q) : tMake C sp dvs E t σ H Q := h
def rIsNo : R2 := fun x y H Q => y = .non ∧ Q (.bl (decide (x = .non))) H
def rNotNo : R2 := fun x y H Q => y = .non ∧ Q (.bl (!decide (x = .non))) H
theorem op_isNo {X : Cx} : OpR X (compareOp .Is) rIsNo := op_isN
theorem op_notNo {X : Cx} : OpR X (compareOp .IsNot) rNotNo := op_notN
theorem r_isNn {H : Hp} {Q : VK} (q : Q (.bl true) H) : rIsNo .non .non H Q := ⟨rfl, q⟩
theorem r_isNi {H : Hp} {Q : VK} {i : Int} (q : Q (.bl false) H) : rIsNo (.int i) .non H Q := ⟨rfl, q⟩
theorem r_isNr {H : Hp} {Q : VK} {i : Addr} (q : Q (.bl false) H) : rIsNo (.ref i) .non H Q := ⟨rfl, q⟩
theorem r_notNn {H : Hp} {Q : VK} (q : Q (.bl false) H) : rNotNo .non .non H Q := ⟨rfl, q⟩
theorem r_notNi {H : Hp} {Q : VK} {i : Int} (q : Q (.bl true) H) : rNotNo (.int i) .non H Q := ⟨rfl, q⟩
theorem r_notNr {H : Hp} {Q : VK} {i : Addr} (q : Q (.bl true) H) : rNotNo (.ref i) .non H Q := ⟨rfl, q⟩
theorem r_lenS {K : PySem.W.Frag} {H : Hp} {p : Addr} {xs : List V} {R : List V → Prop} (h : SqL K H p xs ∨ SqT K H p xs) (q : R xs) : ∃ (p1 : Addr) (ys : List V), [V.ref p] = [.ref p1] ∧ (SqL K H p1 ys ∨ SqT K H p1 ys) ∧ R ys := ⟨p, xs, rfl, h, q⟩
theorem r_lenL {K : PySem.W.Frag} {H : Hp} {p : Addr} {xs : List V} {R : List V → Prop} (h : H p = some (.lst xs)) (q : R xs) : ∃ (p1 : Addr) (ys : List V), [V.ref p] = [.ref p1] ∧ (SqL K H p1 ys ∨ SqT K H p1 ys) ∧ R ys := ⟨p, xs, rfl, .inl (SqL.of h), q⟩
theorem r_lenT {K : PySem.W.Frag} {H : Hp} {p : Addr} {xs : List V} {R : List V → Prop} (h : H p = some (.tup xs)) (q : R xs) : ∃ (p1 : Addr) (ys : List V), [V.ref p] = [.ref p1] ∧ (SqL K H p1 ys ∨ SqT K H p1 ys) ∧ R ys := ⟨p, xs, rfl, .inr (SqT.of h), q⟩
theorem r_in1 {i : Int} {R : Int → Prop} (h : R i) : ∃ k, [V.int i] = [.int k] ∧ R k := ⟨i, rfl, h⟩
theorem r_in2 {i j : Int} {R : Int → Int → Prop} (h : R i j) : ∃ k l, [V.int i, V.int j] = [.int k, .int l] ∧ R k l := ⟨i, j, rfl, h⟩
/-- the source of draws at p, its cells at q -/
def SrcAt (H : Hp) (p q : Addr) : Prop := ∃ (cs : List Int) (i big cnt st : Int), H p = some (.lst [.ref q, .int i, .int big, .int cnt, .int st]) ∧ H q = some (.lst (cs.map V.int)) ∧ q ≠ p ∧ 0 ≤ i ∧ 0 ≤ big ∧ cs.length ≤ 63
theorem SrcAt.keep {H H' : Hp} {p q : Addr} (h : SrcAt H p q) (s : Same H H') : SrcAt H' p q := by
  obtain ⟨cs, i, big, cnt, st, h1, h2, h3⟩ := h
  exact ⟨cs, i, big, cnt, st, s _ _ h1, s _ _ h2, h3⟩
theorem SrcAt.upd {H : Hp} {p q x : Addr} {o : HO} (h : SrcAt H p q) (h1 : x ≠ p) (h2 : x ≠ q) : SrcAt (upd H x o) p q := by
  obtain ⟨cs, i, big, cnt, st, e1, e2, h3⟩ := h
  exact ⟨cs, i, big, cnt, st, (upd_ne h1.symm).trans e1, (upd_ne h2.symm).trans e2, h3⟩
theorem SrcAt.ne {H : Hp} {p q x : Addr} (h : SrcAt H p q) (hx : H x = none) : x ≠ p := by
  obtain ⟨cs, i, big, cnt, st, h1, _⟩ := h
  exact (ne_of_none h1 hx).symm
theorem SrcAt.neq {H : Hp} {p q x : Addr} (h : SrcAt H p q) (hx : H x = none) : x ≠ q := by
  obtain ⟨cs, i, big, cnt, st, _, h1, _⟩ := h
  exact (ne_of_none h1 hx).symm
theorem But.free {p q : Addr} {H H' : Hp} (b : But p H H') (hs : SrcAt H' p q) {x : Addr} (hx : H' x = none) : H x = none := by
  cases e : H x with
  | none => rfl
  | some o =>
    obtain ⟨u, z⟩ := b.some e (hs.ne hx)
    rw [hx] at z
    cases z
theorem seq_with {t1 t2 : TS} {D : Ends} {σ : St} {H : Hp} (P : St → Hp → Prop) (h2 : ∀ σ H, P σ H → t2 D σ H) (h1 : (∀ σ H, P σ H → t2 D σ H) → t1 { D with nx := t2 D } σ H) : tSeq t1 t2 D σ H := h1 h2
theorem pe_fldK {X : Cx} {K : PySem.W.Frag} {e : Expr} {f : Str} {pos : Pos} {ta : TE} (hK : X.K = K) (he : PE X e ta) (hb : attributeBase e f X.env (eval e X.env) = eval e X.env) : PE X (.Attribute e f pos) (tFld K ta f) := by
  subst hK; exact pe_fld he hb
theorem r_cat {H : Hp} {Q : VK} {l b : Addr} {xs zs : List V} (h1 : H l = some (.lst xs)) (h2 : H b = some (.lst zs)) (hn : xs.length + zs.length ≤ 1000) (q : ∀ p H', H p = none → Same H H' → H' p = some (.lst (xs ++ zs)) → Q (.ref p) H') : rCat (.ref l) (.ref b) H Q :=
  ⟨l, b, xs, zs, rfl, rfl, h1, h2, Nat.le_trans hn (by decide), new_of q⟩
theorem r_min {K : PySem.W.Frag} {H : Hp} {Q : VK} {l : Addr} {ns : List Int} (h1 : H l = some (.lst (ns.map V.int))) (hn : 0 < ns.length) (q : ∀ m, m ∈ ns → (∀ y, y ∈ ns → m ≤ y) → Q (.int m) H) : rMin K [.ref l] H Q :=
  ⟨l, ns, rfl, SqL.of h1, hn, q⟩
section
variable {X : Cx} {K : PySem.W.Frag}
theorem ix_listK (hK : X.K = K) : IxR X (rIxL K) := by subst hK; exact ix_list
theorem ix_tupK (hK : X.K = K) : IxR X (rIxT K) := by subst hK; exact ix_tup
theorem call_len_seqK (hK : X.K = K) : CallR X (.builtin "len") (fun xs H Q => ∃ p ys, xs = [.ref p] ∧ (SqL K H p ys ∨ SqT K H p ys) ∧ Q (.int ys.length) H) := by subst hK; exact call_len_seq
theorem call_isiK (hK : X.K = K) : CallR X (.builtin "isinstance") (rIsi K) := by subst hK; exact call_isi
theorem cr_listK (hK : X.K = K) : CallR X (.type "list") (rListOf K) := by subst hK; exact cr_list
theorem cr_tupK (hK : X.K = K) : CallR X (.type "tuple") (rTupOf K) := by subst hK; exact cr_tup
theorem pg_tupK {es : List Expr} {k n : Nat} {t : TGs} {pos : Pos} (hK : X.K = K) (hc : X.calm = true) (h : PGs X es t)
    (hn : (assignEach es X.env).length = n := by rfl) (hst : (assignEach es X.env).findIdx? (·.1) = none := by rfl) : PG X (.Tuple es k pos) (gTup K n t) := by subst hK; exact pg_tup hc h hn hst
end

local macro_rules | `(tactic| walk_at "src") => `(tactic| first | assumption | (refine' SrcAt.keep ?h ?s; (case s => assumption); (case h => walk_at "src")))
local macro_rules | `(tactic| walk_at "ne") => `(tactic| first | assumption | (apply Ne.symm; assumption) | (refine' SrcAt.ne ?a ?b; (case b => assumption); (case a => walk_at "src")))
local macro_rules | `(tactic| walk_at "hp") => `(tactic| first
  | assumption
  | with_reducible exact upd_same
  | (refine' Same.at ?s ?h; (case s => assumption); (case h => walk_at "hp"))
  | (refine' But.at ?s ?n ?h; (case s => assumption); (case n => walk_at "ne"); (case h => walk_at "hp"))
  | (rw [upd_ne (by first | assumption | (apply Ne.symm; assumption))]; walk_at "hp"))
local macro_rules | `(tactic| walk_at "side") => `(tactic| first | assumption | decide | omega | exact mulL (by omega) (by omega) | exact mulR (by omega) (by omega) | exact cdiv_of (by omega) (by omega) | exact powOk (by omega) (by omega) (by decide) | exact mulL (Int.lt_of_lt_of_le (by decide) (fmod_nn (by decide))) (Int.lt_trans (fmod_lt (by decide)) (by decide)))
local macro_rules | `(tactic| walk_at "pl") => `(tactic| ((repeat with_reducible refine putF_le ?_); with_unfolding_all exact Nat.le_of_ble_eq_true rfl))
local macro_rules | `(tactic| walk_at "lk") => `(tactic| first | assumption | (rw [lookup_putF, if_pos rfl]) | (rw [lookup_putF, if_neg (by decide +kernel)]; walk_at "lk"))
local macro_rules | `(tactic| walk_at "cls") => `(tactic| first | assumption)
/-- one turn of a reading -/
local macro_rules | `(tactic| walk_at "rd") => `(tactic| with_reducible first
  | (refine r_seq ?_; fail_if_success (refine r_ifS ?_))
  | refine r_asg ?_
  | refine r_gName ?_
  | (refine' r_var ?hv ?_; (case hv => with_unfolding_all exact rfl))
  | refine r_c ?_
  | refine r_op ?_
  | refine r_I0 ?_
  | (refine' r_I ?hc ?_; (case hc => walk_at "side"))
  | refine r_add ?_
  | refine r_sub ?_
  | refine r_eqI ?_
  | refine r_neI ?_
  | (refine' r_ixL ?hp ?he ?_; (case hp => walk_at "hp"); (case he => with_unfolding_all exact rfl))
  | (refine' r_ixT ?hp ?he ?_; (case hp => walk_at "hp"); (case he => with_unfolding_all exact rfl))
  | refine r_cons ?_
  | refine r_nil ?_
  | refine r_CB ?_
  | refine r_call ?_
  | refine r_test ?_
  | refine r_tB ?_
  | refine r_bl ?_
  | refine r_in ?_
  | refine Or.inl (r_in1 ?_)
  | refine r_in1 ?_
  | refine r_in2 ?_
  | (refine' r_lenL ?hp ?_; (case hp => walk_at "hp"))
  | (refine' r_lenT ?hp ?_; (case hp => walk_at "hp"))
  | refine r_ifS ?_
  | refine r_and ?_
  | refine r_or ?_
  | refine r_not ?_
  | refine r_andV ?_
  | refine r_orV ?_
  | refine r_notV ?_
  | refine r_ifE ?_
  | refine r_ret ?_
  | refine r_next ?_
  | refine r_drop ?_
  | refine r_gSub ?_
  | (refine' r_setL ?hp ?he ?_; (case hp => walk_at "hp"); (case he => with_unfolding_all exact rfl))
  | (refine' r_aug ?he ?_; (case he => with_unfolding_all exact rfl))
  | refine r_augS ?_
  | refine r_ip ?_
  | refine r_tup ?_
  | refine r_lst ?_
  | refine r_tFld ?_
  | (refine' r_fld ?hc ?hn ?hx ?he ?_; (case hx => walk_at "hp"); (case hc => walk_at "cls"); (case hn => walk_at "cls"); (case he => walk_at "lk"))
  | (refine' r_put ?hc ?hn ?hx ?hl ?_; (case hx => walk_at "hp"); (case hc => walk_at "cls"); (case hn => walk_at "cls"); (case hl => walk_at "pl"))
  | refine r_sl ?_
  | refine r_noP ?_
  | refine r_part ?_
  | refine r_un ?_
  | refine r_U ?_
  | refine r_Bm ?_
  | refine r_cont ?_
  | refine r_brk ?_
  | refine r_isNn ?_
  | refine r_isNi ?_
  | refine r_isNr ?_
  | refine r_notNn ?_
  | refine r_notNi ?_
  | refine r_notNr ?_
  | refine r_chain ?_
  | refine r_sFld ?_
  | refine r_make ?_
  | refine r_yes ?_
  | refine r_lc ?_
  | refine r_isiI true (by decide +kernel) ?_
  | refine r_isiI false (by decide +kernel) ?_
  | refine r_for ?_
  | refine r_iR1 ?_
  | refine r_iR2 ?_
  | refine r_iL ?_
  | refine r_tMeth ?_
  | (refine' r_meth ?hx ?hl ?_; (case hx => walk_at "hp"); (case hl => walk_at "no"))
  | refine r_iT ?_
  | refine iteT ?_
  | refine r_nF ?_
  | refine r_nT ?_
  | refine iteF ?_)
local macro_rules | `(tactic| walk_at "rdi") => `(tactic| with_reducible (refine r_seq ?_; refine r_ifS ?_))

/-! ### the law's draws -/
def spDraw : Sp := fun vs H Q _ => ∃ (p q : Addr) (lim : Int), vs = [.ref p, .int lim] ∧ SrcAt H p q ∧ 0 < lim ∧ lim < 2 ^ 200 ∧
  ∀ (r : Int) (H' : Hp), 0 ≤ r → r < lim → SrcAt H' p q → But p H H' → Q (.int r) H'
section
variable {P : Program} {w : World} {K : PySem.W.Frag} {mg : Str → Option Value} {base : Heap} {a : Adr}
theorem ok__law_draw (T : Txt K mg a) : FnOk P w K mg base CX0 1 a.a__law_draw a.d__law_draw ["_law_source_here", "_law_limit"] spDraw := by
  refine T.F__law_draw.ok sc__law_draw (fun vs H Q E h => ?_) (fun cdv A outer s H vs Q E hr h => ?_)
  · obtain ⟨p, q, lim, rfl, _⟩ := h
    rfl
  · obtain ⟨p, q, lim, rfl, ⟨cs, i, big, cnt, st, h1, h2, h3, hi, hb, hl⟩, hl0, hl1, k⟩ := h
    refine ⟨_, (pss_cons (ps_augS (pv 0) pe_int gt_list pe_int ip_add set_list)
 (pss_cons (ps_if (PW.pt (pw_and (pt_cmpR op_eq (pe_ix ix_list (pv 0) pe_int (fun _ _ => rfl)) pe_int (nomark _)) (pw_and1 (pt_cmpR op_lt (pe_ix ix_list (pv 0) pe_int (fun _ _ => rfl)) (pe_callB call_len_seq (by rfl) T.n_len (by decide +kernel) (pa_cons (pe_ix ix_list (pv 0) pe_int (fun _ _ => rfl)) pa_nil)) (nomark _))))) (pss_cons (ps_set (i := 2) sc__law_draw.nd rfl (Or.inl rfl) (pe_ix ix_list (pe_ix ix_list (pv 0) pe_int (fun _ _ => rfl)) (pe_ix ix_list (pv 0) pe_int (fun _ _ => rfl)) (fun _ _ => rfl)))
 (pss_cons (ps_augS (pv 0) pe_int gt_list pe_int ip_add set_list)
 (pss_one (ps_if (pt_cmpR op_ge (pv 2) (pe_powN (z := 1000000000000000000) ⟨by decide, by decide, by decide⟩ (by decide +kernel)) (nomark _)) (pss_one (ps_asg (pv 2) (pg_sub (pv 0) pe_int set_list)))
 (pss_one (ps_asg (pe_op op_modN (pe_callTy call_int1 (by rfl) T.n_int (by decide +kernel) (pa_cons (pe_op op_add (pe_op op_add (pe_op op_mul (pe_ix ix_list (pv 0) pe_int (fun _ _ => rfl)) pe_int) (pe_op op_mul (pv 2) pe_int)) pe_int) pa_nil)) pe_int) (pg_sub (pv 0) pe_int set_list)))))))
 pss_nil)
 (pss_cons (ps_if (pt_cmpR op_gt (pe_ix ix_list (pv 0) pe_int (fun _ _ => rfl)) pe_int (nomark _)) (pss_cons (ps_set (i := 3) sc__law_draw.nd rfl (Or.inl rfl) (pe_op op_modN (pe_callTy call_int1 (by rfl) T.n_int (by decide +kernel) (pa_cons (pe_ix ix_list (pv 0) pe_int (fun _ _ => rfl)) pa_nil)) (pv 1)))
 (pss_cons (ps_asg (pe_op op_fdivW (pe_ix ix_list (pv 0) pe_int (fun _ _ => rfl)) (pv 1)) (pg_sub (pv 0) pe_int set_list))
 (pss_one (ps_ret (pv 3)))))
 pss_nil)
 (pss_cons (ps_set (i := 4) sc__law_draw.nd rfl (Or.inl rfl) (pe_op op_modN (pe_callTy call_int1 (by rfl) T.n_int (by decide +kernel) (pa_cons (pe_op op_mul (pe_op op_add (pe_op op_add (pe_ix ix_list (pv 0) pe_int (fun _ _ => rfl)) (pe_op op_mul pe_int (pe_ix ix_list (pv 0) pe_int (fun _ _ => rfl)))) pe_int) pe_int) pa_nil)) pe_int))
 (pss_cons (ps_set (i := 5) sc__law_draw.nd rfl (Or.inl rfl) (pe_op op_modN (pe_callTy call_int1 (by rfl) T.n_int (by decide +kernel) (pa_cons (pe_op op_mul (pv 4) (pe_op op_add (pe_op op_fdivW (pv 4) pe_int) pe_int)) pa_nil)) pe_int))
 (pss_cons (ps_set (i := 6) sc__law_draw.nd rfl (Or.inl rfl) (pe_op op_modN (pe_callTy call_int1 (by rfl) T.n_int (by decide +kernel) (pa_cons (pe_op op_mul (pv 5) (pe_op op_add (pe_op op_fdivW (pv 5) pe_int) pe_int)) pa_nil)) pe_int))
 (pss_one (ps_ret (pe_op op_modN (pe_callTy call_int1 (by rfl) T.n_int (by decide +kernel) (pa_cons (pe_op op_fdivW (pv 6) pe_int) pa_nil)) (pv 1)))))))))), ?_⟩
    -- src[3] += 1
    repeat walk_at "rd"
    with_reducible refine seq_with (fun σ H' => ∃ (i big cnt st : Int) (v : Option V), σ = [some (.ref p), some (.int lim), v, none, none, none, none] ∧ H' p = some (.lst [.ref q, .int i, .int big, .int cnt, .int st]) ∧ H' q = some (.lst (cs.map V.int)) ∧ But p H H' ∧ 0 ≤ i ∧ 0 ≤ big) ?_ (fun rest => ?_)
    · clear h1 h2 hi hb
      rintro σ H' ⟨i, big, cnt, st, v, rfl, hp, hq, bt, hi, hb⟩
      walk_at "rdi"
      repeat walk_at "rd"
      refine ite_d (fun hc => ?_) (fun hc => ?_)
      · repeat walk_at "rd"
        exact k _ _ (fmod_nn hl0) (fmod_lt hl0) ⟨cs, i, _, cnt, st, upd_same, (upd_ne h3).trans hq, h3, hi, Int.ediv_nonneg hb (by omega), hl⟩ (bt.trans But.upd)
      · repeat walk_at "rd"
        exact k _ _ (fmod_nn hl0) (fmod_lt hl0) ⟨cs, i, _, cnt, st, hp, hq, h3, hi, hb, hl⟩ bt
    · have nq : H q ≠ none := by rw [h2]; intro z; cases z
      have hp1 : upd H p (HO.lst ([V.ref q, V.int i, V.int big, V.int cnt, V.int st].set (Int.toNat 3) (V.int (cnt + 1)))) p = some (.lst [.ref q, .int i, .int big, .int (cnt + 1), .int st]) := upd_same
      have hq1 : upd H p (HO.lst ([V.ref q, V.int i, V.int big, V.int cnt, V.int st].set (Int.toNat 3) (V.int (cnt + 1)))) q = some (.lst (cs.map V.int)) := (upd_ne h3).trans h2
      have bt1 : But p H (upd H p (HO.lst ([V.ref q, V.int i, V.int big, V.int cnt, V.int st].set (Int.toNat 3) (V.int (cnt + 1))))) := But.upd
      generalize upd H p (HO.lst ([V.ref q, V.int i, V.int big, V.int cnt, V.int st].set (Int.toNat 3) (V.int (cnt + 1)))) = H1 at hp1 hq1 bt1 ⊢
      clear h1 h2
      have no : ∀ (v : Option V), _ := fun v => rest [some (.ref p), some (.int lim), v, none, none, none, none] H1 ⟨i, big, cnt + 1, st, v, rfl, hp1, hq1, bt1, hi, hb⟩
      repeat walk_at "rd"
      refine ite_d (fun hc => ?_) (fun hc => ?_)
      · repeat walk_at "rd"
        refine ite_d (fun hc2 => ?_) (fun hc2 => ?_)
        · obtain ⟨c, hc3, _⟩ := at_nat (ns := cs) hi hc2
          repeat walk_at "rd"
          refine r_ixL hq1 hc3 ?_
          repeat walk_at "rd"
          refine ite_d (fun hc4 => ?_) (fun hc4 => ?_)
          · repeat walk_at "rd"
            exact rest _ _ ⟨i + 1, c, cnt + 1, st, _, rfl, upd_same, (upd_ne h3).trans ((upd_ne h3).trans hq1), (bt1.trans But.upd).trans But.upd, by omega, by omega⟩
          · repeat walk_at "rd"
            exact rest _ _ ⟨i + 1, big, cnt + 1, _, _, rfl, upd_same, (upd_ne h3).trans ((upd_ne h3).trans hq1), (bt1.trans But.upd).trans But.upd, by omega, by omega⟩
        · ((repeat walk_at "rd"); exact no none)
      · ((repeat walk_at "rd"); exact no none)

def spBig : Sp := fun vs H Q _ => ∃ (p q : Addr) (lim : Int), vs = [.ref p, .int lim] ∧ SrcAt H p q ∧ 0 < lim ∧
  ∀ (r : Int) (H' : Hp), 0 ≤ r → r < lim → SrcAt H' p q → But p H H' → Q (.int r) H'
end

/-! ### the machine's numbers, its times, whether a thing is an int -/
/-- o, l, g of a machine, at t -/
structure NumAt (H : Hp) (t : Addr) (o l g : Int) : Prop where
  at_ : H t = some (.tup [.int o, .int l, .int g])
  o0 : 0 ≤ o
  o9 : o ≤ 1000000000
  l0 : 0 ≤ l
  l9 : l ≤ 1000000000
  g1 : 1 ≤ g
  g9 : g ≤ 1000000000
  pos : 0 < 2 * o + l
theorem NumAt.keep {H H' : Hp} {t : Addr} {o l g : Int} (N : NumAt H t o l g) (h : H' t = H t) : NumAt H' t o l g := { N with at_ := h.trans N.at_ }
def spNumbers : Sp := fun vs H Q _ => ∃ (p q : Addr), vs = [.ref p] ∧ SrcAt H p q ∧ ∀ (t : Addr) (o l g : Int) (H' : Hp), NumAt H' t o l g → H t = none → SrcAt H' p q → But p H H' → Q (.ref t) H'
def gapOf (o g : Int) : Int := if g > o then g else o
def spSource (K : PySem.W.Frag) : Sp := fun vs H Q _ => ∃ (b : Addr) (ns : List Int), vs = [.ref b] ∧ SqL K H b (ns.map V.int) ∧ ns.length ≤ 63 ∧ ∀ (p q : Addr) (H' : Hp), SrcAt H' p q → H p = none → H q = none → Same H H' → Q (.ref p) H'
def spWide : Sp := fun vs H Q _ => ∃ (p q : Addr) (lim : Int), vs = [.ref p, .int lim] ∧ SrcAt H p q ∧ 0 < lim ∧ lim < 2 ^ 200 ∧ ∀ (r : Int) (H' : Hp), 0 ≤ r → r < lim → SrcAt H' p q → But p H H' → Q (.int r) H'
section
variable {P : Program} {w : World} {K : PySem.W.Frag} {mg : Str → Option Value} {base : Heap} {a : Adr}
theorem ok__law_source (T : Txt K mg a) : FnOk P w K mg base CX0 1 a.a__law_source a.d__law_source ["_law_script"] (spSource K) := by
  refine T.F__law_source.ok sc__law_source (fun vs H Q E h => ?_) (fun cdv A outer s H vs Q E hr h => ?_)
  · obtain ⟨i, j, rfl, _⟩ := h
    rfl
  · obtain ⟨b, ns, rfl, hS, hl, k⟩ := h
    refine ⟨_, (pss_one (ps_ret (pe_lst (pa_cons (pe_lc (own := [("_law_cell", 1)]) (g := gName 1) (tt := tYes) rfl sc__law_source.nd (pi_list (pe_slice sl_list (pv 0) po_none (po_some pe_int))) (blkOk_by (own := [("_law_cell", 1)]) (N := ["_law_script", "_law_cell"]) (sc := defScope s__law_source) (by decide +kernel)) (fun _ _ _ _ _ => (pg_name (i := 1) sc__law_source.nd rfl (Or.inl rfl))) (fun _ _ _ _ _ => pts_nil) (fun _ _ _ _ _ => (pe_callTy call_int1 (by rfl) T.n_int (by decide +kernel) (pa_cons (pv 1) pa_nil)))) (pa_cons pe_int (pa_cons pe_int (pa_cons pe_int (pa_cons pe_int pa_nil)))))))), ?_⟩
    repeat walk_at "rd"
    refine r_slL hS (fun p0 H1 n0 s1 e0 => ?_)
    rw [cut_take (by rw [List.length_map]; omega)] at e0
    refine ⟨p0, rfl, ⟨_, SqL.of e0⟩, fun D hD => lc_list (K := K) (a := p0) (xs := ns.map V.int) (fun i H' => H' D = some (.lst ((ns.take i).map V.int)) ∧ H' p0 = some (.lst (ns.map V.int)) ∧ Same H H') ?_ (fun i H' _ h => SqL.of h.2.1) ?_ ?_⟩
    · exact ⟨upd_same, (upd_ne (ne_of_none e0 hD)).trans e0, s1.trans (Same.new hD)⟩
    · rintro i x H2 hi ⟨h1, h2, h3⟩
      obtain ⟨z, hz, rfl⟩ := int_of_get hi
      repeat walk_at "rd"
      refine ⟨rfl, ?_⟩
      repeat walk_at "rd"
      have nD : H D = none := s1.free hD
      refine ⟨_, h1, small1000 (by rw [List.length_map, List.length_take]; omega), ?_, (upd_ne (ne_of_none e0 hD)).trans h2, h3.over nD h1⟩
      rw [upd_same, take_more hz, List.map_append]
      rfl
    · rintro H2 ⟨h1, h2, h3⟩
      repeat walk_at "rd"
      refine new_at (Nat.le_of_ble_eq_true rfl) (fun p H3 np s3 e3 => ?_)
      rw [List.length_map, List.take_length] at h1
      exact k p D _ ⟨ns, 0, 0, 0, 7, e3, s3 _ _ h1, ne_of_none h1 np, by decide, by decide, hl⟩ (h3.free np) (s1.free hD) (h3.trans s3)
theorem ok__law_wide (T : Txt K mg a) : FnOk P w K mg base CX0 2 a.a__law_wide a.d__law_wide ["_law_source_here", "_law_limit"] spWide := by
  refine T.F__law_wide.ok sc__law_wide (fun vs H Q E h => ?_) (fun cdv A outer s H vs Q E hr h => ?_)
  · obtain ⟨p, q, lim, rfl, _⟩ := h
    rfl
  · obtain ⟨p, q, lim, rfl, hs, hl0, hl1, k⟩ := h
    refine ⟨_, (pss_cons (ps_if (pt_cmpR op_le (pv 1) pe_int (nomark _)) (pss_one (ps_ret (pe_call (ok__law_draw T) (hr.mono (by decide)) (by rfl) T.g__law_draw T.F__law_draw.kp T.b__law_draw .nil pass0 (pa_cons (pv 0) (pa_cons (pv 1) pa_nil)))))
 pss_nil)
 (pss_cons (ps_set (i := 2) sc__law_wide.nd rfl (Or.inl rfl) (pe_call (ok__law_draw T) (hr.mono (by decide)) (by rfl) T.g__law_draw T.F__law_draw.kp T.b__law_draw .nil pass0 (pa_cons (pv 0) (pa_cons pe_int pa_nil))))
 (pss_cons (ps_set (i := 3) sc__law_wide.nd rfl (Or.inl rfl) (pe_call (ok__law_draw T) (hr.mono (by decide)) (by rfl) T.g__law_draw T.F__law_draw.kp T.b__law_draw .nil pass0 (pa_cons (pv 0) (pa_cons pe_int pa_nil))))
 (pss_cons (ps_set (i := 4) sc__law_wide.nd rfl (Or.inl rfl) (pe_call (ok__law_draw T) (hr.mono (by decide)) (by rfl) T.g__law_draw T.F__law_draw.kp T.b__law_draw .nil pass0 (pa_cons (pv 0) (pa_cons pe_int pa_nil))))
 (pss_one (ps_ret (pe_op op_modN (pe_callTy call_int1 (by rfl) T.n_int (by decide +kernel) (pa_cons (pe_op op_add (pe_op op_mul (pe_op op_add (pe_op op_mul (pv 2) pe_int) (pv 3)) pe_int) (pv 4)) pa_nil)) (pv 1)))))))), ?_⟩
    walk_at "rdi"
    repeat walk_at "rd"
    refine ite_d (fun hc => ?_) (fun hc => ?_)
    · repeat walk_at "rd"
      exact ⟨p, q, lim, rfl, hs, hl0, hl1, fun r H1 r0 r1 hs1 b1 => k r H1 r0 r1 hs1 b1⟩
    · repeat walk_at "rd"
      refine ⟨p, q, _, rfl, hs, by decide, by decide, fun r1 H1 r10 r11 hs1 b1 => ?_⟩
      repeat walk_at "rd"
      refine ⟨p, q, _, rfl, hs1, by decide, by decide, fun r2 H2 r20 r21 hs2 b2 => ?_⟩
      repeat walk_at "rd"
      refine ⟨p, q, _, rfl, hs2, by decide, by decide, fun r3 H3 r30 r31 hs3 b3 => ?_⟩
      repeat walk_at "rd"
      exact k _ _ (fmod_nn hl0) (fmod_lt hl0) hs3 ((b1.trans b2).trans b3)
end

/-! ### integers -/
/-- whether the value is an int and no bool -/
def IntV (K : PySem.W.Frag) (H : Hp) (x : V) (b : Bool) : Prop := ∃ (t : Value) (b1 b2 : Bool), TyX K H x t ∧ PySem.W.kitOne K t (.type "int") = some b1 ∧ PySem.W.kitOne K t (.type "bool") = some b2 ∧ b = (b1 && !b2)
theorem IntV.int {K : PySem.W.Frag} {H : Hp} {i : Int} : IntV K H (.int i) true := ⟨_, true, false, .base (.int i), kit_ty (by decide +kernel), kit_ty (by decide +kernel), rfl⟩
theorem r_isi {K : PySem.W.Frag} {H : Hp} {Q : VK} {x : V} {t : Value} {n : String} {b : Bool} (ty : TyX K H x t) (h : PySem.W.kitOne K t (.type n) = some b) (q : Q (.bl b) H) : rIsi K [x, .ty n] H Q := ⟨_, _, t, .type n, b, rfl, .ty n, ty, h, q⟩
def spIsInteger (K : PySem.W.Frag) : Sp := fun vs H Q _ => ∃ (x : V) (b : Bool), vs = [x] ∧ IntV K H x b ∧ Q (.bl b) H
def spBetween (K : PySem.W.Frag) : Sp := fun vs H Q _ => ∃ (x : V) (lo hi : Int) (b : Bool), vs = [x, .int lo, .int hi] ∧ IntV K H x b ∧ (b = false → Q (.bl false) H) ∧ (b = true → ∃ i, x = .int i ∧ Q (.bl (decide (lo ≤ i ∧ i ≤ hi))) H)
theorem r_between {K : PySem.W.Frag} {H : Hp} {Q : VK} {E : XK} {i lo hi : Int} (q : Q (.bl (decide (lo ≤ i ∧ i ≤ hi))) H) : spBetween K [.int i, .int lo, .int hi] H Q E := ⟨_, lo, hi, true, rfl, IntV.int, (fun z => Bool.noConfusion z), fun _ => ⟨i, rfl, q⟩⟩
section
variable {P : Program} {w : World} {K : PySem.W.Frag} {mg : Str → Option Value} {base : Heap} {a : Adr}
theorem ok_is_integer (T : Txt K mg a) : FnOk P w K mg base CX0 1 a.a_is_integer a.d_is_integer ["thing"] (spIsInteger K) := by
  refine T.F_is_integer.ok sc_is_integer (fun vs H Q E h => ?_) (fun cdv A outer s H vs Q E hr h => ?_)
  · obtain ⟨x, b, rfl, _⟩ := h
    rfl
  · obtain ⟨x, b, rfl, ⟨t, b1, b2, ty, h1, h2, rfl⟩, k⟩ := h
    refine ⟨_, (pss_one (ps_ret (pe_and (pe_callB call_isi (by rfl) T.n_isinstance (by decide +kernel) (pa_cons (pv 0) (pa_cons (pe_bltn (v := .ty "int") (u := .type "int") (by rfl) T.n_int (by decide +kernel) rfl) pa_nil))) (pe_one (pe_not (pe_callB call_isi (by rfl) T.n_isinstance (by decide +kernel) (pa_cons (pv 0) (pa_cons (pe_bltn (v := .ty "bool") (u := .type "bool") (by rfl) T.n_bool (by decide +kernel) rfl) pa_nil)))))))), ?_⟩
    repeat walk_at "rd"
    refine r_isi ty h1 ?_
    refine ⟨b1, rfl, ?_⟩
    cases b1 with
    | false => exact iteF k
    | true =>
      repeat walk_at "rd"
      refine r_isi ty h2 ?_
      exact ⟨b2, rfl, k⟩
theorem ok_is_between (T : Txt K mg a) : FnOk P w K mg base CX0 2 a.a_is_between a.d_is_between ["thing", "low", "high"] (spBetween K) := by
  refine T.F_is_between.ok sc_is_between (fun vs H Q E h => ?_) (fun cdv A outer s H vs Q E hr h => ?_)
  · obtain ⟨x, lo, hi, b, rfl, _⟩ := h
    rfl
  · obtain ⟨x, lo, hi, b, rfl, iv, k0, k1⟩ := h
    refine ⟨_, (pss_one (ps_ret (pe_and (pe_call (ok_is_integer T) (hr.mono (by decide)) (by rfl) T.g_is_integer T.F_is_integer.kp T.b_is_integer .nil pass0 (pa_cons (pv 0) pa_nil)) (pe_one (pe_chain op_le op_le (pv 1) (pv 0) (pv 2)))))), ?_⟩
    repeat walk_at "rd"
    refine ⟨x, b, rfl, iv, ?_⟩
    refine ⟨b, rfl, ?_⟩
    cases b with
    | false => exact iteF (k0 rfl)
    | true =>
      obtain ⟨i, rfl, q⟩ := k1 rfl
      repeat walk_at "rd"
      refine ite_d (fun h1 => ?_) (fun h1 => ?_)
      · repeat walk_at "rd"
        rw [decide_eq_decide.mpr (show lo ≤ i ∧ i ≤ hi ↔ i ≤ hi from ⟨fun h => h.2, fun h => ⟨h1, h⟩⟩)] at q
        exact q
      · rw [decide_eq_false (show ¬ (lo ≤ i ∧ i ≤ hi) from fun h => h1 h.1)] at q
        exact q
end

/-! ### own rules: C(..) by a local name, x op y by an own def, targets in a tuple -/
/-- the slot n holds the class at C: a new instance -/
def tMakeL (n : Nat) (C : Addr) (sp : Sp) (dvs : List V) (E : XK) (t : TA) : TE := fun σ H Q => σ[n]? = some (some (.ref C)) ∧ tMake C sp dvs E t σ H Q
/-- x op y, x an instance with a dict, y of a known type -/
def rOwnD (K : PySem.W.Frag) (C : Addr) (sp : Sp) (E : XK) : R2 := fun x y H Q => ∃ m dx fs tb, x = .ref m ∧ H m = some (.ins C dx fs) ∧ TyX K H y tb ∧ PySem.W.notFirst K C tb = true ∧ sp [x, y] H Q E
section
variable {X : Cx} {CX : CXT} {k i : Nat} {f C : Addr} {fd : FuncData} {ps : List Str} {sp : Sp} {dvs : List V} {ds : List Value} {E : XK} {x : Str} {p pos : Pos} {e : Expr} {es : List Expr} {t : TA}
theorem pe_makeL (M : Mk X.K C f) (F : FnOk X.prog X.w X.K X.mg X.base CX k f fd ps sp) (hr : Room (k + 1) X.A) (hN : X.N[i]? = some x) (hv : Vis X.env.scope x) (hb : Binds X.K fd ps ds) (hd : Vals dvs ds) (hx : Passes CX X E) (ha : PA X (e :: es) t)
    (hdb : (x == ("__debug__" : Str)) = false := by decide) (hcd : (x == ("__classdict__" : Str)) = false := by decide)
    (he : starEach (e :: es) X.env = (false, eval e X.env) :: starEach es X.env := by rfl) (hpl : (backTo pos (starEach es X.env)).any (·.1) = false := by rfl) : PE X (.Call (.Name x p) (e :: es) [] pos) (tMakeL i C sp dvs E t) := by
  refine ⟨fun pins s σ H Q I h => wpAny_Call_Name_kw (thn ((pe_var (pos := p) hN hv hdb hcd).run pins s σ H (fun v H1 => v = .ref C ∧ H1 = H) I ⟨.ref C, h.1, rfl, rfl⟩) fun u s1 g => ?_)⟩
  obtain ⟨v, H1, J, r1, rfl, rfl⟩ := g
  cases r1
  exact PySem.W.callWith_K (h₀ := X.base) J.ok.mod.kin M.kp (thn (ha.run pos pins s1 σ _ _ J h.2) fun us s2 ⟨vs, H2, J2, r, q⟩ => ⟨J2.kIn, run_make M F hr hb hd hx J2 r q⟩) he hpl
theorem op_ownD {op : CmpOp} {g : Addr} {n : Nat} (hop : ∀ a b, compareOp op a b = richCompare op a b) (hs : PySem.W.findIn X.K (.ref C) (cmpInfo op).2.1 = some (some (.ref g))) (hf : PySem.W.isFn X.K (.ref g) = true) (F : FnR X.prog X.w X.K X.mg X.base CX n g sp)
    (hr : Room n X.A) (hx : Passes CX X E) : OpR X (compareOp op) (rOwnD X.K C sp E) := by
  intro pins s σ H x y v u Q I rx ry h
  obtain ⟨m, dx, fs, tb, rfl, hm, ty, hn, q⟩ := h
  obtain rfl : v = Value.ref m := rx
  obtain ⟨mA, J, _⟩ := ins_get I.hok hm
  obtain ⟨od, J, _⟩ := J.look
  obtain ⟨Pk, Z, pz, _⟩ := kit_of I ry ty
  obtain ⟨mF, hF⟩ := I.fr
  rw [hop]
  refine PySem.W.cmp_K (op := op) (tb := tb) hr.units0 hF I.ok.mod.kin J (Z.ty _ _ I.kIn pz) hn hs hf ?_
  refine wpAny_mono (wpAny_call (run_fnR (us := [.ref m, u]) (vs := [.ref m, y]) F hr hx I (.cons rfl (.cons ry .nil)) q)) (fun w s' z => ?_) fun _ _ x => x
  exact (let ⟨z', H', I', rz, qz⟩ := z; SlX.cmpback rz ⟨z', H', I', rz, qz⟩)
end
theorem kit_self {K : PySem.W.Frag} {C : Addr} : PySem.W.kitOne K (.ref C) (.ref C) = some true := by
  unfold PySem.W.kitOne
  rw [if_pos (by simp)]
theorem kit_no {K : PySem.W.Frag} {C : Addr} {n : String} (h1 : PySem.W.isClsIn K C = true) (h2 : PySem.W.typeIn K (.ref C) = some (.type "type")) (h3 : PySem.W.subIn K (.type n) (.ref C) = some false) : PySem.W.kitOne K (.type n) (.ref C) = some false := by
  have e : ((PySem.W.clsIn K C).isSome && PySem.W.typeIn K (.ref C) == some (.type "type")) = true := by
    rw [show (PySem.W.clsIn K C).isSome = true from h1, h2]
    rfl
  unfold PySem.W.kitOne
  rw [if_neg (by simp)]
  show (if ((PySem.W.clsIn K C).isSome && PySem.W.typeIn K (.ref C) == some (.type "type")) = true then PySem.W.subIn K (.type n) (.ref C) else none) = some false
  rw [if_pos e]
  exact h3
theorem nf_self {K : PySem.W.Frag} {C : Addr} : PySem.W.notFirst K C (.ref C) = true := by
  unfold PySem.W.notFirst
  simp
theorem nf_no {K : PySem.W.Frag} {C : Addr} {n : String} (h3 : PySem.W.subIn K (.type n) (.ref C) = some false) : PySem.W.notFirst K C (.type n) = true := by
  unfold PySem.W.notFirst
  rw [h3]
  simp
section
variable {K : PySem.W.Frag} {σ : St} {H : Hp} {Q : VK} {R : St → Hp → Prop} {n : Nat} {v : V} {vs : List V}
theorem r_gTup {t : TGs} {p : Addr} (h : H p = some (.tup vs)) (hl : vs.length = n) (q : t vs σ H R) : gTup K n t (.ref p) σ H R := ⟨p, vs, rfl, SqT.of h, hl, q⟩
theorem r_gCons {t : TG} {u : TGs} (h : t v σ H fun σ' H' => u vs σ' H' R) : gCons t u (v :: vs) σ H R := ⟨v, vs, rfl, h⟩
theorem r_gNil (h : R σ H) : gNil [] σ H R := ⟨rfl, h⟩
theorem r_nDT {c A B : Prop} [Decidable c] (hc : c) (h : B) : if (!decide c) = true then A else B := r_nD (fun z => absurd hc z) fun _ => h
theorem r_neB {a b : Bool} (q : Q (.bl (!decide (a = b))) H) : rNe (.bl a) (.bl b) H Q := ⟨rfl, by
  have e : decide (V.bl a = V.bl b) = decide (a = b) := by cases a <;> cases b <;> decide
  rw [e]; exact q⟩
theorem r_isB {a b : Bool} (q : Q (.bl (decide (a = b))) H) : rIsB (.bl a) (.bl b) H Q := ⟨a, b, rfl, rfl, q⟩
theorem r_notB {a b : Bool} (q : Q (.bl (!decide (a = b))) H) : rNotB (.bl a) (.bl b) H Q := ⟨a, b, rfl, rfl, q⟩
theorem r_dnew (k : ∀ p H', H p = none → Same H H' → H' p = some (.dK []) → Q (.ref p) H') : tDNewK σ H Q := new_of k
theorem r_makeL {C : Addr} {sp : Sp} {dvs : List V} {E : XK} {t : TA} (e : σ[n]? = some (some (.ref C))) (h : tMake C sp dvs E t σ H Q) : tMakeL n C sp dvs E t σ H Q := ⟨e, h⟩
theorem r_cmeth {C : Addr} {sp : Sp} {E : XK} {t : TA} (h : t σ H fun vs H2 => sp (.ref C :: vs) H2 Q E) : ClX.tCMeth C sp E (tC (.ref C)) t σ H Q := ⟨rfl, h⟩
theorem eq_ints {xs ys : List Int} : PyData.eqvAll (xs.map PyData.int) (ys.map PyData.int) = decide (xs = ys) := by
  induction xs generalizing ys with
  | nil => cases ys <;> rfl
  | cons x xs ih =>
    cases ys with
    | nil => rfl
    | cons y ys =>
      show (PyData.eqv (.int x) (.int y) && PyData.eqvAll (xs.map PyData.int) (ys.map PyData.int)) = _
      rw [ih]
      show ((x == y) && decide (xs = ys)) = _
      by_cases h : x = y
      · subst h; simp
      · simp [h]
theorem dp_ints (xs : List Int) : DpAll K H (xs.map V.int) (xs.map PyData.int) := by
  induction xs with
  | nil => exact .nil
  | cons x xs ih => exact .cons (.int x) ih
/-- == of two tuples of ints -/
theorem r_eqT {p q : Addr} {xs ys : List Int} (h1 : H p = some (.tup (xs.map V.int))) (h2 : H q = some (.tup (ys.map V.int))) (s1 : SeqAt.shaped (.tuple (xs.map PyData.int)) = true) (s2 : SeqAt.shaped (.tuple (ys.map PyData.int)) = true)
    (k : Q (.bl (decide (xs = ys))) H) : rEqD K (.ref p) (.ref q) H Q := ⟨_, _, .tup (SqT.of h1) (dp_ints xs), .tup (SqT.of h2) (dp_ints ys), s1, s2, by
  show Q (.bl (PyData.eqvAll (xs.map PyData.int) (ys.map PyData.int))) H
  rw [eq_ints]; exact k⟩
end

local macro_rules | `(tactic| walk_at "rd") => `(tactic| with_reducible first
  | (refine' r_gTup ?hp ?hl ?_; (case hp => walk_at "hp"); (case hl => with_unfolding_all exact rfl))
  | refine r_gCons ?_
  | refine r_gNil ?_
  | refine r_nDT rfl ?_
  | refine r_neB ?_
  | refine r_isB ?_
  | refine r_notB ?_
  | refine r_cmeth ?_
  | (refine' r_makeL ?he ?_; (case he => with_unfolding_all exact rfl))
  | refine r_isiB true (by decide +kernel) ?_
  | refine r_isiB false (by decide +kernel) ?_
  | refine r_callN ?_
  | refine r_andV ?_)

/-! ### enumerate over a tuple -/
open PySem.AutoSeq1 (wpAny_loadPart') in
theorem en_newT (p : Addr) (its : Array Value) (n : Nat) (dd : Option Addr) (sl : Array (Option Value)) :
    Meets (Builtin.«enumerate.__new__» ⟨[.type "enumerate", .ref p], []⟩) (fun _ R s => s.heap.get? p = some { cls := .type "tuple", dict := dd, data := .seq its n, slots := sl } ∧
      R (.ok (.ret (.ref (s.heap.push { cls := .type "tuple_iterator", data := .fields #[.ref p, .int 0 0] }).objs.size)))
        { s with heap := (s.heap.push { cls := .type "tuple_iterator", data := .fields #[.ref p, .int 0 0] }).push { cls := .type "enumerate", data := .fields #[.none, .bool false, .ref s.heap.objs.size, rawInt 0, .none, .none] } }) :=
  .of_wp fun prog w A R s h => by
    obtain ⟨hp, g, d, tk, os⟩ := s
    obtain ⟨hl, h⟩ := h
    have hsub := sub_enumerate
    have hT : Heap.IsTuple (Shared.heap ⟨hp, g, d, tk, os⟩) p its := ⟨_, hl, rfl, n, rfl⟩
    wp_walk using wpAny_loadPart' hl
    refine wpAny_stack_any fun st => wpAny_pure ?_
    split
    · rename_i c _ _ _ _ _
      cases (c == Value.type "enumerate") <;> (wp_walk using wpAny_loadPart' hl, wpAny_pyIter_tuple hT; exact ⟨_, rfl, h⟩)
    · wp_walk using wpAny_loadPart' hl, wpAny_pyIter_tuple hT
      exact ⟨_, rfl, h⟩
theorem en_callT {prog : Program} {w : World} {A : Around} {E : Value → Shared → Prop} {s : Shared} {p : Addr} {its : Array Value} {Q : Value → Shared → Prop} (hT : s.heap.IsTuple p its)
    (h : ∀ h', IsEnum h' (s.heap.objs.size + 1) s.heap.objs.size 0 .none → h'.IsTupleIter s.heap.objs.size p 0 → h'.objs.size = s.heap.objs.size + 2 →
      (∀ b o, s.heap.get? b = some o → h'.get? b = some o) → Q (.ref (s.heap.objs.size + 1)) { s with heap := h' }) : wpAny (model prog w) A (call (.type "enumerate") [.ref p]) Q E s := by
  obtain ⟨⟨c, dct, dt, sl⟩, hl, hc, n, hd⟩ := hT
  simp only at hc hd
  subst hc hd
  refine callType_new F.called_enumerate (by decide) (F.typeCall_enumerate_1 _) (F.newCall_enumerate_1 _) (fun obj => F.args_object_init_2 obj _) F.entry_enumerate_new (en_newT p its n dct sl) ⟨hl, ?_⟩
  generalize hg : s.heap.push { cls := .type "tuple_iterator", data := .fields #[.ref p, .int 0 0] } = g
  have hz : g.objs.size = s.heap.objs.size + 1 := by rw [← hg]; exact Heap.size_push ..
  show _ ∧ _
  rw [hz]
  have he : IsEnum (g.push { cls := .type "enumerate", data := .fields #[.none, .bool false, .ref s.heap.objs.size, rawInt 0, .none, .none] }) (s.heap.objs.size + 1) s.heap.objs.size 0 .none := by
    have q := Heap.get?_push_size g (o := { cls := .type "enumerate", data := .fields #[.none, .bool false, .ref s.heap.objs.size, rawInt 0, .none, .none] }) rfl
    rw [hz] at q
    exact q
  have hi : g.get? s.heap.objs.size = some { cls := .type "tuple_iterator", data := .fields #[.ref p, .int 0 0] } := by rw [← hg]; exact Heap.get?_push_size _ rfl
  refine ⟨⟨_, he, rfl⟩, h _ he ⟨_, Heap.get?_push_of_some _ hi, rfl, rfl⟩ (by rw [Heap.size_push, hz]) fun b o x => Heap.get?_push_of_some _ ?_⟩
  rw [← hg]
  exact Heap.get?_push_of_some _ x
/-- the tuple at a, each item in a new pair -/
def IteT (K : PySem.W.Frag) (a : Addr) : It :=
  ⟨fun i H => ∃ (xs : List V) (x : V), SqT K H a xs ∧ xs[i]? = some x, fun i H v H' => ∃ T x, v = .ref T ∧ H T = none ∧ H' = upd H T (.tup [.int (i : Nat), x]) ∧ ∀ xs, SqT K H a xs → xs[i]? = some x, fun i H => ∃ xs : List V, SqT K H a xs ∧ xs.length ≤ i⟩
theorem turn_enT {P : Program} {w : World} {K : PySem.W.Frag} {elts : List Expr} {kk : Nat} {tpos : Pos} (a e it : Addr) :
    Turn P w K (.Tuple elts kk tpos) (IteT K a) [e, it] e (fun i h => (∃ old, IsEnum h e it ((i : Nat) : Int) old) ∧ h.IsTupleIter it a i ∧ e ≠ it ∧ e ≠ a ∧ a ≠ it) where
  mem := by simp
  obj := fun i h st b hb => by
    obtain ⟨⟨old, he⟩, ⟨o, ho, hc, hd⟩, _⟩ := st
    rcases (by simpa using hb : b = e ∨ b = it) with z | z
    · rw [z]; exact ⟨_, he, fun v q => nomatch q⟩
    · rw [z]; exact ⟨o, ho, fun v q => by rw [hd] at q; cases q⟩
  keep := fun i h h' st k => let ⟨⟨old, he⟩, hi, hne⟩ := st; ⟨⟨old, k e (by simp) _ he⟩, hi.at fun o q => k it (by simp) o q, hne⟩
  item := by
    intro X hP hw hK hc i pins s σ H E I hf st hg
    subst hP hw hK
    obtain ⟨⟨old, he⟩, hit, hne, hea, hai⟩ := st
    obtain ⟨xs, x, hq, hx⟩ := hg
    obtain ⟨its, rv, p, hz⟩ := I.tuple hq
    obtain ⟨u, hu, ru⟩ := rv.get hx
    have hel : e < s.heap.objs.size := Heap.lt_size he
    have hil : it < s.heap.objs.size := by obtain ⟨_, q, _⟩ := hit; exact Heap.lt_size q
    have pT : s.heap.IsTuple a its.toArray := p
    have hlt : i < its.toArray.size := by
      have := (List.getElem?_eq_some_iff.mp hu).1
      simpa using this
    refine wpAny_pyNext_enum_itemD (Draws.tuple (A := X.A.in1) (show X.A.in1.handled = none from I.ok.hd hc) it a hai its.toArray) he ⟨hit, pT⟩ hlt hne (by simp [hne, hea]) fun v h' tk hv ho hst hT hsz hk => ?_
    have ev : v = u := by
      have q : its[i]? = some v := by simpa using hv
      rw [hu] at q
      exact (Option.some.inj q).symm
    subst ev
    refine ⟨_, rfl, wpAny_letOwnedTupleGo_enum (s := { s with heap := h', toks := tk + 1 }) ho fun h'' he' sb => ?_⟩
    have hT2 : h''.get? s.heap.objs.size = some { cls := .type "tuple", data := .seq #[.int i tk, v] } := (sb.2 _ (Nat.ne_of_gt hel)).trans hT
    have new : ObjOk X.prog X.w (upd H s.heap.objs.size (.tup [.int (i : Nat), x])) h'' s.heap.objs.size (.tup [.int (i : Nat), x]) :=
      ⟨by show 2 ≤ sizeLine; decide, [.int i tk, v], .cons ⟨_, rfl⟩ (.cons ru .nil), ⟨_, hT2, rfl, _, rfl⟩⟩
    have I1 : Inv X pins σ (upd H s.heap.objs.size (.tup [.int (i : Nat), x])) { s with heap := h'', toks := tk + 1 } :=
      I.turnedNew (ch := [e, it]) (fun b ob hb q => (sb.2 b (fun z => hb (by simp [z]))).trans (hk b ob (fun z => hb (by simp [z])) (fun z => hb (by simp [z])) q)) hf (Nat.le_refl _) new
    refine ⟨.ref s.heap.objs.size, _, I1, rfl, ⟨_, x, rfl, I.hok.fresh (Nat.le_refl _), rfl, fun ys hy => by rw [I.tuple_inj hy hq]; exact hx⟩, ⟨⟨v, ?_⟩, hst.1.at fun o q => (sb.2 it (Ne.symm hne)).trans q, hne, hea, hai⟩, fun b hb => ?_⟩
    · rw [show ((i + 1 : Nat) : Int) = (i : Int) + 1 by omega]; exact he'
    · have hb' : b < s.heap.objs.size := by
        rcases (by simpa using hb : b = e ∨ b = it) with z | z
        · rw [z]; exact hel
        · rw [z]; exact hil
      rw [upd_ne (Nat.ne_of_lt hb')]
      exact (hf b hb).1
  done := by
    intro X hP hw hK hc i pins s σ H E I hf st hg
    subst hP hw hK
    obtain ⟨⟨old, he⟩, hit, hne, hea, hai⟩ := st
    obtain ⟨xs, hq, hx⟩ := hg
    obtain ⟨its, rv, p, hz⟩ := I.tuple hq
    obtain ⟨f0, f1, f2, f3, f4, f5⟩ := hf it (by simp)
    have hl := rv.length
    have pT : s.heap.IsTuple a its.toArray := p
    unfold pyNext
    have hTy : s.TypeIs (.ref e) "enumerate" := ⟨_, he, rfl⟩
    refine wpAny_bind (wpAny_attempt (wpAny_callSpecial?_slot (name := Str.ofString "__next__") hTy F.slot_enumerate_next (wpAny_call_entry F.slot_enumerate_next hTy F.entry_enumerate_next ?_ (F.args_enumerate_next_1 _))))
    show wpAny _ _ (field (.ref e) 2 >>= _) _ _ _
    refine wpAny_bind (wpAny_field he rfl (x := .ref it) rfl ?_)
    refine wpAny_bind (wpAny_nextOf_tuple_end (I.ok.hd hc) hit pT (by simp; omega) fun h' x he' hx' => ?_)
    obtain ⟨o, ho, hcl⟩ := hx'
    refine wpAny_bind (wpAny_isInstance (T := "StopIteration") (b := true) ⟨o, ho, hcl⟩ isSubtype_stop ?_)
    exact wpAny_pure ⟨rfl, I.turned (t' := s.toks) (fun b o hb q => he' b o hb q) f0 f1 f3 f4 f5⟩
  self := fun A i s Q E st h => let ⟨⟨_, he⟩, _⟩ := st; wpAny_pyIter_enum he h
def iEnumS (K : PySem.W.Frag) (ta : TA) : TI := fun σ H R => ta σ H fun vs H1 => ∃ a xs, vs = [.ref a] ∧ ((SqL K H1 a xs ∧ R (Ite K a) H1) ∨ (SqT K H1 a xs ∧ R (IteT K a) H1))
theorem pi_enumS {X : Cx} {e : Expr} {ta : TA} {p pos tpos : Pos} {elts : List Expr} {kk : Nat} (hg : Gl X "enumerate") (hm : X.mg "enumerate" = none) (ha : PA X [e] ta) (hs : starEach [e] X.env = [(false, eval e X.env)] := by rfl) :
    PI X (.Tuple elts kk tpos) (.Call (.Name "enumerate" p) [e] [] pos) (iEnumS X.K ta) := by
  refine ⟨fun pins s σ H R I h => PyProof.Rows.Call_ (ld_blt I hg hm PyProof.Rows.boot_enumerate (PyProof.Rows.callWith_type1 (thn (ha.run pos pins s σ H _ I h) fun us s1 g => ?_) hs rfl))⟩
  obtain ⟨vs, H1, I1, r1, a, xs, rfl, g⟩ := g
  cases r1 with
  | cons r rr =>
    cases rr
    cases r
    have fresh : ∀ b ∈ [s1.heap.objs.size + 1, s1.heap.objs.size], s1.heap.objs.size ≤ b := fun b hb => by
      rcases (by simpa using hb : b = s1.heap.objs.size + 1 ∨ b = s1.heap.objs.size) with z | z <;> omega
    rcases g with ⟨hq, q⟩ | ⟨hq, q⟩
    · obtain ⟨its, rv, p', hz⟩ := I1.list hq
      refine call_enumerate_list p'.isList fun h' he hit hsz hk => wpAny_pyIter_enum he ?_
      exact ⟨s1.heap.objs.size + 1, [s1.heap.objs.size + 1, s1.heap.objs.size], _, _, H1, rfl, I1.kept (t' := s1.toks) hk, turn_enum a (s1.heap.objs.size + 1) s1.heap.objs.size, ⟨⟨.none, he⟩, hit, Nat.succ_ne_self _⟩, fun b hb => I1.fpOk (fresh b hb) (I1.hok.fresh (fresh b hb)), q⟩
    · obtain ⟨its, rv, p', hz⟩ := I1.tuple hq
      have pT : s1.heap.IsTuple a its.toArray := p'
      have hal : a < s1.heap.objs.size := by obtain ⟨o, ho, _⟩ := pT; exact Heap.lt_size ho
      refine en_callT pT fun h' he hit hsz hk => wpAny_pyIter_enum he ?_
      exact ⟨s1.heap.objs.size + 1, [s1.heap.objs.size + 1, s1.heap.objs.size], _, _, H1, rfl, I1.kept (t' := s1.toks) hk, turn_enT a (s1.heap.objs.size + 1) s1.heap.objs.size, ⟨⟨.none, he⟩, hit, Nat.succ_ne_self _, Nat.ne_of_gt (Nat.lt_succ_of_lt hal), Nat.ne_of_lt hal⟩, fun b hb => I1.fpOk (fresh b hb) (I1.hok.fresh (fresh b hb)), q⟩
theorem for_en {K : PySem.W.Frag} {a : Addr} {xs : List V} {g : TG} {tb : TS} {D : Ends} {σ : St} {H : Hp} (J : It) (Sq : Hp → List V → Prop) (hJ : J = Ite K a ∧ Sq = (fun H ys => SqL K H a ys) ∨ J = IteT K a ∧ Sq = (fun H ys => SqT K H a ys)) (Pv : Nat → St → Hp → Prop) (h0 : Pv 0 σ H) (hl : ∀ i σ H, i ≤ xs.length → Pv i σ H → Sq H xs)
    (hs : ∀ i x σ H T H', xs[i]? = some x → Pv i σ H → H T = none → H' = upd H T (.tup [.int (i : Nat), x]) → g (.ref T) σ H' fun σ2 H2 => tb { D with nx := Pv (i + 1), ct := Pv (i + 1), bk := D.nx } σ2 H2) (hd : ∀ σ H, Pv xs.length σ H → D.nx σ H) :
    ∃ W : Nat → Nat → St → Hp → Prop, (∃ m, W 0 m σ H) ∧ ∀ i m σ H, W i m σ H →
      (J.stop i H ∧ D.nx σ H) ∨ (J.go i H ∧ ∃ N : St → Hp → Prop, (∀ σ' H', N σ' H' → ∃ m', m' < m ∧ W (i + 1) m' σ' H') ∧ ∀ x H', J.yld i H x H' → g x σ H' fun σ2 H2 => tb { D with nx := N, ct := N, bk := D.nx } σ2 H2) := by
  refine ⟨fun i m σ H => m = xs.length - i ∧ i ≤ xs.length ∧ Pv i σ H, ⟨xs.length, by simp, Nat.zero_le _, h0⟩, ?_⟩
  rintro i m σ H ⟨rfl, hi, pv⟩
  have sq := hl i σ H hi pv
  by_cases hlt : i < xs.length
  · have hx : xs[i]? = some xs[i] := List.getElem?_eq_getElem hlt
    have hgo : J.go i H := by
      rcases hJ with ⟨rfl, rfl⟩ | ⟨rfl, rfl⟩
      · exact ⟨xs, _, sq, hx⟩
      · exact ⟨xs, _, sq, hx⟩
    refine .inr ⟨hgo, Pv (i + 1), fun σ' H' q => ⟨xs.length - (i + 1), by omega, rfl, hlt, q⟩, fun x H' y => ?_⟩
    have hy : ∃ T z, x = .ref T ∧ H T = none ∧ H' = upd H T (.tup [.int (i : Nat), z]) ∧ xs[i]? = some z := by
      rcases hJ with ⟨rfl, rfl⟩ | ⟨rfl, rfl⟩
      · obtain ⟨T, z, e1, e2, e3, e4⟩ := y; exact ⟨T, z, e1, e2, e3, e4 xs sq⟩
      · obtain ⟨T, z, e1, e2, e3, e4⟩ := y; exact ⟨T, z, e1, e2, e3, e4 xs sq⟩
    obtain ⟨T, z, rfl, e2, rfl, e4⟩ := hy
    exact hs i z σ H T _ e4 pv e2 rfl
  · have e : i = xs.length := by omega
    subst e
    refine .inl ⟨?_, hd σ H pv⟩
    rcases hJ with ⟨rfl, rfl⟩ | ⟨rfl, rfl⟩
    · exact ⟨xs, sq, Nat.le_refl _⟩
    · exact ⟨xs, sq, Nat.le_refl _⟩
theorem r_enS {K : PySem.W.Frag} {r : Addr} {xs : List V} {ta : TA} {g : TG} {tb : TS} {D : Ends} {σ : St} {H : Hp} (ha : ∀ QA : List V → Hp → Prop, QA [.ref r] H → ta σ H QA) (hq : SqL K H r xs ∨ SqT K H r xs) (Pv : Nat → St → Hp → Prop) (h0 : Pv 0 σ H) (hl : ∀ i σ H', Pv i σ H' → Same H H')
    (hs : ∀ i x σ H T H', xs[i]? = some x → Pv i σ H → H T = none → H' = upd H T (.tup [.int (i : Nat), x]) → g (.ref T) σ H' fun σ2 H2 => tb { D with nx := Pv (i + 1), ct := Pv (i + 1), bk := D.nx } σ2 H2) (hd : ∀ σ H, Pv xs.length σ H → D.nx σ H) :
    iEnumS K ta σ H fun J H1 => ∃ W : Nat → Nat → St → Hp → Prop, (∃ m, W 0 m σ H1) ∧ ∀ i m σ H, W i m σ H →
      (J.stop i H ∧ D.nx σ H) ∨ (J.go i H ∧ ∃ N : St → Hp → Prop, (∀ σ' H', N σ' H' → ∃ m', m' < m ∧ W (i + 1) m' σ' H') ∧ ∀ x H', J.yld i H x H' → g x σ H' fun σ2 H2 => tb { D with nx := N, ct := N, bk := D.nx } σ2 H2) := by
  refine ha _ ⟨r, xs, rfl, ?_⟩
  rcases hq with hq | hq
  · exact .inl ⟨hq, for_en _ _ (.inl ⟨rfl, rfl⟩) Pv h0 (fun i σ H' _ pv => Same.seq (hl i σ H' pv) hq) hs hd⟩
  · refine .inr ⟨hq, for_en _ _ (.inr ⟨rfl, rfl⟩) Pv h0 (fun i σ H' _ pv => ?_) hs hd⟩
    have s := hl i σ H' pv
    rcases hq with (h | ⟨o, h⟩) | h
    · exact .inl (.inl (s _ _ h))
    · exact .inl (.inr ⟨o, s _ _ h⟩)
    · exact .inr h

/-! ### sum of a tuple of ints -/
def rSumT (K : PySem.W.Frag) : List V → Hp → VK → Prop := fun vs H Q => ∃ (a : Addr) (ns : List Int), vs = [V.ref a] ∧ SqT K H a (ns.map V.int) ∧ Q (.int ns.sum) H
open PySem.W PyProof.Rows in
theorem cr_sumT {X : Cx} (hc : X.calm = true) : CallR X (.builtin "sum") (rSumT X.K) := by
  intro pins s σ H vs us Q I r h
  obtain ⟨a, ns, rfl, hs, q⟩ := h
  obtain ⟨its, rv, hl, _⟩ := I.tuple hs
  rw [Vals.ref1 r]
  have hi := rv.ints
  obtain ⟨xs, hx⟩ := hi.allInts.items
  have hn : numsOf its.toArray.toList = ns := by rw [show its.toArray.toList = its from rfl, hi.numsOf]
  rw [hx] at hl hn
  rw [nums_intItems] at hn
  refine ktm_sumG (I.ok.hd hc) hl fun h' tk t' hk => ?_
  rw [preSum_eq, List.take_of_length_le (by simp), hn]
  exact ⟨.int _, H, I.kept hk, ⟨_, rfl⟩, q⟩

/-! ### lines k * D + j * G = t -/
abbrev L3 := Int × Int × Int
def Solves (ls : List L3) (D G : Int) : Prop := ∀ l, l ∈ ls → l.1 * D + l.2.1 * G = l.2.2
/-- what lines of sightings are like -/
def LineIn (l : L3) : Prop := 0 ≤ l.1 ∧ l.1 ≤ 199 ∧ 0 ≤ l.2.1 ∧ l.2.1 ≤ 200000000000000000 ∧ (l.1 = 0 → l.2.1 = 0) ∧ 0 ≤ l.2.2 ∧ l.2.2 ≤ 100000000000000000000 ∧ l.2.2 ≤ (l.1 + l.2.1 + 1) * 1000000000
def LinesIn (ls : List L3) : Prop := ∀ l, l ∈ ls → LineIn l
def Zero (l : L3) : Prop := l.1 = 0 ∧ l.2.1 = 0 ∧ l.2.2 = 0
def Unl (a b : L3) : Prop := a.1 * b.2.1 ≠ b.1 * a.2.1
def Par (ls : List L3) : Prop := ∀ a b, a ∈ ls → b ∈ ls → a.1 * b.2.1 = b.1 * a.2.1
def No (ls : List L3) : Prop := ∀ D G : Int, 1 ≤ D → 1 ≤ G → ¬ Solves ls D G
def pos1 (l : L3) : Bool := decide (l.1 > 0)
def gcdI (a b : Int) : Int := ((Nat.gcd a.natAbs b.natAbs : Nat) : Int)
structure OneOk (ls : List L3) (D G : Int) : Prop where
  sol : Solves ls D G
  d1 : 1 ≤ D
  g1 : 1 ≤ G
  up : ∃ l, l ∈ ls ∧ 0 < l.1
  only : Par (ls.filter pos1) → ∀ l, (ls.filter pos1).head? = some l → D ≤ l.2.1 / gcdI l.1 l.2.1 ∧ G ≤ l.1 / gcdI l.1 l.2.1
structure LineOk (ls : List L3) (D G e f : Int) (c : Option Int) : Prop where
  sol : Solves ls D G
  d1 : 1 ≤ D
  g1 : 1 ≤ G
  up : ∃ l, l ∈ ls ∧ 0 < l.1
  par : Par ls
  one : gcdI e f = 1
  step : ∀ l, l ∈ ls → l.1 * e + l.2.1 * f = 0
  free : c = none → e = 0 ∧ f = 1 ∧ G = 1
  many : ∀ m, c = some m → 2 ≤ m ∧ m ≤ 1000000000000000000000 ∧ 1 ≤ e ∧ e ≤ 1000000000000000000 ∧ -1000 ≤ f ∧ f ≤ 1000 ∧ D ≤ e ∧ 1 ≤ G + (m - 1) * f ∧ G + (m - 1) * f + f < 1
theorem solves_step {ls : List L3} {D G e f m : Int} (h : Solves ls D G) (hs : ∀ l, l ∈ ls → l.1 * e + l.2.1 * f = 0) : Solves ls (D + m * e) (G + m * f) := fun l hl => by
  have h1 := h l hl
  have h2 := hs l hl
  have e1 : l.1 * (D + m * e) + l.2.1 * (G + m * f) = (l.1 * D + l.2.1 * G) + m * (l.1 * e + l.2.1 * f) := by
    rw [Int.mul_add, Int.mul_add, Int.mul_add, Int.mul_left_comm l.1 m e, Int.mul_left_comm l.2.1 m f]
    omega
  rw [e1, h1, h2, Int.mul_zero]
  omega
/-- of two unlike lines: at most one pair -/
theorem cramer {a b : L3} {D G : Int} (h1 : a.1 * D + a.2.1 * G = a.2.2) (h2 : b.1 * D + b.2.1 * G = b.2.2) : a.2.2 * b.2.1 - b.2.2 * a.2.1 = D * (a.1 * b.2.1 - b.1 * a.2.1) ∧ a.1 * b.2.2 - b.1 * a.2.2 = G * (a.1 * b.2.1 - b.1 * a.2.1) := by
  obtain ⟨k, j, t⟩ := a
  obtain ⟨m, i, u⟩ := b
  dsimp only at *
  subst h1
  subst h2
  constructor
  · rw [Int.add_mul, Int.add_mul, Int.mul_sub]
    rw [show k * D * i = D * (k * i) by rw [Int.mul_comm k D, Int.mul_assoc], show m * D * j = D * (m * j) by rw [Int.mul_comm m D, Int.mul_assoc], show i * G * j = j * G * i by rw [Int.mul_comm (i * G) j, Int.mul_comm i G, ← Int.mul_assoc]]
    omega
  · rw [Int.mul_add, Int.mul_add, Int.mul_sub]
    rw [show k * (i * G) = G * (k * i) by rw [← Int.mul_assoc, Int.mul_comm], show m * (j * G) = G * (m * j) by rw [← Int.mul_assoc, Int.mul_comm], show k * (m * D) = m * (k * D) by rw [Int.mul_left_comm]]
    omega
theorem ediv_of {x d y : Int} (hd : d ≠ 0) (h : x = y * d) : x / d = y := by
  rw [h]; exact Int.mul_ediv_cancel y hd
/-- the common divisor of a line -/
structure Com (k j c p q : Int) : Prop where
  c1 : 1 ≤ c
  hk : k = c * p
  hj : j = c * q
  p1 : 1 ≤ p
  q0 : 0 ≤ q
  co : ∀ m i : Int, k * i = m * j → 0 ≤ m → ∃ n, m = p * n ∧ i = q * n ∧ 0 ≤ n
  gc : gcdI p q = 1
theorem com_of {k j : Int} (hk : 0 < k) (hj : 0 ≤ j) : Com k j (gcdI k j) (k / gcdI k j) (j / gcdI k j) := by
  obtain ⟨K, rfl⟩ : ∃ K : Nat, k = K := ⟨k.toNat, by omega⟩
  obtain ⟨J, rfl⟩ : ∃ J : Nat, j = J := ⟨j.toNat, by omega⟩
  have e : gcdI (K : Int) (J : Int) = ((Nat.gcd K J : Nat) : Int) := rfl
  rw [e]
  have hK : 0 < K := by omega
  obtain ⟨C, hC⟩ : ∃ C, Nat.gcd K J = C := ⟨_, rfl⟩
  have hC0 : 0 < C := by rw [← hC]; exact Nat.gcd_pos_of_pos_left _ hK
  obtain ⟨p, hp⟩ : C ∣ K := by rw [← hC]; exact Nat.gcd_dvd_left _ _
  obtain ⟨q, hq⟩ : C ∣ J := by rw [← hC]; exact Nat.gcd_dvd_right _ _
  have hco : Nat.gcd p q = 1 := by
    have h1 : Nat.gcd (C * p) (C * q) = C * Nat.gcd p q := Nat.gcd_mul_left C p q
    rw [← hp, ← hq, hC] at h1
    exact (Nat.eq_of_mul_eq_mul_left hC0 (show C * 1 = C * Nat.gcd p q by omega)).symm
  rw [hC, hp, hq]
  have e1 : ((C * p : Nat) : Int) / (C : Int) = p := by rw [Int.natCast_mul]; exact Int.mul_ediv_cancel_left _ (by omega)
  have e2 : ((C * q : Nat) : Int) / (C : Int) = q := by rw [Int.natCast_mul]; exact Int.mul_ediv_cancel_left _ (by omega)
  rw [e1, e2]
  have hp0 : 0 < p := by
    rcases Nat.eq_zero_or_pos p with h | h
    · rw [h] at hp; omega
    · exact h
  refine ⟨by omega, Int.natCast_mul .., Int.natCast_mul .., by omega, by omega, fun m i h m0 => ?_, by show ((Nat.gcd p q : Nat) : Int) = 1; rw [hco]; rfl⟩
  obtain ⟨M, rfl⟩ : ∃ M : Nat, m = M := ⟨m.toNat, by omega⟩
  rw [Int.natCast_mul, Int.natCast_mul, Int.mul_assoc, Int.mul_left_comm (M : Int)] at h
  have h2 : (p : Int) * i = M * q := Int.eq_of_mul_eq_mul_left (show (C : Int) ≠ 0 by omega) h
  have hi0 : 0 ≤ i := by
    by_cases c : 0 ≤ i
    · exact c
    · have h3 : (p : Int) * i < 0 := Int.mul_neg_of_pos_of_neg (by omega) (by omega)
      have h4 : 0 ≤ (M : Int) * q := Int.mul_nonneg (by omega) (by omega)
      omega
  obtain ⟨I, rfl⟩ : ∃ I : Nat, i = I := ⟨i.toNat, by omega⟩
  have h3 : p * I = M * q := by
    have : ((p * I : Nat) : Int) = ((M * q : Nat) : Int) := by rw [Int.natCast_mul, Int.natCast_mul]; exact h2
    exact Int.ofNat.inj this
  have h4 : p ∣ M := (Nat.Coprime.dvd_of_dvd_mul_right (n := q) hco ⟨I, h3.symm⟩)
  obtain ⟨n, rfl⟩ := h4
  refine ⟨n, Int.natCast_mul .., ?_, by omega⟩
  have h5 : p * I = p * (q * n) := by rw [h3, Nat.mul_assoc, Nat.mul_comm n q]
  have := Nat.eq_of_mul_eq_mul_left hp0 h5
  rw [this]; exact Int.natCast_mul ..
theorem No.zero {ls : List L3} {l : L3} (hl : l ∈ ls) (h1 : l.1 = 0) (h2 : l.2.1 = 0) (h3 : l.2.2 ≠ 0) : No ls := fun D G _ _ h => by
  have := h l hl
  rw [h1, h2, Int.zero_mul, Int.zero_mul] at this
  omega
/-- the lines that are not (0, 0, 0) -/
def nz (l : L3) : Bool := decide (l ≠ (0, 0, 0))
theorem nz_iff {l : L3} : nz l = true ↔ l ≠ (0, 0, 0) := decide_eq_true_iff
theorem solves_nz {ls : List L3} {D G : Int} : Solves (ls.filter nz) D G ↔ Solves ls D G := by
  constructor
  · intro h l hl
    by_cases c : nz l = true
    · exact h l (List.mem_filter.mpr ⟨hl, c⟩)
    · have : l = (0, 0, 0) := Classical.byContradiction fun z => c (nz_iff.mpr z)
      rw [this]
      show 0 * D + 0 * G = 0
      simp
  · exact fun h l hl => h l (List.mem_filter.mp hl).1
theorem No.nz {ls : List L3} (h : No (ls.filter nz)) : No ls := fun D G d g hs => h D G d g (solves_nz.mpr hs)
theorem fdiv_of {x d y : Int} (hd : d ≠ 0) (h : x = y * d) : x.fdiv d = y := by
  rw [h]; exact Int.mul_fdiv_cancel y hd
/-- two unlike lines: what is told by them -/
theorem two_pair {ls : List L3} {a b : L3} {D G : Int} (ha : a ∈ ls) (hb : b ∈ ls) (hu : a.1 * b.2.1 - b.1 * a.2.1 ≠ 0) (hs : Solves ls D G) : (a.2.2 * b.2.1 - b.2.2 * a.2.1).fdiv (a.1 * b.2.1 - b.1 * a.2.1) = D ∧ (a.1 * b.2.2 - b.1 * a.2.2).fdiv (a.1 * b.2.1 - b.1 * a.2.1) = G := by
  obtain ⟨h1, h2⟩ := cramer (hs a ha) (hs b hb)
  exact ⟨fdiv_of hu h1, fdiv_of hu h2⟩
/-- one line: the pairs on it -/
theorem line_low {p q t D G : Int} (hq : 0 < q) (h : p * D + q * G = t) (hD : 1 ≤ D) (hp : 1 ≤ p) : G ≤ (t - p) / q := by
  rw [Int.le_ediv_iff_mul_le hq, Int.mul_comm]
  have : p * 1 ≤ p * D := Int.mul_le_mul_of_nonneg_left hD (by omega)
  omega
theorem line_high {p q t D G : Int} (hq : 0 < q) (h : p * D + q * G = t) (hp : 1 ≤ p) (hG : (t - p) / q - p < G) : D ≤ q := by
  have h1 := Int.lt_ediv_add_one_mul_self (t - p) hq
  have h2 : ((t - p) / q + 1) * q ≤ (G + p) * q := Int.mul_le_mul_of_nonneg_right (by omega) (by omega)
  have h3 : (G + p) * q = q * G + p * q := by rw [Int.add_mul, Int.mul_comm G]
  have h4 : p * D < p * (q + 1) := by rw [Int.mul_add, Int.mul_one]; omega
  have := Int.lt_of_mul_lt_mul_left h4 (by omega)
  omega
/-- among p gaps in a row one fits -/
theorem line_hit {p q t D G : Int} (hp : 1 ≤ p) (hq : 0 < q) (h : p * D + q * G = t) (hD : 1 ≤ D) (hG : 1 ≤ G) (m : Int) (hm : (t - p) / q = m) : ∃ g, (if m - p > 0 then m - p else 0) < g ∧ g ≤ m ∧ (t - q * g) % p = 0 := by
  have hle := line_low hq h hD hp
  rw [hm] at hle
  -- G lifted by a multiple of p
  have h1 := Int.ediv_mul_le (m - G) (show p ≠ 0 by omega)
  have h2 := Int.lt_ediv_add_one_mul_self (m - G) (show 0 < p by omega)
  have h0 : 0 ≤ (m - G) / p := Int.ediv_nonneg (by omega) (by omega)
  have h3 : 0 ≤ (m - G) / p * p := Int.mul_nonneg h0 (by omega)
  refine ⟨G + (m - G) / p * p, by rw [Int.add_mul] at h2; split <;> omega, by omega, ?_⟩
  have e : t - q * (G + (m - G) / p * p) = p * (D - q * ((m - G) / p)) := by
    rw [Int.mul_add, Int.mul_sub, ← h, ← Int.mul_assoc q, Int.mul_comm _ p, ← Int.mul_assoc p q]
    omega
  rw [e, Int.mul_emod_right]
/-- all lines are multiples of the first -/
theorem mult_solves {ls : List L3} {k j c p q w D G : Int} (hc : Com k j c p q) (hi : LinesIn ls) (hpar : ∀ l, l ∈ ls → k * l.2.1 = l.1 * j) (hw : ∀ l, l ∈ ls → w * (l.1 / p) = l.2.2) (h : p * D + q * G = w) : Solves ls D G := fun l hl => by
  obtain ⟨n, h1, h2, h3⟩ := hc.co l.1 l.2.1 (hpar l hl) (hi l hl).1
  have h4 := hw l hl
  rw [h1, Int.mul_ediv_cancel_left _ (show p ≠ 0 by have := hc.p1; omega)] at h4
  rw [← h4, ← h, h1, h2, Int.add_mul]
  rw [Int.mul_right_comm p n D, Int.mul_right_comm q n G]
theorem mult_of {ls : List L3} {k j t c p q D G : Int} (hc : Com k j c p q) (hi : LinesIn ls) (hpar : ∀ l, l ∈ ls → k * l.2.1 = l.1 * j) (hm : ((k, j, t) : L3) ∈ ls) (h : Solves ls D G) : p * D + q * G = t / c ∧ ∀ l, l ∈ ls → t / c * (l.1 / p) = l.2.2 := by
  have h1 := h _ hm
  dsimp only at h1
  have e : t = (p * D + q * G) * c := by
    rw [← h1, hc.hk, hc.hj, Int.add_mul, Int.mul_comm _ c, Int.mul_comm _ c, Int.mul_assoc, Int.mul_assoc]
  have e2 : t / c = p * D + q * G := by rw [e]; exact Int.mul_ediv_cancel _ (by have := hc.c1; omega)
  refine ⟨e2.symm, fun l hl => ?_⟩
  obtain ⟨n, g1, g2, g3⟩ := hc.co l.1 l.2.1 (hpar l hl) (hi l hl).1
  have g4 := h l hl
  rw [e2, ← g4, g1, g2, Int.mul_ediv_cancel_left _ (show p ≠ 0 by have := hc.p1; omega), Int.add_mul]
  rw [Int.mul_right_comm p n D, Int.mul_right_comm q n G]
inductive Told
  | any
  | no
  | one (D G : Int)
  | line (D G e f : Int) (c : Option Int)
structure OnLine (p q w D G e f : Int) (c : Option Int) : Prop where
  sol : p * D + q * G = w
  d1 : 1 ≤ D
  g1 : 1 ≤ G
  one : gcdI e f = 1
  step : p * e + q * f = 0
  free : c = none → e = 0 ∧ f = 1 ∧ G = 1
  many : ∀ m, c = some m → 2 ≤ m ∧ m ≤ 1000000000000000000000 ∧ 1 ≤ e ∧ e ≤ 1000000000000000000 ∧ -1000 ≤ f ∧ f ≤ 1000 ∧ D ≤ e ∧ 1 ≤ G + (m - 1) * f ∧ G + (m - 1) * f + f < 1
/-- what is told of one line -/
def LineTold (p q w : Int) : Told → Prop
  | .any => False
  | .no => ∀ D G : Int, 1 ≤ D → 1 ≤ G → p * D + q * G ≠ w
  | .one D G => p * D + q * G = w ∧ 1 ≤ D ∧ 1 ≤ G ∧ D ≤ q ∧ G ≤ p
  | .line D G e f c => OnLine p q w D G e f c
def ToldOk (ls : List L3) : Told → Prop
  | .any => ∀ l, l ∈ ls → l = (0, 0, 0)
  | .no => No ls ∧ ∃ l, l ∈ ls ∧ l ≠ (0, 0, 0)
  | .one D G => OneOk ls D G
  | .line D G e f c => LineOk ls D G e f c
theorem pos_of_nz {l : L3} (hi : LineIn l) (h1 : 0 < l.1) : nz l = true := nz_iff.mpr fun z => by rw [z] at h1; exact absurd h1 (by decide)
theorem gcdI_comm (a b : Int) : gcdI a b = gcdI b a := by unfold gcdI; rw [Nat.gcd_comm]
theorem gcdI_neg (a b : Int) : gcdI a (-b) = gcdI a b := by unfold gcdI; rw [Int.natAbs_neg]
/-- what is told of the common line, told of all lines -/
theorem told_mult {ls : List L3} {k j t c p q : Int} {r : Told} (hi : LinesIn ls) (hc : Com k j c p q) (hpos : ∀ l, l ∈ ls.filter nz → 0 < l.1) (hpar : ∀ l, l ∈ ls.filter nz → k * l.2.1 = l.1 * j) (hm : ((k, j, t) : L3) ∈ ls.filter nz) (hw : ∀ l, l ∈ ls.filter nz → t / c * (l.1 / p) = l.2.2) (h : LineTold p q (t / c) r) : ToldOk ls r := by
  have hif : LinesIn (ls.filter nz) := fun l hl => hi l (List.mem_filter.mp hl).1
  have hk : 0 < k := hpos _ hm
  have mfull := (List.mem_filter.mp hm).1
  have hfil : ls.filter pos1 = ls.filter nz := by
    refine List.filter_congr fun l hl => ?_
    by_cases c1 : nz l = true
    · rw [c1]
      exact decide_eq_true (hpos l (List.mem_filter.mpr ⟨hl, c1⟩))
    · have e : l = (0, 0, 0) := Classical.byContradiction fun z => c1 (nz_iff.mpr z)
      rw [e]; decide
  have mult : ∀ l, l ∈ ls → ∃ n, l.1 = p * n ∧ l.2.1 = q * n ∧ 0 ≤ n := fun l hl => by
    by_cases c1 : nz l = true
    · have hf := List.mem_filter.mpr ⟨hl, c1⟩
      exact hc.co l.1 l.2.1 (hpar l hf) (hi l hl).1
    · have e : l = (0, 0, 0) := Classical.byContradiction fun z => c1 (nz_iff.mpr z)
      rw [e]
      exact ⟨0, by simp, by simp, Int.le_refl _⟩
  have sol : ∀ D G : Int, p * D + q * G = t / c → Solves ls D G := fun D G h => solves_nz.mp (mult_solves hc hif hpar hw h)
  cases r with
  | any => exact h.elim
  | no =>
    refine ⟨fun D G d g hs => h D G d g (mult_of hc hif hpar hm (solves_nz.mpr hs)).1, _, mfull, fun z => ?_⟩
    have : k = 0 := congrArg Prod.fst z
    omega
  | one D G =>
    obtain ⟨h1, h2, h3, h4, h5⟩ := h
    refine ⟨sol D G h1, h2, h3, ⟨_, mfull, hk⟩, fun _ l hl => ?_⟩
    have hl1 : l ∈ ls.filter pos1 := List.mem_of_head? hl
    have hlp : 0 < l.1 := of_decide_eq_true (List.mem_filter.mp hl1).2
    obtain ⟨n, g1, g2, g3⟩ := mult l (List.mem_filter.mp hl1).1
    have hn : 1 ≤ n := by
      by_cases z : n = 0
      · rw [z, Int.mul_zero] at g1; omega
      · omega
    have eg : gcdI l.1 l.2.1 = n := by
      rw [g1, g2]
      have := hc.gc
      unfold gcdI at this ⊢
      rw [Int.natAbs_mul, Int.natAbs_mul, Nat.gcd_mul_right, Int.ofNat.inj (show ((Nat.gcd p.natAbs q.natAbs : Nat) : Int) = ((1 : Nat) : Int) from this), Nat.one_mul]
      omega
    rw [eg, g1, g2, Int.mul_ediv_cancel _ (show n ≠ 0 by omega), Int.mul_ediv_cancel _ (show n ≠ 0 by omega)]
    exact ⟨h4, h5⟩
  | line D G e f m =>
    refine ⟨sol D G h.sol, h.d1, h.g1, ⟨_, mfull, hk⟩, fun a b ha hb => ?_, h.one, fun l hl => ?_, h.free, h.many⟩
    · obtain ⟨n, g1, g2, _⟩ := mult a ha
      obtain ⟨i, f1, f2, _⟩ := mult b hb
      rw [g1, g2, f1, f2, Int.mul_assoc, Int.mul_assoc, Int.mul_left_comm n q i, Int.mul_left_comm i q n, Int.mul_comm n i]
    · obtain ⟨n, g1, g2, _⟩ := mult l hl
      rw [g1, g2, Int.mul_right_comm, Int.mul_right_comm q, ← Int.add_mul, h.step, Int.zero_mul]

theorem lay_ints : ∀ xs : List Int, PyData.canLayAll0 (xs.map PyData.int) = true
  | [] => rfl
  | x :: xs => by
    show (true && PyData.canLayAll0 (xs.map PyData.int)) = true
    rw [lay_ints xs]; rfl
theorem dep_ints : ∀ xs : List Int, PyData.depthAll (xs.map PyData.int) ≤ 1
  | [] => by decide
  | x :: xs => by
    have := dep_ints xs
    show max (PyData.depth (.int x)) (PyData.depthAll (xs.map PyData.int)) ≤ 1
    have h : PyData.depth (.int x) ≤ 1 := Nat.zero_le 1
    exact Nat.max_le.mpr ⟨h, this⟩
theorem sh_tints (xs : List Int) : SeqAt.shaped (.tuple (xs.map PyData.int)) = true := by
  have h1 := lay_ints xs
  have h2 := dep_ints xs
  have h3 : (PyData.tuple (xs.map PyData.int)).depth ≤ 64 := by
    show _ + _ ≤ 64
    omega
  show (PyData.canLayAll0 (xs.map PyData.int) && decide ((PyData.tuple (xs.map PyData.int)).depth ≤ 64)) = true
  rw [h1, decide_eq_true h3]; rfl
theorem r_neT0 {K : PySem.W.Frag} {H : Hp} {Q : VK} {p q : Addr} {xs : List Int} (h1 : H p = some (.tup (xs.map V.int))) (h2 : H q = some (.tup (xs.map V.int))) (k : Q (.bl false) H) : rNeD K (.ref p) (.ref q) H Q := by
  refine ⟨_, _, .tup (SqT.of h1) (dp_ints xs), .tup (SqT.of h2) (dp_ints xs), sh_tints xs, sh_tints xs, ?_⟩
  rw [show PyData.eqv (.tuple (xs.map PyData.int)) (.tuple (xs.map PyData.int)) = true from (eq_ints (xs := xs) (ys := xs)).trans (by simp)]
  exact k

/-! ### sightings -/
theorem not_whole (z : V) (zs : List V) : ¬ (HT.sIx (z :: zs).length 0 (some 1) = 0 ∧ HT.sIx (z :: zs).length (z :: zs).length none = (z :: zs).length) := by
  intro h
  have h := h.1
  simp [HT.sIx] at h
theorem cut_one (z : V) (zs : List V) : cutV (z :: zs) (some 1) none = zs := by
  unfold cutV
  simp [HT.sIx]
theorem r_isiTu {K : PySem.W.Frag} {H : Hp} {Q : VK} {p : Addr} {xs : List V} {n : String} (b : Bool) (h : H p = some (.tup xs)) (hk : kitB "tuple" n = some b) (q : Q (.bl b) H) : rIsi K [.ref p, .ty n] H Q := r_isi (.base (.tup h)) (kit_ty hk) q
theorem sl_tupK {X : Cx} {K : PySem.W.Frag} (hK : X.K = K) : SlR X (rSlT K) := by subst hK; exact sl_tup
theorem cr_sumTK {X : Cx} {K : PySem.W.Frag} (hK : X.K = K) (hc : X.calm = true) : CallR X (.builtin "sum") (rSumT K) := by subst hK; exact cr_sumT hc
theorem op_neDK {X : Cx} {K : PySem.W.Frag} (hK : X.K = K) (hu : X.A.units + 64 < cLine) : OpR X (compareOp .NotEq) (rNeD K) := by subst hK; exact op_neD hu
abbrev Row := List Int × Int
def lineOf (r : Row) : L3 := (r.1.length, r.1.sum, r.2)
structure RowOk (r : Row) : Prop where
  len : r.1.length ≤ 199
  items : ∀ z, z ∈ r.1 → 0 ≤ z ∧ z ≤ 1000000000000000
  t0 : 0 ≤ r.2
  t9 : r.2 ≤ 100000000000000000000
  small : r.2 ≤ ((r.1.length : Int) + r.1.sum + 1) * 1000000000
def RowAt (H : Hp) (x : V) (r : Row) : Prop := ∃ t p : Addr, x = .ref t ∧ H t = some (.tup [.ref p, .int r.2]) ∧ H p = some (.tup (.int 0 :: r.1.map V.int))
theorem RowAt.keep {H H' : Hp} {x : V} {r : Row} (h : RowAt H x r) (s : Same H H') : RowAt H' x r := let ⟨t, p, e, h1, h2⟩ := h; ⟨t, p, e, s _ _ h1, s _ _ h2⟩
def RowsAt (H : Hp) (xs : List V) (rs : List Row) : Prop := xs.length = rs.length ∧ ∀ (i : Nat) (r : Row), rs[i]? = some r → ∃ x, xs[i]? = some x ∧ RowAt H x r
theorem RowsAt.keep {H H' : Hp} {xs : List V} {rs : List Row} (h : RowsAt H xs rs) (s : Same H H') : RowsAt H' xs rs := ⟨h.1, fun i r hr => let ⟨x, e, z⟩ := h.2 i r hr; ⟨x, e, z.keep s⟩⟩
theorem RowsAt.get {H : Hp} {xs : List V} {rs : List Row} {i : Nat} {x : V} (h : RowsAt H xs rs) (hx : xs[i]? = some x) : ∃ r, rs[i]? = some r ∧ RowAt H x r := by
  obtain ⟨r, hr⟩ : ∃ r, rs[i]? = some r := ⟨_, List.getElem?_eq_getElem (by have := (List.getElem?_eq_some_iff.mp hx).1; rw [h.1] at this; exact this)⟩
  obtain ⟨y, e, z⟩ := h.2 i r hr
  obtain rfl : x = y := Option.some.inj (hx.symm.trans e)
  exact ⟨r, hr, z⟩
theorem sum_rng : ∀ zs : List Int, (∀ z, z ∈ zs → 0 ≤ z ∧ z ≤ 1000000000000000) → 0 ≤ zs.sum ∧ zs.sum ≤ zs.length * 1000000000000000
  | [], _ => ⟨Int.le_refl _, by simp⟩
  | z :: zs, h => by
    obtain ⟨h1, h2⟩ := sum_rng zs fun y hy => h y (List.mem_cons_of_mem _ hy)
    have h3 := h z (List.mem_cons_self ..)
    rw [List.sum_cons, List.length_cons, Int.natCast_add, Int.add_mul]
    omega
theorem RowOk.line {r : Row} (h : RowOk r) : LineIn (lineOf r) := by
  have h1 := sum_rng r.1 h.items
  have h2 := h.len
  refine ⟨by show (0 : Int) ≤ (r.1.length : Int); omega, by show ((r.1.length : Nat) : Int) ≤ 199; omega, h1.1, by show r.1.sum ≤ _; omega, fun e => ?_, h.t0, h.t9, h.small⟩
  have e : ((r.1.length : Nat) : Int) = 0 := e
  have : r.1 = [] := List.length_eq_zero_iff.mp (by omega)
  show r.1.sum = 0
  rw [this]; rfl
def triV (l : L3) : List V := [.int l.1, .int l.2.1, .int l.2.2]
def TrisAt (H : Hp) (xs : List V) (ls : List L3) : Prop := xs.length = ls.length ∧ ∀ (i : Nat) (l : L3), ls[i]? = some l → ∃ t : Addr, xs[i]? = some (.ref t) ∧ H t = some (.tup (triV l))
theorem TrisAt.keep {H H' : Hp} {xs : List V} {ls : List L3} (h : TrisAt H xs ls) (s : Same H H') : TrisAt H' xs ls := ⟨h.1, fun i g hg => let ⟨t, e, z⟩ := h.2 i g hg; ⟨t, e, s _ _ z⟩⟩
theorem TrisAt.upd {H : Hp} {L : Addr} {zs xs : List V} {o : HO} {ls : List L3} (h : TrisAt H xs ls) (e : H L = some (.lst zs)) : TrisAt (L2.upd H L o) xs ls := ⟨h.1, fun i g hg => let ⟨t, e1, z⟩ := h.2 i g hg; ⟨t, e1, (upd_ne (fun y => by rw [y, e] at z; cases z)).trans z⟩⟩
theorem TrisAt.nil {H : Hp} : TrisAt H [] [] := ⟨rfl, fun i g h => by simp at h⟩
theorem TrisAt.snoc {H : Hp} {xs : List V} {ls : List L3} {t : Addr} {g : L3} (h : TrisAt H xs ls) (e : H t = some (.tup (triV g))) : TrisAt H (xs ++ [.ref t]) (ls ++ [g]) := ⟨by rw [List.length_append, List.length_append, h.1]; rfl, fun i g' hg => by
  by_cases hi : i < ls.length
  · rw [List.getElem?_append_left hi] at hg
    rw [List.getElem?_append_left (by rw [h.1]; exact hi)]
    exact h.2 i g' hg
  · have hl := (List.getElem?_eq_some_iff.mp hg).1
    rw [List.length_append, List.length_singleton] at hl
    obtain rfl : i = ls.length := by omega
    rw [List.getElem?_append_right (Nat.le_refl _), Nat.sub_self] at hg
    obtain rfl : g = g' := by simpa using hg
    exact ⟨t, by rw [← h.1, List.getElem?_append_right (Nat.le_refl _), Nat.sub_self]; rfl, e⟩⟩
theorem TrisAt.get {H : Hp} {xs : List V} {ls : List L3} {i : Nat} {x : V} (h : TrisAt H xs ls) (hx : xs[i]? = some x) : ∃ (t : Addr) (l : L3), x = .ref t ∧ ls[i]? = some l ∧ H t = some (.tup [.int l.1, .int l.2.1, .int l.2.2]) := by
  obtain ⟨l, hl⟩ : ∃ l, ls[i]? = some l := ⟨_, List.getElem?_eq_getElem (by have := (List.getElem?_eq_some_iff.mp hx).1; rw [h.1] at this; exact this)⟩
  obtain ⟨t, e, z⟩ := h.2 i l hl
  exact ⟨t, l, Option.some.inj (hx.symm.trans e), hl, z⟩
def spWrongN : Sp := fun vs H Q _ => ∃ (p r : Addr) (zs : List Int), vs = [.ref p, .non, .ref r] ∧ H p = some (.tup (.int 0 :: zs.map V.int)) ∧ H r = some (.tup [.int 0]) ∧ zs.length ≤ 199 ∧ (∀ z, z ∈ zs → 0 ≤ z ∧ z ≤ 1000000000000000) ∧ ∀ H', Same H H' → Q .non H'
def spIsSight : Sp := fun vs H Q _ => ∃ (x : V) (r : Row), vs = [x] ∧ RowAt H x r ∧ RowOk r ∧ ∀ H', Same H H' → Q (.bl true) H'
def spCheckS : Sp := fun vs H Q _ => ∃ (p : Addr) (xs : List V) (rs : List Row), vs = [.ref p] ∧ H p = some (.lst xs) ∧ RowsAt H xs rs ∧ (∀ r, r ∈ rs → RowOk r) ∧ rs.length ≤ 60 ∧ ∀ H', Same H H' → Q .non H'
def spSums : Sp := fun vs H Q _ => ∃ (p : Addr) (xs : List V) (rs : List Row), vs = [.ref p] ∧ H p = some (.lst xs) ∧ RowsAt H xs rs ∧ (∀ r, r ∈ rs → RowOk r) ∧ rs.length ≤ 60 ∧ ∀ q ys H', Same H H' → H' q = some (.lst ys) → TrisAt H' ys (rs.map lineOf) → Q (.ref q) H'
def spFits : Sp := fun vs H Q _ => ∃ (p : Addr) (xs : List V) (ls : List L3) (D G : Int), vs = [.ref p, .int D, .int G] ∧ H p = some (.lst xs) ∧ TrisAt H xs ls ∧ LinesIn ls ∧ ∀ b : Bool, (b = true ↔ Solves ls D G) → Q (.bl b) H
section
variable {P : Program} {w : World} {K : PySem.W.Frag} {mg : Str → Option Value} {base : Heap} {a : Adr}
theorem ok_wrong_in_name (T : Txt K mg a) : FnOk P w K mg base CX0 4 a.a_wrong_in_name a.d_wrong_in_name ["thing", "turns", "roots"] spWrongN := by
  refine T.F_wrong_in_name.ok sc_wrong_in_name (fun vs H Q E h => ?_) (fun cdv A outer s H vs Q E hr h => ?_)
  · obtain ⟨p, r, zs, rfl, _⟩ := h
    rfl
  · obtain ⟨p, r, zs, rfl, ep, er, hl, hz, k⟩ := h
    refine ⟨_, (pss_cons (ps_if (PW.pt (pw_or (pt_not (pt_val (pe_callB call_isi (by rfl) T.n_isinstance (by decide +kernel) (pa_cons (pv 0) (pa_cons (pe_bltn (v := .ty "tuple") (u := .type "tuple") (by rfl) T.n_tuple (by decide +kernel) rfl) pa_nil))))) (pw_or1 (pt_not (pt_chain op_le op_le pe_int (pe_callB call_len_seq (by rfl) T.n_len (by decide +kernel) (pa_cons (pv 0) pa_nil)) (pe_glob (v := .int 200) (by rfl) T.g_LONGEST_NAME.choose_spec ⟨_, rfl⟩)))))) (pss_one (ps_ret (pe_un un_neg pe_int)))
 pss_nil)
 (pss_cons (ps_set (i := 3) sc_wrong_in_name.nd rfl (Or.inl rfl) (pe_ifExp (pt_cmpR op_isNo (pv 1) pe_non (nomark _)) (pe_glob (v := .int 1000000000000000) (by rfl) T.g_GREATEST_ITEM.choose_spec ⟨_, rfl⟩) (pe_op op_sub (pv 1) pe_int)))
 (pss_cons (ps_for (by exact PassesOwn.never) rfl (pi_enumS (by rfl) T.n_enumerate (pa_cons (pv 0) pa_nil)) (pg_tup (by rfl) (pgs_cons (pg_name (i := 4) sc_wrong_in_name.nd rfl (Or.inl rfl)) (pgs_cons (pg_name (i := 5) sc_wrong_in_name.nd rfl (Or.inl rfl)) pgs_nil)))
 (pss_one (ps_if (pt_not (pt_val (pe_call (ok_is_between T) (hr.mono (by decide)) (by rfl) T.g_is_between T.F_is_between.kp T.b_is_between .nil pass0 (pa_cons (pv 5) (pa_cons pe_int (pa_cons (pe_ifExp (pt_cmpR op_eq (pv 4) pe_int (nomark _)) (pe_op op_sub (pe_callB call_len_seq (by rfl) T.n_len (by decide +kernel) (pa_cons (pv 2) pa_nil)) pe_int) (pv 3)) pa_nil)))))) (pss_one (ps_ret (pv 4)))
 pss_nil)))
 (pss_one (ps_ret pe_non))))), ?_⟩
    walk_at "rdi"
    repeat walk_at "rd"
    refine r_isiTu true ep (by decide +kernel) ?_
    repeat walk_at "rd"
    have hlen : ((V.int 0 :: zs.map V.int).length : Int) = zs.length + 1 := by rw [List.length_cons, List.length_map]; omega
    rw [hlen]
    refine ite_tt (by omega) ?_
    repeat walk_at "rd"
    refine r_nDT (by omega) ?_
    repeat walk_at "rd"
    refine r_enS (xs := .int 0 :: zs.map V.int) (by intro QA q; (repeat walk_at "rd"); exact q) (.inr (SqT.of ep)) (fun i σ H1 => ∃ v5 v6 : Option V, σ = [some (.ref p), some .non, some (.ref r), some (.int 1000000000000000), v5, v6] ∧ Same H H1) ⟨_, _, rfl, Same.refl _⟩ (fun i σ H' ⟨_, _, _, s⟩ => s) ?_ ?_
    · rintro i x σ H2 u2 H3 hx ⟨v5, v6, rfl, s2⟩ nu2 rfl
      have s3 : Same H (upd H2 u2 (.tup [.int (i : Nat), x])) := s2.trans (Same.new nu2)
      have er := s3 _ _ er
      obtain ⟨z, hz1, rfl⟩ := int_of_get (ns := 0 :: zs) hx
      repeat walk_at "rd"
      refine ite_d (fun i0 => ?_) (fun i0 => ?_)
      · obtain rfl : i = 0 := by omega
        obtain rfl : 0 = z := by simpa using hz1
        repeat walk_at "rd"
        refine r_between ?_
        repeat walk_at "rd"
        refine r_nDT (by decide) ?_
        repeat first | exact ⟨_, _, rfl, s3⟩ | walk_at "rd"
      · have hzz : z ∈ zs := by
          cases i with
          | zero => exact absurd rfl i0
          | succ i => exact List.mem_iff_getElem?.mpr ⟨i, by simpa using hz1⟩
        repeat walk_at "rd"
        refine r_between ?_
        repeat walk_at "rd"
        refine r_nDT (hz z hzz) ?_
        repeat first | exact ⟨_, _, rfl, s3⟩ | walk_at "rd"
    · rintro σ H2 ⟨v5, v6, rfl, s2⟩
      repeat first | exact k _ s2 | walk_at "rd"
theorem ok_is_sighting (T : Txt K mg a) : FnOk P w K mg base CX0 5 a.a_is_sighting a.d_is_sighting ["thing"] spIsSight := by
  refine T.F_is_sighting.ok sc_is_sighting (fun vs H Q E h => ?_) (fun cdv A outer s H vs Q E hr h => ?_)
  · obtain ⟨x, r, rfl, _⟩ := h
    rfl
  · obtain ⟨x, r, rfl, ⟨t, p, rfl, e1, e2⟩, hok, k⟩ := h
    refine ⟨_, (pss_cons (ps_if (PW.pt (pw_or (pt_not (pt_val (pe_callB call_isi (by rfl) T.n_isinstance (by decide +kernel) (pa_cons (pv 0) (pa_cons (pe_bltn (v := .ty "tuple") (u := .type "tuple") (by rfl) T.n_tuple (by decide +kernel) rfl) pa_nil))))) (pw_or1 (pt_cmpR op_ne (pe_callB call_len_seq (by rfl) T.n_len (by decide +kernel) (pa_cons (pv 0) pa_nil)) pe_int (nomark _))))) (pss_one (ps_ret pe_bl))
 pss_nil)
 (pss_cons (ps_asg (pv 0) (pg_tup (by rfl) (pgs_cons (pg_name (i := 1) sc_is_sighting.nd rfl (Or.inl rfl)) (pgs_cons (pg_name (i := 2) sc_is_sighting.nd rfl (Or.inl rfl)) pgs_nil))))
 (pss_one (ps_ret (pe_and (pe_cmpR op_isNo (pe_call (ok_wrong_in_name T) (hr.mono (by decide)) (by rfl) T.g_wrong_in_name T.F_wrong_in_name.kp T.b_wrong_in_name .nil pass0 (pa_cons (pv 1) (pa_cons pe_non (pa_cons (pe_tup (pa_cons pe_int pa_nil)) pa_nil)))) pe_non (nomark _)) (pe_one (pe_call (ok_is_between T) (hr.mono (by decide)) (by rfl) T.g_is_between T.F_is_between.kp T.b_is_between .nil pass0 (pa_cons (pv 2) (pa_cons pe_int (pa_cons (pe_glob (v := .int 100000000000000000000) (by rfl) T.g_LATEST_SIGHTING.choose_spec ⟨_, rfl⟩) pa_nil)))))))))), ?_⟩
    walk_at "rdi"
    repeat walk_at "rd"
    refine r_isiTu true e1 (by decide +kernel) ?_
    repeat walk_at "rd"
    refine new_at (Nat.le_of_ble_eq_true rfl) (fun u H1 nu s1 eu => ?_)
    repeat walk_at "rd"
    refine ⟨p, u, r.1, rfl, s1 _ _ e2, eu, hok.len, hok.items, fun H2 s2 => ?_⟩
    repeat walk_at "rd"
    refine r_between ?_
    rw [decide_eq_true (show 0 ≤ r.2 ∧ r.2 ≤ 100000000000000000000 from ⟨hok.t0, hok.t9⟩)]
    exact k _ (s1.trans s2)
theorem ok_check_sightings (T : Txt K mg a) : FnOk P w K mg base CX0 6 a.a_check_sightings a.d_check_sightings ["rows"] spCheckS := by
  refine T.F_check_sightings.ok sc_check_sightings (fun vs H Q E h => ?_) (fun cdv A outer s H vs Q E hr h => ?_)
  · obtain ⟨p, xs, rs, rfl, _⟩ := h
    rfl
  · obtain ⟨p, xs, rs, rfl, ep, hA, hok, hl, k⟩ := h
    refine ⟨_, (pss_cons (ps_if (PW.pt (pw_or (pt_not (pt_val (pe_callB call_isiT (by rfl) T.n_isinstance (by decide +kernel) (pa_cons (pv 0) (pa_cons (pe_tup (pa_cons (pe_bltn (v := .ty "list") (u := .type "list") (by rfl) T.n_list (by decide +kernel) rfl) (pa_cons (pe_bltn (v := .ty "tuple") (u := .type "tuple") (by rfl) T.n_tuple (by decide +kernel) rfl) pa_nil))) pa_nil))))) (pw_or1 (pt_cmpR op_gt (pe_callB call_len_seq (by rfl) T.n_len (by decide +kernel) (pa_cons (pv 0) pa_nil)) (pe_glob (v := .int 60) (by rfl) T.g_MOST_SIGHTINGS.choose_spec ⟨_, rfl⟩) (nomark _))))) (pss_one ps_never)
 pss_nil)
 (pss_one (ps_for (by exact PassesOwn.never) rfl (pi_enumS (by rfl) T.n_enumerate (pa_cons (pv 0) pa_nil)) (pg_tup (by rfl) (pgs_cons (pg_name (i := 1) sc_check_sightings.nd rfl (Or.inl rfl)) (pgs_cons (pg_name (i := 2) sc_check_sightings.nd rfl (Or.inl rfl)) pgs_nil)))
 (pss_one (ps_if (pt_not (pt_val (pe_call (ok_is_sighting T) (hr.mono (by decide)) (by rfl) T.g_is_sighting T.F_is_sighting.kp T.b_is_sighting .nil pass0 (pa_cons (pv 2) pa_nil)))) (pss_one ps_never)
 pss_nil))))), ?_⟩
    walk_at "rdi"
    repeat walk_at "rd"
    refine new_at (Nat.le_of_ble_eq_true rfl) (fun u H1 nu s1 e1 => ?_)
    have ep1 := s1 _ _ ep
    repeat walk_at "rd"
    refine ⟨_, u, [.ty "list", .ty "tuple"], .type "list", [.type "list", .type "tuple"], true, rfl, e1, .cons (.ty _) (.cons (.ty _) .nil), .base (.lst ep1), kitAny_cons (b := true) (kit_ty (by decide +kernel)) (fun z => Bool.noConfusion z) fun _ => rfl, ?_⟩
    repeat walk_at "rd"
    refine ite_ff (by have := hA.1; omega) ?_
    repeat walk_at "rd"
    refine r_enS (xs := xs) (by intro QA q; (repeat walk_at "rd"); exact q) (.inl (SqL.of ep1)) (fun i σ H2 => ∃ v1 v2 : Option V, σ = [some (.ref p), v1, v2] ∧ Same H1 H2) ⟨_, _, rfl, Same.refl _⟩ (fun i σ H' ⟨_, _, _, s⟩ => s) ?_ ?_
    · rintro i x σ H2 u2 H3 hx ⟨v1, v2, rfl, s2⟩ nu2 rfl
      have s3 : Same H1 (upd H2 u2 (.tup [.int (i : Nat), x])) := s2.trans (Same.new nu2)
      obtain ⟨r, hr1, hR⟩ := (hA.keep (s1.trans s3)).get hx
      repeat walk_at "rd"
      refine ⟨x, r, rfl, hR, hok r (List.mem_iff_getElem?.mpr ⟨i, hr1⟩), fun H4 s4 => ?_⟩
      repeat first | exact ⟨_, _, rfl, s3.trans s4⟩ | walk_at "rd"
    · rintro σ H2 ⟨v1, v2, rfl, s2⟩
      repeat first | exact k _ (s1.trans s2) | walk_at "rd"
theorem ok_sums_of (T : Txt K mg a) : FnOk P w K mg base CX0 1 a.a_sums_of a.d_sums_of ["rows"] spSums := by
  refine T.F_sums_of.ok sc_sums_of (fun vs H Q E h => ?_) (fun cdv A outer s H vs Q E hr h => ?_)
  · obtain ⟨p, xs, rs, rfl, _⟩ := h
    rfl
  · obtain ⟨p, xs, rs, rfl, ep, hA, hok, hl, k⟩ := h
    refine ⟨_, (pss_one (ps_ret (pe_lc (own := [("name", 1), ("time", 2)]) (g := gTup K 2 (gCons (gName 1) (gCons (gName 2) (gNil)))) (tt := tYes) rfl sc_sums_of.nd (pi_list (pv 0)) (blkOk_by (own := [("name", 1), ("time", 2)]) (N := ["rows", "name", "time"]) (sc := defScope s_sums_of) (by decide +kernel)) (fun _ _ _ _ _ => (pg_tupK (K := K) (n := 2) rfl (by rfl) (pgs_cons (pg_name (i := 1) sc_sums_of.nd rfl (Or.inl rfl)) (pgs_cons (pg_name (i := 2) sc_sums_of.nd rfl (Or.inl rfl)) pgs_nil)))) (fun _ _ _ _ _ => pts_nil) (fun _ _ _ _ _ => (pe_tup (pa_cons (pe_op op_sub (pe_callB (call_len_seqK (K := K) rfl) (by rfl) T.n_len (by decide +kernel) (pa_cons (pv 1) pa_nil)) pe_int) (pa_cons (pe_callB (cr_sumTK (K := K) rfl rfl) (by rfl) T.n_sum (by decide +kernel) (pa_cons (pe_slice (sl_tupK (K := K) rfl) (pv 1) (po_some pe_int) po_none) pa_nil)) (pa_cons (pv 2) pa_nil)))))))), ?_⟩
    repeat walk_at "rd"
    refine ⟨p, rfl, ⟨_, SqL.of ep⟩, fun L hL => lc_list (K := K) (a := p) (xs := xs) (fun i H' => ∃ acc : List V, H' L = some (.lst acc) ∧ TrisAt H' acc ((rs.take i).map lineOf) ∧ H' p = some (.lst xs) ∧ Same H H') ?_ (fun i H' _ ⟨_, _, _, h, _⟩ => SqL.of h) ?_ ?_⟩
    · exact ⟨[], upd_same, TrisAt.nil, (upd_ne (ne_of_none ep hL)).trans ep, Same.new hL⟩
    · rintro i y H6 hi ⟨acc, h1, h2, h3, h4⟩
      obtain ⟨r, hr1, t, q, rfl, e1, e2⟩ := (hA.keep h4).get hi
      have hi9 : i < 60 := by have := (List.getElem?_eq_some_iff.mp hi).1; have := hA.1; omega
      have hok1 := hok r (List.mem_iff_getElem?.mpr ⟨i, hr1⟩)
      repeat walk_at "rd"
      refine ⟨rfl, ?_⟩
      repeat walk_at "rd"
      rw [show ((V.int 0 :: r.1.map V.int).length : Int) - 1 = r.1.length by rw [List.length_cons, List.length_map]; omega]
      refine r_slT (SqT.of e2) (not_whole _ _) (fun q7 H7 n7 s7 e7 => ?_)
      rw [cut_one] at e7
      repeat walk_at "rd"
      refine ⟨q7, r.1, rfl, SqT.of e7, ?_⟩
      repeat walk_at "rd"
      refine new_at (Nat.le_of_ble_eq_true rfl) (fun q8 H8 n8 s8 e8 => ?_)
      have s78 := s7.trans s8
      refine ⟨_, s78 _ _ h1, small1000 (by have := h2.1; rw [List.length_map, List.length_take] at this; omega), acc ++ [.ref q8], upd_same, ?_, (upd_ne (ne_of_none ep hL)).trans (s78 _ _ h3), (h4.trans s78).over hL (s78 _ _ h1)⟩
      rw [take_more hr1, List.map_append]
      exact ((h2.keep s78).snoc (g := lineOf r) e8).upd (s78 _ _ h1)
    · rintro H6 ⟨acc, h1, h2, h3, h4⟩
      rw [hA.1, List.take_length] at h2
      repeat first | exact k L acc H6 h4 h1 h2 | walk_at "rd"
theorem ok_fits (T : Txt K mg a) : FnOk P w K mg base CX0 1 a.a_fits a.d_fits ["sums", "letter", "gap"] spFits := by
  refine T.F_fits.ok sc_fits (fun vs H Q E h => ?_) (fun cdv A outer s H vs Q E hr h => ?_)
  · obtain ⟨p, xs, ls, D, G, rfl, _⟩ := h
    rfl
  · obtain ⟨p, xs, ls, D, G, rfl, ep, hA, hl, k⟩ := h
    refine ⟨_, (pss_cons (ps_for (by exact PassesOwn.never) rfl (pi_list (pv 0)) (pg_tup (by rfl) (pgs_cons (pg_name (i := 3) sc_fits.nd rfl (Or.inl rfl)) (pgs_cons (pg_name (i := 4) sc_fits.nd rfl (Or.inl rfl)) (pgs_cons (pg_name (i := 5) sc_fits.nd rfl (Or.inl rfl)) pgs_nil))))
 (pss_one (ps_if (pt_cmpR op_ne (pe_op op_add (pe_op op_mul (pv 3) (pv 1)) (pe_op op_mul (pv 4) (pv 2))) (pv 5) (nomark _)) (pss_one (ps_ret pe_bl))
 pss_nil)))
 (pss_one (ps_ret pe_bl))), ?_⟩
    repeat walk_at "rd"
    refine ⟨p, rfl, ⟨_, SqL.of ep⟩, for_list (K := K) (a := p) (xs := xs) (fun i σ H' => ∃ v3 v4 v5 : Option V, σ = [some (.ref p), some (.int D), some (.int G), v3, v4, v5] ∧ H' = H ∧ Solves (ls.take i) D G) ⟨_, _, _, rfl, rfl, fun l hl => by simp at hl⟩ (fun i σ H' _ ⟨_, _, _, _, e, _⟩ => by rw [e]; exact SqL.of ep) ?_ ?_⟩
    · rintro i x σ H2 hi ⟨v3, v4, v5, rfl, rfl, hs⟩
      obtain ⟨t, l, rfl, hl1, et⟩ := hA.get hi
      obtain ⟨a0, a1, a2, a3, _, _, _, _⟩ := hl l (List.mem_iff_getElem?.mpr ⟨i, hl1⟩)
      repeat walk_at "rd"
      refine r_nD (fun hc => ?_) (fun hc => ?_)
      · repeat walk_at "rd"
        exact k false ⟨fun z => Bool.noConfusion z, fun h => absurd (h l (List.mem_iff_getElem?.mpr ⟨i, hl1⟩)) hc⟩
      · repeat first | exact ⟨_, _, _, rfl, rfl, fun l' hl' => by
          rw [take_more hl1] at hl'
          rcases List.mem_append.mp hl' with h | h
          · exact hs l' h
          · rw [List.mem_singleton] at h
            subst h
            exact hc⟩ | walk_at "rd"
    · rintro σ H2 ⟨v3, v4, v5, rfl, rfl, hs⟩
      rw [hA.1, List.take_length] at hs
      repeat first | exact k true ⟨fun _ => hs, fun _ => rfl⟩ | walk_at "rd"
end

/-! ### told_back -/
def CDivX (_ j : Int) : Prop := j ≠ 0 ∧ j.natAbs.log2 < 9000
open PySem.Spec PyProof.Rows in
theorem op_fdivX {X : Cx} : OpR X (binaryOp .FloorDiv) (rI CDivX fun i j => .int (i.fdiv j)) := opI fun i j _ _ _ _ _ hc q => floordiv_int hc.1 q (.inl (PyProof.noPylong_of_log2 hc.2))
theorem r_fdivX {H : Hp} {Q : VK} {i j : Int} (h : j ≠ 0) (h1 : -(2 ^ 100) < j) (h2 : j < 2 ^ 100) (q : Q (.int (i.fdiv j)) H) : rI CDivX (fun i j => .int (i.fdiv j)) (.int i) (.int j) H Q := ⟨i, j, rfl, rfl, ⟨h, Nat.lt_of_lt_of_le (PySem.Flt.log2_lt_of (k := 100) (by decide) (by omega)) (by decide)⟩, q⟩
def optV : Option Int → V
  | none => .non
  | some m => .int m
def ToldAt (H : Hp) (p : Addr) : Told → Prop
  | .any => H p = some (.tup [.str "any"])
  | .no => H p = some (.tup [.str "none"])
  | .one D G => ∃ q, H p = some (.tup [.str "one", .ref q]) ∧ H q = some (.tup [.int D, .int G])
  | .line D G e f c => ∃ q r, H p = some (.tup [.str "line", .ref q, .ref r, optV c]) ∧ H q = some (.tup [.int D, .int G]) ∧ H r = some (.tup [.int e, .int f])
def TwoTold (ls : List L3) : Told → Prop
  | .no => No ls
  | .one D G => Solves ls D G ∧ 1 ≤ D ∧ 1 ≤ G
  | _ => False
def spTwo : Sp := fun vs H Q _ => ∃ (a b p : Addr) (l m : L3) (xs : List V) (fs : List L3), vs = [.ref a, .ref b, .ref p] ∧ H a = some (.tup [.int l.1, .int l.2.1, .int l.2.2]) ∧ H b = some (.tup [.int m.1, .int m.2.1, .int m.2.2]) ∧ H p = some (.lst xs) ∧ TrisAt H xs fs ∧ LinesIn fs ∧ l ∈ fs ∧ m ∈ fs ∧ l.1 * m.2.1 - m.1 * l.2.1 ≠ 0 ∧
  ∀ p' r H', TwoTold fs r → Same H H' → ToldAt H' p' r → Q (.ref p') H'
def spLine : Sp := fun vs H Q _ => ∃ p q w : Int, vs = [.int p, .int q, .int w] ∧ 1 ≤ p ∧ p ≤ 199 ∧ 0 ≤ q ∧ q ≤ 200000000000000000 ∧ 0 ≤ w ∧ w ≤ 100000000000000000000 ∧ w ≤ (p + q + 1) * 1000000000 ∧ gcdI p q = 1 ∧ ∀ p' r H', LineTold p q w r → Same H H' → ToldAt H' p' r → Q (.ref p') H'
def tTru (K : PySem.W.Frag) (ta : TE) : TT := fun σ H Q => ta σ H fun x H' => ∃ k, TruV K x H' k ∧ Q k H'
theorem pt_tru {X : Cx} {a : Expr} {ta : TE} (ha : PE X a ta) (he : ∀ whole, isTrue a X.env whole = (do let v ← whole; standAt a.pos; holding [v] (truthy v)) := by intro _; rfl) : PT X a (tTru X.K ta) := pt_truth ha he
def spMult : Sp := fun vs H Q _ => ∃ (p : Addr) (xs : List V) (ls : List L3) (f : L3), vs = [.ref p] ∧ H p = some (.lst xs) ∧ TrisAt H xs (ls.filter nz) ∧ LinesIn ls ∧ (ls.filter nz)[0]? = some f ∧ (∀ l, l ∈ ls.filter nz → 0 < l.1) ∧ (∀ l, l ∈ ls.filter nz → f.1 * l.2.1 = l.1 * f.2.1) ∧ ∀ p' r H', ToldOk ls r → Same H H' → ToldAt H' p' r → Q (.ref p') H'
def spBack : Sp := fun vs H Q _ => ∃ (p : Addr) (xs : List V) (rs : List Row), vs = [.ref p] ∧ H p = some (.lst xs) ∧ RowsAt H xs rs ∧ (∀ r, r ∈ rs → RowOk r) ∧ rs.length ≤ 60 ∧ ∀ p' r H', ToldOk (rs.map lineOf) r → Same H H' → ToldAt H' p' r → Q (.ref p') H'
theorem r_iR3 {ta : TA} {σ : St} {H : Hp} {R : It → Hp → Prop} (h : ta σ H fun vs H1 => ∃ (i j c : Int) (n : Nat), vs = [.int i, .int j, .int c] ∧ RgC i j c n ∧ R (Itc i c n) H1) : iRng3 ta σ H R := h
section
variable {P : Program} {w : World} {K : PySem.W.Frag} {mg : Str → Option Value} {base : Heap} {a : Adr}
set_option maxHeartbeats 0 in
theorem ok_told_by_two (T : Txt K mg a) : FnOk P w K mg base CX0 2 a.a_told_by_two a.d_told_by_two ["first", "other", "sums"] spTwo := by
  refine T.F_told_by_two.ok sc_told_by_two (fun vs H Q E h => ?_) (fun cdv A outer s H vs Q E hr h => ?_)
  · obtain ⟨x, y, p, l, m, xs, fs, rfl, _⟩ := h
    rfl
  · obtain ⟨x, y, p, l, m, xs, fs, rfl, e1, e2, e3, hA, hi, hl, hm, hu, k⟩ := h
    obtain ⟨a0, a1, a2, a3, _, a4, a5⟩ := hi l hl
    obtain ⟨b0, b1, b2, b3, _, b4, b5⟩ := hi m hm
    have m1 : 0 ≤ l.1 * m.2.1 ∧ l.1 * m.2.1 ≤ 199 * 200000000000000000 := ⟨Int.mul_nonneg a0 b2, Int.mul_le_mul a1 b3 b2 (by decide)⟩
    have m2 : 0 ≤ m.1 * l.2.1 ∧ m.1 * l.2.1 ≤ 199 * 200000000000000000 := ⟨Int.mul_nonneg b0 a2, Int.mul_le_mul b1 a3 a2 (by decide)⟩
    refine ⟨_, (pss_cons (ps_asg (pv 0) (pg_tup (by rfl) (pgs_cons (pg_name (i := 3) sc_told_by_two.nd rfl (Or.inl rfl)) (pgs_cons (pg_name (i := 4) sc_told_by_two.nd rfl (Or.inl rfl)) (pgs_cons (pg_name (i := 5) sc_told_by_two.nd rfl (Or.inl rfl)) pgs_nil)))))
 (pss_cons (ps_asg (pv 1) (pg_tup (by rfl) (pgs_cons (pg_name (i := 6) sc_told_by_two.nd rfl (Or.inl rfl)) (pgs_cons (pg_name (i := 7) sc_told_by_two.nd rfl (Or.inl rfl)) (pgs_cons (pg_name (i := 8) sc_told_by_two.nd rfl (Or.inl rfl)) pgs_nil)))))
 (pss_cons (ps_set (i := 9) sc_told_by_two.nd rfl (Or.inl rfl) (pe_op op_sub (pe_op op_mul (pv 3) (pv 7)) (pe_op op_mul (pv 6) (pv 4))))
 (pss_cons (ps_set (i := 10) sc_told_by_two.nd rfl (Or.inl rfl) (pe_op op_fdivX (pe_op op_sub (pe_op op_mul (pv 5) (pv 7)) (pe_op op_mul (pv 8) (pv 4))) (pv 9)))
 (pss_cons (ps_set (i := 11) sc_told_by_two.nd rfl (Or.inl rfl) (pe_op op_fdivX (pe_op op_sub (pe_op op_mul (pv 3) (pv 8)) (pe_op op_mul (pv 6) (pv 5))) (pv 9)))
 (pss_cons (ps_if (PW.pt (pw_or (pt_cmpR op_lt (pv 10) pe_int (nomark _)) (pw_or (pt_cmpR op_lt (pv 11) pe_int (nomark _)) (pw_or1 (pt_not (pt_val (pe_call (ok_fits T) (hr.mono (by decide)) (by rfl) T.g_fits T.F_fits.kp T.b_fits .nil pass0 (pa_cons (pv 2) (pa_cons (pv 10) (pa_cons (pv 11) pa_nil)))))))))) (pss_one (ps_ret (pe_tup (pa_cons pe_str pa_nil))))
 pss_nil)
 (pss_one (ps_ret (pe_tup (pa_cons pe_str (pa_cons (pe_tup (pa_cons (pv 10) (pa_cons (pv 11) pa_nil))) pa_nil))))))))))), ?_⟩
    repeat walk_at "rd"
    refine r_fdivX hu (by omega) (by omega) ?_
    repeat walk_at "rd"
    refine r_fdivX hu (by omega) (by omega) ?_
    repeat walk_at "rd"
    obtain ⟨D, hD⟩ : ∃ D, (l.2.2 * m.2.1 - m.2.2 * l.2.1).fdiv (l.1 * m.2.1 - m.1 * l.2.1) = D := ⟨_, rfl⟩
    obtain ⟨G, hG⟩ : ∃ G, (l.1 * m.2.2 - m.1 * l.2.2).fdiv (l.1 * m.2.1 - m.1 * l.2.1) = G := ⟨_, rfl⟩
    have huniq : ∀ D' G', Solves fs D' G' → D' = D ∧ G' = G := fun D' G' hs => by
      have := two_pair hl hm hu hs
      exact ⟨by rw [← this.1, hD], by rw [← this.2, hG]⟩
    rw [hD, hG]
    have no : (∀ D' G', Solves fs D' G' → 1 ≤ D' → 1 ≤ G' → False) → ∀ p' H', Same H H' → H' p' = some (.tup [.str "none"]) → Q (.ref p') H' := fun h p' H' s' e => k p' .no H' (fun D' G' d g hs => h D' G' hs d g) s' e
    repeat first | walk_at "rd" | walk_at "rdi"
    refine ite_d (fun hc => ?_) (fun hc => ?_)
    · repeat walk_at "rd"
      refine new_at (Nat.le_of_ble_eq_true rfl) (fun u H1 nu s1 e1 => ?_)
      exact no (fun D' G' hs d g => by have := (huniq D' G' hs).1; omega) u H1 s1 e1
    · repeat first | walk_at "rd" | walk_at "rdi"
      refine ite_d (fun hc2 => ?_) (fun hc2 => ?_)
      · repeat walk_at "rd"
        refine new_at (Nat.le_of_ble_eq_true rfl) (fun u H1 nu s1 e1 => ?_)
        exact no (fun D' G' hs d g => by have := (huniq D' G' hs).2; omega) u H1 s1 e1
      · repeat first | walk_at "rd" | walk_at "rdi"
        refine ⟨p, xs, fs, D, G, rfl, e3, hA, hi, fun b hb => ?_⟩
        cases b with
        | false =>
          repeat walk_at "rd"
          refine new_at (Nat.le_of_ble_eq_true rfl) (fun u H1 nu s1 e1 => ?_)
          exact no (fun D' G' hs d g => by
            obtain ⟨z1, z2⟩ := huniq D' G' hs
            rw [z1, z2] at hs
            exact Bool.false_ne_true (hb.mpr hs)) u H1 s1 e1
        | true =>
          repeat walk_at "rd"
          refine new_at (Nat.le_of_ble_eq_true rfl) (fun u H1 nu s1 e1 => ?_)
          repeat walk_at "rd"
          refine new_at (Nat.le_of_ble_eq_true rfl) (fun v H2 nv s2 e2 => ?_)
          exact k v (.one D G) H2 ⟨hb.mp rfl, by omega, by omega⟩ (s1.trans s2) ⟨u, e2, s2 _ _ e1⟩
set_option maxHeartbeats 0 in
theorem ok_told_by_line (T : Txt K mg a) : FnOk P w K mg base CX0 1 a.a_told_by_line a.d_told_by_line ["k", "j", "time"] spLine := by
  refine T.F_told_by_line.ok sc_told_by_line (fun vs H Q E h => ?_) (fun cdv A outer s H vs Q E hr h => ?_)
  · obtain ⟨p, q, w, rfl, _⟩ := h
    rfl
  · obtain ⟨p, q, t, rfl, p1, p9, q0, q9, t0, t9, ts, hg0, k⟩ := h
    refine ⟨_, (pss_cons (ps_if (pt_cmpR op_eq (pv 1) pe_int (nomark _)) (pss_one (ps_ret (pe_ifExp (pt_cmpR op_gt (pv 2) pe_int (nomark _)) (pe_tup (pa_cons pe_str (pa_cons (pe_tup (pa_cons (pv 2) (pa_cons pe_int pa_nil))) (pa_cons (pe_tup (pa_cons pe_int (pa_cons pe_int pa_nil))) (pa_cons pe_non pa_nil))))) (pe_tup (pa_cons pe_str pa_nil)))))
 pss_nil)
 (pss_cons (ps_set (i := 3) sc_told_by_line.nd rfl (Or.inl rfl) (pe_op op_fdivW (pe_op op_sub (pv 2) (pv 0)) (pv 1)))
 (pss_cons (ps_for (by exact PassesOwn.never) rfl (pi_range3 (by rfl) T.n_range (pa_cons (pv 3) (pa_cons (pe_callB (call_max2 rfl) (by rfl) T.n_max (by decide +kernel) (pa_cons pe_int (pa_cons (pe_op op_sub (pv 3) (pv 0)) pa_nil))) (pa_cons (pe_un un_neg pe_int) pa_nil)))) (pg_name (i := 4) sc_told_by_line.nd rfl (Or.inl rfl))
 (pss_one (ps_if (pt_cmpR op_eq (pe_op op_modN (pe_op op_sub (pv 2) (pe_op op_mul (pv 1) (pv 4))) (pv 0)) pe_int (nomark _)) (pss_cons (ps_set (i := 5) sc_told_by_line.nd rfl (Or.inl rfl) (pe_tup (pa_cons (pe_op op_fdivW (pe_op op_sub (pv 2) (pe_op op_mul (pv 1) (pv 4))) (pv 0)) (pa_cons (pv 4) pa_nil))))
 (pss_cons (ps_set (i := 6) sc_told_by_line.nd rfl (Or.inl rfl) (pe_op op_add (pe_op op_fdivW (pe_op op_sub (pv 4) pe_int) (pv 0)) pe_int))
 (pss_one (ps_ret (pe_ifExp (pt_cmpR op_eq (pv 6) pe_int (nomark _)) (pe_tup (pa_cons pe_str (pa_cons (pv 5) pa_nil))) (pe_tup (pa_cons pe_str (pa_cons (pv 5) (pa_cons (pe_tup (pa_cons (pv 1) (pa_cons (pe_un un_neg (pv 0)) pa_nil))) (pa_cons (pv 6) pa_nil))))))))))
 pss_nil)))
 (pss_one (ps_ret (pe_tup (pa_cons pe_str pa_nil))))))), ?_⟩
    repeat first | walk_at "rd" | walk_at "rdi"
    refine ite_d (fun hc => ?_) (fun hc => ?_)
    · subst hc
      have hp : p = 1 := by
        unfold gcdI at hg0
        rw [show (0 : Int).natAbs = 0 from rfl, Nat.gcd_zero_right] at hg0
        omega
      subst hp
      repeat first | walk_at "rd" | walk_at "rdi"
      refine ite_d (fun hc => ?_) (fun hc => ?_)
      · repeat walk_at "rd"
        refine new_at (Nat.le_of_ble_eq_true rfl) (fun u H1 nu s1 e1 => ?_)
        repeat walk_at "rd"
        refine new_at (Nat.le_of_ble_eq_true rfl) (fun v H2 nv s2 e2 => ?_)
        repeat walk_at "rd"
        refine new_at (Nat.le_of_ble_eq_true rfl) (fun x H3 nx s3 e3 => ?_)
        exact k x (.line t 1 0 1 none) H3 ⟨by omega, by omega, by omega, rfl, by omega, fun _ => ⟨rfl, rfl, rfl⟩, fun m e => nomatch e⟩ ((s1.trans s2).trans s3) ⟨u, v, e3, s3 _ _ (s2 _ _ e1), s3 _ _ e2⟩
      · repeat walk_at "rd"
        refine new_at (Nat.le_of_ble_eq_true rfl) (fun u H1 nu s1 e1 => ?_)
        exact k u .no H1 (fun D G d g => by omega) s1 e1
    · have q1 : 1 ≤ q := by omega
      repeat walk_at "rd"
      obtain ⟨most, hmost⟩ : ∃ m, (t - p) / q = m := ⟨_, rfl⟩
      rw [hmost]
      have hle1 : most * q ≤ t - p := by rw [← hmost]; exact Int.ediv_mul_le _ (by omega)
      have hm9 : most ≤ 1000000000000 := by
        by_cases c : most ≤ 1000000000000
        · exact c
        · have : 1000000000001 * q ≤ most * q := Int.mul_le_mul_of_nonneg_right (by omega) (by omega)
          omega
      have hm0 : -200 ≤ most := by
        rw [← hmost]
        have := Int.le_ediv_of_mul_le (a := -200) (b := t - p) (c := q) (by omega) (by omega)
        exact this
      refine r_iR3 ?_
      repeat walk_at "rd"
      obtain ⟨mx, hmx, x1, x2⟩ : ∃ mx, (if most - p > 0 then most - p else 0) = mx ∧ most - p ≤ mx ∧ 0 ≤ mx := ⟨_, rfl, by split <;> omega, by split <;> omega⟩
      have x3 : mx ≤ 1000000000000 := by rw [← hmx]; split <;> omega
      rw [hmx]
      refine ⟨most, mx, -1, (most - mx).toNat, rfl, RgC.neg (by omega) (by omega) (by omega) (by omega), for_rangeC (lo := most) (c := -1) (n := (most - mx).toNat) (fun i σ H' => ∃ v4 v5 v6 : Option V, σ = [some (.int p), some (.int q), some (.int t), some (.int most), v4, v5, v6] ∧ H' = H ∧ ∀ g, most - i < g → g ≤ most → (t - q * g) % p ≠ 0) ⟨_, _, _, rfl, rfl, fun g h1 h2 => by omega⟩ ?_ ?_⟩
      · rintro i σ H1 hi ⟨v4, v5, v6, rfl, rfl, hno⟩
        obtain ⟨g, hg⟩ : ∃ g, most - (i : Int) = g := ⟨_, rfl⟩
        rw [show most + (i : Nat) * -1 = g by omega]
        have g1 : mx < g := by omega
        have g2 : g ≤ most := by omega
        repeat first | walk_at "rd" | walk_at "rdi"
        rw [Int.fmod_eq_emod_of_nonneg _ (show 0 ≤ p by omega)]
        refine ite_d (fun hc => ?_) (fun hc => ?_)
        · have hd : p * ((t - q * g) / p) = t - q * g := Int.mul_ediv_cancel' (Int.dvd_of_emod_eq_zero hc)
          obtain ⟨D, hD⟩ : ∃ D, (t - q * g) / p = D := ⟨_, rfl⟩
          obtain ⟨c, hcc⟩ : ∃ c, (g - 1) / p = c := ⟨_, rfl⟩
          have hsol : p * D + q * g = t := by rw [hD] at hd; omega
          have hqg : q * g ≤ t - p := by
            have : g * q ≤ most * q := Int.mul_le_mul_of_nonneg_right g2 (by omega)
            rw [Int.mul_comm g q] at this
            omega
          have hD1 : 1 ≤ D := by
            rw [hD] at hd
            have : p * 1 ≤ p * D := by omega
            exact Int.le_of_mul_le_mul_left this (by omega)
          have hDq : D ≤ q := line_high (by omega) hsol p1 (by rw [hmost]; omega)
          have c1 := Int.ediv_mul_le (g - 1) (show p ≠ 0 by omega)
          have c2 := Int.lt_ediv_add_one_mul_self (g - 1) (show 0 < p by omega)
          have c0 : 0 ≤ (g - 1) / p := Int.ediv_nonneg (by omega) (by omega)
          rw [hcc] at c0 c1 c2
          repeat walk_at "rd"
          rw [hD]
          refine new_at (Nat.le_of_ble_eq_true rfl) (fun u H2 nu s1 e1 => ?_)
          repeat first | walk_at "rd" | walk_at "rdi"
          rw [hcc]
          refine ite_d (fun hc1 => ?_) (fun hc1 => ?_)
          · repeat walk_at "rd"
            refine new_at (Nat.le_of_ble_eq_true rfl) (fun v H3 nv s2 e2 => ?_)
            have : c = 0 := by omega
            subst this
            exact k v (.one D g) H3 ⟨hsol, hD1, by omega, hDq, by omega⟩ (s1.trans s2) ⟨u, e2, s2 _ _ e1⟩
          · repeat walk_at "rd"
            refine new_at (Nat.le_of_ble_eq_true rfl) (fun v H3 nv s2 e2 => ?_)
            repeat walk_at "rd"
            refine new_at (Nat.le_of_ble_eq_true rfl) (fun x H4 nx s3 e3 => ?_)
            have hc9 : c ≤ 1000000000000 := by
              have : c * 1 ≤ c * p := Int.mul_le_mul_of_nonneg_left p1 c0
              omega
            refine k x (.line D g q (-p) (some (c + 1))) H4 ⟨hsol, hD1, by omega, by rw [gcdI_neg, gcdI_comm]; exact hg0, by rw [Int.mul_neg, Int.mul_comm q p]; omega, (fun e => nomatch e), fun m e => ?_⟩ ((s1.trans s2).trans s3) ⟨u, v, e3, s3 _ _ (s2 _ _ e1), s3 _ _ e2⟩
            obtain rfl : c + 1 = m := Option.some.inj e
            rw [show c + 1 - 1 = c by omega, Int.mul_neg]
            rw [Int.add_mul] at c2
            refine ⟨by omega, by omega, q1, by omega, by omega, by omega, hDq, by omega, by omega⟩
        · repeat first | exact ⟨_, _, _, rfl, rfl, fun g' h1 h2 => by
            by_cases e : g' = g
            · rw [e]; exact hc
            · exact hno g' (by omega) h2⟩ | walk_at "rd"
      · rintro σ H1 ⟨v4, v5, v6, rfl, rfl, hno⟩
        repeat walk_at "rd"
        refine new_at (Nat.le_of_ble_eq_true rfl) (fun u H1 nu s1 e1 => ?_)
        refine k u .no H1 (fun D G d g h => ?_) s1 e1
        obtain ⟨g', y1, y2, y3⟩ := line_hit p1 (by omega) h d g most hmost
        rw [hmx] at y1
        exact hno g' (by omega) y2 y3
set_option maxHeartbeats 0 in
theorem ok_told_by_multiples (T : Txt K mg a) : FnOk P w K mg base CX0 2 a.a_told_by_multiples a.d_told_by_multiples ["sums"] spMult := by
  refine T.F_told_by_multiples.ok sc_told_by_multiples (fun vs H Q E h => ?_) (fun cdv A outer s H vs Q E hr h => ?_)
  · obtain ⟨p, xs, ls, f, rfl, _⟩ := h
    rfl
  · obtain ⟨p, xs, ls, ⟨k, j, t⟩, rfl, ep, hA, hi, hf, hpos, hpar, kk⟩ := h
    have hm : ((k, j, t) : L3) ∈ ls.filter nz := List.mem_iff_getElem?.mpr ⟨0, hf⟩
    have hk : 0 < k := hpos _ hm
    obtain ⟨a0, a1, a2, a3, _, a4, a5, a6⟩ := hi _ (List.mem_filter.mp hm).1
    dsimp only at a0 a1 a2 a3 a4 a5 a6
    have hc := com_of hk a2
    obtain ⟨c, hcd⟩ : ∃ c, gcdI k j = c := ⟨_, rfl⟩
    rw [hcd] at hc
    obtain ⟨p1, hp1⟩ : ∃ p1, k / c = p1 := ⟨_, rfl⟩
    obtain ⟨q1, hq1⟩ : ∃ q1, j / c = q1 := ⟨_, rfl⟩
    obtain ⟨t1, ht1⟩ : ∃ t1, t / c = t1 := ⟨_, rfl⟩
    rw [hp1, hq1] at hc
    have c1 := hc.c1
    have hp0 := hc.p1
    have hq0 := hc.q0
    have hpk : p1 ≤ k := by
      have : 1 * p1 ≤ c * p1 := Int.mul_le_mul_of_nonneg_right c1 (by omega)
      have := hc.hk; omega
    have hqj : q1 ≤ j := by
      have : 1 * q1 ≤ c * q1 := Int.mul_le_mul_of_nonneg_right c1 (by omega)
      have := hc.hj; omega
    have hck : c ≤ k := by
      have : c * 1 ≤ c * p1 := Int.mul_le_mul_of_nonneg_left hp0 (by omega)
      have := hc.hk; omega
    have ht0 : 0 ≤ t1 := by rw [← ht1]; exact Int.ediv_nonneg a4 (by omega)
    have htt : t1 * c ≤ t := by rw [← ht1]; exact Int.ediv_mul_le _ (by omega)
    have ht9 : t1 ≤ t := by
      have : t1 * 1 ≤ t1 * c := Int.mul_le_mul_of_nonneg_left c1 ht0
      omega
    have hts : t1 ≤ (p1 + q1 + 1) * 1000000000 := by
      by_cases z : t1 ≤ (p1 + q1 + 1) * 1000000000
      · exact z
      · have h1 : ((p1 + q1 + 1) * 1000000000 + 1) * c ≤ t1 * c := Int.mul_le_mul_of_nonneg_right (by omega) (by omega)
        have h2 : ((p1 + q1 + 1) * 1000000000 + 1) * c = (c * p1 + c * q1 + c) * 1000000000 + c := by
          rw [Int.add_mul, Int.one_mul, Int.mul_right_comm, Int.add_mul (p1 + q1), Int.add_mul p1, Int.one_mul, Int.mul_comm p1, Int.mul_comm q1]
        rw [← hc.hk, ← hc.hj] at h2
        omega
    refine ⟨_, (pss_cons (ps_asg (pe_ix ix_list (pv 0) pe_int (fun _ _ => rfl)) (pg_tup (by rfl) (pgs_cons (pg_name (i := 1) sc_told_by_multiples.nd rfl (Or.inl rfl)) (pgs_cons (pg_name (i := 2) sc_told_by_multiples.nd rfl (Or.inl rfl)) (pgs_cons (pg_name (i := 3) sc_told_by_multiples.nd rfl (Or.inl rfl)) pgs_nil)))))
 (pss_cons (ps_set (i := 4) sc_told_by_multiples.nd rfl (Or.inl rfl) (pe_callBfun cr_gcd (by rfl) T.g_gcd (pa_cons (pv 1) (pa_cons (pv 2) pa_nil))))
 (pss_cons (ps_set (i := 5) sc_told_by_multiples.nd rfl (Or.inl rfl) (pe_op op_fdivW (pv 1) (pv 4)))
 (pss_cons (ps_set (i := 6) sc_told_by_multiples.nd rfl (Or.inl rfl) (pe_op op_fdivW (pv 3) (pv 4)))
 (pss_cons (ps_for (by exact PassesOwn.never) rfl (pi_list (pv 0)) (pg_tup (by rfl) (pgs_cons (pg_name (i := 7) sc_told_by_multiples.nd rfl (Or.inl rfl)) (pgs_cons (pg_name (i := 8) sc_told_by_multiples.nd rfl (Or.inl rfl)) (pgs_cons (pg_name (i := 9) sc_told_by_multiples.nd rfl (Or.inl rfl)) pgs_nil))))
 (pss_one (ps_if (pt_cmpR op_ne (pe_op op_mul (pv 6) (pe_op op_fdivW (pv 7) (pv 5))) (pv 9) (nomark _)) (pss_one (ps_ret (pe_tup (pa_cons pe_str pa_nil))))
 pss_nil)))
 (pss_one (ps_ret (pe_call (ok_told_by_line T) (hr.mono (by decide)) (by rfl) T.g_told_by_line T.F_told_by_line.kp T.b_told_by_line .nil pass0 (pa_cons (pv 5) (pa_cons (pe_op op_fdivW (pv 2) (pv 4)) (pa_cons (pv 6) pa_nil))))))))))), ?_⟩
    repeat walk_at "rd"
    obtain ⟨tr, ea, et⟩ := hA.2 0 _ hf
    have et : H tr = some (.tup [.int k, .int j, .int t]) := et
    refine r_ixL ep (v := .ref tr) (atI_nat (j := 0) ea) ?_
    repeat walk_at "rd"
    refine ⟨k, j, rfl, ?_⟩
    have eg : ((Nat.gcd k.natAbs j.natAbs : Nat) : Int) = c := hcd
    rw [eg]
    have dc : CDivW k c ∧ CDivW t c ∧ CDivW j c := by
      have : CDivW k c := wide_div (b := 64) (by omega) (by omega) (by decide) (by decide)
      exact ⟨this, this, this⟩
    repeat walk_at "rd"
    rw [hp1]
    repeat walk_at "rd"
    rw [ht1]
    repeat walk_at "rd"
    refine ⟨p, rfl, ⟨_, SqL.of ep⟩, for_list (K := K) (a := p) (xs := xs) (fun i σ H' => ∃ v7 v8 v9 : Option V, σ = [some (.ref p), some (.int k), some (.int j), some (.int t), some (.int c), some (.int p1), some (.int t1), v7, v8, v9] ∧ H' = H ∧ ∀ l, l ∈ (ls.filter nz).take i → t1 * (l.1 / p1) = l.2.2) ⟨_, _, _, rfl, rfl, fun l hl => by simp at hl⟩ (fun i σ H' _ ⟨_, _, _, _, e, _⟩ => by rw [e]; exact SqL.of ep) ?_ ?_⟩
    · rintro i x σ H2 hx ⟨v7, v8, v9, rfl, rfl, hs⟩
      obtain ⟨tl, l, rfl, hl1, etl⟩ := hA.get hx
      have hlm : l ∈ ls.filter nz := List.mem_iff_getElem?.mpr ⟨i, hl1⟩
      obtain ⟨b0, b1, b2, b3, _, b4, b5, b6⟩ := hi _ (List.mem_filter.mp hlm).1
      have d0 : 0 ≤ l.1 / p1 := Int.ediv_nonneg b0 (by omega)
      have d9 : l.1 / p1 ≤ 199 := by
        have h1 := Int.ediv_mul_le l.1 (show p1 ≠ 0 by omega)
        have h2 : l.1 / p1 * 1 ≤ l.1 / p1 * p1 := Int.mul_le_mul_of_nonneg_left hp0 d0
        omega
      repeat first | walk_at "rd" | walk_at "rdi"
      refine r_nD (fun hne => ?_) (fun heq => ?_)
      · repeat walk_at "rd"
        refine new_at (Nat.le_of_ble_eq_true rfl) (fun u H1 nu s1 e1 => ?_)
        refine kk u .no H1 ⟨fun D G d g hsol => ?_, _, (List.mem_filter.mp hm).1, nz_iff.mp (List.mem_filter.mp hm).2⟩ s1 e1
        have := (mult_of hc (fun l hl => hi l (List.mem_filter.mp hl).1) hpar hm (solves_nz.mpr hsol)).2 l hlm
        rw [ht1] at this
        exact hne this
      · repeat first | exact ⟨_, _, _, rfl, rfl, fun l' hl' => by
          rw [take_more hl1] at hl'
          rcases List.mem_append.mp hl' with h | h
          · exact hs l' h
          · rw [List.mem_singleton] at h
            subst h
            exact heq⟩ | walk_at "rd"
    · rintro σ H2 ⟨v7, v8, v9, rfl, rfl, hs⟩
      rw [hA.1, List.take_length] at hs
      repeat walk_at "rd"
      rw [hq1]
      refine ⟨p1, q1, t1, rfl, hp0, by omega, hq0, by omega, ht0, by omega, hts, hc.gc, fun p' r H' hT s' e' => ?_⟩
      rw [← ht1] at hT hs
      exact kk p' r H' (told_mult hi hc hpos hpar hm hs hT) s' e'
theorem r_neT3 {K : PySem.W.Frag} {H : Hp} {Q : VK} {p q : Addr} {xs ys : List Int} (h1 : H p = some (.tup (xs.map V.int))) (h2 : H q = some (.tup (ys.map V.int))) (k : Q (.bl (!decide (xs = ys))) H) : rNeD K (.ref p) (.ref q) H Q := by
  refine ⟨_, _, .tup (SqT.of h1) (dp_ints xs), .tup (SqT.of h2) (dp_ints ys), sh_tints xs, sh_tints ys, ?_⟩
  rw [show PyData.eqv (.tuple (xs.map PyData.int)) (.tuple (ys.map PyData.int)) = decide (xs = ys) from eq_ints (xs := xs) (ys := ys)]
  exact k
set_option maxHeartbeats 0 in
theorem ok_told_back (T : Txt K mg a) : FnOk P w K mg base CX0 7 a.a_told_back a.d_told_back ["rows"] spBack := by
  refine T.F_told_back.ok sc_told_back (fun vs H Q E h => ?_) (fun cdv A outer s H vs Q E hr h => ?_)
  · obtain ⟨p, xs, rs, rfl, _⟩ := h
    rfl
  · obtain ⟨p, xs, rs, rfl, ep, hR, hok, hl, kk⟩ := h
    have hi : LinesIn (rs.map lineOf) := fun l hl => by
      obtain ⟨r, hr, rfl⟩ := List.mem_map.mp hl
      exact (hok r hr).line
    refine ⟨_, (pss_cons (ps_expr (pe_call (ok_check_sightings T) (hr.mono (by decide)) (by rfl) T.g_check_sightings T.F_check_sightings.kp T.b_check_sightings .nil pass0 (pa_cons (pv 0) pa_nil)))
 (pss_cons (ps_setLc (i := 1) (own := [("parts", 8)]) (g := gName 8) rfl sc_told_back.nd rfl rfl (sw_true rfl rfl rfl (by decide +kernel)) (pi_list (pe_call (ok_sums_of T) (hr.mono (by decide)) (by rfl) T.g_sums_of T.F_sums_of.kp T.b_sums_of .nil pass0 (pa_cons (pv 0) pa_nil))) (blkOk_by (own := [("parts", 8)]) (N := ["rows", "sums", "k", "j", "_", "m", "i", "time", "parts"]) (sc := defScope s_told_back) (by decide +kernel)) (fun _ _ _ _ _ => (pg_name (i := 8) sc_told_back.nd rfl (Or.inl rfl))) (fun _ _ _ _ _ => pts_one (pt_cmpR (op_neDK (K := K) rfl hr.units) (pv 8) (pe_tup (pa_cons pe_int (pa_cons pe_int (pa_cons pe_int pa_nil)))) (nomark _))) (fun _ _ _ _ _ => (pv 8)))
 (pss_cons (ps_if (pt_not (pt_tru (pv 1))) (pss_one (ps_ret (pe_tup (pa_cons pe_str pa_nil))))
 pss_nil)
 (pss_cons (ps_asg (pe_ix ix_list (pv 1) pe_int (fun _ _ => rfl)) (pg_tup (by rfl) (pgs_cons (pg_name (i := 2) sc_told_back.nd rfl (Or.inl rfl)) (pgs_cons (pg_name (i := 3) sc_told_back.nd rfl (Or.inl rfl)) (pgs_cons (pg_name (i := 4) sc_told_back.nd rfl (Or.inl rfl)) pgs_nil)))))
 (pss_cons (ps_for (by exact PassesOwn.never) rfl (pi_list (pv 1)) (pg_tup (by rfl) (pgs_cons (pg_name (i := 5) sc_told_back.nd rfl (Or.inl rfl)) (pgs_cons (pg_name (i := 6) sc_told_back.nd rfl (Or.inl rfl)) (pgs_cons (pg_name (i := 7) sc_told_back.nd rfl (Or.inl rfl)) pgs_nil))))
 (pss_cons (ps_if (pt_cmpR op_eq (pv 5) pe_int (nomark _)) (pss_one (ps_ret (pe_tup (pa_cons pe_str pa_nil))))
 pss_nil)
 (pss_one (ps_if (pt_cmpR op_ne (pe_op op_mul (pv 2) (pv 6)) (pe_op op_mul (pv 5) (pv 3)) (nomark _)) (pss_one (ps_ret (pe_call (ok_told_by_two T) (hr.mono (by decide)) (by rfl) T.g_told_by_two T.F_told_by_two.kp T.b_told_by_two .nil pass0 (pa_cons (pe_ix ix_list (pv 1) pe_int (fun _ _ => rfl)) (pa_cons (pe_tup (pa_cons (pv 5) (pa_cons (pv 6) (pa_cons (pv 7) pa_nil)))) (pa_cons (pv 1) pa_nil))))))
 pss_nil))))
 (pss_one (ps_ret (pe_call (ok_told_by_multiples T) (hr.mono (by decide)) (by rfl) T.g_told_by_multiples T.F_told_by_multiples.kp T.b_told_by_multiples .nil pass0 (pa_cons (pv 1) pa_nil))))))))), ?_⟩
    repeat walk_at "rd"
    refine ⟨p, xs, rs, rfl, ep, hR, hok, hl, fun H1 s1 => ?_⟩
    repeat walk_at "rd"
    refine ⟨p, xs, rs, rfl, s1 _ _ ep, hR.keep s1, hok, hl, fun q ys H2 s2 eq hA => ?_⟩
    have s12 := s1.trans s2
    have hll : (rs.map lineOf).length ≤ 60 := by rw [List.length_map]; exact hl
    generalize rs.map lineOf = ls at hi hA kk hll
    repeat walk_at "rd"
    refine ⟨q, rfl, ⟨_, SqL.of eq⟩, fun L hL => lc_list (K := K) (a := q) (xs := ys) (fun i H' => ∃ acc : List V, H' L = some (.lst acc) ∧ acc.length ≤ i ∧ TrisAt H' acc ((ls.take i).filter nz) ∧ H' q = some (.lst ys) ∧ Same H2 H') ?_ (fun i H' _ ⟨_, _, _, _, h, _⟩ => SqL.of h) ?_ ?_⟩
    · exact ⟨[], upd_same, Nat.le_refl _, TrisAt.nil, (upd_ne (ne_of_none eq hL)).trans eq, Same.new hL⟩
    · rintro i y H6 hiy ⟨acc, h1, h2, h3, h4, h5⟩
      obtain ⟨t, l, rfl, hl1, et⟩ := (hA.keep h5).get hiy
      have hi9 : i < 60 := by have := (List.getElem?_eq_some_iff.mp hl1).1; omega
      repeat walk_at "rd"
      refine ⟨rfl, ?_⟩
      repeat walk_at "rd"
      refine new_at (Nat.le_of_ble_eq_true rfl) (fun q8 H8 n8 s8 e8 => ?_)
      refine r_neT3 (xs := [l.1, l.2.1, l.2.2]) (ys := [0, 0, 0]) (s8 _ _ et) e8 ?_
      have hf : (ls.take (i + 1)).filter nz = (ls.take i).filter nz ++ (if nz l = true then [l] else []) := by
        rw [take_more hl1, List.filter_append]
        congr 1
        by_cases c : nz l = true
        · rw [if_pos c, List.filter_cons_of_pos c]; rfl
        · rw [if_neg c, List.filter_cons_of_neg c]; rfl
      have e0 : (!decide ([l.1, l.2.1, l.2.2] = [0, 0, 0])) = nz l := by
        obtain ⟨z1, z2, z3⟩ := l
        show (!decide ([z1, z2, z3] = [0, 0, 0])) = decide ((z1, z2, z3) ≠ (0, 0, 0))
        rw [Bool.eq_iff_iff, Bool.not_eq_true', decide_eq_false_iff_not, decide_eq_true_iff]
        simp
      rw [e0]
      have h1 := s8 _ _ h1
      refine ⟨_, rfl, ite_b (fun hc => ?_) (fun hc => ?_)⟩
      · rw [if_pos hc] at hf
        repeat walk_at "rd"
        refine ⟨_, h1, small1000 (by omega), acc ++ [.ref t], upd_same, by rw [List.length_append, List.length_singleton]; omega, by rw [hf]; exact ((h3.keep s8).snoc (s8 _ _ et)).upd h1, (upd_ne (ne_of_none eq hL)).trans (s8 _ _ h4), (h5.trans s8).over hL h1⟩
      · rw [hc, if_neg Bool.false_ne_true, List.append_nil] at hf
        exact ⟨acc, h1, by omega, by rw [hf]; exact h3.keep s8, s8 _ _ h4, h5.trans s8⟩
    · rintro H6 ⟨acc, h1, h2, h3, h4, h5⟩
      rw [hA.1, List.take_length] at h3
      have s16 := s12.trans h5
      repeat walk_at "rd"
      refine ⟨.ref L, rfl, !acc.isEmpty, .inl ⟨acc, SqL.of h1, rfl⟩, ?_⟩
      cases hfe : ls.filter nz with
      | nil =>
        rw [hfe] at h3
        obtain rfl : acc = [] := List.length_eq_zero_iff.mp h3.1
        repeat walk_at "rd"
        refine new_at (Nat.le_of_ble_eq_true rfl) (fun u H7 nu s7 e7 => ?_)
        refine kk u .any H7 (fun l hl => Classical.byContradiction fun z => ?_) (s16.trans s7) e7
        have : l ∈ ls.filter nz := List.mem_filter.mpr ⟨hl, nz_iff.mpr z⟩
        rw [hfe] at this
        cases this
      | cons f fs =>
        have hne : acc.isEmpty = false := by
          have := h3.1
          rw [hfe] at this
          cases acc with
          | nil => cases this
          | cons _ _ => rfl
        rw [hne]
        have hf0 : (ls.filter nz)[0]? = some f := by rw [hfe]; rfl
        obtain ⟨tf, eaf, etf⟩ := h3.2 0 f hf0
        have etf : H6 tf = some (.tup [.int f.1, .int f.2.1, .int f.2.2]) := etf
        have hfm : f ∈ ls.filter nz := by rw [hfe]; exact List.mem_cons_self ..
        clear hfe fs
        rw [if_neg (show ¬ ((!!false) = true) by decide)]
        repeat walk_at "rd"
        refine r_ixL h1 (v := .ref tf) (atI_nat (j := 0) eaf) ?_
        repeat walk_at "rd"
        obtain ⟨f0, f1, f2, f3, _, f4, f5, f6⟩ := hi f (List.mem_filter.mp hfm).1
        refine ⟨L, rfl, ⟨_, SqL.of h1⟩, for_list (K := K) (a := L) (xs := acc) (fun i σ H' => ∃ v5 v6 v7 v8 : Option V, σ = [some (.ref p), some (.ref L), some (.int f.1), some (.int f.2.1), some (.int f.2.2), v5, v6, v7, v8] ∧ H' = H6 ∧ ∀ l, l ∈ (ls.filter nz).take i → 0 < l.1 ∧ f.1 * l.2.1 = l.1 * f.2.1) ⟨_, _, _, _, rfl, rfl, fun l hl => by simp at hl⟩ (fun i σ H' _ ⟨_, _, _, _, _, e, _⟩ => by rw [e]; exact SqL.of h1) ?_ ?_⟩
        · rintro i x σ H7 hx ⟨v5, v6, v7, v8, rfl, rfl, hs⟩
          obtain ⟨tl, l, rfl, hl1, etl⟩ := h3.get hx
          have hlm : l ∈ ls.filter nz := List.mem_iff_getElem?.mpr ⟨i, hl1⟩
          obtain ⟨b0, b1, b2, b3, b7, b4, b5, b6⟩ := hi _ (List.mem_filter.mp hlm).1
          repeat first | walk_at "rd" | walk_at "rdi"
          refine ite_d (fun hc => ?_) (fun hc => ?_)
          · repeat walk_at "rd"
            refine new_at (Nat.le_of_ble_eq_true rfl) (fun u H8 nu s8 e8 => ?_)
            have hz := nz_iff.mp (List.mem_filter.mp hlm).2
            refine kk u .no H8 ⟨No.zero (List.mem_filter.mp hlm).1 hc (b7 hc) (fun z => hz (Prod.ext hc (Prod.ext (b7 hc) z))), l, (List.mem_filter.mp hlm).1, hz⟩ (s16.trans s8) e8
          · repeat first | walk_at "rd" | walk_at "rdi"
            refine r_nD (fun hne2 => ?_) (fun heq => ?_)
            · repeat walk_at "rd"
              refine r_ixL h1 (v := .ref tf) (atI_nat (j := 0) eaf) ?_
              repeat walk_at "rd"
              refine new_at (Nat.le_of_ble_eq_true rfl) (fun u H8 nu s8 e8 => ?_)
              repeat walk_at "rd"
              have hif : LinesIn (ls.filter nz) := fun l hl => hi l (List.mem_filter.mp hl).1
              refine ⟨tf, u, L, f, l, acc, ls.filter nz, rfl, s8 _ _ etf, e8, s8 _ _ h1, h3.keep s8, hif, hfm, hlm, by omega, fun p' r H9 hT s9 e9 => ?_⟩
              refine kk p' r H9 ?_ ((s16.trans s8).trans s9) e9
              cases r with
              | any => exact hT.elim
              | no => exact ⟨No.nz hT, l, (List.mem_filter.mp hlm).1, nz_iff.mp (List.mem_filter.mp hlm).2⟩
              | one D G =>
                obtain ⟨t1, t2, t3⟩ := hT
                refine ⟨solves_nz.mp t1, t2, t3, ⟨l, (List.mem_filter.mp hlm).1, by omega⟩, fun hpar => absurd ?_ hne2⟩
                have hf1 : 0 < f.1 := by
                  by_cases z : 0 < f.1
                  · exact z
                  · have e1 : f.1 = 0 := by omega
                    have := (hi f (List.mem_filter.mp hfm).1).2.2.2.2.1 e1
                    rw [e1, this] at hne2
                    simp at hne2
                exact hpar f l (List.mem_filter.mpr ⟨(List.mem_filter.mp hfm).1, decide_eq_true hf1⟩) (List.mem_filter.mpr ⟨(List.mem_filter.mp hlm).1, decide_eq_true (show l.1 > 0 by omega)⟩)
              | line D G e f c => exact hT.elim
            · repeat first | exact ⟨_, _, _, _, rfl, rfl, fun l' hl' => by
                rw [take_more hl1] at hl'
                rcases List.mem_append.mp hl' with h | h
                · exact hs l' h
                · rw [List.mem_singleton] at h
                  subst h
                  exact ⟨by omega, heq⟩⟩ | walk_at "rd"
        · rintro σ H7 ⟨v5, v6, v7, v8, rfl, rfl, hs⟩
          rw [h3.1, List.take_length] at hs
          repeat walk_at "rd"
          exact ⟨L, acc, ls, f, rfl, h1, h3, hi, hf0, fun l hl => (hs l hl).1, fun l hl => (hs l hl).2, fun p' r H8 hT s8 e8 => kk p' r H8 hT (s16.trans s8) e8⟩
end

/-! ### the law of k64: names, sightings -/
theorem tup_but {H H' : Hp} {p q f : Addr} {xs : List V} (e : H f = some (.tup xs)) (hs : SrcAt H p q) (b : But p H H') : H' f = some (.tup xs) := b _ _ e (fun z => by
  obtain ⟨cs, i, big, cnt, st, h1, _⟩ := hs
  rw [z, h1] at e; cases e)
theorem lst_ne {H : Hp} {p f : Addr} {xs ys : List V} (e : H f = some (.tup xs)) (h : H p = some (.lst ys)) : f ≠ p := fun z => by rw [z, h] at e; cases e
theorem RowAt.but {H H' : Hp} {x : V} {r : Row} {p q : Addr} (h : RowAt H x r) (hs : SrcAt H p q) (b : But p H H') : RowAt H' x r := let ⟨t, z, e, h1, h2⟩ := h; ⟨t, z, e, tup_but h1 hs b, tup_but h2 hs b⟩
theorem RowsAt.but {H H' : Hp} {xs : List V} {rs : List Row} {p q : Addr} (h : RowsAt H xs rs) (hs : SrcAt H p q) (b : But p H H') : RowsAt H' xs rs := ⟨h.1, fun i r hr => let ⟨x, e, z⟩ := h.2 i r hr; ⟨x, e, z.but hs b⟩⟩
theorem RowAt.upd {H : Hp} {L : Addr} {ys : List V} {o : HO} {x : V} {r : Row} (h : RowAt H x r) (e : H L = some (.lst ys)) : RowAt (L2.upd H L o) x r := let ⟨t, z, e0, h1, h2⟩ := h; ⟨t, z, e0, (upd_ne (lst_ne h1 e)).trans h1, (upd_ne (lst_ne h2 e)).trans h2⟩
theorem RowsAt.upd {H : Hp} {L : Addr} {ys xs : List V} {o : HO} {rs : List Row} (h : RowsAt H xs rs) (e : H L = some (.lst ys)) : RowsAt (L2.upd H L o) xs rs := ⟨h.1, fun i r hr => let ⟨x, e1, z⟩ := h.2 i r hr; ⟨x, e1, z.upd e⟩⟩
theorem RowsAt.nil {H : Hp} : RowsAt H [] [] := ⟨rfl, fun i r h => by simp at h⟩
theorem RowsAt.snoc {H : Hp} {xs : List V} {rs : List Row} {x : V} {r : Row} (h : RowsAt H xs rs) (hx : RowAt H x r) : RowsAt H (xs ++ [x]) (rs ++ [r]) := ⟨by rw [List.length_append, List.length_append, h.1]; rfl, fun i r' hr => by
  by_cases hi : i < rs.length
  · rw [List.getElem?_append_left hi] at hr
    rw [List.getElem?_append_left (by rw [h.1]; exact hi)]
    exact h.2 i r' hr
  · have hl := (List.getElem?_eq_some_iff.mp hr).1
    rw [List.length_append, List.length_singleton] at hl
    obtain rfl : i = rs.length := by omega
    rw [List.getElem?_append_right (Nat.le_refl _), Nat.sub_self] at hr
    obtain rfl : r = r' := by simpa using hr
    exact ⟨x, by rw [← h.1, List.getElem?_append_right (Nat.le_refl _), Nat.sub_self]; rfl, hx⟩⟩
theorem RowsAt.set {H : Hp} {xs : List V} {rs : List Row} {x : V} {r : Row} {i : Nat} (h : RowsAt H xs rs) (hx : RowAt H x r) : RowsAt H (xs.set i x) (rs.set i r) := ⟨by rw [List.length_set, List.length_set, h.1], fun j r' hr => by
  rw [List.getElem?_set] at hr ⊢
  by_cases c : i = j
  · rw [if_pos c] at hr ⊢
    split at hr
    · rename_i hlt
      rw [if_pos (by rw [h.1]; exact hlt)]
      obtain rfl := Option.some.inj hr
      exact ⟨x, rfl, hx⟩
    · cases hr
  · rw [if_neg c] at hr ⊢
    exact h.2 j r' hr⟩
/-- what the law builds, before a time is changed -/
structure RowNew (r : Row) : Prop where
  ok : RowOk r
  low : r.2 ≤ ((r.1.length : Int) + r.1.sum) * 1000000000
def ItIn (zs : List Int) : Prop := ∀ z, z ∈ zs → 0 ≤ z ∧ z ≤ 1000000000000000
theorem ItIn.app {xs ys : List Int} (h : ItIn xs) (k : ItIn ys) : ItIn (xs ++ ys) := fun z hz => (List.mem_append.mp hz).elim (h z) (k z)
theorem r_catA {K : PySem.W.Frag} {H : Hp} {Q : VK} {a b : Addr} {xs ys : List V} (h1 : H a = some (.tup xs)) (h2 : H b = some (.tup ys)) (n1 : xs ≠ []) (hl : xs.length + ys.length ≤ 1000) (q : ∀ p H', Same H H' → H' p = some (.tup (xs ++ ys)) → Q (.ref p) H') : rCatT K (.ref a) (.ref b) H Q := by
  refine ⟨a, b, xs, ys, rfl, rfl, SqT.of h1, SqT.of h2, n1, Nat.le_trans hl (by decide), fun he => ?_, fun _ p hp => q p _ (Same.new hp) upd_same⟩
  subst he
  exact q a H (Same.refl H) (by rw [List.append_nil]; exact h1)
theorem size_of {d : Int} (d0 : 0 ≤ d) (d1 : d < 6) : ∃ z : Int, atI [V.int 1, .int 2, .int 0, .int 3, .int 6, .int 199] d = some (.int z) ∧ 0 ≤ z ∧ z ≤ 199 := by
  have hk : d = 0 ∨ d = 1 ∨ d = 2 ∨ d = 3 ∨ d = 4 ∨ d = 5 := by omega
  rcases hk with rfl | rfl | rfl | rfl | rfl | rfl <;> exact ⟨_, rfl, by decide, by decide⟩
theorem limit_of {d : Int} (d0 : 0 ≤ d) (d1 : d < 4) : ∃ z : Int, atI [V.int 6, .int 14, .int 10000, .int 1000000000] d = some (.int z) ∧ 6 ≤ z ∧ z ≤ 1000000000 := by
  have hk : d = 0 ∨ d = 1 ∨ d = 2 ∨ d = 3 := by omega
  rcases hk with rfl | rfl | rfl | rfl <;> exact ⟨_, rfl, by decide, by decide⟩
theorem off_of {d g : Int} (d0 : 0 ≤ d) (d1 : d < 4) (h1 : 1 ≤ g) (h9 : g ≤ 1000000000) : ∃ z : Int, atI [V.int 1, .int (-1), .int g, .int 2] d = some (.int z) ∧ -1 ≤ z ∧ z ≤ 1000000000 := by
  have hk : d = 0 ∨ d = 1 ∨ d = 2 ∨ d = 3 := by omega
  rcases hk with rfl | rfl | rfl | rfl
  · exact ⟨_, rfl, by decide, by decide⟩
  · exact ⟨_, rfl, by decide, by decide⟩
  · exact ⟨_, rfl, by omega, h9⟩
  · exact ⟨_, rfl, by decide, by decide⟩
theorem ixN_nat {n z : Nat} (h : z < n) : L2.ixN n (z : Int) = some z := by
  unfold L2.ixN
  rw [if_pos (by omega)]
  simp
  omega
structure Sgt (p q f L : Addr) (fs : List Int) (H0 : Hp) (xs : List V) (rs : List Row) (H : Hp) : Prop where
  hs : SrcAt H p q
  b : But p H0 H
  ef : H f = some (.tup (.int 0 :: fs.map V.int))
  eL : H L = some (.lst xs)
  hR : RowsAt H xs rs
theorem Sgt.keep {p q f L : Addr} {fs : List Int} {H0 H H' : Hp} {xs : List V} {rs : List Row} (h : Sgt p q f L fs H0 xs rs H) (s : Same H H') : Sgt p q f L fs H0 xs rs H' := ⟨h.hs.keep s, h.b.trans (But.of_same s), s _ _ h.ef, s _ _ h.eL, h.hR.keep s⟩
theorem Sgt.but {p q f L : Addr} {fs : List Int} {H0 H H' : Hp} {xs : List V} {rs : List Row} (h : Sgt p q f L fs H0 xs rs H) (hs : SrcAt H' p q) (b : But p H H') (n : L ≠ p) : Sgt p q f L fs H0 xs rs H' := ⟨hs, h.b.trans b, tup_but h.ef h.hs b, b _ _ h.eL n, h.hR.but h.hs b⟩
def spNameL : Sp := fun vs H Q _ => ∃ p q : Addr, vs = [.ref p] ∧ SrcAt H p q ∧ ∀ (y : Addr) (zs : List Int) (H' : Hp), zs.length ≤ 199 → ItIn zs → H' y = some (.tup (.int 0 :: zs.map V.int)) → SrcAt H' p q → But p H H' → Q (.ref y) H'
def spSightL : Sp := fun vs H Q _ => ∃ (p q : Addr) (many : Int), vs = [.ref p, .int many] ∧ SrcAt H p q ∧ 0 ≤ many ∧ many ≤ 60 ∧ ∀ (y L : Addr) (xs : List V) (rs : List Row) (D G : Int) (H' : Hp), (∀ r, r ∈ rs → RowOk r) → rs.length ≤ 60 → H' y = some (.tup [.ref L, .int D, .int G]) → H' L = some (.lst xs) → RowsAt H' xs rs → SrcAt H' p q → But p H H' → Q (.ref y) H'
def spLinesL : Sp := spSums
section
variable {P : Program} {w : World} {K : PySem.W.Frag} {mg : Str → Option Value} {base : Heap} {a : Adr}
theorem ok__law_integer (T : Txt K mg a) : FnOk P w K mg base CX0 1 a.a__law_integer a.d__law_integer ["_law_thing"] (spIsInteger K) := by
  refine T.F__law_integer.ok sc__law_integer (fun vs H Q E h => ?_) (fun cdv A outer s H vs Q E hr h => ?_)
  · obtain ⟨x, b, rfl, _⟩ := h
    rfl
  · obtain ⟨x, b, rfl, ⟨t, b1, b2, ty, h1, h2, rfl⟩, k⟩ := h
    refine ⟨_, (pss_one (ps_ret (pe_and (pe_callB call_isi (by rfl) T.n_isinstance (by decide +kernel) (pa_cons (pv 0) (pa_cons (pe_bltn (v := .ty "int") (u := .type "int") (by rfl) T.n_int (by decide +kernel) rfl) pa_nil))) (pe_one (pe_not (pe_callB call_isi (by rfl) T.n_isinstance (by decide +kernel) (pa_cons (pv 0) (pa_cons (pe_bltn (v := .ty "bool") (u := .type "bool") (by rfl) T.n_bool (by decide +kernel) rfl) pa_nil)))))))), ?_⟩
    repeat walk_at "rd"
    refine r_isi ty h1 ?_
    refine ⟨b1, rfl, ?_⟩
    cases b1 with
    | false => exact iteF k
    | true =>
      repeat walk_at "rd"
      refine r_isi ty h2 ?_
      exact ⟨b2, rfl, k⟩
set_option maxHeartbeats 0 in
theorem ok__law_name (T : Txt K mg a) : FnOk P w K mg base CX0 3 a.a__law_name a.d__law_name ["_law_source_here"] spNameL := by
  refine T.F__law_name.ok sc__law_name (fun vs H Q E h => ?_) (fun cdv A outer s H vs Q E hr h => ?_)
  · obtain ⟨p, q, rfl, _⟩ := h
    rfl
  · obtain ⟨p, q, rfl, hs, k⟩ := h
    refine ⟨_, (pss_cons (ps_set (i := 1) sc__law_name.nd rfl (Or.inl rfl) (pe_ix ix_list (pe_lst (pa_cons pe_int (pa_cons pe_int (pa_cons pe_int (pa_cons pe_int (pa_cons pe_int (pa_cons pe_int pa_nil))))))) (pe_call (ok__law_draw T) (hr.mono (by decide)) (by rfl) T.g__law_draw T.F__law_draw.kp T.b__law_draw .nil pass0 (pa_cons (pv 0) (pa_cons pe_int pa_nil))) (fun _ _ => rfl)))
 (pss_cons (ps_if (PW.pt (pw_and (pt_cmpR op_eq (pv 1) pe_int (nomark _)) (pw_and1 (pt_cmpR op_gt (pe_call (ok__law_draw T) (hr.mono (by decide)) (by rfl) T.g__law_draw T.F__law_draw.kp T.b__law_draw .nil pass0 (pa_cons (pv 0) (pa_cons pe_int pa_nil))) pe_int (nomark _))))) (pss_one (ps_set (i := 1) sc__law_name.nd rfl (Or.inl rfl) pe_int))
 pss_nil)
 (pss_cons (ps_set (i := 2) sc__law_name.nd rfl (Or.inl rfl) (pe_call (ok__law_draw T) (hr.mono (by decide)) (by rfl) T.g__law_draw T.F__law_draw.kp T.b__law_draw .nil pass0 (pa_cons (pv 0) (pa_cons pe_int pa_nil))))
 (pss_cons (ps_set (i := 3) sc__law_name.nd rfl (Or.inl rfl) (pe_lst (pa_cons pe_int pa_nil)))
 (pss_cons (ps_for (by exact PassesOwn.never) rfl (pi_range1 (by rfl) T.n_range (pa_cons (pv 1) pa_nil)) (pg_name (i := 4) sc__law_name.nd rfl (Or.inl rfl))
 (pss_one (ps_if (pt_cmpR op_eq (pv 2) pe_int (nomark _)) (pss_one (ps_expr (pe_bm PySem.F.plainAttrs_list PySem.F.slot_list_append PySem.F.type_list_append mt_append (pv 3) (pa_cons pe_int pa_nil))))
 (pss_one (ps_if (PW.pt (pw_and (pt_cmpR op_eq (pv 2) pe_int (nomark _)) (pw_and1 (pt_cmpR op_lt (pv 1) pe_int (nomark _))))) (pss_one (ps_expr (pe_bm PySem.F.plainAttrs_list PySem.F.slot_list_append PySem.F.type_list_append mt_append (pv 3) (pa_cons (pe_call (ok__law_wide T) (hr.mono (by decide)) (by rfl) T.g__law_wide T.F__law_wide.kp T.b__law_wide .nil pass0 (pa_cons (pv 0) (pa_cons (pe_op op_add (pe_powN (z := 1000000000000000) ⟨by decide, by decide, by decide⟩ (by decide +kernel)) pe_int) pa_nil))) pa_nil))))
 (pss_one (ps_expr (pe_bm PySem.F.plainAttrs_list PySem.F.slot_list_append PySem.F.type_list_append mt_append (pv 3) (pa_cons (pe_call (ok__law_draw T) (hr.mono (by decide)) (by rfl) T.g__law_draw T.F__law_draw.kp T.b__law_draw .nil pass0 (pa_cons (pv 0) (pa_cons pe_int pa_nil))) pa_nil)))))))))
 (pss_one (ps_ret (pe_callTy cr_tup (by rfl) T.n_tuple (by decide +kernel) (pa_cons (pv 3) pa_nil))))))))), ?_⟩
    repeat walk_at "rd"
    refine new_at (Nat.le_of_ble_eq_true rfl) (fun L H1 nL s1 eL => ?_)
    have hs1 := hs.keep s1
    have nLp := hs.ne nL
    repeat walk_at "rd"
    refine ⟨p, q, 6, rfl, hs1, by decide, by decide, fun d H2 d0 d1 hs2 b2 => ?_⟩
    obtain ⟨size, hat, z0, z9⟩ := size_of d0 d1
    refine r_ixL (b2 _ _ eL nLp) hat ?_
    have b2 := (But.of_same s1).trans b2
    clear hs1 s1 eL nLp nL hat
    repeat walk_at "rd"
    with_reducible refine seq_with (fun σ H' => ∃ size : Int, σ = [some (.ref p), some (.int size), none, none, none] ∧ 0 ≤ size ∧ size ≤ 199 ∧ SrcAt H' p q ∧ But p H H') ?_ (fun rest => ?_)
    · clear hs2 b2 z0 z9 size
      rintro σ H3 ⟨size, rfl, z0, z9, hs3, b3⟩
      repeat walk_at "rd"
      refine ⟨p, q, 4, rfl, hs3, by decide, by decide, fun kind H4 k0 k1 hs4 b4 => ?_⟩
      repeat walk_at "rd"
      refine new_at (Nat.le_of_ble_eq_true rfl) (fun L H5 nL s5 eL => ?_)
      have hs5 := hs4.keep s5
      have nLp := hs4.ne nL
      have nLq := hs4.neq nL
      have b5 := (b3.trans b4).trans (But.of_same s5)
      have nLH : H L = none := (b3.trans b4).free hs4 nL
      clear hs3 hs4 b3 b4 s5
      repeat walk_at "rd"
      refine ⟨by omega, by omega, for_range (lo := 0) (n := size.toNat) (fun i σ H' => ∃ (v4 : Option V) (zs : List Int), σ = [some (.ref p), some (.int size), some (.int kind), some (.ref L), v4] ∧ zs.length = i ∧ ItIn zs ∧ H' L = some (.lst ((0 :: zs).map V.int)) ∧ SrcAt H' p q ∧ But p H H') ⟨_, [], rfl, rfl, (fun z hz => nomatch hz), eL, hs5, b5⟩ ?_ ?_⟩
      · clear hs5 b5 eL
        rintro i σ H6 hi ⟨v4, zs, rfl, hlen, hz, eL, hs, b⟩
        repeat first | walk_at "rd" | walk_at "rdi"
        refine ite_d (fun hc => ?_) (fun hc => ?_)
        · repeat walk_at "rd"
          refine ⟨.inl ⟨rfl, _, SqL.of eL⟩, ?_⟩
          repeat walk_at "rd"
          refine r_app eL (small1000 (by rw [List.length_map, List.length_cons]; omega)) ?_
          exact ⟨_, zs ++ [0], rfl, by rw [List.length_append, hlen, List.length_singleton], hz.app (fun z h => by rw [List.mem_singleton] at h; subst h; exact ⟨by decide, by decide⟩), by rw [upd_same, ← List.cons_append, List.map_append]; rfl, hs.upd nLp nLq, b.updNone nLH⟩
        · repeat first | walk_at "rd" | walk_at "rdi"
          refine ite_d (fun hc1 => ?_) (fun hc1 => ?_)
          · repeat first | walk_at "rd" | walk_at "rdi"
            refine ite_d (fun hc2 => ?_) (fun hc2 => ?_)
            · repeat walk_at "rd"
              refine ⟨.inl ⟨rfl, _, SqL.of eL⟩, ?_⟩
              repeat walk_at "rd"
              refine ⟨p, q, _, rfl, hs, by decide, by decide, fun z H7 y0 y1 hs7 b7 => ?_⟩
              have eL7 := b7 _ _ eL nLp
              repeat walk_at "rd"
              refine r_app eL7 (small1000 (by rw [List.length_map, List.length_cons]; omega)) ?_
              exact ⟨_, zs ++ [z], rfl, by rw [List.length_append, hlen, List.length_singleton], hz.app (fun z' h => by rw [List.mem_singleton] at h; subst h; exact ⟨y0, by omega⟩), by rw [upd_same, ← List.cons_append, List.map_append]; rfl, hs7.upd nLp nLq, (b.trans b7).updNone nLH⟩
            · repeat walk_at "rd"
              refine ⟨.inl ⟨rfl, _, SqL.of eL⟩, ?_⟩
              repeat walk_at "rd"
              refine ⟨p, q, 5, rfl, hs, by decide, by decide, fun z H7 y0 y1 hs7 b7 => ?_⟩
              have eL7 := b7 _ _ eL nLp
              repeat walk_at "rd"
              refine r_app eL7 (small1000 (by rw [List.length_map, List.length_cons]; omega)) ?_
              exact ⟨_, zs ++ [z], rfl, by rw [List.length_append, hlen, List.length_singleton], hz.app (fun z' h => by rw [List.mem_singleton] at h; subst h; exact ⟨y0, by omega⟩), by rw [upd_same, ← List.cons_append, List.map_append]; rfl, hs7.upd nLp nLq, (b.trans b7).updNone nLH⟩
          · repeat walk_at "rd"
            refine ⟨.inl ⟨rfl, _, SqL.of eL⟩, ?_⟩
            repeat walk_at "rd"
            refine ⟨p, q, 5, rfl, hs, by decide, by decide, fun z H7 y0 y1 hs7 b7 => ?_⟩
            have eL7 := b7 _ _ eL nLp
            repeat walk_at "rd"
            refine r_app eL7 (small1000 (by rw [List.length_map, List.length_cons]; omega)) ?_
            exact ⟨_, zs ++ [z], rfl, by rw [List.length_append, hlen, List.length_singleton], hz.app (fun z' h => by rw [List.mem_singleton] at h; subst h; exact ⟨y0, by omega⟩), by rw [upd_same, ← List.cons_append, List.map_append]; rfl, hs7.upd nLp nLq, (b.trans b7).updNone nLH⟩
      · clear hs5 b5 eL
        rintro σ H6 ⟨v4, zs, rfl, hlen, hz, eL, hs, b⟩
        repeat walk_at "rd"
        refine r_tupL eL (fun y H7 ny s7 ey => ?_)
        exact k y zs H7 (by omega) hz ey (hs.keep s7) (b.trans (But.of_same s7))
    · repeat first | walk_at "rd" | walk_at "rdi"
      refine ite_d (fun hc => ?_) (fun hc => ?_)
      · repeat walk_at "rd"
        refine ⟨p, q, 3, rfl, hs2, by decide, by decide, fun e H3 e0 e1 hs3 b3 => ?_⟩
        repeat walk_at "rd"
        refine ite_d (fun hc => ?_) (fun hc => ?_)
        · repeat first | exact rest _ _ ⟨4, rfl, by decide, by decide, hs3, b2.trans b3⟩ | walk_at "rd"
        · repeat first | exact rest _ _ ⟨size, rfl, z0, z9, hs3, b2.trans b3⟩ | walk_at "rd"
      · repeat first | exact rest _ _ ⟨size, rfl, z0, z9, hs2, b2⟩ | walk_at "rd"
set_option maxHeartbeats 0 in
theorem ok__law_sightings (T : Txt K mg a) : FnOk P w K mg base CX0 4 a.a__law_sightings a.d__law_sightings ["_law_source_here", "_law_many"] spSightL := by
  refine T.F__law_sightings.ok sc__law_sightings (fun vs H Q E h => ?_) (fun cdv A outer s H vs Q E hr h => ?_)
  · obtain ⟨p, q, many, rfl, _⟩ := h
    rfl
  · obtain ⟨p, q, many, rfl, hs, hm0, hm9, k⟩ := h
    refine ⟨_, (pss_cons (ps_set (i := 2) sc__law_sightings.nd rfl (Or.inl rfl) (pe_ix ix_list (pe_lst (pa_cons pe_int (pa_cons pe_int (pa_cons (pe_powN (z := 10000) ⟨by decide, by decide, by decide⟩ (by decide +kernel)) (pa_cons (pe_powN (z := 1000000000) ⟨by decide, by decide, by decide⟩ (by decide +kernel)) pa_nil))))) (pe_call (ok__law_draw T) (hr.mono (by decide)) (by rfl) T.g__law_draw T.F__law_draw.kp T.b__law_draw .nil pass0 (pa_cons (pv 0) (pa_cons pe_int pa_nil))) (fun _ _ => rfl)))
 (pss_cons (ps_set (i := 3) sc__law_sightings.nd rfl (Or.inl rfl) (pe_op op_add pe_int (pe_call (ok__law_wide T) (hr.mono (by decide)) (by rfl) T.g__law_wide T.F__law_wide.kp T.b__law_wide .nil pass0 (pa_cons (pv 0) (pa_cons (pv 2) pa_nil)))))
 (pss_cons (ps_set (i := 4) sc__law_sightings.nd rfl (Or.inl rfl) (pe_op op_add pe_int (pe_call (ok__law_wide T) (hr.mono (by decide)) (by rfl) T.g__law_wide T.F__law_wide.kp T.b__law_wide .nil pass0 (pa_cons (pv 0) (pa_cons (pv 2) pa_nil)))))
 (pss_cons (ps_set (i := 5) sc__law_sightings.nd rfl (Or.inl rfl) (pe_call (ok__law_name T) (hr.mono (by decide)) (by rfl) T.g__law_name T.F__law_name.kp T.b__law_name .nil pass0 (pa_cons (pv 0) pa_nil)))
 (pss_cons (ps_set (i := 6) sc__law_sightings.nd rfl (Or.inl rfl) (pe_cmpR op_eq (pe_call (ok__law_draw T) (hr.mono (by decide)) (by rfl) T.g__law_draw T.F__law_draw.kp T.b__law_draw .nil pass0 (pa_cons (pv 0) (pa_cons pe_int pa_nil))) pe_int (nomark _)))
 (pss_cons (ps_set (i := 7) sc__law_sightings.nd rfl (Or.inl rfl) (pe_lst pa_nil))
 (pss_cons (ps_for (by exact PassesOwn.never) rfl (pi_range1 (by rfl) T.n_range (pa_cons (pv 1) pa_nil)) (pg_name (i := 8) sc__law_sightings.nd rfl (Or.inl rfl))
 (pss_cons (ps_set (i := 9) sc__law_sightings.nd rfl (Or.inl rfl) (pe_call (ok__law_name T) (hr.mono (by decide)) (by rfl) T.g__law_name T.F__law_name.kp T.b__law_name .nil pass0 (pa_cons (pv 0) pa_nil)))
 (pss_cons (ps_if (pt_val (pv 6)) (pss_cons (ps_set (i := 9) sc__law_sightings.nd rfl (Or.inl rfl) (pe_tup (pa_cons pe_int pa_nil)))
 (pss_one (ps_for (by exact PassesOwn.never) rfl (pi_range1 (by rfl) T.n_range (pa_cons (pe_op op_add pe_int (pe_call (ok__law_draw T) (hr.mono (by decide)) (by rfl) T.g__law_draw T.F__law_draw.kp T.b__law_draw .nil pass0 (pa_cons (pv 0) (pa_cons pe_int pa_nil)))) pa_nil)) (pg_name (i := 10) sc__law_sightings.nd rfl (Or.inl rfl))
 (pss_one (ps_if (pt_cmpR op_lt (pe_op op_add (pe_callB call_len_seq (by rfl) T.n_len (by decide +kernel) (pa_cons (pv 9) pa_nil)) (pe_callB call_len_seq (by rfl) T.n_len (by decide +kernel) (pa_cons (pv 5) pa_nil))) pe_int (nomark _)) (pss_one (ps_set (i := 9) sc__law_sightings.nd rfl (Or.inl rfl) (pe_op op_catT (pv 9) (pe_slice sl_tup (pv 5) (po_some pe_int) po_none))))
 pss_nil)))))
 pss_nil)
 (pss_cons (ps_set (i := 11) sc__law_sightings.nd rfl (Or.inl rfl) (pe_op op_add (pe_op op_mul (pe_op op_sub (pe_callB call_len_seq (by rfl) T.n_len (by decide +kernel) (pa_cons (pv 9) pa_nil)) pe_int) (pv 3)) (pe_op op_mul (pe_callB (cr_sumT rfl) (by rfl) T.n_sum (by decide +kernel) (pa_cons (pv 9) pa_nil)) (pv 4))))
 (pss_cons (ps_if (pt_cmpR op_gt (pv 11) (pe_powN (z := 100000000000000000000) ⟨by decide, by decide, by decide⟩ (by decide +kernel)) (nomark _)) (pss_cons (ps_set (i := 9) sc__law_sightings.nd rfl (Or.inl rfl) (pe_tup (pa_cons pe_int (pa_cons pe_int pa_nil))))
 (pss_one (ps_set (i := 11) sc__law_sightings.nd rfl (Or.inl rfl) (pv 3))))
 pss_nil)
 (pss_one (ps_expr (pe_bm PySem.F.plainAttrs_list PySem.F.slot_list_append PySem.F.type_list_append mt_append (pv 7) (pa_cons (pe_tup (pa_cons (pv 9) (pa_cons (pv 11) pa_nil))) pa_nil)))))))))
 (pss_cons (ps_if (PW.pt (pw_and (pt_cmpR op_gt (pv 1) pe_int (nomark _)) (pw_and1 (pt_cmpR op_eq (pe_call (ok__law_draw T) (hr.mono (by decide)) (by rfl) T.g__law_draw T.F__law_draw.kp T.b__law_draw .nil pass0 (pa_cons (pv 0) (pa_cons pe_int pa_nil))) pe_int (nomark _))))) (pss_cons (ps_set (i := 12) sc__law_sightings.nd rfl (Or.inl rfl) (pe_call (ok__law_draw T) (hr.mono (by decide)) (by rfl) T.g__law_draw T.F__law_draw.kp T.b__law_draw .nil pass0 (pa_cons (pv 0) (pa_cons (pv 1) pa_nil))))
 (pss_cons (ps_set (i := 11) sc__law_sightings.nd rfl (Or.inl rfl) (pe_callB (call_max2 rfl) (by rfl) T.n_max (by decide +kernel) (pa_cons pe_int (pa_cons (pe_op op_add (pe_ix ix_tup (pe_ix ix_list (pv 7) (pv 12) (fun _ _ => rfl)) pe_int (fun _ _ => rfl)) (pe_ix ix_list (pe_lst (pa_cons pe_int (pa_cons (pe_un un_neg pe_int) (pa_cons (pv 4) (pa_cons pe_int pa_nil))))) (pe_call (ok__law_draw T) (hr.mono (by decide)) (by rfl) T.g__law_draw T.F__law_draw.kp T.b__law_draw .nil pass0 (pa_cons (pv 0) (pa_cons pe_int pa_nil))) (fun _ _ => rfl))) pa_nil))))
 (pss_one (ps_asg (pe_tup (pa_cons (pe_ix ix_tup (pe_ix ix_list (pv 7) (pv 12) (fun _ _ => rfl)) pe_int (fun _ _ => rfl)) (pa_cons (pe_callB (call_min2 rfl) (by rfl) T.n_min (by decide +kernel) (pa_cons (pe_powN (z := 100000000000000000000) ⟨by decide, by decide, by decide⟩ (by decide +kernel)) (pa_cons (pv 11) pa_nil))) pa_nil))) (pg_sub (pv 7) (pv 12) set_list)))))
 pss_nil)
 (pss_one (ps_ret (pe_tup (pa_cons (pv 7) (pa_cons (pv 3) (pa_cons (pv 4) pa_nil)))))))))))))), ?_⟩
    repeat walk_at "rd"
    refine new_at (Nat.le_of_ble_eq_true rfl) (fun L H1 nL s1 eL => ?_)
    have hs1 := hs.keep s1
    have nLp := hs.ne nL
    repeat walk_at "rd"
    refine ⟨p, q, 4, rfl, hs1, by decide, by decide, fun d H2 d0 d1 hs2 b2 => ?_⟩
    obtain ⟨limit, hat, l6, l9⟩ := limit_of d0 d1
    refine r_ixL (b2 _ _ eL nLp) hat ?_
    have b2 := (But.of_same s1).trans b2
    clear hs1 s1 eL nLp nL hat
    repeat walk_at "rd"
    refine ⟨p, q, limit, rfl, hs2, by omega, by omega, fun D1 H3 D0 D9 hs3 b3 => ?_⟩
    obtain ⟨D, hD⟩ : ∃ D, 1 + D1 = D := ⟨_, rfl⟩
    repeat walk_at "rd"
    refine ⟨p, q, limit, rfl, hs3, by omega, by omega, fun G1 H4 G0 G9 hs4 b4 => ?_⟩
    obtain ⟨G, hG⟩ : ∃ G, 1 + G1 = G := ⟨_, rfl⟩
    repeat walk_at "rd"
    refine ⟨p, q, rfl, hs4, fun f fs H5 hfl hfi ef hs5 b5 => ?_⟩
    repeat walk_at "rd"
    refine ⟨p, q, 3, rfl, hs5, by decide, by decide, fun e H6 e0 e1 hs6 b6 => ?_⟩
    have ef := tup_but ef hs5 b6
    repeat first | walk_at "rd" | walk_at "rdi"
    refine new_at (Nat.zero_le _) (fun L H7 nL s7 eL => ?_)
    have nLp := hs6.ne nL
    have nLq := hs6.neq nL
    have b6a := ((b2.trans b3).trans b4).trans (b5.trans b6)
    have nLH : H L = none := b6a.free hs6 nL
    have S7 : Sgt p q f L fs H [] [] H7 := ⟨hs6.keep s7, b6a.trans (But.of_same s7), s7 _ _ ef, eL, RowsAt.nil⟩
    clear hs2 hs3 hs4 hs5 hs6 b2 b3 b4 b5 b6 b6a ef eL s7
    have hDr : 1 ≤ D ∧ D ≤ 1000000000 := by omega
    have hGr : 1 ≤ G ∧ G ≤ 1000000000 := by omega
    rw [hD, hG]
    clear hD hG D0 D9 G0 G9 l6 l9
    repeat walk_at "rd"
    refine ⟨by omega, by omega, for_range (lo := 0) (n := many.toNat) (fun i σ H' => ∃ (v8 v9 v10 v11 : Option V) (xs : List V) (rs : List Row), σ = [some (.ref p), some (.int many), some (.int limit), some (.int D), some (.int G), some (.ref f), some (.bl (decide (e = 0))), some (.ref L), v8, v9, v10, v11, none] ∧ Sgt p q f L fs H xs rs H' ∧ rs.length = i ∧ ∀ r, r ∈ rs → RowNew r) ⟨_, _, _, _, [], [], rfl, S7, rfl, fun r hr => nomatch hr⟩ ?_ ?_⟩
    · clear S7 nL
      rintro i σ H8 hi ⟨v8, v9, v10, v11, xs, rs, rfl, S, hlen, hnew⟩
      repeat walk_at "rd"
      refine ⟨p, q, rfl, S.hs, fun y zs H9 hzl hzi ey hs9 b9 => ?_⟩
      have S := S.but hs9 b9 nLp
      clear hs9 b9
      repeat walk_at "rd"
      with_reducible refine seq_with (fun σ H' => ∃ (v10 v11 : Option V) (y : Addr) (zs : List Int), σ = [some (.ref p), some (.int many), some (.int limit), some (.int D), some (.int G), some (.ref f), some (.bl (decide (e = 0))), some (.ref L), some (.int (0 + (i : Nat))), some (.ref y), v10, v11, none] ∧ Sgt p q f L fs H xs rs H' ∧ H' y = some (.tup (.int 0 :: zs.map V.int)) ∧ zs.length ≤ 199 ∧ ItIn zs) ?_ (fun rest => ?_)
      · clear S ey hzl hzi zs y H9
        rintro σ H9 ⟨v10, v11, y, zs, rfl, S, ey, hzl, hzi⟩
        have hsr := sum_rng zs hzi
        repeat walk_at "rd"
        refine ⟨y, 0 :: zs, rfl, SqT.of ey, ?_⟩
        rw [show ((V.int 0 :: zs.map V.int).length : Int) - 1 = zs.length by rw [List.length_cons, List.length_map]; omega, show (0 :: zs).sum = zs.sum by rw [List.sum_cons]; omega]
        have m1 : 0 ≤ (zs.length : Int) * D := Int.mul_nonneg (by omega) (by omega)
        have m2 : 0 ≤ zs.sum * G := Int.mul_nonneg hsr.1 (by omega)
        have m3 : (zs.length : Int) * D ≤ zs.length * 1000000000 := Int.mul_le_mul_of_nonneg_left (by omega) (by omega)
        have m4 : zs.sum * G ≤ zs.sum * 1000000000 := Int.mul_le_mul_of_nonneg_left (by omega) (by omega)
        repeat walk_at "rd"
        with_reducible refine seq_with (fun σ H' => ∃ (v10 : Option V) (y : Addr) (zs : List Int) (t : Int), σ = [some (.ref p), some (.int many), some (.int limit), some (.int D), some (.int G), some (.ref f), some (.bl (decide (e = 0))), some (.ref L), some (.int (0 + (i : Nat))), some (.ref y), v10, some (.int t), none] ∧ Sgt p q f L fs H xs rs H' ∧ H' y = some (.tup (.int 0 :: zs.map V.int)) ∧ RowNew (zs, t)) ?_ (fun rest => ?_)
        · clear S ey hzl hzi hsr m1 m2 m3 m4 zs y H9
          rintro σ H9 ⟨v10, y, zs, t, rfl, S, ey, hN⟩
          have eL := S.eL
          repeat walk_at "rd"
          refine ⟨.inl ⟨rfl, _, SqL.of eL⟩, ?_⟩
          repeat walk_at "rd"
          refine new_at (Nat.le_of_ble_eq_true rfl) (fun u H10 nu s10 eu => ?_)
          have S := S.keep s10
          repeat walk_at "rd"
          refine r_app S.eL (small1000 (by rw [S.hR.1]; omega)) ?_
          refine ⟨_, _, _, _, xs ++ [.ref u], rs ++ [(zs, t)], rfl, ⟨S.hs.upd nLp nLq, S.b.updNone nLH, (upd_ne (lst_ne S.ef S.eL)).trans S.ef, upd_same, (S.hR.snoc ⟨u, y, rfl, eu, s10 _ _ ey⟩).upd S.eL⟩, by rw [List.length_append, List.length_singleton, hlen], fun r hr => ?_⟩
          rcases List.mem_append.mp hr with hr | hr
          · exact hnew r hr
          · rw [List.mem_singleton] at hr
            subst hr
            exact hN
        · repeat walk_at "rd"
          refine ite_d (fun hc => ?_) (fun hc => ?_)
          · repeat walk_at "rd"
            refine new_at (Nat.le_of_ble_eq_true rfl) (fun u H10 nu s10 eu => ?_)
            have hN : RowNew ([0], D) := ⟨⟨by show 1 ≤ 199; decide, fun z hz => by rw [List.mem_singleton] at hz; subst hz; exact ⟨by decide, by decide⟩, by show 0 ≤ D; omega, by show D ≤ _; omega, by show D ≤ ((1 : Nat) + (0 + 0) + 1) * 1000000000; omega⟩, by show D ≤ ((1 : Nat) + (0 + 0)) * 1000000000; omega⟩
            repeat first | exact rest _ _ ⟨_, u, [0], D, rfl, S.keep s10, eu, hN⟩ | walk_at "rd"
          · have hN : RowNew (zs, (zs.length : Int) * D + zs.sum * G) := ⟨⟨hzl, hzi, by show 0 ≤ (zs.length : Int) * D + zs.sum * G; omega, by show (zs.length : Int) * D + zs.sum * G ≤ _; omega, by show (zs.length : Int) * D + zs.sum * G ≤ ((zs.length : Int) + zs.sum + 1) * 1000000000; omega⟩, by show (zs.length : Int) * D + zs.sum * G ≤ ((zs.length : Int) + zs.sum) * 1000000000; omega⟩
            repeat first | exact rest _ _ ⟨_, y, zs, _, rfl, S, ey, hN⟩ | walk_at "rd"
      · repeat first | walk_at "rd" | walk_at "rdi"
        refine ite_d (fun hc => ?_) (fun hc => ?_)
        · repeat walk_at "rd"
          refine new_at (Nat.le_of_ble_eq_true rfl) (fun u H10 nu s10 eu => ?_)
          have S := S.keep s10
          clear ey
          repeat walk_at "rd"
          refine ⟨p, q, 4, rfl, S.hs, by decide, by decide, fun c H11 c0 c1 hs11 b11 => ?_⟩
          have eu := tup_but eu S.hs b11
          have S := S.but hs11 b11 nLp
          clear hs11 b11
          repeat walk_at "rd"
          refine ⟨by omega, by omega, for_range (lo := 0) (n := (1 + c).toNat) (fun j σ H' => ∃ (v10 v11 : Option V) (y : Addr) (zs : List Int), σ = [some (.ref p), some (.int many), some (.int limit), some (.int D), some (.int G), some (.ref f), some (.bl (decide (e = 0))), some (.ref L), some (.int (0 + (i : Nat))), some (.ref y), v10, v11, none] ∧ Sgt p q f L fs H xs rs H' ∧ H' y = some (.tup (.int 0 :: zs.map V.int)) ∧ zs.length ≤ 199 ∧ ItIn zs) ⟨_, _, u, [], rfl, S, eu, by decide, fun z hz => nomatch hz⟩ ?_ ?_⟩
          · clear S eu
            rintro j σ H12 hj ⟨v10, v11, y, zs, rfl, S, ey, hzl, hzi⟩
            have ef := S.ef
            repeat walk_at "rd"
            refine ite_d (fun hc => ?_) (fun hc => ?_)
            · repeat walk_at "rd"
              refine r_slT (SqT.of ef) (not_whole _ _) (fun q7 H13 n7 s7 e7 => ?_)
              rw [cut_one] at e7
              refine r_catA (s7 _ _ ey) e7 (by simp) (by rw [List.length_cons, List.length_map, List.length_map]; omega) (fun y2 H14 s14 e14 => ?_)
              have e14 : H14 y2 = some (.tup (.int 0 :: (zs ++ fs).map V.int)) := by rw [e14, List.map_append]; rfl
              have hzl2 : (zs ++ fs).length ≤ 199 := by
                rw [List.length_cons, List.length_cons, List.length_map, List.length_map] at hc
                rw [List.length_append]; omega
              repeat first | exact ⟨_, _, y2, zs ++ fs, rfl, (S.keep s7).keep s14, e14, hzl2, hzi.app hfi⟩ | walk_at "rd"
            · repeat first | exact ⟨_, _, y, zs, rfl, S, ey, hzl, hzi⟩ | walk_at "rd"
          · clear S eu
            rintro σ H12 ⟨v10, v11, y, zs, rfl, S, ey, hzl, hzi⟩
            repeat first | exact rest _ _ ⟨_, _, y, zs, rfl, S, ey, hzl, hzi⟩ | walk_at "rd"
        · repeat first | exact rest _ _ ⟨_, _, y, zs, rfl, S, ey, hzl, hzi⟩ | walk_at "rd"
    · clear S7 nL
      rintro σ H8 ⟨v8, v9, v10, v11, xs, rs, rfl, S, hlen, hnew⟩
      repeat walk_at "rd"
      with_reducible refine seq_with (fun σ H' => ∃ (v8 v9 v10 v11 v12 : Option V) (xs : List V) (rs : List Row), σ = [some (.ref p), some (.int many), some (.int limit), some (.int D), some (.int G), some (.ref f), some (.bl (decide (e = 0))), some (.ref L), v8, v9, v10, v11, v12] ∧ Sgt p q f L fs H xs rs H' ∧ rs.length ≤ 60 ∧ ∀ r, r ∈ rs → RowOk r) ?_ (fun rest => ?_)
      · clear S hlen hnew rs xs H8
        rintro σ H8 ⟨v8, v9, v10, v11, v12, xs, rs, rfl, S, hlen, hok⟩
        repeat walk_at "rd"
        refine new_at (Nat.le_of_ble_eq_true rfl) (fun u H10 nu s10 eu => ?_)
        have S := S.keep s10
        exact k u L xs rs D G H10 hok hlen eu S.eL S.hR S.hs S.b
      · have hok : ∀ r, r ∈ rs → RowOk r := fun r hr => (hnew r hr).ok
        repeat first | walk_at "rd" | walk_at "rdi"
        refine ite_d (fun hc => ?_) (fun hc => ?_)
        · repeat walk_at "rd"
          refine ⟨p, q, 4, rfl, S.hs, by decide, by decide, fun c H11 c0 c1 hs11 b11 => ?_⟩
          have S := S.but hs11 b11 nLp
          clear hs11 b11
          repeat first | walk_at "rd" | walk_at "rdi"
          refine ite_d (fun hc1 => ?_) (fun hc1 => ?_)
          · repeat walk_at "rd"
            refine ⟨p, q, many, rfl, S.hs, by omega, by omega, fun at_ H12 a0 a1 hs12 b12 => ?_⟩
            have S := S.but hs12 b12 nLp
            clear hs12 b12
            obtain ⟨n, rfl⟩ : ∃ n : Nat, at_ = n := ⟨at_.toNat, by omega⟩
            have hn : n < rs.length := by omega
            obtain ⟨r, hr0⟩ : ∃ r, rs[n]? = some r := ⟨_, List.getElem?_eq_getElem hn⟩
            obtain ⟨x, hx, t, z, rfl, et, ez⟩ := S.hR.2 n r hr0
            have hrm : r ∈ rs := List.mem_iff_getElem?.mpr ⟨n, hr0⟩
            repeat walk_at "rd"
            refine r_ixL S.eL (v := .ref t) (atI_nat hx) ?_
            repeat walk_at "rd"
            refine new_at (Nat.le_of_ble_eq_true rfl) (fun M H13 nM s13 eM => ?_)
            have nMp := S.hs.ne nM
            have S := S.keep s13
            have et := s13 _ _ et
            have ez := s13 _ _ ez
            repeat walk_at "rd"
            refine ⟨p, q, 4, rfl, S.hs, by decide, by decide, fun d H14 y0 y1 hs14 b14 => ?_⟩
            obtain ⟨off, hat, o1, o9⟩ := off_of (g := G) y0 y1 hGr.1 hGr.2
            have eM := b14 _ _ eM nMp
            have et := tup_but et S.hs b14
            have ez := tup_but ez S.hs b14
            have S := S.but hs14 b14 nLp
            clear hs14 b14
            refine r_ixL eM hat ?_
            repeat walk_at "rd"
            obtain ⟨tm, htm, tm0, tm9⟩ : ∃ tm, (if r.2 + off > 0 then r.2 + off else 0) = tm ∧ 0 ≤ tm ∧ tm ≤ ((r.1.length : Int) + r.1.sum + 1) * 1000000000 := ⟨_, rfl, by split <;> omega, by
              have h1 := (hnew r hrm).low
              have h2 := sum_rng r.1 (hok r hrm).items
              split <;> omega⟩
            rw [htm]
            repeat walk_at "rd"
            refine r_ixL S.eL (v := .ref t) (atI_nat hx) ?_
            repeat walk_at "rd"
            obtain ⟨tn, htn, tn0, tn9, tn8⟩ : ∃ tn, (if tm < 100000000000000000000 then tm else 100000000000000000000) = tn ∧ 0 ≤ tn ∧ tn ≤ 100000000000000000000 ∧ tn ≤ tm := ⟨_, rfl, by split <;> omega, by split <;> omega, by split <;> omega⟩
            rw [htn]
            refine new_at (Nat.le_of_ble_eq_true rfl) (fun u H15 nu s15 eu => ?_)
            have S := S.keep s15
            have ez := s15 _ _ ez
            repeat walk_at "rd"
            refine r_setL S.eL (ixN_nat (by rw [S.hR.1]; exact hn)) ?_
            have hR2 : RowsAt H15 (xs.set n (.ref u)) (rs.set n (r.1, tn)) := S.hR.set ⟨u, z, rfl, eu, ez⟩
            repeat first | exact rest _ _ ⟨_, _, _, _, _, xs.set n (.ref u), rs.set n (r.1, tn), rfl, ⟨S.hs.upd nLp nLq, S.b.updNone nLH, (upd_ne (lst_ne S.ef S.eL)).trans S.ef, upd_same, hR2.upd S.eL⟩, by rw [List.length_set]; omega, fun r' hr' => by
              rcases List.mem_or_eq_of_mem_set hr' with h | h
              · exact hok r' h
              · subst h
                exact ⟨(hok r hrm).len, (hok r hrm).items, tn0, tn9, Int.le_trans tn8 tm9⟩⟩ | walk_at "rd"
          · repeat first | exact rest _ _ ⟨_, _, _, _, _, xs, rs, rfl, S, by omega, hok⟩ | walk_at "rd"
        · repeat first | exact rest _ _ ⟨_, _, _, _, _, xs, rs, rfl, S, by omega, hok⟩ | walk_at "rd"
theorem ok__law_lines (T : Txt K mg a) : FnOk P w K mg base CX0 1 a.a__law_lines a.d__law_lines ["_law_rows"] spSums := by
  refine T.F__law_lines.ok sc__law_lines (fun vs H Q E h => ?_) (fun cdv A outer s H vs Q E hr h => ?_)
  · obtain ⟨p, xs, rs, rfl, _⟩ := h
    rfl
  · obtain ⟨p, xs, rs, rfl, ep, hA, hok, hl, k⟩ := h
    refine ⟨_, (pss_one (ps_ret (pe_lc (own := [("_law_name_here", 1), ("_law_time", 2)]) (g := gTup K 2 (gCons (gName 1) (gCons (gName 2) (gNil)))) (tt := tYes) rfl sc__law_lines.nd (pi_list (pv 0)) (blkOk_by (own := [("_law_name_here", 1), ("_law_time", 2)]) (N := ["_law_rows", "_law_name_here", "_law_time"]) (sc := defScope s__law_lines) (by decide +kernel)) (fun _ _ _ _ _ => (pg_tupK (K := K) (n := 2) rfl (by rfl) (pgs_cons (pg_name (i := 1) sc__law_lines.nd rfl (Or.inl rfl)) (pgs_cons (pg_name (i := 2) sc__law_lines.nd rfl (Or.inl rfl)) pgs_nil)))) (fun _ _ _ _ _ => pts_nil) (fun _ _ _ _ _ => (pe_tup (pa_cons (pe_op op_sub (pe_callB (call_len_seqK (K := K) rfl) (by rfl) T.n_len (by decide +kernel) (pa_cons (pv 1) pa_nil)) pe_int) (pa_cons (pe_callB (cr_sumTK (K := K) rfl rfl) (by rfl) T.n_sum (by decide +kernel) (pa_cons (pv 1) pa_nil)) (pa_cons (pv 2) pa_nil)))))))), ?_⟩
    repeat walk_at "rd"
    refine ⟨p, rfl, ⟨_, SqL.of ep⟩, fun L hL => lc_list (K := K) (a := p) (xs := xs) (fun i H' => ∃ acc : List V, H' L = some (.lst acc) ∧ TrisAt H' acc ((rs.take i).map lineOf) ∧ H' p = some (.lst xs) ∧ Same H H') ?_ (fun i H' _ ⟨_, _, _, h, _⟩ => SqL.of h) ?_ ?_⟩
    · exact ⟨[], upd_same, TrisAt.nil, (upd_ne (ne_of_none ep hL)).trans ep, Same.new hL⟩
    · rintro i y H6 hi ⟨acc, h1, h2, h3, h4⟩
      obtain ⟨r, hr1, t, q, rfl, e1, e2⟩ := (hA.keep h4).get hi
      have hi9 : i < 60 := by have := (List.getElem?_eq_some_iff.mp hi).1; have := hA.1; omega
      have hok1 := hok r (List.mem_iff_getElem?.mpr ⟨i, hr1⟩)
      repeat walk_at "rd"
      refine ⟨rfl, ?_⟩
      repeat walk_at "rd"
      rw [show ((V.int 0 :: r.1.map V.int).length : Int) - 1 = r.1.length by rw [List.length_cons, List.length_map]; omega]
      refine ⟨q, 0 :: r.1, rfl, SqT.of e2, ?_⟩
      rw [show (0 :: r.1).sum = r.1.sum by rw [List.sum_cons]; omega]
      repeat walk_at "rd"
      refine new_at (Nat.le_of_ble_eq_true rfl) (fun q8 H8 n8 s78 e8 => ?_)
      refine ⟨_, s78 _ _ h1, small1000 (by have := h2.1; rw [List.length_map, List.length_take] at this; omega), acc ++ [.ref q8], upd_same, ?_, (upd_ne (ne_of_none ep hL)).trans (s78 _ _ h3), (h4.trans s78).over hL (s78 _ _ h1)⟩
      rw [take_more hr1, List.map_append]
      exact ((h2.keep s78).snoc (g := lineOf r) e8).upd (s78 _ _ h1)
    · rintro H6 ⟨acc, h1, h2, h3, h4⟩
      rw [hA.1, List.take_length] at h2
      repeat first | exact k L acc H6 h4 h1 h2 | walk_at "rd"
end

/-! ### the law of k64: what shows that it is right -/
theorem gcd_step {a b : Int} (h : 0 < b) (ha : 0 ≤ a) : gcdI b (a % b) = gcdI a b := by
  obtain ⟨A, rfl⟩ : ∃ A : Nat, a = A := ⟨a.toNat, by omega⟩
  obtain ⟨B, rfl⟩ : ∃ B : Nat, b = B := ⟨b.toNat, by omega⟩
  have e : ((A : Int) % (B : Int)).natAbs = A % B := by omega
  unfold gcdI
  rw [e, Int.natAbs_natCast, Int.natAbs_natCast, Nat.gcd_comm B, ← Nat.gcd_rec, Nat.gcd_comm]
/-- Euclid's steps: what is left after i of them -/
structure Euc (g M a b : Int) (i : Nat) : Prop where
  a0 : 0 ≤ a
  b0 : 0 ≤ b
  a9 : a < 2 ^ 63
  b9 : b < 2 ^ 63
  gc : gcdI a b = g
  low : b = 0 ∨ i = 0 ∧ a * b ≤ M ∨ (b < a ∧ 1 ≤ i ∧ 2 ^ (i - 1) * (a * b) ≤ M)
theorem Euc.next {g M a b : Int} {i : Nat} (h : Euc g M a b i) (hb : 0 < b) : Euc g M b (a % b) (i + 1) := by
  have r0 := Int.emod_nonneg a (show b ≠ 0 by omega)
  have r1 := Int.emod_lt_of_pos a hb
  refine ⟨h.b0, r0, h.b9, by have := h.b9; omega, (gcd_step hb h.a0).trans h.gc, .inr (.inr ⟨r1, by omega, ?_⟩)⟩
  rw [Nat.add_sub_cancel]
  have hq := Int.mul_ediv_add_emod a b
  rcases h.low with z | ⟨rfl, hM⟩ | ⟨hba, hi, hM⟩
  · omega
  · have h1 : a % b ≤ a := by
      have := Int.mul_nonneg (show 0 ≤ b by omega) (Int.ediv_nonneg h.a0 (show 0 ≤ b by omega))
      omega
    have h2 : b * (a % b) ≤ b * a := Int.mul_le_mul_of_nonneg_left h1 (by omega)
    rw [Int.mul_comm b a] at h2
    rw [Int.pow_zero, Int.one_mul]
    omega
  · have h1 : 2 * (a % b) ≤ a := by
      have hq1 : 1 ≤ a / b := by rw [Int.le_ediv_iff_mul_le hb]; omega
      have : b * 1 ≤ b * (a / b) := Int.mul_le_mul_of_nonneg_left hq1 (by omega)
      omega
    have h2 : b * (2 * (a % b)) ≤ b * a := Int.mul_le_mul_of_nonneg_left h1 (by omega)
    have e : (2 : Int) ^ i = 2 ^ (i - 1) * 2 := by
      obtain ⟨j, rfl⟩ : ∃ j, i = j + 1 := ⟨i - 1, by omega⟩
      rw [Nat.add_sub_cancel, Int.pow_succ]
    rw [e, Int.mul_assoc]
    have h3 : 2 * (b * (a % b)) ≤ a * b := by
      rw [Int.mul_left_comm 2 b, Int.mul_comm a b]; exact h2
    have h4 : (0 : Int) ≤ 2 ^ (i - 1) := Int.pow_nonneg (by decide)
    exact Int.le_trans (Int.mul_le_mul_of_nonneg_left h3 h4) hM
theorem Euc.stay {g M a b : Int} {i : Nat} (h : Euc g M a b i) (hb : ¬ 0 < b) : Euc g M a b (i + 1) := ⟨h.a0, h.b0, h.a9, h.b9, h.gc, .inl (by have := h.b0; omega)⟩
theorem Euc.done {g M a b : Int} (h : Euc g M a b 200) (hM : M ≤ 2 ^ 126) : a = g := by
  have hz : b = 0 := by
    rcases h.low with z | ⟨z, _⟩ | ⟨h1, _, h2⟩
    · exact z
    · cases z
    · by_cases c : b = 0
      · exact c
      · have hb := h.b0
        have p1 : 1 * 1 ≤ a * b := Int.mul_le_mul (by omega) (by omega) (by decide) (by omega)
        have p2 : (2 : Int) ^ 199 * 1 ≤ 2 ^ 199 * (a * b) := Int.mul_le_mul_of_nonneg_left (by omega) (Int.pow_nonneg (by decide))
        have p3 : (2 : Int) ^ 126 < 2 ^ 199 * 1 := by decide
        have h2 : (2 : Int) ^ 199 * (a * b) ≤ M := h2
        omega
  rw [← h.gc, hz]
  unfold gcdI
  rw [show (0 : Int).natAbs = 0 from rfl, Nat.gcd_zero_right]
  have := h.a0
  omega
theorem Euc.first {x y : Int} (hx : -(2 ^ 62) < x ∧ x < 2 ^ 62) (hy : -(2 ^ 62) < y ∧ y < 2 ^ 62) : Euc (gcdI x y) (x.natAbs * y.natAbs : Int) x.natAbs y.natAbs 0 := ⟨by omega, by omega, by omega, by omega, by unfold gcdI; rw [Int.natAbs_natCast, Int.natAbs_natCast], .inr (.inl ⟨rfl, Int.le_refl _⟩)⟩
def spSolvesL : Sp := fun vs H Q _ => ∃ (p u : Addr) (xs : List V) (ls : List L3) (D G : Int), vs = [.ref p, .ref u] ∧ H p = some (.lst xs) ∧ TrisAt H xs ls ∧ LinesIn ls ∧ H u = some (.tup [.int D, .int G]) ∧ ∀ b : Bool, (b = true ↔ Solves ls D G ∧ 1 ≤ D ∧ 1 ≤ G) → Q (.bl b) H
def spDivisor : Sp := fun vs H Q _ => ∃ x y : Int, vs = [.int x, .int y] ∧ (-(2 ^ 62) < x ∧ x < 2 ^ 62) ∧ (-(2 ^ 62) < y ∧ y < 2 ^ 62) ∧ Q (.int (gcdI x y)) H
def spPairL : Sp := fun vs H Q _ => ∃ (u : Addr) (D G : Int), vs = [.ref u] ∧ H u = some (.tup [.int D, .int G]) ∧ Q (.bl true) H
def spUnlike : Sp := fun vs H Q _ => ∃ (p : Addr) (xs : List V) (ls : List L3), vs = [.ref p] ∧ H p = some (.lst xs) ∧ TrisAt H xs ls ∧ LinesIn ls ∧ (Par ls → Q .non H) ∧ ∀ (y t u : Addr) (l m : L3) (H' : Hp), l ∈ ls → m ∈ ls → l.1 * m.2.1 ≠ m.1 * l.2.1 → Same H H' → H' y = some (.tup [.ref t, .ref u]) → H' t = some (.tup [.int l.1, .int l.2.1, .int l.2.2]) → H' u = some (.tup [.int m.1, .int m.2.1, .int m.2.2]) → Q (.ref y) H'
def spHasPair : Sp := fun vs H Q _ => ∃ (t : Addr) (l : L3), vs = [.ref t] ∧ H t = some (.tup [.int l.1, .int l.2.1, .int l.2.2]) ∧ LineIn l ∧ 0 < l.1 ∧ ∀ b : Bool, (b = true → ∃ D G : Int, 1 ≤ D ∧ 1 ≤ G ∧ l.1 * D + l.2.1 * G = l.2.2) → Q (.bl b) H
section
variable {P : Program} {w : World} {K : PySem.W.Frag} {mg : Str → Option Value} {base : Heap} {a : Adr}
theorem ok__law_solves (T : Txt K mg a) : FnOk P w K mg base CX0 1 a.a__law_solves a.d__law_solves ["_law_lines_here", "_law_pair_here"] spSolvesL := by
  refine T.F__law_solves.ok sc__law_solves (fun vs H Q E h => ?_) (fun cdv A outer s H vs Q E hr h => ?_)
  · obtain ⟨p, u, xs, ls, D, G, rfl, _⟩ := h
    rfl
  · obtain ⟨p, u, xs, ls, D, G, rfl, ep, hA, hl, eu, k⟩ := h
    refine ⟨_, (pss_cons (ps_for (by exact PassesOwn.never) rfl (pi_list (pv 0)) (pg_tup (by rfl) (pgs_cons (pg_name (i := 2) sc__law_solves.nd rfl (Or.inl rfl)) (pgs_cons (pg_name (i := 3) sc__law_solves.nd rfl (Or.inl rfl)) (pgs_cons (pg_name (i := 4) sc__law_solves.nd rfl (Or.inl rfl)) pgs_nil))))
 (pss_one (ps_if (pt_cmpR op_ne (pe_op op_add (pe_op op_mul (pv 2) (pe_ix ix_tup (pv 1) pe_int (fun _ _ => rfl))) (pe_op op_mul (pv 3) (pe_ix ix_tup (pv 1) pe_int (fun _ _ => rfl)))) (pv 4) (nomark _)) (pss_one (ps_ret pe_bl))
 pss_nil)))
 (pss_one (ps_ret (pe_and (pe_cmpR op_ge (pe_ix ix_tup (pv 1) pe_int (fun _ _ => rfl)) pe_int (nomark _)) (pe_one (pe_cmpR op_ge (pe_ix ix_tup (pv 1) pe_int (fun _ _ => rfl)) pe_int (nomark _))))))), ?_⟩
    repeat walk_at "rd"
    refine ⟨p, rfl, ⟨_, SqL.of ep⟩, for_list (K := K) (a := p) (xs := xs) (fun i σ H' => ∃ v3 v4 v5 : Option V, σ = [some (.ref p), some (.ref u), v3, v4, v5] ∧ H' = H ∧ Solves (ls.take i) D G) ⟨_, _, _, rfl, rfl, fun l hl => by simp at hl⟩ (fun i σ H' _ ⟨_, _, _, _, e, _⟩ => by rw [e]; exact SqL.of ep) ?_ ?_⟩
    · rintro i x σ H2 hi ⟨v3, v4, v5, rfl, rfl, hs⟩
      obtain ⟨t, l, rfl, hl1, et⟩ := hA.get hi
      obtain ⟨a0, a1, a2, a3, _, _, _, _⟩ := hl l (List.mem_iff_getElem?.mpr ⟨i, hl1⟩)
      repeat walk_at "rd"
      refine r_nD (fun hc => ?_) (fun hc => ?_)
      · repeat walk_at "rd"
        exact k false ⟨fun z => Bool.noConfusion z, fun h => absurd (h.1 l (List.mem_iff_getElem?.mpr ⟨i, hl1⟩)) hc⟩
      · repeat first | exact ⟨_, _, _, rfl, rfl, fun l' hl' => by
          rw [take_more hl1] at hl'
          rcases List.mem_append.mp hl' with h | h
          · exact hs l' h
          · rw [List.mem_singleton] at h
            subst h
            exact hc⟩ | walk_at "rd"
    · rintro σ H2 ⟨v3, v4, v5, rfl, rfl, hs⟩
      rw [hA.1, List.take_length] at hs
      repeat walk_at "rd"
      refine ite_d (fun hc => ?_) (fun hc => ?_)
      · repeat walk_at "rd"
        exact k _ ⟨fun h => ⟨hs, hc, of_decide_eq_true h⟩, fun h => decide_eq_true h.2.2⟩
      · exact k false ⟨fun z => Bool.noConfusion z, fun h => absurd h.2.1 hc⟩
theorem ok__law_divisor (T : Txt K mg a) : FnOk P w K mg base CX0 1 a.a__law_divisor a.d__law_divisor ["_law_a", "_law_b"] spDivisor := by
  refine T.F__law_divisor.ok sc__law_divisor (fun vs H Q E h => ?_) (fun cdv A outer s H vs Q E hr h => ?_)
  · obtain ⟨x, y, rfl, _⟩ := h
    rfl
  · obtain ⟨x, y, rfl, hx, hy, k⟩ := h
    refine ⟨_, (pss_cons (ps_set (i := 0) sc__law_divisor.nd rfl (Or.inl rfl) (pe_callB call_abs (by rfl) T.n_abs (by decide +kernel) (pa_cons (pv 0) pa_nil)))
 (pss_cons (ps_set (i := 1) sc__law_divisor.nd rfl (Or.inl rfl) (pe_callB call_abs (by rfl) T.n_abs (by decide +kernel) (pa_cons (pv 1) pa_nil)))
 (pss_cons (ps_for (by exact PassesOwn.never) rfl (pi_range1 (by rfl) T.n_range (pa_cons pe_int pa_nil)) (pg_name (i := 2) sc__law_divisor.nd rfl (Or.inl rfl))
 (pss_one (ps_if (pt_cmpR op_gt (pv 1) pe_int (nomark _)) (pss_cons (ps_set (i := 3) sc__law_divisor.nd rfl (Or.inl rfl) (pe_op op_modN (pe_callTy call_int1 (by rfl) T.n_int (by decide +kernel) (pa_cons (pv 0) pa_nil)) (pv 1)))
 (pss_cons (ps_set (i := 0) sc__law_divisor.nd rfl (Or.inl rfl) (pv 1))
 (pss_one (ps_set (i := 1) sc__law_divisor.nd rfl (Or.inl rfl) (pv 3)))))
 pss_nil)))
 (pss_one (ps_ret (pv 0)))))), ?_⟩
    repeat walk_at "rd"
    rw [show (if x < 0 then -x else x) = (x.natAbs : Int) by split <;> omega, show (if y < 0 then -y else y) = (y.natAbs : Int) by split <;> omega]
    have hM : ((x.natAbs : Int) * y.natAbs) ≤ 2 ^ 126 := by
      have := Int.mul_le_mul (show (x.natAbs : Int) ≤ 2 ^ 62 by omega) (show (y.natAbs : Int) ≤ 2 ^ 62 by omega) (by omega) (by decide)
      have h2 : (2 : Int) ^ 62 * 2 ^ 62 ≤ 2 ^ 126 := by decide
      omega
    refine ⟨by decide, by decide, for_range (lo := 0) (n := 200) (fun i σ H' => ∃ (u v : Int) (v2 v3 : Option V), σ = [some (.int u), some (.int v), v2, v3] ∧ H' = H ∧ Euc (gcdI x y) (x.natAbs * y.natAbs) u v i) ⟨_, _, _, _, rfl, rfl, Euc.first hx hy⟩ ?_ ?_⟩
    · rintro i σ H1 hi ⟨u, v, v2, v3, rfl, rfl, he⟩
      have ub := he.a9
      have vb := he.b9
      have u0 := he.a0
      repeat walk_at "rd"
      refine ite_d (fun hc => ?_) (fun hc => ?_)
      · have e0 : u.fmod v = u % v := Int.fmod_eq_emod_of_nonneg _ (by omega)
        repeat walk_at "rd"
        rw [e0]
        repeat first | exact ⟨_, _, _, _, rfl, rfl, he.next hc⟩ | walk_at "rd"
      · repeat first | exact ⟨_, _, _, _, rfl, rfl, he.stay hc⟩ | walk_at "rd"
    · rintro σ H1 ⟨u, v, v2, v3, rfl, rfl, he⟩
      repeat walk_at "rd"
      rw [he.done hM]
      exact k
theorem ok__law_pair (T : Txt K mg a) : FnOk P w K mg base CX0 2 a.a__law_pair a.d__law_pair ["_law_thing"] spPairL := by
  refine T.F__law_pair.ok sc__law_pair (fun vs H Q E h => ?_) (fun cdv A outer s H vs Q E hr h => ?_)
  · obtain ⟨u, D, G, rfl, _⟩ := h
    rfl
  · obtain ⟨u, D, G, rfl, eu, k⟩ := h
    refine ⟨_, (pss_one (ps_ret (pe_and (pe_callB call_isi (by rfl) T.n_isinstance (by decide +kernel) (pa_cons (pv 0) (pa_cons (pe_bltn (v := .ty "tuple") (u := .type "tuple") (by rfl) T.n_tuple (by decide +kernel) rfl) pa_nil))) (pe_and (pe_cmpR op_eq (pe_callB call_len_seq (by rfl) T.n_len (by decide +kernel) (pa_cons (pv 0) pa_nil)) pe_int (nomark _)) (pe_and (pe_call (ok__law_integer T) (hr.mono (by decide)) (by rfl) T.g__law_integer T.F__law_integer.kp T.b__law_integer .nil pass0 (pa_cons (pe_ix ix_tup (pv 0) pe_int (fun _ _ => rfl)) pa_nil)) (pe_one (pe_call (ok__law_integer T) (hr.mono (by decide)) (by rfl) T.g__law_integer T.F__law_integer.kp T.b__law_integer .nil pass0 (pa_cons (pe_ix ix_tup (pv 0) pe_int (fun _ _ => rfl)) pa_nil)))))))), ?_⟩
    repeat walk_at "rd"
    refine r_isiTu true eu (by decide +kernel) ?_
    repeat walk_at "rd"
    refine ite_tt rfl ?_
    repeat walk_at "rd"
    refine ⟨_, true, rfl, IntV.int, ?_⟩
    repeat walk_at "rd"
    exact ⟨_, true, rfl, IntV.int, k⟩
theorem ok__law_unlike (T : Txt K mg a) : FnOk P w K mg base CX0 1 a.a__law_unlike a.d__law_unlike ["_law_lines_here"] spUnlike := by
  refine T.F__law_unlike.ok sc__law_unlike (fun vs H Q E h => ?_) (fun cdv A outer s H vs Q E hr h => ?_)
  · obtain ⟨p, xs, ls, rfl, _⟩ := h
    rfl
  · obtain ⟨p, xs, ls, rfl, ep, hA, hl, k1, k2⟩ := h
    refine ⟨_, (pss_cons (ps_for (by exact PassesOwn.never) rfl (pi_list (pv 0)) (pg_name (i := 1) sc__law_unlike.nd rfl (Or.inl rfl))
 (pss_one (ps_for (by exact PassesOwn.never) rfl (pi_list (pv 0)) (pg_name (i := 2) sc__law_unlike.nd rfl (Or.inl rfl))
 (pss_one (ps_if (pt_cmpR op_ne (pe_op op_mul (pe_ix ix_tup (pv 1) pe_int (fun _ _ => rfl)) (pe_ix ix_tup (pv 2) pe_int (fun _ _ => rfl))) (pe_op op_mul (pe_ix ix_tup (pv 2) pe_int (fun _ _ => rfl)) (pe_ix ix_tup (pv 1) pe_int (fun _ _ => rfl))) (nomark _)) (pss_one (ps_ret (pe_tup (pa_cons (pv 1) (pa_cons (pv 2) pa_nil)))))
 pss_nil)))))
 (pss_one (ps_ret pe_non))), ?_⟩
    repeat walk_at "rd"
    refine ⟨p, rfl, ⟨_, SqL.of ep⟩, for_list (K := K) (a := p) (xs := xs) (fun i σ H' => ∃ v1 v2 : Option V, σ = [some (.ref p), v1, v2] ∧ H' = H ∧ ∀ l m, l ∈ ls.take i → m ∈ ls → l.1 * m.2.1 = m.1 * l.2.1) ⟨_, _, rfl, rfl, fun l m hl => by simp at hl⟩ (fun i σ H' _ ⟨_, _, _, e, _⟩ => by rw [e]; exact SqL.of ep) ?_ ?_⟩
    · rintro i x σ H2 hi ⟨v1, v2, rfl, rfl, hs⟩
      obtain ⟨t, l, rfl, hl1, et⟩ := hA.get hi
      have hlm : l ∈ ls := List.mem_iff_getElem?.mpr ⟨i, hl1⟩
      obtain ⟨a0, a1, a2, a3, _, _, _, _⟩ := hl l hlm
      repeat walk_at "rd"
      refine ⟨p, rfl, ⟨_, SqL.of ep⟩, for_list (K := K) (a := p) (xs := xs) (fun j σ H' => ∃ v2 : Option V, σ = [some (.ref p), some (.ref t), v2] ∧ H' = H2 ∧ ∀ m, m ∈ ls.take j → l.1 * m.2.1 = m.1 * l.2.1) ⟨_, rfl, rfl, fun m hl => by simp at hl⟩ (fun i σ H' _ ⟨_, _, e, _⟩ => by rw [e]; exact SqL.of ep) ?_ ?_⟩
      · rintro j y σ H3 hj ⟨v2, rfl, rfl, hs2⟩
        obtain ⟨u, m, rfl, hm1, eu⟩ := hA.get hj
        have hmm : m ∈ ls := List.mem_iff_getElem?.mpr ⟨j, hm1⟩
        obtain ⟨b0, b1, b2, b3, _, _, _, _⟩ := hl m hmm
        repeat walk_at "rd"
        refine r_nD (fun hc => ?_) (fun hc => ?_)
        · repeat walk_at "rd"
          refine new_at (Nat.le_of_ble_eq_true rfl) (fun y H4 ny s4 ey => ?_)
          exact k2 y t u l m H4 hlm hmm hc s4 ey (s4 _ _ et) (s4 _ _ eu)
        · repeat first | exact ⟨_, rfl, rfl, fun m' hm' => by
            rw [take_more hm1] at hm'
            rcases List.mem_append.mp hm' with h | h
            · exact hs2 m' h
            · rw [List.mem_singleton] at h
              subst h
              exact hc⟩ | walk_at "rd"
      · rintro σ H3 ⟨v2, rfl, rfl, hs2⟩
        rw [hA.1, List.take_length] at hs2
        repeat first | exact ⟨_, _, rfl, rfl, fun l' m' hl' hm' => by
          rw [take_more hl1] at hl'
          rcases List.mem_append.mp hl' with h | h
          · exact hs l' m' h hm'
          · rw [List.mem_singleton] at h
            subst h
            exact hs2 m' hm'⟩ | walk_at "rd"
    · rintro σ H2 ⟨v1, v2, rfl, rfl, hs⟩
      rw [hA.1, List.take_length] at hs
      repeat first | exact k1 (fun l m hl hm => hs l m hl hm) | walk_at "rd"
theorem ok__law_line_has_pair (T : Txt K mg a) : FnOk P w K mg base CX0 2 a.a__law_line_has_pair a.d__law_line_has_pair ["_law_line"] spHasPair := by
  refine T.F__law_line_has_pair.ok sc__law_line_has_pair (fun vs H Q E h => ?_) (fun cdv A outer s H vs Q E hr h => ?_)
  · obtain ⟨t, l, rfl, _⟩ := h
    rfl
  · obtain ⟨t, ⟨k, j, w⟩, rfl, et, hl, hk, kk⟩ := h
    obtain ⟨a0, a1, a2, a3, _, a4, a5, _⟩ := hl
    dsimp only at et a0 a1 a2 a3 a4 a5 hk kk
    have hc := com_of hk a2
    obtain ⟨c, hcd⟩ : ∃ c, gcdI k j = c := ⟨_, rfl⟩
    rw [hcd] at hc
    obtain ⟨p1, hp1⟩ : ∃ p1, k / c = p1 := ⟨_, rfl⟩
    obtain ⟨q1, hq1⟩ : ∃ q1, j / c = q1 := ⟨_, rfl⟩
    rw [hp1, hq1] at hc
    have c1 := hc.c1
    have hp0 := hc.p1
    have hq0 := hc.q0
    have hpk : p1 ≤ k := by
      have : 1 * p1 ≤ c * p1 := Int.mul_le_mul_of_nonneg_right c1 (by omega)
      have := hc.hk; omega
    have hqj : q1 ≤ j := by
      have : 1 * q1 ≤ c * q1 := Int.mul_le_mul_of_nonneg_right c1 (by omega)
      have := hc.hj; omega
    have hck : c ≤ k := by
      have : c * 1 ≤ c * p1 := Int.mul_le_mul_of_nonneg_left hp0 (by omega)
      have := hc.hk; omega
    refine ⟨_, (pss_cons (ps_asg (pv 0) (pg_tup (by rfl) (pgs_cons (pg_name (i := 1) sc__law_line_has_pair.nd rfl (Or.inl rfl)) (pgs_cons (pg_name (i := 2) sc__law_line_has_pair.nd rfl (Or.inl rfl)) (pgs_cons (pg_name (i := 3) sc__law_line_has_pair.nd rfl (Or.inl rfl)) pgs_nil)))))
 (pss_cons (ps_set (i := 4) sc__law_line_has_pair.nd rfl (Or.inl rfl) (pe_call (ok__law_divisor T) (hr.mono (by decide)) (by rfl) T.g__law_divisor T.F__law_divisor.kp T.b__law_divisor .nil pass0 (pa_cons (pv 1) (pa_cons (pv 2) pa_nil))))
 (pss_cons (ps_if (pt_cmpR op_ne (pe_op op_modN (pe_callTy call_int1 (by rfl) T.n_int (by decide +kernel) (pa_cons (pv 3) pa_nil)) (pv 4)) pe_int (nomark _)) (pss_one (ps_ret pe_bl))
 pss_nil)
 (pss_cons (ps_set (i := 1) sc__law_line_has_pair.nd rfl (Or.inl rfl) (pe_op op_fdivW (pv 1) (pv 4)))
 (pss_cons (ps_set (i := 2) sc__law_line_has_pair.nd rfl (Or.inl rfl) (pe_op op_fdivW (pv 2) (pv 4)))
 (pss_cons (ps_set (i := 3) sc__law_line_has_pair.nd rfl (Or.inl rfl) (pe_op op_fdivW (pv 3) (pv 4)))
 (pss_cons (ps_for (by exact PassesOwn.never) rfl (pi_range2 (by rfl) T.n_range (pa_cons pe_int (pa_cons (pe_op op_add (pv 1) pe_int) pa_nil))) (pg_name (i := 5) sc__law_line_has_pair.nd rfl (Or.inl rfl))
 (pss_cons (ps_set (i := 6) sc__law_line_has_pair.nd rfl (Or.inl rfl) (pe_op op_sub (pv 3) (pe_op op_mul (pv 2) (pv 5))))
 (pss_one (ps_if (PW.pt (pw_and (pt_cmpR op_ge (pv 6) (pv 1) (nomark _)) (pw_and1 (pt_cmpR op_eq (pe_op op_modN (pe_callTy call_int1 (by rfl) T.n_int (by decide +kernel) (pa_cons (pv 6) pa_nil)) (pv 1)) pe_int (nomark _))))) (pss_one (ps_ret pe_bl))
 pss_nil))))
 (pss_one (ps_ret pe_bl))))))))), ?_⟩
    repeat walk_at "rd"
    refine ⟨k, j, rfl, by omega, by omega, ?_⟩
    rw [hcd]
    have dc : CDivW k c := wide_div (b := 64) (by omega) (by omega) (by decide) (by decide)
    repeat first | walk_at "rd" | walk_at "rdi"
    rw [Int.fmod_eq_emod_of_nonneg _ (show 0 ≤ c by omega)]
    refine r_nD (fun hne => ?_) (fun heq => ?_)
    · repeat walk_at "rd"
      exact kk false (fun z => Bool.noConfusion z)
    · have hw : c * (w / c) = w := Int.mul_ediv_cancel' (Int.dvd_of_emod_eq_zero heq)
      repeat walk_at "rd"
      rw [hp1]
      repeat walk_at "rd"
      rw [hq1]
      repeat walk_at "rd"
      obtain ⟨w1, hw1⟩ : ∃ w1, w / c = w1 := ⟨_, rfl⟩
      rw [hw1] at hw ⊢
      repeat walk_at "rd"
      refine ⟨⟨by decide, by decide, by omega, by omega⟩, for_range (lo := 1) (n := (p1 + 1 - 1).toNat) (fun i σ H' => ∃ v5 v6 : Option V, σ = [some (.ref t), some (.int p1), some (.int q1), some (.int w1), some (.int c), v5, v6] ∧ H' = H) ⟨_, _, rfl, rfl⟩ ?_ ?_⟩
      · rintro i σ H1 hi ⟨v5, v6, rfl, rfl⟩
        obtain ⟨g, hg⟩ : ∃ g : Int, 1 + (i : Int) = g := ⟨_, rfl⟩
        rw [hg]
        repeat first | walk_at "rd" | walk_at "rdi"
        refine ite_d (fun hc1 => ?_) (fun hc1 => ?_)
        · repeat first | walk_at "rd" | walk_at "rdi"
          rw [Int.fmod_eq_emod_of_nonneg _ (show 0 ≤ p1 by omega)]
          refine ite_d (fun hc2 => ?_) (fun hc2 => ?_)
          · repeat walk_at "rd"
            have hd : p1 * ((w1 - q1 * g) / p1) = w1 - q1 * g := Int.mul_ediv_cancel' (Int.dvd_of_emod_eq_zero hc2)
            refine kk true (fun _ => ⟨(w1 - q1 * g) / p1, g, ?_, by omega, ?_⟩)
            · have : p1 * 1 ≤ p1 * ((w1 - q1 * g) / p1) := by omega
              exact Int.le_of_mul_le_mul_left this (by omega)
            · rw [← hw, hc.hk, hc.hj, Int.mul_assoc, Int.mul_assoc, ← Int.mul_add, hd]
              congr 1
              omega
          · repeat first | exact ⟨_, _, rfl, rfl⟩ | walk_at "rd"
        · repeat first | exact ⟨_, _, rfl, rfl⟩ | walk_at "rd"
      · rintro σ H1 ⟨v5, v6, rfl, rfl⟩
        repeat first | exact kk false (fun z => Bool.noConfusion z) | walk_at "rd"
end

/-! ### the law of k64: none, one and line are right -/
def BolAt (H : Hp) (L : Addr) (ls : List L3) (f : L3 → Bool) : Prop := H L = some (.lst ((ls.map f).map V.bl))
def spNoneR : Sp := fun vs H Q _ => ∃ (p : Addr) (xs : List V) (ls : List L3), vs = [.ref p] ∧ H p = some (.lst xs) ∧ TrisAt H xs ls ∧ LinesIn ls ∧ ls.length ≤ 60 ∧ No ls ∧ (∃ l, l ∈ ls ∧ l ≠ (0, 0, 0)) ∧ ∀ H', Q (.bl true) H'
def spOneR : Sp := fun vs H Q _ => ∃ (p u : Addr) (xs : List V) (ls : List L3) (D G : Int), vs = [.ref p, .ref u] ∧ H p = some (.lst xs) ∧ TrisAt H xs ls ∧ LinesIn ls ∧ ls.length ≤ 60 ∧ H u = some (.tup [.int D, .int G]) ∧ OneOk ls D G ∧ ∀ H', Q (.bl true) H'
def spLineR : Sp := fun vs H Q _ => ∃ (p u v : Addr) (xs : List V) (ls : List L3) (D G e f : Int) (c : Option Int), vs = [.ref p, .ref u, .ref v, optV c] ∧ H p = some (.lst xs) ∧ TrisAt H xs ls ∧ LinesIn ls ∧ ls.length ≤ 60 ∧ H u = some (.tup [.int D, .int G]) ∧ H v = some (.tup [.int e, .int f]) ∧ LineOk ls D G e f c ∧ ∀ H', Q (.bl true) H'
theorem par_no {ls : List L3} {f : L3} {D G : Int} (hpar : ∀ l, l ∈ ls → f.1 * l.2.1 = l.1 * f.2.1) (ht : ∀ l, l ∈ ls → f.1 * l.2.2 = l.1 * f.2.2) (hf : 0 < f.1) (h : f.1 * D + f.2.1 * G = f.2.2) : Solves ls D G := fun l hl => by
  have h1 := hpar l hl
  have h2 := ht l hl
  refine Int.eq_of_mul_eq_mul_left (show f.1 ≠ 0 by omega) ?_
  rw [h2, ← h, Int.mul_add, Int.mul_add, ← Int.mul_assoc f.1 l.2.1, h1, Int.mul_left_comm f.1 l.1 D, Int.mul_assoc l.1]
theorem solves_pos {ls : List L3} {D G : Int} (hi : LinesIn ls) (hz : ∀ l, l ∈ ls → l.1 = 0 → l.2.2 = 0) (h : Solves (ls.filter pos1) D G) : Solves ls D G := fun l hl => by
  obtain ⟨a0, _, _, _, a1, _⟩ := hi l hl
  by_cases c : l.1 > 0
  · exact h l (List.mem_filter.mpr ⟨hl, decide_eq_true c⟩)
  · have e1 : l.1 = 0 := by omega
    rw [e1, a1 e1, hz l hl e1]
    simp
theorem ediv_abs {x d : Int} (hd : 0 < d) : (x / d).natAbs ≤ x.natAbs := by
  have h1 := Int.mul_ediv_add_emod x d
  have h2 := Int.emod_nonneg x (show d ≠ 0 by omega)
  have h3 := Int.emod_lt_of_pos x hd
  by_cases c : 0 ≤ x / d
  · have : 1 * (x / d) ≤ d * (x / d) := Int.mul_le_mul_of_nonneg_right (by omega) c
    omega
  · have h4 : (d - 1) * (x / d + 1) ≤ 0 := Int.mul_nonpos_of_nonneg_of_nonpos (by omega) (by omega)
    have h5 : (d - 1) * (x / d + 1) = d * (x / d) - x / d + d - 1 := by rw [Int.mul_add, Int.sub_mul]; omega
    omega
theorem fdiv_abs {x d : Int} (hd : d ≠ 0) : (x.fdiv d).natAbs ≤ x.natAbs := by
  by_cases c : 0 < d
  · rw [Int.fdiv_eq_ediv_of_nonneg _ (by omega)]
    exact ediv_abs c
  · have e : x.fdiv d = (-x).fdiv (-d) := (Int.neg_fdiv_neg x d).symm
    rw [e, Int.fdiv_eq_ediv_of_nonneg _ (by omega)]
    have := ediv_abs (x := -x) (d := -d) (by omega)
    rwa [Int.natAbs_neg] at this
theorem r_eqT0 {K : PySem.W.Frag} {H : Hp} {Q : VK} {p q : Addr} {xs : List Int} (h1 : H p = some (.tup (xs.map V.int))) (h2 : H q = some (.tup (xs.map V.int))) (k : Q (.bl true) H) : rEqD K (.ref p) (.ref q) H Q := by
  refine ⟨_, _, .tup (SqT.of h1) (dp_ints xs), .tup (SqT.of h2) (dp_ints xs), sh_tints xs, sh_tints xs, ?_⟩
  rw [show PyData.eqv (.tuple (xs.map PyData.int)) (.tuple (xs.map PyData.int)) = true from (eq_ints (xs := xs) (ys := xs)).trans (by simp)]
  exact k
theorem r_mulW {H : Hp} {Q : VK} {i j : Int} (h1 : i.natAbs < 2 ^ 130) (h2 : j.natAbs < 2 ^ 100) (q : Q (.int (i * j)) H) : rI CMulW (fun i j => .int (i * j)) (.int i) (.int j) H Q := ⟨i, j, rfl, rfl, wide_mul h1 h2 (by decide) (by decide) (by decide), q⟩
section
variable {P : Program} {w : World} {K : PySem.W.Frag} {mg : Str → Option Value} {base : Heap} {a : Adr}
set_option maxHeartbeats 0 in
theorem ok__law_none_is_right (T : Txt K mg a) : FnOk P w K mg base CX0 3 a.a__law_none_is_right a.d__law_none_is_right ["_law_lines_here"] spNoneR := by
  refine T.F__law_none_is_right.ok sc__law_none_is_right (fun vs H Q E h => ?_) (fun cdv A outer s H vs Q E hr h => ?_)
  · obtain ⟨p, xs, ls, rfl, _⟩ := h
    rfl
  · obtain ⟨p, xs, ls, rfl, ep, hA, hi, hl, hno, ⟨l0, hl0, hz0⟩, k⟩ := h
    refine ⟨_, (pss_cons (ps_if (pt_val (pe_callB (cr_any rfl) (by rfl) T.n_any (by decide +kernel) (pa_cons (pe_lc (own := [("_law_line", 8)]) (g := gName 8) (tt := tYes) rfl sc__law_none_is_right.nd (pi_list (pv 0)) (blkOk_by (own := [("_law_line", 8)]) (N := ["_law_lines_here", "_law_unlike_here", "_law_first", "_law_one", "_law_two", "_law_over", "_law_letter", "_law_gap", "_law_line"]) (sc := defScope s__law_none_is_right) (by decide +kernel)) (fun _ _ _ _ _ => (pg_name (i := 8) sc__law_none_is_right.nd rfl (Or.inl rfl))) (fun _ _ _ _ _ => pts_nil) (fun _ _ _ _ _ => (pe_and (pe_cmpR op_eq (pe_ix (ix_tupK (K := K) rfl) (pv 8) pe_int (fun _ _ => rfl)) pe_int (nomark _)) (pe_one (pe_cmpR op_gt (pe_ix (ix_tupK (K := K) rfl) (pv 8) pe_int (fun _ _ => rfl)) pe_int (nomark _)))))) pa_nil))) (pss_one (ps_ret pe_bl))
 pss_nil)
 (pss_cons (ps_setLc (i := 0) (own := [("_law_line", 8)]) (g := gName 8) rfl sc__law_none_is_right.nd rfl rfl (sw_true rfl rfl rfl (by decide +kernel)) (pi_list (pv 0)) (blkOk_by (own := [("_law_line", 8)]) (N := ["_law_lines_here", "_law_unlike_here", "_law_first", "_law_one", "_law_two", "_law_over", "_law_letter", "_law_gap", "_law_line"]) (sc := defScope s__law_none_is_right) (by decide +kernel)) (fun _ _ _ _ _ => (pg_name (i := 8) sc__law_none_is_right.nd rfl (Or.inl rfl))) (fun _ _ _ _ _ => pts_one (pt_cmpR op_gt (pe_ix (ix_tupK (K := K) rfl) (pv 8) pe_int (fun _ _ => rfl)) pe_int (nomark _))) (fun _ _ _ _ _ => (pv 8)))
 (pss_cons (ps_if (pt_cmpR op_eq (pe_callB call_len_seq (by rfl) T.n_len (by decide +kernel) (pa_cons (pv 0) pa_nil)) pe_int (nomark _)) (pss_one (ps_ret pe_bl))
 pss_nil)
 (pss_cons (ps_set (i := 1) sc__law_none_is_right.nd rfl (Or.inl rfl) (pe_call (ok__law_unlike T) (hr.mono (by decide)) (by rfl) T.g__law_unlike T.F__law_unlike.kp T.b__law_unlike .nil pass0 (pa_cons (pv 0) pa_nil)))
 (pss_cons (ps_if (pt_cmpR op_isNo (pv 1) pe_non (nomark _)) (pss_cons (ps_set (i := 2) sc__law_none_is_right.nd rfl (Or.inr rfl) (pe_ix ix_list (pv 0) pe_int (fun _ _ => rfl)))
 (pss_cons (ps_if (pt_val (pe_callB (cr_any rfl) (by rfl) T.n_any (by decide +kernel) (pa_cons (pe_lc (own := [("_law_line", 8)]) (g := gName 8) (tt := tYes) rfl sc__law_none_is_right.nd (pi_list (pv 0)) (blkOk_by (own := [("_law_line", 8)]) (N := ["_law_lines_here", "_law_unlike_here", "_law_first", "_law_one", "_law_two", "_law_over", "_law_letter", "_law_gap", "_law_line"]) (sc := defScope s__law_none_is_right) (by decide +kernel)) (fun _ _ _ _ _ => (pg_name (i := 8) sc__law_none_is_right.nd rfl (Or.inl rfl))) (fun _ _ _ _ _ => pts_nil) (fun _ _ _ _ _ => (pe_cmpR op_ne (pe_op op_mul (pe_ix (ix_tupK (K := K) rfl) (pv 2) pe_int (fun _ _ => rfl)) (pe_ix (ix_tupK (K := K) rfl) (pv 8) pe_int (fun _ _ => rfl))) (pe_op op_mul (pe_ix (ix_tupK (K := K) rfl) (pv 8) pe_int (fun _ _ => rfl)) (pe_ix (ix_tupK (K := K) rfl) (pv 2) pe_int (fun _ _ => rfl))) (nomark _)))) pa_nil))) (pss_one (ps_ret pe_bl))
 pss_nil)
 (pss_one (ps_ret (pe_not (pe_call (ok__law_line_has_pair T) (hr.mono (by decide)) (by rfl) T.g__law_line_has_pair T.F__law_line_has_pair.kp T.b__law_line_has_pair .nil pass0 (pa_cons (pv 2) pa_nil)))))))
 pss_nil)
 (pss_cons (ps_asg (pv 1) (pg_tup (by rfl) (pgs_cons (pg_name (i := 3) sc__law_none_is_right.nd rfl (Or.inl rfl)) (pgs_cons (pg_name (i := 4) sc__law_none_is_right.nd rfl (Or.inl rfl)) pgs_nil))))
 (pss_cons (ps_set (i := 5) sc__law_none_is_right.nd rfl (Or.inl rfl) (pe_op op_sub (pe_op op_mul (pe_ix ix_tup (pv 3) pe_int (fun _ _ => rfl)) (pe_ix ix_tup (pv 4) pe_int (fun _ _ => rfl))) (pe_op op_mul (pe_ix ix_tup (pv 4) pe_int (fun _ _ => rfl)) (pe_ix ix_tup (pv 3) pe_int (fun _ _ => rfl)))))
 (pss_cons (ps_set (i := 6) sc__law_none_is_right.nd rfl (Or.inl rfl) (pe_op op_sub (pe_op op_mul (pe_ix ix_tup (pv 3) pe_int (fun _ _ => rfl)) (pe_ix ix_tup (pv 4) pe_int (fun _ _ => rfl))) (pe_op op_mul (pe_ix ix_tup (pv 4) pe_int (fun _ _ => rfl)) (pe_ix ix_tup (pv 3) pe_int (fun _ _ => rfl)))))
 (pss_cons (ps_set (i := 7) sc__law_none_is_right.nd rfl (Or.inl rfl) (pe_op op_sub (pe_op op_mul (pe_ix ix_tup (pv 3) pe_int (fun _ _ => rfl)) (pe_ix ix_tup (pv 4) pe_int (fun _ _ => rfl))) (pe_op op_mul (pe_ix ix_tup (pv 4) pe_int (fun _ _ => rfl)) (pe_ix ix_tup (pv 3) pe_int (fun _ _ => rfl)))))
 (pss_cons (ps_if (PW.pt (pw_or (pt_cmpR op_ne (pe_op op_mulW (pe_op op_fdivX (pv 6) (pv 5)) (pv 5)) (pv 6) (nomark _)) (pw_or1 (pt_cmpR op_ne (pe_op op_mulW (pe_op op_fdivX (pv 7) (pv 5)) (pv 5)) (pv 7) (nomark _))))) (pss_one (ps_ret pe_bl))
 pss_nil)
 (pss_one (ps_ret (pe_not (pe_call (ok__law_solves T) (hr.mono (by decide)) (by rfl) T.g__law_solves T.F__law_solves.kp T.b__law_solves .nil pass0 (pa_cons (pv 0) (pa_cons (pe_tup (pa_cons (pe_op op_fdivX (pv 6) (pv 5)) (pa_cons (pe_op op_fdivX (pv 7) (pv 5)) pa_nil))) pa_nil)))))))))))))))), ?_⟩
    repeat first | walk_at "rd" | walk_at "rdi"
    refine ⟨p, rfl, ⟨_, SqL.of ep⟩, fun L hL => lc_list (K := K) (a := p) (xs := xs) (fun i H' => ∃ bs : List Bool, H' L = some (.lst (bs.map V.bl)) ∧ bs = (ls.take i).map (fun l => decide (l.1 = 0) && decide (l.2.2 > 0)) ∧ H' p = some (.lst xs) ∧ Same H H') ?_ (fun i H' _ ⟨_, _, _, h, _⟩ => SqL.of h) ?_ ?_⟩
    · exact ⟨[], upd_same, rfl, (upd_ne (ne_of_none ep hL)).trans ep, Same.new hL⟩
    · rintro i y H6 hiy ⟨bs, h1, h2, h4, h5⟩
      obtain ⟨t, l, rfl, hl1, et⟩ := (hA.keep h5).get hiy
      have hi9 : i < 60 := by have := (List.getElem?_eq_some_iff.mp hl1).1; omega
      have hfin : bs ++ [decide (l.1 = 0) && decide (l.2.2 > 0)] = (ls.take (i + 1)).map (fun l => decide (l.1 = 0) && decide (l.2.2 > 0)) := by rw [take_more hl1, List.map_append, ← h2]; rfl
      have hbl : bs.length ≤ 60 := by rw [h2, List.length_map, List.length_take]; omega
      have fin : ∀ b, b = (decide (l.1 = 0) && decide (l.2.2 > 0)) → ∃ acc, H6 L = some (.lst acc) ∧ acc.length < sizeLine ∧ ∃ bs : List Bool, L2.upd H6 L (.lst (acc ++ [.bl b])) L = some (.lst (bs.map V.bl)) ∧ bs = (ls.take (i + 1)).map (fun l => decide (l.1 = 0) && decide (l.2.2 > 0)) ∧ L2.upd H6 L (.lst (acc ++ [.bl b])) p = some (.lst xs) ∧ Same H (L2.upd H6 L (.lst (acc ++ [.bl b]))) := fun b e => ⟨_, h1, small1000 (by rw [List.length_map]; omega), bs ++ [b], by rw [upd_same, List.map_append]; rfl, by rw [e]; exact hfin, (upd_ne (ne_of_none ep hL)).trans h4, h5.over hL h1⟩
      repeat walk_at "rd"
      refine ⟨rfl, ?_⟩
      repeat first | walk_at "rd" | walk_at "rdi"
      refine ite_d (fun hc => ?_) (fun hc => ?_)
      · repeat first | exact fin _ (by rw [decide_eq_true hc, Bool.true_and]) | walk_at "rd"
      · repeat first | exact fin _ (by rw [decide_eq_false hc, Bool.false_and]) | walk_at "rd"
    · rintro H6 ⟨bs, h1, h2, h4, h5⟩
      rw [hA.1, List.take_length] at h2
      repeat first | walk_at "rd" | walk_at "rdi"
      refine ⟨L, bs, rfl, SqL.of h1, ?_⟩
      refine ⟨_, rfl, ite_b (fun hc => ?_) (fun hc => ?_)⟩
      · repeat first | exact k _ | walk_at "rd"
      · have hz : ∀ l, l ∈ ls → l.1 = 0 → l.2.2 = 0 := fun l hlm e => by
          have h6 := (hi l hlm).2.2.2.2.2.1
          by_cases c : l.2.2 > 0
          · rw [h2, List.any_eq_false] at hc
            exact absurd (by rw [decide_eq_true e, decide_eq_true c]; rfl) (hc _ (List.mem_map.mpr ⟨l, hlm, rfl⟩))
          · omega
        have hl0p : l0 ∈ ls.filter pos1 := by
          refine List.mem_filter.mpr ⟨hl0, decide_eq_true ?_⟩
          have h6 := hi l0 hl0
          by_cases c : l0.1 = 0
          · exact absurd (Prod.ext c (Prod.ext (h6.2.2.2.2.1 c) (hz l0 hl0 c))) hz0
          · have := h6.1; omega
        have nL : H L = none := hL
        clear hc h2 h1 bs
        repeat first | walk_at "rd" | walk_at "rdi"
        refine ⟨p, rfl, ⟨_, SqL.of h4⟩, fun M hM => lc_list (K := K) (a := p) (xs := xs) (fun i H' => ∃ acc : List V, H' M = some (.lst acc) ∧ acc.length ≤ i ∧ TrisAt H' acc ((ls.take i).filter pos1) ∧ H' p = some (.lst xs) ∧ Same H6 H') ?_ (fun i H' _ ⟨_, _, _, _, h, _⟩ => SqL.of h) ?_ ?_⟩
        · exact ⟨[], upd_same, Nat.le_refl _, TrisAt.nil, (upd_ne (ne_of_none h4 hM)).trans h4, Same.new hM⟩
        · rintro i y H7 hiy ⟨acc, h1, h2, h3, h4', h6⟩
          obtain ⟨t, l, rfl, hl1, et⟩ := (hA.keep (h5.trans h6)).get hiy
          have hi9 : i < 60 := by have := (List.getElem?_eq_some_iff.mp hl1).1; omega
          have hf : (ls.take (i + 1)).filter pos1 = (ls.take i).filter pos1 ++ (if pos1 l = true then [l] else []) := by
            rw [take_more hl1, List.filter_append]
            congr 1
            by_cases c : pos1 l = true
            · rw [if_pos c, List.filter_cons_of_pos c]; rfl
            · rw [if_neg c, List.filter_cons_of_neg c]; rfl
          repeat walk_at "rd"
          refine ⟨rfl, ?_⟩
          repeat walk_at "rd"
          refine ite_d (fun hc => ?_) (fun hc => ?_)
          · rw [if_pos (show pos1 l = true from decide_eq_true hc)] at hf
            repeat walk_at "rd"
            exact ⟨_, h1, small1000 (by omega), acc ++ [.ref t], upd_same, by rw [List.length_append, List.length_singleton]; omega, by rw [hf]; exact (h3.snoc et).upd h1, (upd_ne (ne_of_none h4 hM)).trans h4', h6.over hM h1⟩
          · rw [if_neg (show ¬ pos1 l = true from fun z => hc (of_decide_eq_true z)), List.append_nil] at hf
            exact ⟨acc, h1, by omega, by rw [hf]; exact h3, h4', h6⟩
        · rintro H7 ⟨acc, h1, h2, h3, h4', h6⟩
          rw [hA.1, List.take_length] at h3
          have hif : LinesIn (ls.filter pos1) := fun l hl => hi l (List.mem_filter.mp hl).1
          have hnf : No (ls.filter pos1) := fun D G d g hs => hno D G d g (solves_pos hi hz hs)
          have hfp : ∀ l, l ∈ ls.filter pos1 → 0 < l.1 := fun l hl => of_decide_eq_true (List.mem_filter.mp hl).2
          have hfl : (ls.filter pos1).length ≤ 60 := by have := List.length_filter_le pos1 ls; omega
          generalize ls.filter pos1 = fs at h3 hif hnf hl0p hfp hfl
          have hlen : acc.length = fs.length := h3.1
          have hne : 0 < fs.length := List.length_pos_of_mem hl0p
          repeat first | walk_at "rd" | walk_at "rdi"
          refine ite_ff (by omega) ?_
          clear h4 h4' ep
          repeat walk_at "rd"
          refine ⟨M, acc, fs, rfl, h1, h3, hif, fun hpar => ?_, fun y t u l m H8 hlm hmm hne2 s8 ey et eu => ?_⟩
          · obtain ⟨f, hf⟩ : ∃ f, fs[0]? = some f := ⟨_, List.getElem?_eq_getElem hne⟩
            obtain ⟨tf, eaf, etf⟩ := h3.2 0 f hf
            have etf : H7 tf = some (.tup [.int f.1, .int f.2.1, .int f.2.2]) := etf
            have hfm : f ∈ fs := List.mem_iff_getElem?.mpr ⟨0, hf⟩
            obtain ⟨f0, f1, f2, f3, _, f4, f5, _⟩ := hif f hfm
            repeat first | walk_at "rd" | walk_at "rdi"
            refine r_ixL h1 (v := .ref tf) (atI_nat (j := 0) eaf) ?_
            repeat first | walk_at "rd" | walk_at "rdi"
            refine ⟨M, rfl, ⟨_, SqL.of h1⟩, fun L2_ hL2 => lc_list (K := K) (a := M) (xs := acc) (fun i H' => ∃ bs : List Bool, H' L2_ = some (.lst (bs.map V.bl)) ∧ bs = (fs.take i).map (fun l => !decide (f.1 * l.2.2 = l.1 * f.2.2)) ∧ H' M = some (.lst acc) ∧ Same H7 H') ?_ (fun i H' _ ⟨_, _, _, h, _⟩ => SqL.of h) ?_ ?_⟩
            · exact ⟨[], upd_same, rfl, (upd_ne (ne_of_none h1 hL2)).trans h1, Same.new hL2⟩
            · rintro i y H8 hiy ⟨bs, g1, g2, g4, g5⟩
              obtain ⟨t, l, rfl, hl1, et⟩ := (h3.keep g5).get hiy
              have hi9 : i < 60 := by have := (List.getElem?_eq_some_iff.mp hl1).1; omega
              have etf8 := g5 _ _ etf
              have hbl : bs.length ≤ 60 := by rw [g2, List.length_map, List.length_take]; omega
              obtain ⟨b0, b1, b2, b3, _, b4, b5, _⟩ := hif l (List.mem_iff_getElem?.mpr ⟨i, hl1⟩)
              repeat walk_at "rd"
              refine ⟨rfl, ?_⟩
              repeat first | walk_at "rd" | walk_at "rdi"
              refine ⟨_, g1, small1000 (by rw [List.length_map]; omega), bs ++ [!decide (f.1 * l.2.2 = l.1 * f.2.2)], by rw [upd_same, List.map_append]; rfl, by rw [take_more hl1, List.map_append, ← g2]; rfl, (upd_ne (ne_of_none h1 hL2)).trans g4, g5.over hL2 g1⟩
            · rintro H8 ⟨bs, g1, g2, g4, g5⟩
              rw [hlen, List.take_length] at g2
              repeat first | walk_at "rd" | walk_at "rdi"
              refine ⟨L2_, bs, rfl, SqL.of g1, ?_⟩
              refine ⟨_, rfl, ite_b (fun hc => ?_) (fun hc => ?_)⟩
              · repeat first | exact k _ | walk_at "rd"
              · repeat first | walk_at "rd" | walk_at "rdi"
                refine ⟨tf, f, rfl, g5 _ _ etf, hif f hfm, hfp f hfm, fun b hb => ?_⟩
                cases b with
                | false => repeat first | exact k _ | walk_at "rd"
                | true =>
                  obtain ⟨D, G, d1, g1', hs⟩ := hb rfl
                  refine absurd (par_no (fun l hl => hpar f l hfm hl) (fun l hl => ?_) (hfp f hfm) hs) (hnf D G d1 g1')
                  rw [g2, List.any_eq_false] at hc
                  refine Classical.byContradiction fun z => hc _ (List.mem_map.mpr ⟨l, hl, rfl⟩) (by rw [decide_eq_false z]; rfl)
          · obtain ⟨a0, a1, a2, a3, _, a4, a5, _⟩ := hif l hlm
            obtain ⟨b0, b1, b2, b3, _, b4, b5, _⟩ := hif m hmm
            have m1 : 0 ≤ l.1 * m.2.1 ∧ l.1 * m.2.1 ≤ 199 * 200000000000000000 := ⟨Int.mul_nonneg a0 b2, Int.mul_le_mul a1 b3 b2 (by decide)⟩
            have m2 : 0 ≤ m.1 * l.2.1 ∧ m.1 * l.2.1 ≤ 199 * 200000000000000000 := ⟨Int.mul_nonneg b0 a2, Int.mul_le_mul b1 a3 a2 (by decide)⟩
            have m3 : 0 ≤ l.2.2 * m.2.1 ∧ l.2.2 * m.2.1 ≤ 100000000000000000000 * 200000000000000000 := ⟨Int.mul_nonneg a4 b2, Int.mul_le_mul a5 b3 b2 (by decide)⟩
            have m4 : 0 ≤ m.2.2 * l.2.1 ∧ m.2.2 * l.2.1 ≤ 100000000000000000000 * 200000000000000000 := ⟨Int.mul_nonneg b4 a2, Int.mul_le_mul b5 a3 a2 (by decide)⟩
            have m5 : 0 ≤ l.1 * m.2.2 ∧ l.1 * m.2.2 ≤ 199 * 100000000000000000000 := ⟨Int.mul_nonneg a0 b4, Int.mul_le_mul a1 b5 b4 (by decide)⟩
            have m6 : 0 ≤ m.1 * l.2.2 ∧ m.1 * l.2.2 ≤ 199 * 100000000000000000000 := ⟨Int.mul_nonneg b0 a4, Int.mul_le_mul b1 a5 a4 (by decide)⟩
            have hu : l.1 * m.2.1 - m.1 * l.2.1 ≠ 0 := by omega
            have h1 := s8 _ _ h1
            have h3 := h3.keep s8
            repeat first | walk_at "rd" | walk_at "rdi"
            have qa := fdiv_abs (x := l.2.2 * m.2.1 - m.2.2 * l.2.1) hu
            have qb := fdiv_abs (x := l.1 * m.2.2 - m.1 * l.2.2) hu
            refine r_fdivX hu (by omega) (by omega) ?_
            repeat first | walk_at "rd" | walk_at "rdi"
            refine r_mulW (by omega) (by omega) ?_
            repeat first | walk_at "rd" | walk_at "rdi"
            refine r_nD (fun _ => ?_) (fun _ => ?_)
            · repeat first | exact k _ | walk_at "rd"
            · repeat first | walk_at "rd" | walk_at "rdi"
              refine r_fdivX hu (by omega) (by omega) ?_
              repeat first | walk_at "rd" | walk_at "rdi"
              refine r_mulW (by omega) (by omega) ?_
              repeat first | walk_at "rd" | walk_at "rdi"
              refine r_nD (fun _ => ?_) (fun _ => ?_)
              · repeat first | exact k _ | walk_at "rd"
              · repeat first | walk_at "rd" | walk_at "rdi"
                refine r_fdivX hu (by omega) (by omega) ?_
                repeat first | walk_at "rd" | walk_at "rdi"
                refine r_fdivX hu (by omega) (by omega) ?_
                repeat first | walk_at "rd" | walk_at "rdi"
                refine new_at (Nat.le_of_ble_eq_true rfl) (fun z H9 nz9 s9 ez => ?_)
                refine ⟨M, z, acc, fs, _, _, rfl, s9 _ _ h1, h3.keep s9, hif, ez, fun b hb => ?_⟩
                cases b with
                | false => repeat first | exact k _ | walk_at "rd"
                | true => exact absurd (hb.mp rfl).1 (hnf _ _ (hb.mp rfl).2.1 (hb.mp rfl).2.2)
set_option maxHeartbeats 0 in
theorem ok__law_one_is_right (T : Txt K mg a) : FnOk P w K mg base CX0 3 a.a__law_one_is_right a.d__law_one_is_right ["_law_lines_here", "_law_pair_here"] spOneR := by
  refine T.F__law_one_is_right.ok sc__law_one_is_right (fun vs H Q E h => ?_) (fun cdv A outer s H vs Q E hr h => ?_)
  · obtain ⟨p, u, xs, ls, D, G, rfl, _⟩ := h
    rfl
  · obtain ⟨p, u, xs, ls, D, G, rfl, ep, hA, hi, hl, eu, hO, k⟩ := h
    refine ⟨_, (pss_cons (ps_if (PW.pt (pw_or (pt_not (pt_val (pe_call (ok__law_pair T) (hr.mono (by decide)) (by rfl) T.g__law_pair T.F__law_pair.kp T.b__law_pair .nil pass0 (pa_cons (pv 1) pa_nil)))) (pw_or1 (pt_not (pt_val (pe_call (ok__law_solves T) (hr.mono (by decide)) (by rfl) T.g__law_solves T.F__law_solves.kp T.b__law_solves .nil pass0 (pa_cons (pv 0) (pa_cons (pv 1) pa_nil)))))))) (pss_one (ps_ret pe_bl))
 pss_nil)
 (pss_cons (ps_setLc (i := 0) (own := [("_law_line", 6)]) (g := gName 6) rfl sc__law_one_is_right.nd rfl rfl (sw_true rfl rfl rfl (by decide +kernel)) (pi_list (pv 0)) (blkOk_by (own := [("_law_line", 6)]) (N := ["_law_lines_here", "_law_pair_here", "_law_turns", "_law_total", "_law_time", "_law_common", "_law_line"]) (sc := defScope s__law_one_is_right) (by decide +kernel)) (fun _ _ _ _ _ => (pg_name (i := 6) sc__law_one_is_right.nd rfl (Or.inl rfl))) (fun _ _ _ _ _ => pts_one (pt_cmpR op_gt (pe_ix (ix_tupK (K := K) rfl) (pv 6) pe_int (fun _ _ => rfl)) pe_int (nomark _))) (fun _ _ _ _ _ => (pv 6)))
 (pss_cons (ps_if (pt_cmpR op_eq (pe_callB call_len_seq (by rfl) T.n_len (by decide +kernel) (pa_cons (pv 0) pa_nil)) pe_int (nomark _)) (pss_one (ps_ret pe_bl))
 pss_nil)
 (pss_cons (ps_if (pt_cmpR op_notNo (pe_call (ok__law_unlike T) (hr.mono (by decide)) (by rfl) T.g__law_unlike T.F__law_unlike.kp T.b__law_unlike .nil pass0 (pa_cons (pv 0) pa_nil)) pe_non (nomark _)) (pss_one (ps_ret pe_bl))
 pss_nil)
 (pss_cons (ps_asg (pe_ix ix_list (pv 0) pe_int (fun _ _ => rfl)) (pg_tup (by rfl) (pgs_cons (pg_name (i := 2) sc__law_one_is_right.nd rfl (Or.inl rfl)) (pgs_cons (pg_name (i := 3) sc__law_one_is_right.nd rfl (Or.inl rfl)) (pgs_cons (pg_name (i := 4) sc__law_one_is_right.nd rfl (Or.inl rfl)) pgs_nil)))))
 (pss_cons (ps_set (i := 5) sc__law_one_is_right.nd rfl (Or.inl rfl) (pe_call (ok__law_divisor T) (hr.mono (by decide)) (by rfl) T.g__law_divisor T.F__law_divisor.kp T.b__law_divisor .nil pass0 (pa_cons (pv 2) (pa_cons (pv 3) pa_nil))))
 (pss_one (ps_ret (pe_and (pe_cmpR op_le (pe_ix ix_tup (pv 1) pe_int (fun _ _ => rfl)) (pe_op op_fdivW (pv 3) (pv 5)) (nomark _)) (pe_one (pe_cmpR op_le (pe_ix ix_tup (pv 1) pe_int (fun _ _ => rfl)) (pe_op op_fdivW (pv 2) (pv 5)) (nomark _)))))))))))), ?_⟩
    repeat first | walk_at "rd" | walk_at "rdi"
    refine ⟨u, D, G, rfl, eu, ?_⟩
    repeat first | walk_at "rd" | walk_at "rdi"
    refine ⟨p, u, xs, ls, D, G, rfl, ep, hA, hi, eu, fun b hb => ?_⟩
    obtain rfl : b = true := hb.mpr ⟨hO.sol, hO.d1, hO.g1⟩
    repeat first | walk_at "rd" | walk_at "rdi"
    refine ⟨p, rfl, ⟨_, SqL.of ep⟩, fun M hM => lc_list (K := K) (a := p) (xs := xs) (fun i H' => ∃ acc : List V, H' M = some (.lst acc) ∧ acc.length ≤ i ∧ TrisAt H' acc ((ls.take i).filter pos1) ∧ H' p = some (.lst xs) ∧ Same H H') ?_ (fun i H' _ ⟨_, _, _, _, h, _⟩ => SqL.of h) ?_ ?_⟩
    · exact ⟨[], upd_same, Nat.le_refl _, TrisAt.nil, (upd_ne (ne_of_none ep hM)).trans ep, Same.new hM⟩
    · rintro i y H7 hiy ⟨acc, h1, h2, h3, h4', h6⟩
      obtain ⟨t, l, rfl, hl1, et⟩ := (hA.keep h6).get hiy
      have hi9 : i < 60 := by have := (List.getElem?_eq_some_iff.mp hl1).1; omega
      have hf : (ls.take (i + 1)).filter pos1 = (ls.take i).filter pos1 ++ (if pos1 l = true then [l] else []) := by
        rw [take_more hl1, List.filter_append]
        congr 1
        by_cases c : pos1 l = true
        · rw [if_pos c, List.filter_cons_of_pos c]; rfl
        · rw [if_neg c, List.filter_cons_of_neg c]; rfl
      repeat walk_at "rd"
      refine ⟨rfl, ?_⟩
      repeat walk_at "rd"
      refine ite_d (fun hc => ?_) (fun hc => ?_)
      · rw [if_pos (show pos1 l = true from decide_eq_true hc)] at hf
        repeat walk_at "rd"
        exact ⟨_, h1, small1000 (by omega), acc ++ [.ref t], upd_same, by rw [List.length_append, List.length_singleton]; omega, by rw [hf]; exact (h3.snoc et).upd h1, (upd_ne (ne_of_none ep hM)).trans h4', h6.over hM h1⟩
      · rw [if_neg (show ¬ pos1 l = true from fun z => hc (of_decide_eq_true z)), List.append_nil] at hf
        exact ⟨acc, h1, by omega, by rw [hf]; exact h3, h4', h6⟩
    · rintro H7 ⟨acc, h1, h2, h3, h4', h6⟩
      rw [hA.1, List.take_length] at h3
      have hif : LinesIn (ls.filter pos1) := fun l hl => hi l (List.mem_filter.mp hl).1
      have hfp : ∀ l, l ∈ ls.filter pos1 → 0 < l.1 := fun l hl => of_decide_eq_true (List.mem_filter.mp hl).2
      obtain ⟨l0, hl0, hp0⟩ := hO.up
      have hl0p : l0 ∈ ls.filter pos1 := List.mem_filter.mpr ⟨hl0, decide_eq_true hp0⟩
      have honly := hO.only
      have eu := h6 _ _ eu
      generalize ls.filter pos1 = fs at h3 hif hl0p hfp honly
      have hlen : acc.length = fs.length := h3.1
      have hne : 0 < fs.length := List.length_pos_of_mem hl0p
      repeat first | walk_at "rd" | walk_at "rdi"
      refine ite_ff (by omega) ?_
      clear h4' ep h6
      repeat first | walk_at "rd" | walk_at "rdi"
      refine ⟨M, acc, fs, rfl, h1, h3, hif, fun hpar => ?_, fun y t u l m H8 hlm hmm hne2 s8 ey et eu => ?_⟩
      · obtain ⟨f, hf⟩ : ∃ f, fs[0]? = some f := ⟨_, List.getElem?_eq_getElem hne⟩
        obtain ⟨tf, eaf, etf⟩ := h3.2 0 f hf
        have etf : H7 tf = some (.tup [.int f.1, .int f.2.1, .int f.2.2]) := etf
        have hfm : f ∈ fs := List.mem_iff_getElem?.mpr ⟨0, hf⟩
        obtain ⟨f0, f1, f2, f3, _, f4, f5, _⟩ := hif f hfm
        have hf1 := hfp f hfm
        obtain ⟨o1, o2⟩ := honly hpar f (by rw [List.head?_eq_getElem?]; exact hf)
        have hc := com_of hf1 f2
        have c1 := hc.c1
        have hck : gcdI f.1 f.2.1 ≤ f.1 := by
          have hp0 := hc.p1
          have : gcdI f.1 f.2.1 * 1 ≤ gcdI f.1 f.2.1 * (f.1 / gcdI f.1 f.2.1) := Int.mul_le_mul_of_nonneg_left hp0 (by omega)
          have := hc.hk; omega
        repeat first | walk_at "rd" | walk_at "rdi"
        refine r_ixL h1 (v := .ref tf) (atI_nat (j := 0) eaf) ?_
        repeat first | walk_at "rd" | walk_at "rdi"
        refine ⟨f.1, f.2.1, rfl, by omega, by omega, ?_⟩
        have dc : CDivW f.1 (gcdI f.1 f.2.1) := wide_div (b := 64) (by omega) (by omega) (by decide) (by decide)
        repeat first | walk_at "rd" | walk_at "rdi"
        refine ite_tt o1 ?_
        repeat first | walk_at "rd" | walk_at "rdi"
        rw [decide_eq_true o2]
        exact k _
      · repeat first | exact k _ | walk_at "rd" | walk_at "rdi"
set_option maxHeartbeats 0 in
theorem ok__law_line_is_right (T : Txt K mg a) : FnOk P w K mg base CX0 3 a.a__law_line_is_right a.d__law_line_is_right ["_law_lines_here", "_law_first", "_law_step", "_law_count"] spLineR := by
  refine T.F__law_line_is_right.ok sc__law_line_is_right (fun vs H Q E h => ?_) (fun cdv A outer s H vs Q E hr h => ?_)
  · obtain ⟨p, u, v, xs, ls, D, G, e, f, c, rfl, _⟩ := h
    rfl
  · obtain ⟨p, u, v, xs, ls, D, G, e, f, c, rfl, ep, hA, hi, hl, eu, ev, hL, k⟩ := h
    have hef : 0 ≤ e ∧ e ≤ 1000000000000000000 ∧ -1000 ≤ f ∧ f ≤ 1000 := by
      cases c with
      | none => have := hL.free rfl; omega
      | some m => have := hL.many m rfl; omega
    refine ⟨_, (pss_cons (ps_if (PW.pt (pw_or (pt_not (pt_val (pe_call (ok__law_pair T) (hr.mono (by decide)) (by rfl) T.g__law_pair T.F__law_pair.kp T.b__law_pair .nil pass0 (pa_cons (pv 1) pa_nil)))) (pw_or (pt_not (pt_val (pe_call (ok__law_pair T) (hr.mono (by decide)) (by rfl) T.g__law_pair T.F__law_pair.kp T.b__law_pair .nil pass0 (pa_cons (pv 2) pa_nil)))) (pw_or1 (pt_not (pt_val (pe_call (ok__law_solves T) (hr.mono (by decide)) (by rfl) T.g__law_solves T.F__law_solves.kp T.b__law_solves .nil pass0 (pa_cons (pv 0) (pa_cons (pv 1) pa_nil))))))))) (pss_one (ps_ret pe_bl))
 pss_nil)
 (pss_cons (ps_if (PW.pt (pw_or (pt_cmpR op_ne (pe_call (ok__law_divisor T) (hr.mono (by decide)) (by rfl) T.g__law_divisor T.F__law_divisor.kp T.b__law_divisor .nil pass0 (pa_cons (pe_ix ix_tup (pv 2) pe_int (fun _ _ => rfl)) (pa_cons (pe_ix ix_tup (pv 2) pe_int (fun _ _ => rfl)) pa_nil))) pe_int (nomark _)) (pw_or1 (pt_cmpR op_notNo (pe_call (ok__law_unlike T) (hr.mono (by decide)) (by rfl) T.g__law_unlike T.F__law_unlike.kp T.b__law_unlike .nil pass0 (pa_cons (pv 0) pa_nil)) pe_non (nomark _))))) (pss_one (ps_ret pe_bl))
 pss_nil)
 (pss_cons (ps_if (pt_not (pt_val (pe_callB (cr_any rfl) (by rfl) T.n_any (by decide +kernel) (pa_cons (pe_lc (own := [("_law_line", 5)]) (g := gName 5) (tt := tYes) rfl sc__law_line_is_right.nd (pi_list (pv 0)) (blkOk_by (own := [("_law_line", 5)]) (N := ["_law_lines_here", "_law_first", "_law_step", "_law_count", "_law_last", "_law_line"]) (sc := defScope s__law_line_is_right) (by decide +kernel)) (fun _ _ _ _ _ => (pg_name (i := 5) sc__law_line_is_right.nd rfl (Or.inl rfl))) (fun _ _ _ _ _ => pts_nil) (fun _ _ _ _ _ => (pe_cmpR op_gt (pe_ix (ix_tupK (K := K) rfl) (pv 5) pe_int (fun _ _ => rfl)) pe_int (nomark _)))) pa_nil)))) (pss_one (ps_ret pe_bl))
 pss_nil)
 (pss_cons (ps_if (pt_val (pe_callB (cr_any rfl) (by rfl) T.n_any (by decide +kernel) (pa_cons (pe_lc (own := [("_law_line", 5)]) (g := gName 5) (tt := tYes) rfl sc__law_line_is_right.nd (pi_list (pv 0)) (blkOk_by (own := [("_law_line", 5)]) (N := ["_law_lines_here", "_law_first", "_law_step", "_law_count", "_law_last", "_law_line"]) (sc := defScope s__law_line_is_right) (by decide +kernel)) (fun _ _ _ _ _ => (pg_name (i := 5) sc__law_line_is_right.nd rfl (Or.inl rfl))) (fun _ _ _ _ _ => pts_nil) (fun _ _ _ _ _ => (pe_cmpR op_ne (pe_op op_add (pe_op op_mul (pe_ix (ix_tupK (K := K) rfl) (pv 5) pe_int (fun _ _ => rfl)) (pe_ix (ix_tupK (K := K) rfl) (pv 2) pe_int (fun _ _ => rfl))) (pe_op op_mul (pe_ix (ix_tupK (K := K) rfl) (pv 5) pe_int (fun _ _ => rfl)) (pe_ix (ix_tupK (K := K) rfl) (pv 2) pe_int (fun _ _ => rfl)))) pe_int (nomark _)))) pa_nil))) (pss_one (ps_ret pe_bl))
 pss_nil)
 (pss_cons (ps_if (pt_cmpR op_isNo (pv 3) pe_non (nomark _)) (pss_one (ps_ret (pe_and (pe_cmpR (op_eqD hr.units) (pv 2) (pe_tup (pa_cons pe_int (pa_cons pe_int pa_nil))) (nomark _)) (pe_one (pe_cmpR op_eq (pe_ix ix_tup (pv 1) pe_int (fun _ _ => rfl)) pe_int (nomark _))))))
 pss_nil)
 (pss_cons (ps_if (PW.pt (pw_or (pt_not (pt_val (pe_call (ok__law_integer T) (hr.mono (by decide)) (by rfl) T.g__law_integer T.F__law_integer.kp T.b__law_integer .nil pass0 (pa_cons (pv 3) pa_nil)))) (pw_or (pt_cmpR op_lt (pv 3) pe_int (nomark _)) (pw_or (pt_cmpR op_lt (pe_ix ix_tup (pv 2) pe_int (fun _ _ => rfl)) pe_int (nomark _)) (pw_or1 (pt_cmpR op_gt (pe_ix ix_tup (pv 1) pe_int (fun _ _ => rfl)) (pe_ix ix_tup (pv 2) pe_int (fun _ _ => rfl)) (nomark _))))))) (pss_one (ps_ret pe_bl))
 pss_nil)
 (pss_cons (ps_set (i := 4) sc__law_line_is_right.nd rfl (Or.inl rfl) (pe_tup (pa_cons (pe_op op_add (pe_ix ix_tup (pv 1) pe_int (fun _ _ => rfl)) (pe_op op_mul (pe_op op_sub (pv 3) pe_int) (pe_ix ix_tup (pv 2) pe_int (fun _ _ => rfl)))) (pa_cons (pe_op op_add (pe_ix ix_tup (pv 1) pe_int (fun _ _ => rfl)) (pe_op op_mul (pe_op op_sub (pv 3) pe_int) (pe_ix ix_tup (pv 2) pe_int (fun _ _ => rfl)))) pa_nil))))
 (pss_one (ps_ret (pe_and (pe_call (ok__law_solves T) (hr.mono (by decide)) (by rfl) T.g__law_solves T.F__law_solves.kp T.b__law_solves .nil pass0 (pa_cons (pv 0) (pa_cons (pv 4) pa_nil))) (pe_one (pe_cmpR op_lt (pe_op op_add (pe_ix ix_tup (pv 4) pe_int (fun _ _ => rfl)) (pe_ix ix_tup (pv 2) pe_int (fun _ _ => rfl))) pe_int (nomark _))))))))))))), ?_⟩
    repeat first | walk_at "rd" | walk_at "rdi"
    refine ⟨u, D, G, rfl, eu, ?_⟩
    repeat first | walk_at "rd" | walk_at "rdi"
    refine ⟨v, e, f, rfl, ev, ?_⟩
    repeat first | walk_at "rd" | walk_at "rdi"
    refine ⟨p, u, xs, ls, D, G, rfl, ep, hA, hi, eu, fun b hb => ?_⟩
    obtain rfl : b = true := hb.mpr ⟨hL.sol, hL.d1, hL.g1⟩
    repeat first | walk_at "rd" | walk_at "rdi"
    refine ⟨e, f, rfl, by omega, by omega, ?_⟩
    rw [hL.one]
    repeat first | walk_at "rd" | walk_at "rdi"
    refine ⟨p, xs, ls, rfl, ep, hA, hi, fun _ => ?_, fun y t u l m H8 hlm hmm hne2 s8 ey et eu => absurd (hL.par l m hlm hmm) hne2⟩
    repeat first | walk_at "rd" | walk_at "rdi"
    refine ⟨p, rfl, ⟨_, SqL.of ep⟩, fun L hL_ => lc_list (K := K) (a := p) (xs := xs) (fun i H' => ∃ bs : List Bool, H' L = some (.lst (bs.map V.bl)) ∧ bs = (ls.take i).map (fun l => decide (l.1 > 0)) ∧ H' p = some (.lst xs) ∧ Same H H') ?_ (fun i H' _ ⟨_, _, _, h, _⟩ => SqL.of h) ?_ ?_⟩
    · exact ⟨[], upd_same, rfl, (upd_ne (ne_of_none ep hL_)).trans ep, Same.new hL_⟩
    · rintro i y H8 hiy ⟨bs, g1, g2, g4, g5⟩
      obtain ⟨t, l, rfl, hl1, et⟩ := (hA.keep g5).get hiy
      have hi9 : i < 60 := by have := (List.getElem?_eq_some_iff.mp hl1).1; omega
      have hbl : bs.length ≤ 60 := by rw [g2, List.length_map, List.length_take]; omega
      repeat walk_at "rd"
      refine ⟨rfl, ?_⟩
      repeat first | walk_at "rd" | walk_at "rdi"
      exact ⟨_, g1, small1000 (by rw [List.length_map]; omega), bs ++ [decide (l.1 > 0)], by rw [upd_same, List.map_append]; rfl, by rw [take_more hl1, List.map_append, ← g2]; rfl, (upd_ne (ne_of_none ep hL_)).trans g4, g5.over hL_ g1⟩
    · rintro H8 ⟨bs, g1, g2, ep8, g5⟩
      rw [hA.1, List.take_length] at g2
      repeat first | walk_at "rd" | walk_at "rdi"
      refine ⟨L, bs, rfl, SqL.of g1, ?_⟩
      have hany : bs.any id = true := by
        obtain ⟨l0, h1, h2⟩ := hL.up
        rw [g2, List.any_eq_true]
        exact ⟨_, List.mem_map.mpr ⟨l0, h1, rfl⟩, decide_eq_true h2⟩
      rw [hany]
      have hA8 := hA.keep g5
      have eu := g5 _ _ eu
      have ev := g5 _ _ ev
      clear hA ep g1 g2 hany bs g5
      repeat first | walk_at "rd" | walk_at "rdi"
      refine ⟨p, rfl, ⟨_, SqL.of ep8⟩, fun M hM => lc_list (K := K) (a := p) (xs := xs) (fun i H' => ∃ bs : List Bool, H' M = some (.lst (bs.map V.bl)) ∧ bs = (ls.take i).map (fun _ => false) ∧ H' p = some (.lst xs) ∧ Same H8 H') ?_ (fun i H' _ ⟨_, _, _, h, _⟩ => SqL.of h) ?_ ?_⟩
      · exact ⟨[], upd_same, rfl, (upd_ne (ne_of_none ep8 hM)).trans ep8, Same.new hM⟩
      · rintro i y H9 hiy ⟨bs, g1, g2, g4, g5⟩
        obtain ⟨t, l, rfl, hl1, et⟩ := (hA8.keep g5).get hiy
        have ev9 := g5 _ _ ev
        have hlm : l ∈ ls := List.mem_iff_getElem?.mpr ⟨i, hl1⟩
        obtain ⟨b0, b1, b2, b3, _, b4, b5, _⟩ := hi l hlm
        have hi9 : i < 60 := by have := (List.getElem?_eq_some_iff.mp hl1).1; omega
        have hbl : bs.length ≤ 60 := by rw [g2, List.length_map, List.length_take]; omega
        repeat walk_at "rd"
        refine ⟨rfl, ?_⟩
        repeat first | walk_at "rd" | walk_at "rdi"
        rw [decide_eq_true (hL.step l hlm)]
        exact ⟨_, g1, small1000 (by rw [List.length_map]; omega), bs ++ [false], by rw [upd_same, List.map_append]; rfl, by rw [take_more hl1, List.map_append, ← g2]; rfl, (upd_ne (ne_of_none ep8 hM)).trans g4, g5.over hM g1⟩
      · rintro H9 ⟨bs, g1, g2, ep9, g5⟩
        rw [hA8.1, List.take_length] at g2
        repeat first | walk_at "rd" | walk_at "rdi"
        refine ⟨M, bs, rfl, SqL.of g1, ?_⟩
        have hany : bs.any id = false := by
          rw [g2, List.any_eq_false]
          intro x hx
          obtain ⟨l, _, rfl⟩ := List.mem_map.mp hx
          decide
        rw [hany]
        have hA9 := hA8.keep g5
        have eu := g5 _ _ eu
        have ev := g5 _ _ ev
        clear hA8 g1 g2 hany bs g5 ep8
        repeat first | walk_at "rd" | walk_at "rdi"
        cases c with
        | none =>
          obtain ⟨rfl, rfl, rfl⟩ := hL.free rfl
          dsimp only [optV]
          repeat first | walk_at "rd" | walk_at "rdi"
          refine new_at (Nat.le_of_ble_eq_true rfl) (fun z H10 nz10 s10 ez => ?_)
          have eu := s10 _ _ eu
          refine r_eqT0 (xs := [0, 1]) (s10 _ _ ev) ez ?_
          repeat first | exact k _ | walk_at "rd" | walk_at "rdi"
        | some m =>
          obtain ⟨m1, m2, m3, m4, m5, m6, m7, m8, m9⟩ := hL.many m rfl
          dsimp only [optV]
          repeat first | walk_at "rd" | walk_at "rdi"
          refine ⟨_, true, rfl, IntV.int, ?_⟩
          repeat first | walk_at "rd" | walk_at "rdi"
          refine ite_ff (by omega) ?_
          repeat first | walk_at "rd" | walk_at "rdi"
          refine ite_ff (by omega) ?_
          repeat first | walk_at "rd" | walk_at "rdi"
          refine ite_ff (by omega) ?_
          repeat first | walk_at "rd" | walk_at "rdi"
          refine new_at (Nat.le_of_ble_eq_true rfl) (fun z H10 nz10 s10 ez => ?_)
          have ev := s10 _ _ ev
          have ez' := ez
          repeat first | walk_at "rd" | walk_at "rdi"
          refine ⟨p, z, xs, ls, _, _, rfl, s10 _ _ ep9, hA9.keep s10, hi, ez, fun b hb => ?_⟩
          obtain rfl : b = true := hb.mpr ⟨solves_step hL.sol hL.step, by have := Int.mul_nonneg (show 0 ≤ m - 1 by omega) (show 0 ≤ e by omega); have := hL.d1; omega, m8⟩
          repeat first | walk_at "rd" | walk_at "rdi"
          rw [decide_eq_true m9]
          exact k _
end

/-! ### the law of k64 -/
theorem many_of {d : Int} (d0 : 0 ≤ d) (d1 : d < 5) : ∃ z : Int, atI [V.int 2, .int 1, .int 0, .int 3, .int 6] d = some (.int z) ∧ 0 ≤ z ∧ z ≤ 60 := by
  have hk : d = 0 ∨ d = 1 ∨ d = 2 ∨ d = 3 ∨ d = 4 := by omega
  rcases hk with rfl | rfl | rfl | rfl | rfl <;> exact ⟨_, rfl, by decide, by decide⟩
def someV (ls : List L3) : Bool := (ls.map (fun l => decide (l.1 > 0) || decide (l.2.2 > 0))).any id
theorem some_yes {ls : List L3} {l : L3} (hi : LinesIn ls) (hl : l ∈ ls) (hz : l ≠ (0, 0, 0)) : someV ls = true := by
  unfold someV
  rw [List.any_eq_true]
  refine ⟨_, List.mem_map.mpr ⟨l, hl, rfl⟩, ?_⟩
  obtain ⟨a0, _, _, _, a1, a2, _⟩ := hi l hl
  by_cases c : l.1 > 0
  · rw [decide_eq_true c]; rfl
  · have e1 : l.1 = 0 := by omega
    have : l.2.2 > 0 := by
      by_cases z : l.2.2 > 0
      · exact z
      · exact absurd (Prod.ext e1 (Prod.ext (a1 e1) (show l.2.2 = 0 by omega))) hz
    rw [decide_eq_true this, Bool.or_true]; rfl
theorem some_no {ls : List L3} (h : ∀ l, l ∈ ls → l = (0, 0, 0)) : someV ls = false := by
  unfold someV
  rw [List.any_eq_false]
  intro x hx
  obtain ⟨l, hl, rfl⟩ := List.mem_map.mp hx
  rw [h l hl]
  decide
theorem sh_any : SeqAt.shaped (.tuple [.str "any"]) = true := by decide +kernel
theorem sh_none : SeqAt.shaped (.tuple [.str "none"]) = true := by decide +kernel
theorem sh_one (D G : Int) : SeqAt.shaped (.tuple [.str "one", .tuple [.int D, .int G]]) = true := by
  have h : PyData.canLay0 (.str "one") = true := by decide +kernel
  show ((PyData.canLay0 (.str "one") && ((true && (true && true)) && true)) && decide ((PyData.tuple [.str "one", .tuple [.int D, .int G]]).depth ≤ 64)) = true
  rw [h]; rfl
def optD : Option Int → PyData
  | none => .none
  | some m => .int m
theorem sh_line (D G e f : Int) (c : Option Int) : SeqAt.shaped (.tuple [.str "line", .tuple [.int D, .int G], .tuple [.int e, .int f], optD c]) = true := by
  have h : PyData.canLay0 (.str "line") = true := by decide +kernel
  cases c with
  | none =>
    show ((PyData.canLay0 (.str "line") && ((true && (true && true)) && ((true && (true && true)) && (true && true)))) && decide ((PyData.tuple [.str "line", .tuple [.int D, .int G], .tuple [.int e, .int f], .none]).depth ≤ 64)) = true
    rw [h]; rfl
  | some m =>
    show ((PyData.canLay0 (.str "line") && ((true && (true && true)) && ((true && (true && true)) && (true && true)))) && decide ((PyData.tuple [.str "line", .tuple [.int D, .int G], .tuple [.int e, .int f], .int m]).depth ≤ 64)) = true
    rw [h]; rfl
theorem dp_opt {K : PySem.W.Frag} {H : Hp} (c : Option Int) : Dp K H (optV c) (optD c) := by
  cases c with
  | none => exact .non
  | some m => exact .int m
theorem r_eqAny {K : PySem.W.Frag} {H : Hp} {Q : VK} {p q : Addr} (h1 : H p = some (.tup [.str "any"])) (h2 : H q = some (.tup [.str "any"])) (k : Q (.bl true) H) : rEqD K (.ref p) (.ref q) H Q := by
  refine ⟨.tuple [.str "any"], .tuple [.str "any"], .tup (SqT.of h1) (.cons (.str _) .nil), .tup (SqT.of h2) (.cons (.str _) .nil), sh_any, sh_any, ?_⟩
  rw [show PyData.eqv (.tuple [.str "any"]) (.tuple [.str "any"]) = true by simp [PyData.eqv, PyData.eqvAll]]
  exact k
theorem r_eqNone {K : PySem.W.Frag} {H : Hp} {Q : VK} {p q : Addr} (h1 : H p = some (.tup [.str "none"])) (h2 : H q = some (.tup [.str "any"])) (k : Q (.bl false) H) : rEqD K (.ref p) (.ref q) H Q := by
  refine ⟨.tuple [.str "none"], .tuple [.str "any"], .tup (SqT.of h1) (.cons (.str _) .nil), .tup (SqT.of h2) (.cons (.str _) .nil), sh_none, sh_any, ?_⟩
  rw [show PyData.eqv (.tuple [.str "none"]) (.tuple [.str "any"]) = false by simp [PyData.eqv, PyData.eqvAll]; decide]
  exact k
theorem r_eqOne {K : PySem.W.Frag} {H : Hp} {Q : VK} {p q u : Addr} {D G : Int} (h1 : H p = some (.tup [.str "one", .ref u])) (hu : H u = some (.tup [.int D, .int G])) (h2 : H q = some (.tup [.str "any"])) (k : Q (.bl false) H) : rEqD K (.ref p) (.ref q) H Q := by
  refine ⟨.tuple [.str "one", .tuple [.int D, .int G]], .tuple [.str "any"], .tup (SqT.of h1) (.cons (.str _) (.cons (.tup (SqT.of hu) (.cons (.int _) (.cons (.int _) .nil))) .nil)), .tup (SqT.of h2) (.cons (.str _) .nil), sh_one D G, sh_any, ?_⟩
  rw [show PyData.eqv (.tuple [.str "one", .tuple [.int D, .int G]]) (.tuple [.str "any"]) = false by simp [PyData.eqv, PyData.eqvAll]]
  exact k
theorem r_eqLine {K : PySem.W.Frag} {H : Hp} {Q : VK} {p q u v : Addr} {D G e f : Int} {c : Option Int} (h1 : H p = some (.tup [.str "line", .ref u, .ref v, optV c])) (hu : H u = some (.tup [.int D, .int G])) (hv : H v = some (.tup [.int e, .int f])) (h2 : H q = some (.tup [.str "any"])) (k : Q (.bl false) H) : rEqD K (.ref p) (.ref q) H Q := by
  refine ⟨.tuple [.str "line", .tuple [.int D, .int G], .tuple [.int e, .int f], optD c], .tuple [.str "any"], .tup (SqT.of h1) (.cons (.str _) (.cons (.tup (SqT.of hu) (.cons (.int _) (.cons (.int _) .nil))) (.cons (.tup (SqT.of hv) (.cons (.int _) (.cons (.int _) .nil))) (.cons (dp_opt c) .nil)))), .tup (SqT.of h2) (.cons (.str _) .nil), sh_line D G e f c, sh_any, ?_⟩
  rw [show PyData.eqv (.tuple [.str "line", .tuple [.int D, .int G], .tuple [.int e, .int f], optD c]) (.tuple [.str "any"]) = false by simp [PyData.eqv, PyData.eqvAll]]
  exact k
theorem ToldAt.keep {H H' : Hp} {p : Addr} {r : Told} (h : ToldAt H p r) (s : Same H H') : ToldAt H' p r := by
  cases r with
  | any => exact s _ _ h
  | no => exact s _ _ h
  | one D G => obtain ⟨q, h1, h2⟩ := h; exact ⟨q, s _ _ h1, s _ _ h2⟩
  | line D G e f c => obtain ⟨q, r, h1, h2, h3⟩ := h; exact ⟨q, r, s _ _ h1, s _ _ h2, s _ _ h3⟩
theorem ToldAt.tup {H : Hp} {p : Addr} {r : Told} (h : ToldAt H p r) : ∃ (s0 : Str) (its : List V), H p = some (.tup (.str s0 :: its)) ∧ inV (.int (((V.str s0 :: its).length : Nat) : Int)) [.int 1, .int 2, .int 4] = true := by
  cases r with
  | any => exact ⟨_, _, h, rfl⟩
  | no => exact ⟨_, _, h, rfl⟩
  | one D G => obtain ⟨q, h1, h2⟩ := h; exact ⟨_, _, h1, rfl⟩
  | line D G e f c => obtain ⟨q, r, h1, h2, h3⟩ := h; exact ⟨_, _, h1, rfl⟩
def isAny : Told → Bool
  | .any => true
  | _ => false
theorem r_eqTold {K : PySem.W.Frag} {H : Hp} {Q : VK} {p q : Addr} {r : Told} (h : ToldAt H p r) (h2 : H q = some (.tup [.str "any"])) (k : Q (.bl (isAny r)) H) : rEqD K (.ref p) (.ref q) H Q := by
  cases r with
  | any => exact r_eqAny h h2 k
  | no => exact r_eqNone h h2 k
  | one D G => obtain ⟨u, h1, hu⟩ := h; exact r_eqOne h1 hu h2 k
  | line D G e f c => obtain ⟨u, v, h1, hu, hv⟩ := h; exact r_eqLine h1 hu hv h2 k
theorem some_told {ls : List L3} {r : Told} (hi : LinesIn ls) (h : ToldOk ls r) : someV ls = !isAny r := by
  cases r with
  | any => exact some_no h
  | no => obtain ⟨l, hl, hz⟩ := h.2; exact some_yes hi hl hz
  | one D G => obtain ⟨l, hl, hz⟩ := h.up; exact some_yes hi hl (fun z => by rw [z] at hz; exact absurd hz (by decide))
  | line D G e f c => obtain ⟨l, hl, hz⟩ := h.up; exact some_yes hi hl (fun z => by rw [z] at hz; exact absurd hz (by decide))
theorem r_eqStr {H : Hp} {Q : VK} {x y : Str} (b : Bool) (h : decide (V.str x = V.str y) = b) (q : Q (.bl b) H) : rEq (.str x) (.str y) H Q := ⟨rfl, by rw [h]; exact q⟩
theorem r_neStr {H : Hp} {Q : VK} {x y : Str} (b : Bool) (h : decide (V.str x = V.str y) = b) (q : Q (.bl (!b)) H) : rNe (.str x) (.str y) H Q := ⟨rfl, by rw [h]; exact q⟩
def spLaw (K : PySem.W.Frag) : Sp := fun vs H Q _ => ∃ (b : Addr) (ns : List Int), vs = [.ref b] ∧ SqL K H b (ns.map V.int) ∧ ns.length ≤ 63 ∧ ∀ H', Q (.bl true) H'
section
variable {P : Program} {w : World} {K : PySem.W.Frag} {mg : Str → Option Value} {base : Heap} {a : Adr}
set_option maxHeartbeats 0 in
theorem ok_law (T : Txt K mg a) : FnOk P w K mg base CX0 9 a.a_law a.d_law ["_law_script"] (spLaw K) := by
  refine T.F_law.ok sc_law (fun vs H Q E h => ?_) (fun cdv A0 outer s H vs Q E hr h => ?_)
  · obtain ⟨b, ns, rfl, _⟩ := h
    rfl
  · obtain ⟨b, ns, rfl, hS, hl, k⟩ := h
    refine ⟨_, (pss_cons (ps_set (i := 1) sc_law.nd rfl (Or.inl rfl) (pe_call (ok__law_source T) (hr.mono (by decide)) (by rfl) T.g__law_source T.F__law_source.kp T.b__law_source .nil pass0 (pa_cons (pv 0) pa_nil)))
 (pss_cons (ps_set (i := 2) sc_law.nd rfl (Or.inl rfl) (pe_ix ix_list (pe_lst (pa_cons pe_int (pa_cons pe_int (pa_cons pe_int (pa_cons pe_int (pa_cons pe_int pa_nil)))))) (pe_call (ok__law_draw T) (hr.mono (by decide)) (by rfl) T.g__law_draw T.F__law_draw.kp T.b__law_draw .nil pass0 (pa_cons (pv 1) (pa_cons pe_int pa_nil))) (fun _ _ => rfl)))
 (pss_cons (ps_if (pt_cmpR op_eq (pe_call (ok__law_draw T) (hr.mono (by decide)) (by rfl) T.g__law_draw T.F__law_draw.kp T.b__law_draw .nil pass0 (pa_cons (pv 1) (pa_cons pe_int pa_nil))) pe_int (nomark _)) (pss_one (ps_set (i := 2) sc_law.nd rfl (Or.inl rfl) pe_int))
 pss_nil)
 (pss_cons (ps_asg (pe_call (ok__law_sightings T) (hr.mono (by decide)) (by rfl) T.g__law_sightings T.F__law_sightings.kp T.b__law_sightings .nil pass0 (pa_cons (pv 1) (pa_cons (pv 2) pa_nil))) (pg_tup (by rfl) (pgs_cons (pg_name (i := 3) sc_law.nd rfl (Or.inl rfl)) (pgs_cons (pg_name (i := 4) sc_law.nd rfl (Or.inl rfl)) (pgs_cons (pg_name (i := 5) sc_law.nd rfl (Or.inl rfl)) pgs_nil)))))
 (pss_cons (ps_set (i := 6) sc_law.nd rfl (Or.inl rfl) (pe_call (ok__law_lines T) (hr.mono (by decide)) (by rfl) T.g__law_lines T.F__law_lines.kp T.b__law_lines .nil pass0 (pa_cons (pv 3) pa_nil)))
 (pss_cons (ps_set (i := 7) sc_law.nd rfl (Or.inl rfl) (pe_call (ok_told_back T) (hr.mono (by decide)) (by rfl) T.g_told_back T.F_told_back.kp T.b_told_back .nil pass0 (pa_cons (pe_callTy cr_list (by rfl) T.n_list (by decide +kernel) (pa_cons (pv 3) pa_nil)) pa_nil)))
 (pss_cons (ps_if (PW.pt (pw_or (pt_not (pt_val (pe_callB call_isi (by rfl) T.n_isinstance (by decide +kernel) (pa_cons (pv 7) (pa_cons (pe_bltn (v := .ty "tuple") (u := .type "tuple") (by rfl) T.n_tuple (by decide +kernel) rfl) pa_nil))))) (pw_or (pt_cmpR op_notIn_seq (pe_callB call_len_seq (by rfl) T.n_len (by decide +kernel) (pa_cons (pv 7) pa_nil)) (pe_tup (pa_cons pe_int (pa_cons pe_int (pa_cons pe_int pa_nil)))) (by rfl)) (pw_or1 (pt_not (pt_val (pe_callB call_isi (by rfl) T.n_isinstance (by decide +kernel) (pa_cons (pe_ix ix_tup (pv 7) pe_int (fun _ _ => rfl)) (pa_cons (pe_bltn (v := .ty "str") (u := .type "str") (by rfl) T.n_str (by decide +kernel) rfl) pa_nil))))))))) (pss_one (ps_ret pe_bl))
 pss_nil)
 (pss_cons (ps_if (pt_cmpR op_eq (pe_callB (cr_any rfl) (by rfl) T.n_any (by decide +kernel) (pa_cons (pe_lc (own := [("_law_line", 8)]) (g := gName 8) (tt := tYes) rfl sc_law.nd (pi_list (pv 6)) (blkOk_by (own := [("_law_line", 8)]) (N := ["_law_script", "_law_source_here", "_law_many", "_law_rows", "_law_letter", "_law_gap", "_law_lines_here", "_law_told", "_law_line"]) (sc := defScope s_law) (by decide +kernel)) (fun _ _ _ _ _ => (pg_name (i := 8) sc_law.nd rfl (Or.inl rfl))) (fun _ _ _ _ _ => pts_nil) (fun _ _ _ _ _ => (pe_or (pe_cmpR op_gt (pe_ix (ix_tupK (K := K) rfl) (pv 8) pe_int (fun _ _ => rfl)) pe_int (nomark _)) (pe_one (pe_cmpR op_gt (pe_ix (ix_tupK (K := K) rfl) (pv 8) pe_int (fun _ _ => rfl)) pe_int (nomark _)))))) pa_nil)) (pe_cmpR (op_eqD hr.units) (pv 7) (pe_tup (pa_cons pe_str pa_nil)) (nomark _)) (nomark _)) (pss_one (ps_ret pe_bl))
 pss_nil)
 (pss_cons (ps_if (pt_cmpR op_eq (pe_ix ix_tup (pv 7) pe_int (fun _ _ => rfl)) pe_str (nomark _)) (pss_one (ps_ret (pe_cmpR op_eq (pe_callB call_len_seq (by rfl) T.n_len (by decide +kernel) (pa_cons (pv 7) pa_nil)) pe_int (nomark _))))
 pss_nil)
 (pss_cons (ps_if (pt_cmpR op_eq (pe_ix ix_tup (pv 7) pe_int (fun _ _ => rfl)) pe_str (nomark _)) (pss_one (ps_ret (pe_and (pe_cmpR op_eq (pe_callB call_len_seq (by rfl) T.n_len (by decide +kernel) (pa_cons (pv 7) pa_nil)) pe_int (nomark _)) (pe_one (pe_call (ok__law_none_is_right T) (hr.mono (by decide)) (by rfl) T.g__law_none_is_right T.F__law_none_is_right.kp T.b__law_none_is_right .nil pass0 (pa_cons (pv 6) pa_nil))))))
 pss_nil)
 (pss_cons (ps_if (pt_cmpR op_eq (pe_ix ix_tup (pv 7) pe_int (fun _ _ => rfl)) pe_str (nomark _)) (pss_one (ps_ret (pe_and (pe_cmpR op_eq (pe_callB call_len_seq (by rfl) T.n_len (by decide +kernel) (pa_cons (pv 7) pa_nil)) pe_int (nomark _)) (pe_one (pe_call (ok__law_one_is_right T) (hr.mono (by decide)) (by rfl) T.g__law_one_is_right T.F__law_one_is_right.kp T.b__law_one_is_right .nil pass0 (pa_cons (pv 6) (pa_cons (pe_ix ix_tup (pv 7) pe_int (fun _ _ => rfl)) pa_nil)))))))
 pss_nil)
 (pss_cons (ps_if (PW.pt (pw_or (pt_cmpR op_ne (pe_ix ix_tup (pv 7) pe_int (fun _ _ => rfl)) pe_str (nomark _)) (pw_or1 (pt_cmpR op_ne (pe_callB call_len_seq (by rfl) T.n_len (by decide +kernel) (pa_cons (pv 7) pa_nil)) pe_int (nomark _))))) (pss_one (ps_ret pe_bl))
 pss_nil)
 (pss_one (ps_ret (pe_call (ok__law_line_is_right T) (hr.mono (by decide)) (by rfl) T.g__law_line_is_right T.F__law_line_is_right.kp T.b__law_line_is_right .nil pass0 (pa_cons (pv 6) (pa_cons (pe_ix ix_tup (pv 7) pe_int (fun _ _ => rfl)) (pa_cons (pe_ix ix_tup (pv 7) pe_int (fun _ _ => rfl)) (pa_cons (pe_ix ix_tup (pv 7) pe_int (fun _ _ => rfl)) pa_nil))))))))))))))))))), ?_⟩
    repeat walk_at "rd"
    refine ⟨b, ns, rfl, hS, hl, fun p q H0 hs0 np nq s0 => ?_⟩
    clear hS s0
    repeat walk_at "rd"
    refine new_at (Nat.le_of_ble_eq_true rfl) (fun L H1 nL s1 eL => ?_)
    have hs1 := hs0.keep s1
    have nLp := hs0.ne nL
    repeat walk_at "rd"
    refine ⟨p, q, 5, rfl, hs1, by decide, by decide, fun d H2 d0 d1 hs2 b2 => ?_⟩
    obtain ⟨many, hat, m0, m9⟩ := many_of d0 d1
    refine r_ixL (b2 _ _ eL nLp) hat ?_
    clear hs0 hs1 s1 eL nLp nL hat b2 np nq
    repeat walk_at "rd"
    with_reducible refine seq_with (fun σ H' => ∃ many : Int, σ = [some (.ref b), some (.ref p), some (.int many), none, none, none, none, none, none] ∧ 0 ≤ many ∧ many ≤ 60 ∧ SrcAt H' p q) ?_ (fun rest => ?_)
    · clear hs2 m0 m9 many
      rintro σ H3 ⟨many, rfl, m0, m9, hs3⟩
      repeat walk_at "rd"
      refine ⟨p, q, many, rfl, hs3, m0, m9, fun y R xs rs D G H4 hok hlen ey eR hR hs4 b4 => ?_⟩
      clear b4 hs3
      have hi : LinesIn (rs.map lineOf) := fun l hl => by
        obtain ⟨r, hr, rfl⟩ := List.mem_map.mp hl
        exact (hok r hr).line
      repeat walk_at "rd"
      refine ⟨R, xs, rs, rfl, eR, hR, hok, hlen, fun q5 ys H5 s5 eq5 hA => ?_⟩
      have eR := s5 _ _ eR
      have hR := hR.keep s5
      repeat walk_at "rd"
      refine r_listL eR (fun R6 H6 nR6 s6 eR6 => ?_)
      have eq5 := s6 _ _ eq5
      have hA := hA.keep s6
      repeat walk_at "rd"
      refine ⟨R6, xs, rs, rfl, eR6, hR.keep s6, hok, hlen, fun z r H7 hT s7 ez => ?_⟩
      have eq5 := s7 _ _ eq5
      have hA := hA.keep s7
      have hll : (rs.map lineOf).length ≤ 60 := by rw [List.length_map]; exact hlen
      generalize rs.map lineOf = ls at hi hA hT hll
      clear hR eR s5 s6 s7 nR6 eR6 hok hlen ey hs4
      obtain ⟨s0, its, et, hin⟩ := ez.tup
      repeat first | walk_at "rd" | walk_at "rdi"
      refine r_isiTu true et (by decide +kernel) ?_
      repeat first | walk_at "rd" | walk_at "rdi"
      refine new_at (Nat.le_of_ble_eq_true rfl) (fun w1 H8 nw s8 ew => ?_)
      have et := s8 _ _ et
      have ez := ez.keep s8
      have eq5 := s8 _ _ eq5
      have hA := hA.keep s8
      clear s8 nw
      refine ⟨w1, [.int 1, .int 2, .int 4], rfl, .inr (SqT.of ew), rfl, rfl, ?_⟩
      rw [hin]
      refine ⟨false, rfl, iteF ?_⟩
      repeat first | walk_at "rd" | walk_at "rdi"
      refine r_ixT et (v := .str s0) (atI_nat (j := 0) rfl) ?_
      repeat first | walk_at "rd" | walk_at "rdi"
      refine r_isi (n := "str") (b := true) (.base (.str _)) (kit_ty (by decide +kernel)) ?_
      repeat first | walk_at "rd" | walk_at "rdi"
      refine ⟨q5, rfl, ⟨_, SqL.of eq5⟩, fun L hL_ => lc_list (K := K) (a := q5) (xs := ys) (fun i H' => ∃ bs : List Bool, H' L = some (.lst (bs.map V.bl)) ∧ bs = (ls.take i).map (fun l => decide (l.1 > 0) || decide (l.2.2 > 0)) ∧ H' q5 = some (.lst ys) ∧ Same H8 H') ?_ (fun i H' _ ⟨_, _, _, h, _⟩ => SqL.of h) ?_ ?_⟩
      · exact ⟨[], upd_same, rfl, (upd_ne (ne_of_none eq5 hL_)).trans eq5, Same.new hL_⟩
      · rintro i y H9 hiy ⟨bs, g1, g2, g4, g5⟩
        obtain ⟨t, l, rfl, hl1, et⟩ := (hA.keep g5).get hiy
        have hi9 : i < 60 := by have := (List.getElem?_eq_some_iff.mp hl1).1; omega
        have hbl : bs.length ≤ 60 := by rw [g2, List.length_map, List.length_take]; omega
        have fin : ∀ b, b = (decide (l.1 > 0) || decide (l.2.2 > 0)) → ∃ acc, H9 L = some (.lst acc) ∧ acc.length < sizeLine ∧ ∃ bs : List Bool, L2.upd H9 L (.lst (acc ++ [.bl b])) L = some (.lst (bs.map V.bl)) ∧ bs = (ls.take (i + 1)).map (fun l => decide (l.1 > 0) || decide (l.2.2 > 0)) ∧ L2.upd H9 L (.lst (acc ++ [.bl b])) q5 = some (.lst ys) ∧ Same H8 (L2.upd H9 L (.lst (acc ++ [.bl b]))) := fun b e => ⟨_, g1, small1000 (by rw [List.length_map]; omega), bs ++ [b], by rw [upd_same, List.map_append]; rfl, by rw [e, take_more hl1, List.map_append, ← g2]; rfl, (upd_ne (ne_of_none eq5 hL_)).trans g4, g5.over hL_ g1⟩
        repeat walk_at "rd"
        refine ⟨rfl, ?_⟩
        repeat first | walk_at "rd" | walk_at "rdi"
        refine ite_d (fun hc => ?_) (fun hc => ?_)
        · repeat first | exact fin _ (by rw [decide_eq_true hc, Bool.true_or]) | walk_at "rd"
        · repeat first | exact fin _ (by rw [decide_eq_false hc, Bool.false_or]) | walk_at "rd"
      · rintro H9 ⟨bs, g1, g2, eq9, g5⟩
        rw [hA.1, List.take_length] at g2
        have hsv : bs.any id = !isAny r := by rw [g2]; exact some_told hi hT
        repeat first | walk_at "rd" | walk_at "rdi"
        refine ⟨L, bs, rfl, SqL.of g1, ?_⟩
        rw [hsv]
        have ez := ez.keep g5
        have hA := hA.keep g5
        clear g1 g2 hsv bs g5 eq5 ew
        repeat first | walk_at "rd" | walk_at "rdi"
        refine new_at (Nat.le_of_ble_eq_true rfl) (fun w2 H10 nw s10 ew => ?_)
        have ez := ez.keep s10
        have hA := hA.keep s10
        have eq10 := s10 _ _ eq9
        clear s10 nw eq9
        refine r_eqTold ez ew ?_
        repeat first | walk_at "rd" | walk_at "rdi"
        refine ⟨rfl, ?_⟩
        rw [show decide (V.bl (!isAny r) = V.bl (isAny r)) = false by cases isAny r <;> decide]
        refine ⟨false, rfl, iteF ?_⟩
        clear ew
        cases r with
        | any =>
          have ez : H10 z = some (.tup [.str "any"]) := ez
          repeat first | walk_at "rd" | walk_at "rdi"
          refine r_eqStr true (by decide) ?_
          refine ⟨true, rfl, iteT ?_⟩
          repeat first | exact k _ | walk_at "rd" | walk_at "rdi"
        | no =>
          have ez : H10 z = some (.tup [.str "none"]) := ez
          repeat first | walk_at "rd" | walk_at "rdi"
          refine r_eqStr false (by decide) ?_
          refine ⟨false, rfl, iteF ?_⟩
          repeat first | walk_at "rd" | walk_at "rdi"
          refine r_eqStr true (by decide) ?_
          refine ⟨true, rfl, iteT ?_⟩
          repeat first | walk_at "rd" | walk_at "rdi"
          refine ite_tt rfl ?_
          repeat first | walk_at "rd" | walk_at "rdi"
          exact ⟨q5, ys, ls, rfl, eq10, hA, hi, hll, hT.1, hT.2, fun H' => k _⟩
        | one D G =>
          obtain ⟨u, ez, eu⟩ := ez
          repeat first | walk_at "rd" | walk_at "rdi"
          refine r_eqStr false (by decide) ?_
          refine ⟨false, rfl, iteF ?_⟩
          repeat first | walk_at "rd" | walk_at "rdi"
          refine r_eqStr false (by decide) ?_
          refine ⟨false, rfl, iteF ?_⟩
          repeat first | walk_at "rd" | walk_at "rdi"
          refine r_eqStr true (by decide) ?_
          refine ⟨true, rfl, iteT ?_⟩
          repeat first | walk_at "rd" | walk_at "rdi"
          refine ite_tt rfl ?_
          repeat first | walk_at "rd" | walk_at "rdi"
          exact ⟨q5, u, ys, ls, D, G, rfl, eq10, hA, hi, hll, eu, hT, fun H' => k _⟩
        | line D G e f c =>
          obtain ⟨u, v, ez, eu, ev⟩ := ez
          repeat first | walk_at "rd" | walk_at "rdi"
          refine r_eqStr false (by decide) ?_
          refine ⟨false, rfl, iteF ?_⟩
          repeat first | walk_at "rd" | walk_at "rdi"
          refine r_eqStr false (by decide) ?_
          refine ⟨false, rfl, iteF ?_⟩
          repeat first | walk_at "rd" | walk_at "rdi"
          refine r_eqStr false (by decide) ?_
          refine ⟨false, rfl, iteF ?_⟩
          repeat first | walk_at "rd" | walk_at "rdi"
          refine r_neStr true (by decide) ?_
          refine ⟨false, rfl, iteF ?_⟩
          repeat first | walk_at "rd" | walk_at "rdi"
          repeat first | walk_at "rd" | walk_at "rdi"
          exact ⟨q5, u, v, ys, ls, D, G, e, f, c, rfl, eq10, hA, hi, hll, eu, ev, hT, fun H' => k _⟩
    · repeat walk_at "rd"
      refine ⟨p, q, 30, rfl, hs2, by decide, by decide, fun e H3 e0 e1 hs3 b3 => ?_⟩
      repeat first | walk_at "rd" | walk_at "rdi"
      refine ite_d (fun hc => ?_) (fun hc => ?_)
      · repeat first | exact rest _ _ ⟨60, rfl, by decide, by decide, hs3⟩ | walk_at "rd"
      · repeat first | exact rest _ _ ⟨many, rfl, m0, m9, hs3⟩ | walk_at "rd"
end

theorem all_mk {P : Program} {w : World} {K : PySem.W.Frag} {h : Heap} {mg : Str → Option Value} {fa : Addr} (X : K.In h) (G : h.Ns mainGlobals mg) (hfa : mg "law" = some (.ref fa))
    {oc_is_integer : Value} {od_is_integer : Option Addr} {an_is_integer : Option Addr} {sl_is_integer : Array (Option Value)} {kV_is_integer : Value} {dc_is_integer : Value} {pm_is_integer : Value} {cd_is_integer : Value} {ct_is_integer : Value} {f_is_integer : Addr} {oc_is_between : Value} {od_is_between : Option Addr} {an_is_between : Option Addr} {sl_is_between : Array (Option Value)} {kV_is_between : Value} {dc_is_between : Value} {pm_is_between : Value} {cd_is_between : Value} {ct_is_between : Value} {f_is_between : Addr} {oc_wrong_in_name : Value} {od_wrong_in_name : Option Addr} {an_wrong_in_name : Option Addr} {sl_wrong_in_name : Array (Option Value)} {kV_wrong_in_name : Value} {dc_wrong_in_name : Value} {pm_wrong_in_name : Value} {cd_wrong_in_name : Value} {ct_wrong_in_name : Value} {f_wrong_in_name : Addr} {oc_is_sighting : Value} {od_is_sighting : Option Addr} {an_is_sighting : Option Addr} {sl_is_sighting : Array (Option Value)} {kV_is_sighting : Value} {dc_is_sighting : Value} {pm_is_sighting : Value} {cd_is_sighting : Value} {ct_is_sighting : Value} {f_is_sighting : Addr} {oc_check_sightings : Value} {od_check_sightings : Option Addr} {an_check_sightings : Option Addr} {sl_check_sightings : Array (Option Value)} {kV_check_sightings : Value} {dc_check_sightings : Value} {pm_check_sightings : Value} {cd_check_sightings : Value} {ct_check_sightings : Value} {f_check_sightings : Addr} {oc_sums_of : Value} {od_sums_of : Option Addr} {an_sums_of : Option Addr} {sl_sums_of : Array (Option Value)} {kV_sums_of : Value} {dc_sums_of : Value} {pm_sums_of : Value} {cd_sums_of : Value} {ct_sums_of : Value} {f_sums_of : Addr} {oc_fits : Value} {od_fits : Option Addr} {an_fits : Option Addr} {sl_fits : Array (Option Value)} {kV_fits : Value} {dc_fits : Value} {pm_fits : Value} {cd_fits : Value} {ct_fits : Value} {f_fits : Addr} {oc_told_by_two : Value} {od_told_by_two : Option Addr} {an_told_by_two : Option Addr} {sl_told_by_two : Array (Option Value)} {kV_told_by_two : Value} {dc_told_by_two : Value} {pm_told_by_two : Value} {cd_told_by_two : Value} {ct_told_by_two : Value} {f_told_by_two : Addr} {oc_told_by_line : Value} {od_told_by_line : Option Addr} {an_told_by_line : Option Addr} {sl_told_by_line : Array (Option Value)} {kV_told_by_line : Value} {dc_told_by_line : Value} {pm_told_by_line : Value} {cd_told_by_line : Value} {ct_told_by_line : Value} {f_told_by_line : Addr} {oc_told_by_multiples : Value} {od_told_by_multiples : Option Addr} {an_told_by_multiples : Option Addr} {sl_told_by_multiples : Array (Option Value)} {kV_told_by_multiples : Value} {dc_told_by_multiples : Value} {pm_told_by_multiples : Value} {cd_told_by_multiples : Value} {ct_told_by_multiples : Value} {f_told_by_multiples : Addr} {oc_told_back : Value} {od_told_back : Option Addr} {an_told_back : Option Addr} {sl_told_back : Array (Option Value)} {kV_told_back : Value} {dc_told_back : Value} {pm_told_back : Value} {cd_told_back : Value} {ct_told_back : Value} {f_told_back : Addr} {oc__law_source : Value} {od__law_source : Option Addr} {an__law_source : Option Addr} {sl__law_source : Array (Option Value)} {kV__law_source : Value} {dc__law_source : Value} {pm__law_source : Value} {cd__law_source : Value} {ct__law_source : Value} {f__law_source : Addr} {oc__law_draw : Value} {od__law_draw : Option Addr} {an__law_draw : Option Addr} {sl__law_draw : Array (Option Value)} {kV__law_draw : Value} {dc__law_draw : Value} {pm__law_draw : Value} {cd__law_draw : Value} {ct__law_draw : Value} {f__law_draw : Addr} {oc__law_wide : Value} {od__law_wide : Option Addr} {an__law_wide : Option Addr} {sl__law_wide : Array (Option Value)} {kV__law_wide : Value} {dc__law_wide : Value} {pm__law_wide : Value} {cd__law_wide : Value} {ct__law_wide : Value} {f__law_wide : Addr} {oc__law_integer : Value} {od__law_integer : Option Addr} {an__law_integer : Option Addr} {sl__law_integer : Array (Option Value)} {kV__law_integer : Value} {dc__law_integer : Value} {pm__law_integer : Value} {cd__law_integer : Value} {ct__law_integer : Value} {f__law_integer : Addr} {oc__law_name : Value} {od__law_name : Option Addr} {an__law_name : Option Addr} {sl__law_name : Array (Option Value)} {kV__law_name : Value} {dc__law_name : Value} {pm__law_name : Value} {cd__law_name : Value} {ct__law_name : Value} {f__law_name : Addr} {oc__law_sightings : Value} {od__law_sightings : Option Addr} {an__law_sightings : Option Addr} {sl__law_sightings : Array (Option Value)} {kV__law_sightings : Value} {dc__law_sightings : Value} {pm__law_sightings : Value} {cd__law_sightings : Value} {ct__law_sightings : Value} {f__law_sightings : Addr} {oc__law_lines : Value} {od__law_lines : Option Addr} {an__law_lines : Option Addr} {sl__law_lines : Array (Option Value)} {kV__law_lines : Value} {dc__law_lines : Value} {pm__law_lines : Value} {cd__law_lines : Value} {ct__law_lines : Value} {f__law_lines : Addr} {oc__law_solves : Value} {od__law_solves : Option Addr} {an__law_solves : Option Addr} {sl__law_solves : Array (Option Value)} {kV__law_solves : Value} {dc__law_solves : Value} {pm__law_solves : Value} {cd__law_solves : Value} {ct__law_solves : Value} {f__law_solves : Addr} {oc__law_divisor : Value} {od__law_divisor : Option Addr} {an__law_divisor : Option Addr} {sl__law_divisor : Array (Option Value)} {kV__law_divisor : Value} {dc__law_divisor : Value} {pm__law_divisor : Value} {cd__law_divisor : Value} {ct__law_divisor : Value} {f__law_divisor : Addr} {oc__law_pair : Value} {od__law_pair : Option Addr} {an__law_pair : Option Addr} {sl__law_pair : Array (Option Value)} {kV__law_pair : Value} {dc__law_pair : Value} {pm__law_pair : Value} {cd__law_pair : Value} {ct__law_pair : Value} {f__law_pair : Addr} {oc__law_unlike : Value} {od__law_unlike : Option Addr} {an__law_unlike : Option Addr} {sl__law_unlike : Array (Option Value)} {kV__law_unlike : Value} {dc__law_unlike : Value} {pm__law_unlike : Value} {cd__law_unlike : Value} {ct__law_unlike : Value} {f__law_unlike : Addr} {oc__law_line_has_pair : Value} {od__law_line_has_pair : Option Addr} {an__law_line_has_pair : Option Addr} {sl__law_line_has_pair : Array (Option Value)} {kV__law_line_has_pair : Value} {dc__law_line_has_pair : Value} {pm__law_line_has_pair : Value} {cd__law_line_has_pair : Value} {ct__law_line_has_pair : Value} {f__law_line_has_pair : Addr} {oc__law_none_is_right : Value} {od__law_none_is_right : Option Addr} {an__law_none_is_right : Option Addr} {sl__law_none_is_right : Array (Option Value)} {kV__law_none_is_right : Value} {dc__law_none_is_right : Value} {pm__law_none_is_right : Value} {cd__law_none_is_right : Value} {ct__law_none_is_right : Value} {f__law_none_is_right : Addr} {oc__law_one_is_right : Value} {od__law_one_is_right : Option Addr} {an__law_one_is_right : Option Addr} {sl__law_one_is_right : Array (Option Value)} {kV__law_one_is_right : Value} {dc__law_one_is_right : Value} {pm__law_one_is_right : Value} {cd__law_one_is_right : Value} {ct__law_one_is_right : Value} {f__law_one_is_right : Addr} {oc__law_line_is_right : Value} {od__law_line_is_right : Option Addr} {an__law_line_is_right : Option Addr} {sl__law_line_is_right : Array (Option Value)} {kV__law_line_is_right : Value} {dc__law_line_is_right : Value} {pm__law_line_is_right : Value} {cd__law_line_is_right : Value} {ct__law_line_is_right : Value} {f__law_line_is_right : Addr} {oc_law : Value} {od_law : Option Addr} {an_law : Option Addr} {sl_law : Array (Option Value)} {kV_law : Value} {dc_law : Value} {pm_law : Value} {cd_law : Value} {ct_law : Value} {f_law : Addr} {t_LONGEST_NAME : Tok} {t_GREATEST_ITEM : Tok} {t_MOST_SIGHTINGS : Tok} {t_LATEST_SIGHTING : Tok}
    (H_a_is_integer : PySem.W.nsIn K mainGlobals "is_integer" = some (some (.ref f_is_integer)))
    (H_l_is_integer : K.lookup f_is_integer = some ⟨oc_is_integer, od_is_integer, .func (PySem.W.fnOf "is_integer" "is_integer" (defArgs s_is_integer) (defBody s_is_integer) (defScope s_is_integer) .none kV_is_integer dc_is_integer pm_is_integer an_is_integer cd_is_integer ct_is_integer), sl_is_integer⟩)
    (H_c_is_integer : PySem.W.codeIn K cd_is_integer "is_integer" = true)
    (H_k_is_integer : PySem.W.keepIn K (.ref f_is_integer) = true)
    (H_a_is_between : PySem.W.nsIn K mainGlobals "is_between" = some (some (.ref f_is_between)))
    (H_l_is_between : K.lookup f_is_between = some ⟨oc_is_between, od_is_between, .func (PySem.W.fnOf "is_between" "is_between" (defArgs s_is_between) (defBody s_is_between) (defScope s_is_between) .none kV_is_between dc_is_between pm_is_between an_is_between cd_is_between ct_is_between), sl_is_between⟩)
    (H_c_is_between : PySem.W.codeIn K cd_is_between "is_between" = true)
    (H_k_is_between : PySem.W.keepIn K (.ref f_is_between) = true)
    (H_a_wrong_in_name : PySem.W.nsIn K mainGlobals "wrong_in_name" = some (some (.ref f_wrong_in_name)))
    (H_l_wrong_in_name : K.lookup f_wrong_in_name = some ⟨oc_wrong_in_name, od_wrong_in_name, .func (PySem.W.fnOf "wrong_in_name" "wrong_in_name" (defArgs s_wrong_in_name) (defBody s_wrong_in_name) (defScope s_wrong_in_name) .none kV_wrong_in_name dc_wrong_in_name pm_wrong_in_name an_wrong_in_name cd_wrong_in_name ct_wrong_in_name), sl_wrong_in_name⟩)
    (H_c_wrong_in_name : PySem.W.codeIn K cd_wrong_in_name "wrong_in_name" = true)
    (H_k_wrong_in_name : PySem.W.keepIn K (.ref f_wrong_in_name) = true)
    (H_a_is_sighting : PySem.W.nsIn K mainGlobals "is_sighting" = some (some (.ref f_is_sighting)))
    (H_l_is_sighting : K.lookup f_is_sighting = some ⟨oc_is_sighting, od_is_sighting, .func (PySem.W.fnOf "is_sighting" "is_sighting" (defArgs s_is_sighting) (defBody s_is_sighting) (defScope s_is_sighting) .none kV_is_sighting dc_is_sighting pm_is_sighting an_is_sighting cd_is_sighting ct_is_sighting), sl_is_sighting⟩)
    (H_c_is_sighting : PySem.W.codeIn K cd_is_sighting "is_sighting" = true)
    (H_k_is_sighting : PySem.W.keepIn K (.ref f_is_sighting) = true)
    (H_a_check_sightings : PySem.W.nsIn K mainGlobals "check_sightings" = some (some (.ref f_check_sightings)))
    (H_l_check_sightings : K.lookup f_check_sightings = some ⟨oc_check_sightings, od_check_sightings, .func (PySem.W.fnOf "check_sightings" "check_sightings" (defArgs s_check_sightings) (defBody s_check_sightings) (defScope s_check_sightings) .none kV_check_sightings dc_check_sightings pm_check_sightings an_check_sightings cd_check_sightings ct_check_sightings), sl_check_sightings⟩)
    (H_c_check_sightings : PySem.W.codeIn K cd_check_sightings "check_sightings" = true)
    (H_k_check_sightings : PySem.W.keepIn K (.ref f_check_sightings) = true)
    (H_a_sums_of : PySem.W.nsIn K mainGlobals "sums_of" = some (some (.ref f_sums_of)))
    (H_l_sums_of : K.lookup f_sums_of = some ⟨oc_sums_of, od_sums_of, .func (PySem.W.fnOf "sums_of" "sums_of" (defArgs s_sums_of) (defBody s_sums_of) (defScope s_sums_of) .none kV_sums_of dc_sums_of pm_sums_of an_sums_of cd_sums_of ct_sums_of), sl_sums_of⟩)
    (H_c_sums_of : PySem.W.codeIn K cd_sums_of "sums_of" = true)
    (H_k_sums_of : PySem.W.keepIn K (.ref f_sums_of) = true)
    (H_a_fits : PySem.W.nsIn K mainGlobals "fits" = some (some (.ref f_fits)))
    (H_l_fits : K.lookup f_fits = some ⟨oc_fits, od_fits, .func (PySem.W.fnOf "fits" "fits" (defArgs s_fits) (defBody s_fits) (defScope s_fits) .none kV_fits dc_fits pm_fits an_fits cd_fits ct_fits), sl_fits⟩)
    (H_c_fits : PySem.W.codeIn K cd_fits "fits" = true)
    (H_k_fits : PySem.W.keepIn K (.ref f_fits) = true)
    (H_a_told_by_two : PySem.W.nsIn K mainGlobals "told_by_two" = some (some (.ref f_told_by_two)))
    (H_l_told_by_two : K.lookup f_told_by_two = some ⟨oc_told_by_two, od_told_by_two, .func (PySem.W.fnOf "told_by_two" "told_by_two" (defArgs s_told_by_two) (defBody s_told_by_two) (defScope s_told_by_two) .none kV_told_by_two dc_told_by_two pm_told_by_two an_told_by_two cd_told_by_two ct_told_by_two), sl_told_by_two⟩)
    (H_c_told_by_two : PySem.W.codeIn K cd_told_by_two "told_by_two" = true)
    (H_k_told_by_two : PySem.W.keepIn K (.ref f_told_by_two) = true)
    (H_a_told_by_line : PySem.W.nsIn K mainGlobals "told_by_line" = some (some (.ref f_told_by_line)))
    (H_l_told_by_line : K.lookup f_told_by_line = some ⟨oc_told_by_line, od_told_by_line, .func (PySem.W.fnOf "told_by_line" "told_by_line" (defArgs s_told_by_line) (defBody s_told_by_line) (defScope s_told_by_line) .none kV_told_by_line dc_told_by_line pm_told_by_line an_told_by_line cd_told_by_line ct_told_by_line), sl_told_by_line⟩)
    (H_c_told_by_line : PySem.W.codeIn K cd_told_by_line "told_by_line" = true)
    (H_k_told_by_line : PySem.W.keepIn K (.ref f_told_by_line) = true)
    (H_a_told_by_multiples : PySem.W.nsIn K mainGlobals "told_by_multiples" = some (some (.ref f_told_by_multiples)))
    (H_l_told_by_multiples : K.lookup f_told_by_multiples = some ⟨oc_told_by_multiples, od_told_by_multiples, .func (PySem.W.fnOf "told_by_multiples" "told_by_multiples" (defArgs s_told_by_multiples) (defBody s_told_by_multiples) (defScope s_told_by_multiples) .none kV_told_by_multiples dc_told_by_multiples pm_told_by_multiples an_told_by_multiples cd_told_by_multiples ct_told_by_multiples), sl_told_by_multiples⟩)
    (H_c_told_by_multiples : PySem.W.codeIn K cd_told_by_multiples "told_by_multiples" = true)
    (H_k_told_by_multiples : PySem.W.keepIn K (.ref f_told_by_multiples) = true)
    (H_a_told_back : PySem.W.nsIn K mainGlobals "told_back" = some (some (.ref f_told_back)))
    (H_l_told_back : K.lookup f_told_back = some ⟨oc_told_back, od_told_back, .func (PySem.W.fnOf "told_back" "told_back" (defArgs s_told_back) (defBody s_told_back) (defScope s_told_back) .none kV_told_back dc_told_back pm_told_back an_told_back cd_told_back ct_told_back), sl_told_back⟩)
    (H_c_told_back : PySem.W.codeIn K cd_told_back "told_back" = true)
    (H_k_told_back : PySem.W.keepIn K (.ref f_told_back) = true)
    (H_a__law_source : PySem.W.nsIn K mainGlobals "_law_source" = some (some (.ref f__law_source)))
    (H_l__law_source : K.lookup f__law_source = some ⟨oc__law_source, od__law_source, .func (PySem.W.fnOf "_law_source" "_law_source" (defArgs s__law_source) (defBody s__law_source) (defScope s__law_source) .none kV__law_source dc__law_source pm__law_source an__law_source cd__law_source ct__law_source), sl__law_source⟩)
    (H_c__law_source : PySem.W.codeIn K cd__law_source "_law_source" = true)
    (H_k__law_source : PySem.W.keepIn K (.ref f__law_source) = true)
    (H_a__law_draw : PySem.W.nsIn K mainGlobals "_law_draw" = some (some (.ref f__law_draw)))
    (H_l__law_draw : K.lookup f__law_draw = some ⟨oc__law_draw, od__law_draw, .func (PySem.W.fnOf "_law_draw" "_law_draw" (defArgs s__law_draw) (defBody s__law_draw) (defScope s__law_draw) .none kV__law_draw dc__law_draw pm__law_draw an__law_draw cd__law_draw ct__law_draw), sl__law_draw⟩)
    (H_c__law_draw : PySem.W.codeIn K cd__law_draw "_law_draw" = true)
    (H_k__law_draw : PySem.W.keepIn K (.ref f__law_draw) = true)
    (H_a__law_wide : PySem.W.nsIn K mainGlobals "_law_wide" = some (some (.ref f__law_wide)))
    (H_l__law_wide : K.lookup f__law_wide = some ⟨oc__law_wide, od__law_wide, .func (PySem.W.fnOf "_law_wide" "_law_wide" (defArgs s__law_wide) (defBody s__law_wide) (defScope s__law_wide) .none kV__law_wide dc__law_wide pm__law_wide an__law_wide cd__law_wide ct__law_wide), sl__law_wide⟩)
    (H_c__law_wide : PySem.W.codeIn K cd__law_wide "_law_wide" = true)
    (H_k__law_wide : PySem.W.keepIn K (.ref f__law_wide) = true)
    (H_a__law_integer : PySem.W.nsIn K mainGlobals "_law_integer" = some (some (.ref f__law_integer)))
    (H_l__law_integer : K.lookup f__law_integer = some ⟨oc__law_integer, od__law_integer, .func (PySem.W.fnOf "_law_integer" "_law_integer" (defArgs s__law_integer) (defBody s__law_integer) (defScope s__law_integer) .none kV__law_integer dc__law_integer pm__law_integer an__law_integer cd__law_integer ct__law_integer), sl__law_integer⟩)
    (H_c__law_integer : PySem.W.codeIn K cd__law_integer "_law_integer" = true)
    (H_k__law_integer : PySem.W.keepIn K (.ref f__law_integer) = true)
    (H_a__law_name : PySem.W.nsIn K mainGlobals "_law_name" = some (some (.ref f__law_name)))
    (H_l__law_name : K.lookup f__law_name = some ⟨oc__law_name, od__law_name, .func (PySem.W.fnOf "_law_name" "_law_name" (defArgs s__law_name) (defBody s__law_name) (defScope s__law_name) .none kV__law_name dc__law_name pm__law_name an__law_name cd__law_name ct__law_name), sl__law_name⟩)
    (H_c__law_name : PySem.W.codeIn K cd__law_name "_law_name" = true)
    (H_k__law_name : PySem.W.keepIn K (.ref f__law_name) = true)
    (H_a__law_sightings : PySem.W.nsIn K mainGlobals "_law_sightings" = some (some (.ref f__law_sightings)))
    (H_l__law_sightings : K.lookup f__law_sightings = some ⟨oc__law_sightings, od__law_sightings, .func (PySem.W.fnOf "_law_sightings" "_law_sightings" (defArgs s__law_sightings) (defBody s__law_sightings) (defScope s__law_sightings) .none kV__law_sightings dc__law_sightings pm__law_sightings an__law_sightings cd__law_sightings ct__law_sightings), sl__law_sightings⟩)
    (H_c__law_sightings : PySem.W.codeIn K cd__law_sightings "_law_sightings" = true)
    (H_k__law_sightings : PySem.W.keepIn K (.ref f__law_sightings) = true)
    (H_a__law_lines : PySem.W.nsIn K mainGlobals "_law_lines" = some (some (.ref f__law_lines)))
    (H_l__law_lines : K.lookup f__law_lines = some ⟨oc__law_lines, od__law_lines, .func (PySem.W.fnOf "_law_lines" "_law_lines" (defArgs s__law_lines) (defBody s__law_lines) (defScope s__law_lines) .none kV__law_lines dc__law_lines pm__law_lines an__law_lines cd__law_lines ct__law_lines), sl__law_lines⟩)
    (H_c__law_lines : PySem.W.codeIn K cd__law_lines "_law_lines" = true)
    (H_k__law_lines : PySem.W.keepIn K (.ref f__law_lines) = true)
    (H_a__law_solves : PySem.W.nsIn K mainGlobals "_law_solves" = some (some (.ref f__law_solves)))
    (H_l__law_solves : K.lookup f__law_solves = some ⟨oc__law_solves, od__law_solves, .func (PySem.W.fnOf "_law_solves" "_law_solves" (defArgs s__law_solves) (defBody s__law_solves) (defScope s__law_solves) .none kV__law_solves dc__law_solves pm__law_solves an__law_solves cd__law_solves ct__law_solves), sl__law_solves⟩)
    (H_c__law_solves : PySem.W.codeIn K cd__law_solves "_law_solves" = true)
    (H_k__law_solves : PySem.W.keepIn K (.ref f__law_solves) = true)
    (H_a__law_divisor : PySem.W.nsIn K mainGlobals "_law_divisor" = some (some (.ref f__law_divisor)))
    (H_l__law_divisor : K.lookup f__law_divisor = some ⟨oc__law_divisor, od__law_divisor, .func (PySem.W.fnOf "_law_divisor" "_law_divisor" (defArgs s__law_divisor) (defBody s__law_divisor) (defScope s__law_divisor) .none kV__law_divisor dc__law_divisor pm__law_divisor an__law_divisor cd__law_divisor ct__law_divisor), sl__law_divisor⟩)
    (H_c__law_divisor : PySem.W.codeIn K cd__law_divisor "_law_divisor" = true)
    (H_k__law_divisor : PySem.W.keepIn K (.ref f__law_divisor) = true)
    (H_a__law_pair : PySem.W.nsIn K mainGlobals "_law_pair" = some (some (.ref f__law_pair)))
    (H_l__law_pair : K.lookup f__law_pair = some ⟨oc__law_pair, od__law_pair, .func (PySem.W.fnOf "_law_pair" "_law_pair" (defArgs s__law_pair) (defBody s__law_pair) (defScope s__law_pair) .none kV__law_pair dc__law_pair pm__law_pair an__law_pair cd__law_pair ct__law_pair), sl__law_pair⟩)
    (H_c__law_pair : PySem.W.codeIn K cd__law_pair "_law_pair" = true)
    (H_k__law_pair : PySem.W.keepIn K (.ref f__law_pair) = true)
    (H_a__law_unlike : PySem.W.nsIn K mainGlobals "_law_unlike" = some (some (.ref f__law_unlike)))
    (H_l__law_unlike : K.lookup f__law_unlike = some ⟨oc__law_unlike, od__law_unlike, .func (PySem.W.fnOf "_law_unlike" "_law_unlike" (defArgs s__law_unlike) (defBody s__law_unlike) (defScope s__law_unlike) .none kV__law_unlike dc__law_unlike pm__law_unlike an__law_unlike cd__law_unlike ct__law_unlike), sl__law_unlike⟩)
    (H_c__law_unlike : PySem.W.codeIn K cd__law_unlike "_law_unlike" = true)
    (H_k__law_unlike : PySem.W.keepIn K (.ref f__law_unlike) = true)
    (H_a__law_line_has_pair : PySem.W.nsIn K mainGlobals "_law_line_has_pair" = some (some (.ref f__law_line_has_pair)))
    (H_l__law_line_has_pair : K.lookup f__law_line_has_pair = some ⟨oc__law_line_has_pair, od__law_line_has_pair, .func (PySem.W.fnOf "_law_line_has_pair" "_law_line_has_pair" (defArgs s__law_line_has_pair) (defBody s__law_line_has_pair) (defScope s__law_line_has_pair) .none kV__law_line_has_pair dc__law_line_has_pair pm__law_line_has_pair an__law_line_has_pair cd__law_line_has_pair ct__law_line_has_pair), sl__law_line_has_pair⟩)
    (H_c__law_line_has_pair : PySem.W.codeIn K cd__law_line_has_pair "_law_line_has_pair" = true)
    (H_k__law_line_has_pair : PySem.W.keepIn K (.ref f__law_line_has_pair) = true)
    (H_a__law_none_is_right : PySem.W.nsIn K mainGlobals "_law_none_is_right" = some (some (.ref f__law_none_is_right)))
    (H_l__law_none_is_right : K.lookup f__law_none_is_right = some ⟨oc__law_none_is_right, od__law_none_is_right, .func (PySem.W.fnOf "_law_none_is_right" "_law_none_is_right" (defArgs s__law_none_is_right) (defBody s__law_none_is_right) (defScope s__law_none_is_right) .none kV__law_none_is_right dc__law_none_is_right pm__law_none_is_right an__law_none_is_right cd__law_none_is_right ct__law_none_is_right), sl__law_none_is_right⟩)
    (H_c__law_none_is_right : PySem.W.codeIn K cd__law_none_is_right "_law_none_is_right" = true)
    (H_k__law_none_is_right : PySem.W.keepIn K (.ref f__law_none_is_right) = true)
    (H_a__law_one_is_right : PySem.W.nsIn K mainGlobals "_law_one_is_right" = some (some (.ref f__law_one_is_right)))
    (H_l__law_one_is_right : K.lookup f__law_one_is_right = some ⟨oc__law_one_is_right, od__law_one_is_right, .func (PySem.W.fnOf "_law_one_is_right" "_law_one_is_right" (defArgs s__law_one_is_right) (defBody s__law_one_is_right) (defScope s__law_one_is_right) .none kV__law_one_is_right dc__law_one_is_right pm__law_one_is_right an__law_one_is_right cd__law_one_is_right ct__law_one_is_right), sl__law_one_is_right⟩)
    (H_c__law_one_is_right : PySem.W.codeIn K cd__law_one_is_right "_law_one_is_right" = true)
    (H_k__law_one_is_right : PySem.W.keepIn K (.ref f__law_one_is_right) = true)
    (H_a__law_line_is_right : PySem.W.nsIn K mainGlobals "_law_line_is_right" = some (some (.ref f__law_line_is_right)))
    (H_l__law_line_is_right : K.lookup f__law_line_is_right = some ⟨oc__law_line_is_right, od__law_line_is_right, .func (PySem.W.fnOf "_law_line_is_right" "_law_line_is_right" (defArgs s__law_line_is_right) (defBody s__law_line_is_right) (defScope s__law_line_is_right) .none kV__law_line_is_right dc__law_line_is_right pm__law_line_is_right an__law_line_is_right cd__law_line_is_right ct__law_line_is_right), sl__law_line_is_right⟩)
    (H_c__law_line_is_right : PySem.W.codeIn K cd__law_line_is_right "_law_line_is_right" = true)
    (H_k__law_line_is_right : PySem.W.keepIn K (.ref f__law_line_is_right) = true)
    (H_a_law : PySem.W.nsIn K mainGlobals "law" = some (some (.ref f_law)))
    (H_l_law : K.lookup f_law = some ⟨oc_law, od_law, .func (PySem.W.fnOf "law" "law" (defArgs s_law) (defBody s_law) (defScope s_law) .none kV_law dc_law pm_law an_law cd_law ct_law), sl_law⟩)
    (H_c_law : PySem.W.codeIn K cd_law "law" = true)
    (H_k_law : PySem.W.keepIn K (.ref f_law) = true)
    (H_n_abs : PySem.W.nsIn K mainGlobals "abs" = some none)
    (H_n_any : PySem.W.nsIn K mainGlobals "any" = some none)
    (H_n_bool : PySem.W.nsIn K mainGlobals "bool" = some none)
    (H_n_enumerate : PySem.W.nsIn K mainGlobals "enumerate" = some none)
    (H_n_int : PySem.W.nsIn K mainGlobals "int" = some none)
    (H_n_isinstance : PySem.W.nsIn K mainGlobals "isinstance" = some none)
    (H_n_len : PySem.W.nsIn K mainGlobals "len" = some none)
    (H_n_list : PySem.W.nsIn K mainGlobals "list" = some none)
    (H_n_max : PySem.W.nsIn K mainGlobals "max" = some none)
    (H_n_min : PySem.W.nsIn K mainGlobals "min" = some none)
    (H_n_range : PySem.W.nsIn K mainGlobals "range" = some none)
    (H_n_str : PySem.W.nsIn K mainGlobals "str" = some none)
    (H_n_sum : PySem.W.nsIn K mainGlobals "sum" = some none)
    (H_n_tuple : PySem.W.nsIn K mainGlobals "tuple" = some none)
    (H_x_LONGEST_NAME : PySem.W.nsIn K mainGlobals "LONGEST_NAME" = some (some (.int 200 t_LONGEST_NAME)))
    (H_x_GREATEST_ITEM : PySem.W.nsIn K mainGlobals "GREATEST_ITEM" = some (some (.int 1000000000000000 t_GREATEST_ITEM)))
    (H_x_MOST_SIGHTINGS : PySem.W.nsIn K mainGlobals "MOST_SIGHTINGS" = some (some (.int 60 t_MOST_SIGHTINGS)))
    (H_x_LATEST_SIGHTING : PySem.W.nsIn K mainGlobals "LATEST_SIGHTING" = some (some (.int 100000000000000000000 t_LATEST_SIGHTING)))
    (H_gcd : PySem.W.nsIn K mainGlobals "gcd" = some (some (.builtin "math.gcd")))
    : ∃ fd : FuncData, (∀ (s : Shared) (v : Value), BindsTo s fd ⟨[v], []⟩ [("_law_script", v)]) ∧ ∀ base : Heap, K.In base → base.Ns mainGlobals mg → FnOk P w K mg base CX0 9 fa fd ["_law_script"] (spLaw K) := by
  have e := hfa.symm.trans (PySem.W.mg_of X G H_a_law)
  cases e
  let a : Adr := { a_is_integer := f_is_integer, d_is_integer := PySem.W.fnOf "is_integer" "is_integer" (defArgs s_is_integer) (defBody s_is_integer) (defScope s_is_integer) .none kV_is_integer dc_is_integer pm_is_integer an_is_integer cd_is_integer ct_is_integer, a_is_between := f_is_between, d_is_between := PySem.W.fnOf "is_between" "is_between" (defArgs s_is_between) (defBody s_is_between) (defScope s_is_between) .none kV_is_between dc_is_between pm_is_between an_is_between cd_is_between ct_is_between, a_wrong_in_name := f_wrong_in_name, d_wrong_in_name := PySem.W.fnOf "wrong_in_name" "wrong_in_name" (defArgs s_wrong_in_name) (defBody s_wrong_in_name) (defScope s_wrong_in_name) .none kV_wrong_in_name dc_wrong_in_name pm_wrong_in_name an_wrong_in_name cd_wrong_in_name ct_wrong_in_name, a_is_sighting := f_is_sighting, d_is_sighting := PySem.W.fnOf "is_sighting" "is_sighting" (defArgs s_is_sighting) (defBody s_is_sighting) (defScope s_is_sighting) .none kV_is_sighting dc_is_sighting pm_is_sighting an_is_sighting cd_is_sighting ct_is_sighting, a_check_sightings := f_check_sightings, d_check_sightings := PySem.W.fnOf "check_sightings" "check_sightings" (defArgs s_check_sightings) (defBody s_check_sightings) (defScope s_check_sightings) .none kV_check_sightings dc_check_sightings pm_check_sightings an_check_sightings cd_check_sightings ct_check_sightings, a_sums_of := f_sums_of, d_sums_of := PySem.W.fnOf "sums_of" "sums_of" (defArgs s_sums_of) (defBody s_sums_of) (defScope s_sums_of) .none kV_sums_of dc_sums_of pm_sums_of an_sums_of cd_sums_of ct_sums_of, a_fits := f_fits, d_fits := PySem.W.fnOf "fits" "fits" (defArgs s_fits) (defBody s_fits) (defScope s_fits) .none kV_fits dc_fits pm_fits an_fits cd_fits ct_fits, a_told_by_two := f_told_by_two, d_told_by_two := PySem.W.fnOf "told_by_two" "told_by_two" (defArgs s_told_by_two) (defBody s_told_by_two) (defScope s_told_by_two) .none kV_told_by_two dc_told_by_two pm_told_by_two an_told_by_two cd_told_by_two ct_told_by_two, a_told_by_line := f_told_by_line, d_told_by_line := PySem.W.fnOf "told_by_line" "told_by_line" (defArgs s_told_by_line) (defBody s_told_by_line) (defScope s_told_by_line) .none kV_told_by_line dc_told_by_line pm_told_by_line an_told_by_line cd_told_by_line ct_told_by_line, a_told_by_multiples := f_told_by_multiples, d_told_by_multiples := PySem.W.fnOf "told_by_multiples" "told_by_multiples" (defArgs s_told_by_multiples) (defBody s_told_by_multiples) (defScope s_told_by_multiples) .none kV_told_by_multiples dc_told_by_multiples pm_told_by_multiples an_told_by_multiples cd_told_by_multiples ct_told_by_multiples, a_told_back := f_told_back, d_told_back := PySem.W.fnOf "told_back" "told_back" (defArgs s_told_back) (defBody s_told_back) (defScope s_told_back) .none kV_told_back dc_told_back pm_told_back an_told_back cd_told_back ct_told_back, a__law_source := f__law_source, d__law_source := PySem.W.fnOf "_law_source" "_law_source" (defArgs s__law_source) (defBody s__law_source) (defScope s__law_source) .none kV__law_source dc__law_source pm__law_source an__law_source cd__law_source ct__law_source, a__law_draw := f__law_draw, d__law_draw := PySem.W.fnOf "_law_draw" "_law_draw" (defArgs s__law_draw) (defBody s__law_draw) (defScope s__law_draw) .none kV__law_draw dc__law_draw pm__law_draw an__law_draw cd__law_draw ct__law_draw, a__law_wide := f__law_wide, d__law_wide := PySem.W.fnOf "_law_wide" "_law_wide" (defArgs s__law_wide) (defBody s__law_wide) (defScope s__law_wide) .none kV__law_wide dc__law_wide pm__law_wide an__law_wide cd__law_wide ct__law_wide, a__law_integer := f__law_integer, d__law_integer := PySem.W.fnOf "_law_integer" "_law_integer" (defArgs s__law_integer) (defBody s__law_integer) (defScope s__law_integer) .none kV__law_integer dc__law_integer pm__law_integer an__law_integer cd__law_integer ct__law_integer, a__law_name := f__law_name, d__law_name := PySem.W.fnOf "_law_name" "_law_name" (defArgs s__law_name) (defBody s__law_name) (defScope s__law_name) .none kV__law_name dc__law_name pm__law_name an__law_name cd__law_name ct__law_name, a__law_sightings := f__law_sightings, d__law_sightings := PySem.W.fnOf "_law_sightings" "_law_sightings" (defArgs s__law_sightings) (defBody s__law_sightings) (defScope s__law_sightings) .none kV__law_sightings dc__law_sightings pm__law_sightings an__law_sightings cd__law_sightings ct__law_sightings, a__law_lines := f__law_lines, d__law_lines := PySem.W.fnOf "_law_lines" "_law_lines" (defArgs s__law_lines) (defBody s__law_lines) (defScope s__law_lines) .none kV__law_lines dc__law_lines pm__law_lines an__law_lines cd__law_lines ct__law_lines, a__law_solves := f__law_solves, d__law_solves := PySem.W.fnOf "_law_solves" "_law_solves" (defArgs s__law_solves) (defBody s__law_solves) (defScope s__law_solves) .none kV__law_solves dc__law_solves pm__law_solves an__law_solves cd__law_solves ct__law_solves, a__law_divisor := f__law_divisor, d__law_divisor := PySem.W.fnOf "_law_divisor" "_law_divisor" (defArgs s__law_divisor) (defBody s__law_divisor) (defScope s__law_divisor) .none kV__law_divisor dc__law_divisor pm__law_divisor an__law_divisor cd__law_divisor ct__law_divisor, a__law_pair := f__law_pair, d__law_pair := PySem.W.fnOf "_law_pair" "_law_pair" (defArgs s__law_pair) (defBody s__law_pair) (defScope s__law_pair) .none kV__law_pair dc__law_pair pm__law_pair an__law_pair cd__law_pair ct__law_pair, a__law_unlike := f__law_unlike, d__law_unlike := PySem.W.fnOf "_law_unlike" "_law_unlike" (defArgs s__law_unlike) (defBody s__law_unlike) (defScope s__law_unlike) .none kV__law_unlike dc__law_unlike pm__law_unlike an__law_unlike cd__law_unlike ct__law_unlike, a__law_line_has_pair := f__law_line_has_pair, d__law_line_has_pair := PySem.W.fnOf "_law_line_has_pair" "_law_line_has_pair" (defArgs s__law_line_has_pair) (defBody s__law_line_has_pair) (defScope s__law_line_has_pair) .none kV__law_line_has_pair dc__law_line_has_pair pm__law_line_has_pair an__law_line_has_pair cd__law_line_has_pair ct__law_line_has_pair, a__law_none_is_right := f__law_none_is_right, d__law_none_is_right := PySem.W.fnOf "_law_none_is_right" "_law_none_is_right" (defArgs s__law_none_is_right) (defBody s__law_none_is_right) (defScope s__law_none_is_right) .none kV__law_none_is_right dc__law_none_is_right pm__law_none_is_right an__law_none_is_right cd__law_none_is_right ct__law_none_is_right, a__law_one_is_right := f__law_one_is_right, d__law_one_is_right := PySem.W.fnOf "_law_one_is_right" "_law_one_is_right" (defArgs s__law_one_is_right) (defBody s__law_one_is_right) (defScope s__law_one_is_right) .none kV__law_one_is_right dc__law_one_is_right pm__law_one_is_right an__law_one_is_right cd__law_one_is_right ct__law_one_is_right, a__law_line_is_right := f__law_line_is_right, d__law_line_is_right := PySem.W.fnOf "_law_line_is_right" "_law_line_is_right" (defArgs s__law_line_is_right) (defBody s__law_line_is_right) (defScope s__law_line_is_right) .none kV__law_line_is_right dc__law_line_is_right pm__law_line_is_right an__law_line_is_right cd__law_line_is_right ct__law_line_is_right, a_law := fa, d_law := PySem.W.fnOf "law" "law" (defArgs s_law) (defBody s_law) (defScope s_law) .none kV_law dc_law pm_law an_law cd_law ct_law }
  have F_is_integer := fun_mk (st := s_is_integer) H_l_is_integer H_c_is_integer H_k_is_integer
  have F_is_between := fun_mk (st := s_is_between) H_l_is_between H_c_is_between H_k_is_between
  have F_wrong_in_name := fun_mk (st := s_wrong_in_name) H_l_wrong_in_name H_c_wrong_in_name H_k_wrong_in_name
  have F_is_sighting := fun_mk (st := s_is_sighting) H_l_is_sighting H_c_is_sighting H_k_is_sighting
  have F_check_sightings := fun_mk (st := s_check_sightings) H_l_check_sightings H_c_check_sightings H_k_check_sightings
  have F_sums_of := fun_mk (st := s_sums_of) H_l_sums_of H_c_sums_of H_k_sums_of
  have F_fits := fun_mk (st := s_fits) H_l_fits H_c_fits H_k_fits
  have F_told_by_two := fun_mk (st := s_told_by_two) H_l_told_by_two H_c_told_by_two H_k_told_by_two
  have F_told_by_line := fun_mk (st := s_told_by_line) H_l_told_by_line H_c_told_by_line H_k_told_by_line
  have F_told_by_multiples := fun_mk (st := s_told_by_multiples) H_l_told_by_multiples H_c_told_by_multiples H_k_told_by_multiples
  have F_told_back := fun_mk (st := s_told_back) H_l_told_back H_c_told_back H_k_told_back
  have F__law_source := fun_mk (st := s__law_source) H_l__law_source H_c__law_source H_k__law_source
  have F__law_draw := fun_mk (st := s__law_draw) H_l__law_draw H_c__law_draw H_k__law_draw
  have F__law_wide := fun_mk (st := s__law_wide) H_l__law_wide H_c__law_wide H_k__law_wide
  have F__law_integer := fun_mk (st := s__law_integer) H_l__law_integer H_c__law_integer H_k__law_integer
  have F__law_name := fun_mk (st := s__law_name) H_l__law_name H_c__law_name H_k__law_name
  have F__law_sightings := fun_mk (st := s__law_sightings) H_l__law_sightings H_c__law_sightings H_k__law_sightings
  have F__law_lines := fun_mk (st := s__law_lines) H_l__law_lines H_c__law_lines H_k__law_lines
  have F__law_solves := fun_mk (st := s__law_solves) H_l__law_solves H_c__law_solves H_k__law_solves
  have F__law_divisor := fun_mk (st := s__law_divisor) H_l__law_divisor H_c__law_divisor H_k__law_divisor
  have F__law_pair := fun_mk (st := s__law_pair) H_l__law_pair H_c__law_pair H_k__law_pair
  have F__law_unlike := fun_mk (st := s__law_unlike) H_l__law_unlike H_c__law_unlike H_k__law_unlike
  have F__law_line_has_pair := fun_mk (st := s__law_line_has_pair) H_l__law_line_has_pair H_c__law_line_has_pair H_k__law_line_has_pair
  have F__law_none_is_right := fun_mk (st := s__law_none_is_right) H_l__law_none_is_right H_c__law_none_is_right H_k__law_none_is_right
  have F__law_one_is_right := fun_mk (st := s__law_one_is_right) H_l__law_one_is_right H_c__law_one_is_right H_k__law_one_is_right
  have F__law_line_is_right := fun_mk (st := s__law_line_is_right) H_l__law_line_is_right H_c__law_line_is_right H_k__law_line_is_right
  have F_law := fun_mk (st := s_law) H_l_law H_c_law H_k_law
  have T : Txt K mg a := {
    F_is_integer := F_is_integer,
    b_is_integer := F_is_integer.binds (ps := ["thing"]) fun _ _ _ _ _ _ us hl => match us, hl with | [_], _ => rfl,
    g_is_integer := PySem.W.mg_of X G H_a_is_integer,
    F_is_between := F_is_between,
    b_is_between := F_is_between.binds (ps := ["thing", "low", "high"]) fun _ _ _ _ _ _ us hl => match us, hl with | [_, _, _], _ => rfl,
    g_is_between := PySem.W.mg_of X G H_a_is_between,
    F_wrong_in_name := F_wrong_in_name,
    b_wrong_in_name := F_wrong_in_name.binds (ps := ["thing", "turns", "roots"]) fun _ _ _ _ _ _ us hl => match us, hl with | [_, _, _], _ => rfl,
    g_wrong_in_name := PySem.W.mg_of X G H_a_wrong_in_name,
    F_is_sighting := F_is_sighting,
    b_is_sighting := F_is_sighting.binds (ps := ["thing"]) fun _ _ _ _ _ _ us hl => match us, hl with | [_], _ => rfl,
    g_is_sighting := PySem.W.mg_of X G H_a_is_sighting,
    F_check_sightings := F_check_sightings,
    b_check_sightings := F_check_sightings.binds (ps := ["rows"]) fun _ _ _ _ _ _ us hl => match us, hl with | [_], _ => rfl,
    g_check_sightings := PySem.W.mg_of X G H_a_check_sightings,
    F_sums_of := F_sums_of,
    b_sums_of := F_sums_of.binds (ps := ["rows"]) fun _ _ _ _ _ _ us hl => match us, hl with | [_], _ => rfl,
    g_sums_of := PySem.W.mg_of X G H_a_sums_of,
    F_fits := F_fits,
    b_fits := F_fits.binds (ps := ["sums", "letter", "gap"]) fun _ _ _ _ _ _ us hl => match us, hl with | [_, _, _], _ => rfl,
    g_fits := PySem.W.mg_of X G H_a_fits,
    F_told_by_two := F_told_by_two,
    b_told_by_two := F_told_by_two.binds (ps := ["first", "other", "sums"]) fun _ _ _ _ _ _ us hl => match us, hl with | [_, _, _], _ => rfl,
    g_told_by_two := PySem.W.mg_of X G H_a_told_by_two,
    F_told_by_line := F_told_by_line,
    b_told_by_line := F_told_by_line.binds (ps := ["k", "j", "time"]) fun _ _ _ _ _ _ us hl => match us, hl with | [_, _, _], _ => rfl,
    g_told_by_line := PySem.W.mg_of X G H_a_told_by_line,
    F_told_by_multiples := F_told_by_multiples,
    b_told_by_multiples := F_told_by_multiples.binds (ps := ["sums"]) fun _ _ _ _ _ _ us hl => match us, hl with | [_], _ => rfl,
    g_told_by_multiples := PySem.W.mg_of X G H_a_told_by_multiples,
    F_told_back := F_told_back,
    b_told_back := F_told_back.binds (ps := ["rows"]) fun _ _ _ _ _ _ us hl => match us, hl with | [_], _ => rfl,
    g_told_back := PySem.W.mg_of X G H_a_told_back,
    F__law_source := F__law_source,
    b__law_source := F__law_source.binds (ps := ["_law_script"]) fun _ _ _ _ _ _ us hl => match us, hl with | [_], _ => rfl,
    g__law_source := PySem.W.mg_of X G H_a__law_source,
    F__law_draw := F__law_draw,
    b__law_draw := F__law_draw.binds (ps := ["_law_source_here", "_law_limit"]) fun _ _ _ _ _ _ us hl => match us, hl with | [_, _], _ => rfl,
    g__law_draw := PySem.W.mg_of X G H_a__law_draw,
    F__law_wide := F__law_wide,
    b__law_wide := F__law_wide.binds (ps := ["_law_source_here", "_law_limit"]) fun _ _ _ _ _ _ us hl => match us, hl with | [_, _], _ => rfl,
    g__law_wide := PySem.W.mg_of X G H_a__law_wide,
    F__law_integer := F__law_integer,
    b__law_integer := F__law_integer.binds (ps := ["_law_thing"]) fun _ _ _ _ _ _ us hl => match us, hl with | [_], _ => rfl,
    g__law_integer := PySem.W.mg_of X G H_a__law_integer,
    F__law_name := F__law_name,
    b__law_name := F__law_name.binds (ps := ["_law_source_here"]) fun _ _ _ _ _ _ us hl => match us, hl with | [_], _ => rfl,
    g__law_name := PySem.W.mg_of X G H_a__law_name,
    F__law_sightings := F__law_sightings,
    b__law_sightings := F__law_sightings.binds (ps := ["_law_source_here", "_law_many"]) fun _ _ _ _ _ _ us hl => match us, hl with | [_, _], _ => rfl,
    g__law_sightings := PySem.W.mg_of X G H_a__law_sightings,
    F__law_lines := F__law_lines,
    b__law_lines := F__law_lines.binds (ps := ["_law_rows"]) fun _ _ _ _ _ _ us hl => match us, hl with | [_], _ => rfl,
    g__law_lines := PySem.W.mg_of X G H_a__law_lines,
    F__law_solves := F__law_solves,
    b__law_solves := F__law_solves.binds (ps := ["_law_lines_here", "_law_pair_here"]) fun _ _ _ _ _ _ us hl => match us, hl with | [_, _], _ => rfl,
    g__law_solves := PySem.W.mg_of X G H_a__law_solves,
    F__law_divisor := F__law_divisor,
    b__law_divisor := F__law_divisor.binds (ps := ["_law_a", "_law_b"]) fun _ _ _ _ _ _ us hl => match us, hl with | [_, _], _ => rfl,
    g__law_divisor := PySem.W.mg_of X G H_a__law_divisor,
    F__law_pair := F__law_pair,
    b__law_pair := F__law_pair.binds (ps := ["_law_thing"]) fun _ _ _ _ _ _ us hl => match us, hl with | [_], _ => rfl,
    g__law_pair := PySem.W.mg_of X G H_a__law_pair,
    F__law_unlike := F__law_unlike,
    b__law_unlike := F__law_unlike.binds (ps := ["_law_lines_here"]) fun _ _ _ _ _ _ us hl => match us, hl with | [_], _ => rfl,
    g__law_unlike := PySem.W.mg_of X G H_a__law_unlike,
    F__law_line_has_pair := F__law_line_has_pair,
    b__law_line_has_pair := F__law_line_has_pair.binds (ps := ["_law_line"]) fun _ _ _ _ _ _ us hl => match us, hl with | [_], _ => rfl,
    g__law_line_has_pair := PySem.W.mg_of X G H_a__law_line_has_pair,
    F__law_none_is_right := F__law_none_is_right,
    b__law_none_is_right := F__law_none_is_right.binds (ps := ["_law_lines_here"]) fun _ _ _ _ _ _ us hl => match us, hl with | [_], _ => rfl,
    g__law_none_is_right := PySem.W.mg_of X G H_a__law_none_is_right,
    F__law_one_is_right := F__law_one_is_right,
    b__law_one_is_right := F__law_one_is_right.binds (ps := ["_law_lines_here", "_law_pair_here"]) fun _ _ _ _ _ _ us hl => match us, hl with | [_, _], _ => rfl,
    g__law_one_is_right := PySem.W.mg_of X G H_a__law_one_is_right,
    F__law_line_is_right := F__law_line_is_right,
    b__law_line_is_right := F__law_line_is_right.binds (ps := ["_law_lines_here", "_law_first", "_law_step", "_law_count"]) fun _ _ _ _ _ _ us hl => match us, hl with | [_, _, _, _], _ => rfl,
    g__law_line_is_right := PySem.W.mg_of X G H_a__law_line_is_right,
    F_law := F_law,
    b_law := F_law.binds (ps := ["_law_script"]) fun _ _ _ _ _ _ us hl => match us, hl with | [_], _ => rfl,
    g_law := PySem.W.mg_of X G H_a_law,
    n_abs := PySem.W.mg_none_of X G H_n_abs,
    n_any := PySem.W.mg_none_of X G H_n_any,
    n_bool := PySem.W.mg_none_of X G H_n_bool,
    n_enumerate := PySem.W.mg_none_of X G H_n_enumerate,
    n_int := PySem.W.mg_none_of X G H_n_int,
    n_isinstance := PySem.W.mg_none_of X G H_n_isinstance,
    n_len := PySem.W.mg_none_of X G H_n_len,
    n_list := PySem.W.mg_none_of X G H_n_list,
    n_max := PySem.W.mg_none_of X G H_n_max,
    n_min := PySem.W.mg_none_of X G H_n_min,
    n_range := PySem.W.mg_none_of X G H_n_range,
    n_str := PySem.W.mg_none_of X G H_n_str,
    n_sum := PySem.W.mg_none_of X G H_n_sum,
    n_tuple := PySem.W.mg_none_of X G H_n_tuple,
    g_LONGEST_NAME := ⟨_, PySem.W.mg_of X G H_x_LONGEST_NAME⟩,
    g_GREATEST_ITEM := ⟨_, PySem.W.mg_of X G H_x_GREATEST_ITEM⟩,
    g_MOST_SIGHTINGS := ⟨_, PySem.W.mg_of X G H_x_MOST_SIGHTINGS⟩,
    g_LATEST_SIGHTING := ⟨_, PySem.W.mg_of X G H_x_LATEST_SIGHTING⟩,
    g_gcd := PySem.W.mg_of X G H_gcd }
  exact ⟨a.d_law, fun s v => .of_eq rfl, fun base _ _ => ok_law T⟩
theorem walk {l : PySem.W.OpenLaw} {q : Program} {loose : List Str} {XP : (Str → Option Value) → Heap → Prop} {YP : World → Heap → Prop} {d : DefRec} {K : Params → PySem.W.Frag} (hn : l.most = some 63) (hdf : d.params.defaults = [])
    (hY : ∀ (w : World) (h : Heap), YP w h → (K w.params).In h)
    (F : ∀ (w : World) (mg : Str → Option Value) (fa : Addr) (h : Heap), (K w.params).In h → h.Ns mainGlobals mg → mg d.name = some (.ref fa) →
      ∃ fd : FuncData, (∀ (s : Shared) (u : Value), BindsTo s fd ⟨[u], []⟩ [("_law_script", u)]) ∧ ∀ base : Heap, (K w.params).In base → base.Ns mainGlobals mg → FnOk l.prog w (K w.params) mg base CX0 9 fa fd ["_law_script"] (spLaw (K w.params))) :
    PySem.W.WalkO q loose XP YP l.row.toRowW d [] (fun f vs => PySem.call f vs) :=
  L2.walk_of (n := 63) (k := 9) (x := "_law_script") (CX := fun _ => CX0) (sp := fun w => spLaw (K w.params)) hn (by decide) hdf ⟨rfl, by decide, by decide⟩ hY F (fun _ _ a ns hl _ hS => ⟨a, ns, rfl, hS, hl, fun _ => rfl⟩) fun _ _ _ _ _ z => z
end My
open PySem PySem.W PyProof.Rows
set_option maxRecDepth 100000 in
set_option maxHeartbeats 0 in
theorem PySem.Challenge.cw_tellontree_k64_whole_told_back_in_great_holds : PySem.Challenge.rw_tellontree_k64_whole_told_back_in_great.Holds := by
  w_on; o_law; k_head; (case hw => w_witness2)
  k_fill
  refine My.walk (l := PySem.Challenge.rw_tellontree_k64_whole_told_back_in_great) rfl rfl (fun w h Y => PySem.W.kIn_of Y) ?F
  case F =>
    intro w mg fa h KX G hmg
    refine' My.all_mk KX G hmg ?H_a_is_integer ?H_l_is_integer ?H_c_is_integer ?H_k_is_integer ?H_a_is_between ?H_l_is_between ?H_c_is_between ?H_k_is_between ?H_a_wrong_in_name ?H_l_wrong_in_name ?H_c_wrong_in_name ?H_k_wrong_in_name ?H_a_is_sighting ?H_l_is_sighting ?H_c_is_sighting ?H_k_is_sighting ?H_a_check_sightings ?H_l_check_sightings ?H_c_check_sightings ?H_k_check_sightings ?H_a_sums_of ?H_l_sums_of ?H_c_sums_of ?H_k_sums_of ?H_a_fits ?H_l_fits ?H_c_fits ?H_k_fits ?H_a_told_by_two ?H_l_told_by_two ?H_c_told_by_two ?H_k_told_by_two ?H_a_told_by_line ?H_l_told_by_line ?H_c_told_by_line ?H_k_told_by_line ?H_a_told_by_multiples ?H_l_told_by_multiples ?H_c_told_by_multiples ?H_k_told_by_multiples ?H_a_told_back ?H_l_told_back ?H_c_told_back ?H_k_told_back ?H_a__law_source ?H_l__law_source ?H_c__law_source ?H_k__law_source ?H_a__law_draw ?H_l__law_draw ?H_c__law_draw ?H_k__law_draw ?H_a__law_wide ?H_l__law_wide ?H_c__law_wide ?H_k__law_wide ?H_a__law_integer ?H_l__law_integer ?H_c__law_integer ?H_k__law_integer ?H_a__law_name ?H_l__law_name ?H_c__law_name ?H_k__law_name ?H_a__law_sightings ?H_l__law_sightings ?H_c__law_sightings ?H_k__law_sightings ?H_a__law_lines ?H_l__law_lines ?H_c__law_lines ?H_k__law_lines ?H_a__law_solves ?H_l__law_solves ?H_c__law_solves ?H_k__law_solves ?H_a__law_divisor ?H_l__law_divisor ?H_c__law_divisor ?H_k__law_divisor ?H_a__law_pair ?H_l__law_pair ?H_c__law_pair ?H_k__law_pair ?H_a__law_unlike ?H_l__law_unlike ?H_c__law_unlike ?H_k__law_unlike ?H_a__law_line_has_pair ?H_l__law_line_has_pair ?H_c__law_line_has_pair ?H_k__law_line_has_pair ?H_a__law_none_is_right ?H_l__law_none_is_right ?H_c__law_none_is_right ?H_k__law_none_is_right ?H_a__law_one_is_right ?H_l__law_one_is_right ?H_c__law_one_is_right ?H_k__law_one_is_right ?H_a__law_line_is_right ?H_l__law_line_is_right ?H_c__law_line_is_right ?H_k__law_line_is_right ?H_a_law ?H_l_law ?H_c_law ?H_k_law ?H_n_abs ?H_n_any ?H_n_bool ?H_n_enumerate ?H_n_int ?H_n_isinstance ?H_n_len ?H_n_list ?H_n_max ?H_n_min ?H_n_range ?H_n_str ?H_n_sum ?H_n_tuple ?H_x_LONGEST_NAME ?H_x_GREATEST_ITEM ?H_x_MOST_SIGHTINGS ?H_x_LATEST_SIGHTING ?H_gcd
    (case H_a_is_integer => k_is)
    (case H_l_is_integer => k_is)
    (case H_c_is_integer => k_is)
    (case H_k_is_integer => k_is)
    (case H_a_is_between => k_is)
    (case H_l_is_between => k_is)
    (case H_c_is_between => k_is)
    (case H_k_is_between => k_is)
    (case H_a_wrong_in_name => k_is)
    (case H_l_wrong_in_name => k_is)
    (case H_c_wrong_in_name => k_is)
    (case H_k_wrong_in_name => k_is)
    (case H_a_is_sighting => k_is)
    (case H_l_is_sighting => k_is)
    (case H_c_is_sighting => k_is)
    (case H_k_is_sighting => k_is)
    (case H_a_check_sightings => k_is)
    (case H_l_check_sightings => k_is)
    (case H_c_check_sightings => k_is)
    (case H_k_check_sightings => k_is)
    (case H_a_sums_of => k_is)
    (case H_l_sums_of => k_is)
    (case H_c_sums_of => k_is)
    (case H_k_sums_of => k_is)
    (case H_a_fits => k_is)
    (case H_l_fits => k_is)
    (case H_c_fits => k_is)
    (case H_k_fits => k_is)
    (case H_a_told_by_two => k_is)
    (case H_l_told_by_two => k_is)
    (case H_c_told_by_two => k_is)
    (case H_k_told_by_two => k_is)
    (case H_a_told_by_line => k_is)
    (case H_l_told_by_line => k_is)
    (case H_c_told_by_line => k_is)
    (case H_k_told_by_line => k_is)
    (case H_a_told_by_multiples => k_is)
    (case H_l_told_by_multiples => k_is)
    (case H_c_told_by_multiples => k_is)
    (case H_k_told_by_multiples => k_is)
    (case H_a_told_back => k_is)
    (case H_l_told_back => k_is)
    (case H_c_told_back => k_is)
    (case H_k_told_back => k_is)
    (case H_a__law_source => k_is)
    (case H_l__law_source => k_is)
    (case H_c__law_source => k_is)
    (case H_k__law_source => k_is)
    (case H_a__law_draw => k_is)
    (case H_l__law_draw => k_is)
    (case H_c__law_draw => k_is)
    (case H_k__law_draw => k_is)
    (case H_a__law_wide => k_is)
    (case H_l__law_wide => k_is)
    (case H_c__law_wide => k_is)
    (case H_k__law_wide => k_is)
    (case H_a__law_integer => k_is)
    (case H_l__law_integer => k_is)
    (case H_c__law_integer => k_is)
    (case H_k__law_integer => k_is)
    (case H_a__law_name => k_is)
    (case H_l__law_name => k_is)
    (case H_c__law_name => k_is)
    (case H_k__law_name => k_is)
    (case H_a__law_sightings => k_is)
    (case H_l__law_sightings => k_is)
    (case H_c__law_sightings => k_is)
    (case H_k__law_sightings => k_is)
    (case H_a__law_lines => k_is)
    (case H_l__law_lines => k_is)
    (case H_c__law_lines => k_is)
    (case H_k__law_lines => k_is)
    (case H_a__law_solves => k_is)
    (case H_l__law_solves => k_is)
    (case H_c__law_solves => k_is)
    (case H_k__law_solves => k_is)
    (case H_a__law_divisor => k_is)
    (case H_l__law_divisor => k_is)
    (case H_c__law_divisor => k_is)
    (case H_k__law_divisor => k_is)
    (case H_a__law_pair => k_is)
    (case H_l__law_pair => k_is)
    (case H_c__law_pair => k_is)
    (case H_k__law_pair => k_is)
    (case H_a__law_unlike => k_is)
    (case H_l__law_unlike => k_is)
    (case H_c__law_unlike => k_is)
    (case H_k__law_unlike => k_is)
    (case H_a__law_line_has_pair => k_is)
    (case H_l__law_line_has_pair => k_is)
    (case H_c__law_line_has_pair => k_is)
    (case H_k__law_line_has_pair => k_is)
    (case H_a__law_none_is_right => k_is)
    (case H_l__law_none_is_right => k_is)
    (case H_c__law_none_is_right => k_is)
    (case H_k__law_none_is_right => k_is)
    (case H_a__law_one_is_right => k_is)
    (case H_l__law_one_is_right => k_is)
    (case H_c__law_one_is_right => k_is)
    (case H_k__law_one_is_right => k_is)
    (case H_a__law_line_is_right => k_is)
    (case H_l__law_line_is_right => k_is)
    (case H_c__law_line_is_right => k_is)
    (case H_k__law_line_is_right => k_is)
    (case H_a_law => k_is)
    (case H_l_law => k_is)
    (case H_c_law => k_is)
    (case H_k_law => k_is)
    (case H_n_abs => k_is)
    (case H_n_any => k_is)
    (case H_n_bool => k_is)
    (case H_n_enumerate => k_is)
    (case H_n_int => k_is)
    (case H_n_isinstance => k_is)
    (case H_n_len => k_is)
    (case H_n_list => k_is)
    (case H_n_max => k_is)
    (case H_n_min => k_is)
    (case H_n_range => k_is)
    (case H_n_str => k_is)
    (case H_n_sum => k_is)
    (case H_n_tuple => k_is)
    (case H_x_LONGEST_NAME => k_is)
    (case H_x_GREATEST_ITEM => k_is)
    (case H_x_MOST_SIGHTINGS => k_is)
    (case H_x_LATEST_SIGHTING => k_is)
    (case H_gcd => k_is)
