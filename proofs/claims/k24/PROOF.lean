import PyProof.Rows.All
import Wide.All
import OpenK.AllK
import Wide.FinOn
import HandS.Base
import HandS.Call
import HandS.List
import HandS.Comp
import HandS.Iter
import HandS.Ends
import HandS.Words
import HandS.WordsList
import HandS.IsInst
import HandS.Wide
import HandS.Style
import HandS.ClsMeth
import HandS.Defaults
import HandS.MakeKwOnly
import HandS.SlotsOwn
import HandS.Dict
import HandS.Gcd
import HandS.Strs
import HandS.SetKeys
import HandS.DictComp
import HandS.Small
import HandS.Flow
import HandS.More
import HandS.Deep
import HandS.Conv
import KE.KMathGC
import KE.GoesMore
import KE.KTupSum
import PySem.Challenge.RW_tellontree_k24_each_fault_alone
set_option Elab.async false
set_option linter.all false
set_option maxRecDepth 100000
namespace My
open PySem L2
def top (i : Nat) : Stmt := PySem.Challenge.pw_tellontree_k24_each_fault_alone.main.body.getD i (.Pass ⟨0, 0, 0, 0⟩)
abbrev s_is_integer : Stmt := top 6
theorem sc_is_integer : FnScope ["thing"] ["thing"] (defScope s_is_integer) := ⟨rfl, rfl, rfl, by decide +kernel, rfl, by decide +kernel, by decide +kernel⟩
abbrev s_is_between : Stmt := top 7
theorem sc_is_between : FnScope ["thing", "low", "high"] ["thing", "low", "high"] (defScope s_is_between) := ⟨rfl, rfl, rfl, by decide +kernel, rfl, by decide +kernel, by decide +kernel⟩
abbrev s_check_count : Stmt := top 8
theorem sc_check_count : FnScope ["count", "low", "high"] ["count", "low", "high"] (defScope s_check_count) := ⟨rfl, rfl, rfl, by decide +kernel, rfl, by decide +kernel, by decide +kernel⟩
abbrev s_is_row : Stmt := top 12
theorem sc_is_row : FnScope ["thing", "parts", "item"] ["thing", "parts"] (defScope s_is_row) := ⟨rfl, rfl, rfl, by decide +kernel, rfl, by decide +kernel, by decide +kernel⟩
abbrev s_form_fault : Stmt := top 13
theorem sc_form_fault : FnScope ["thing", "most", "parts", "at", "row"] ["thing", "most", "parts"] (defScope s_form_fault) := ⟨rfl, rfl, rfl, by decide +kernel, rfl, by decide +kernel, by decide +kernel⟩
abbrev s_hand_fault : Stmt := top 14
theorem sc_hand_fault : FnScope ["n", "pairs", "first_sender", "first_receiver", "at", "sender", "receiver"] ["n", "pairs", "first_sender", "first_receiver"] (defScope s_hand_fault) := ⟨rfl, rfl, rfl, by decide +kernel, rfl, by decide +kernel, by decide +kernel⟩
abbrev s_again_fault : Stmt := top 15
theorem sc_again_fault : FnScope ["keys", "taken", "seen", "at", "key"] ["keys", "taken"] (defScope s_again_fault) := ⟨rfl, rfl, rfl, by decide +kernel, rfl, by decide +kernel, by decide +kernel⟩
abbrev s_nobody_fault : Stmt := top 16
theorem sc_nobody_fault : FnScope ["wanted", "keys", "found", "key"] ["wanted", "keys"] (defScope s_nobody_fault) := ⟨rfl, rfl, rfl, by decide +kernel, rfl, by decide +kernel, by decide +kernel⟩
abbrev s_early_fault : Stmt := top 17
theorem sc_early_fault : FnScope ["told", "roots", "letter", "known", "_", "receiver", "start", "at", "sender", "root"] ["told", "roots", "letter"] (defScope s_early_fault) := ⟨rfl, rfl, rfl, by decide +kernel, rfl, by decide +kernel, by decide +kernel⟩
abbrev s_telling_fault : Stmt := top 18
theorem sc_telling_fault : FnScope ["told", "roots", "wanted", "letter", "receivers", "_", "receiver"] ["told", "roots", "wanted", "letter"] (defScope s_telling_fault) := ⟨rfl, rfl, rfl, by decide +kernel, rfl, by decide +kernel, by decide +kernel⟩
abbrev s_is_near : Stmt := top 19
theorem sc_is_near : FnScope ["times", "hand", "time", "width", "slot", "near", "other"] ["times", "hand", "time", "width"] (defScope s_is_near) := ⟨rfl, rfl, rfl, by decide +kernel, rfl, by decide +kernel, by decide +kernel⟩
abbrev s_near_fault : Stmt := top 20
theorem sc_near_fault : FnScope ["why", "marks", "width", "times", "at", "row", "hand", "time"] ["why", "marks", "width"] (defScope s_near_fault) := ⟨rfl, rfl, rfl, by decide +kernel, rfl, by decide +kernel, by decide +kernel⟩
abbrev s_row_fault : Stmt := top 22
theorem sc_row_fault : FnScope ["n", "thing", "row"] ["n", "thing"] (defScope s_row_fault) := ⟨rfl, rfl, rfl, by decide +kernel, rfl, by decide +kernel, by decide +kernel⟩
abbrev s_fault : Stmt := top 23
theorem sc_fault : FnScope ["machine", "n", "thing", "sender", "_", "start"] ["machine", "n", "thing"] (defScope s_fault) := ⟨rfl, rfl, rfl, by decide +kernel, rfl, by decide +kernel, by decide +kernel⟩
abbrev s_Machine_init : Stmt := inClass (top 26) 0
theorem sc_Machine_init : FnScope ["self", "o", "l", "g"] ["self", "o", "l", "g"] (defScope s_Machine_init) := ⟨rfl, rfl, rfl, by decide +kernel, rfl, by decide +kernel, by decide +kernel⟩
abbrev s__law_source : Stmt := top 28
theorem sc__law_source : FnScope ["_law_script", "_law_cell"] ["_law_script"] (defScope s__law_source) := ⟨rfl, rfl, rfl, by decide +kernel, rfl, by decide +kernel, by decide +kernel⟩
abbrev s__law_draw : Stmt := top 29
theorem sc__law_draw : FnScope ["_law_source_here", "_law_limit", "_law_cell", "_law_digit", "_law_one", "_law_two", "_law_three"] ["_law_source_here", "_law_limit"] (defScope s__law_draw) := ⟨rfl, rfl, rfl, by decide +kernel, rfl, by decide +kernel, by decide +kernel⟩
abbrev s__law_big : Stmt := top 30
theorem sc__law_big : FnScope ["_law_source_here", "_law_limit", "_law_number", "_law_k"] ["_law_source_here", "_law_limit"] (defScope s__law_big) := ⟨rfl, rfl, rfl, by decide +kernel, rfl, by decide +kernel, by decide +kernel⟩
abbrev s__law_numbers : Stmt := top 31
theorem sc__law_numbers : FnScope ["_law_source_here", "_law_kind", "_law_tops", "_law_o", "_law_l", "_law_g"] ["_law_source_here"] (defScope s__law_numbers) := ⟨rfl, rfl, rfl, by decide +kernel, rfl, by decide +kernel, by decide +kernel⟩
abbrev s__law_times : Stmt := top 32
theorem sc__law_times : FnScope ["_law_numbers_here"] ["_law_numbers_here"] (defScope s__law_times) := ⟨rfl, rfl, rfl, by decide +kernel, rfl, by decide +kernel, by decide +kernel⟩
abbrev s__law_is : Stmt := top 33
theorem sc__law_is : FnScope ["_law_thing", "_law_due"] ["_law_thing", "_law_due"] (defScope s__law_is) := ⟨rfl, rfl, rfl, by decide +kernel, rfl, by decide +kernel, by decide +kernel⟩
abbrev s__law_row : Stmt := top 34
theorem sc__law_row : FnScope ["_law_row_here", "_law_part"] ["_law_row_here"] (defScope s__law_row) := ⟨rfl, rfl, rfl, by decide +kernel, rfl, by decide +kernel, by decide +kernel⟩
abbrev s__law_fault : Stmt := top 35
theorem sc__law_fault : FnScope ["_law_letter", "_law_gap", "_law_n", "_law_thing", "_law_at", "_law_sender", "_law_receiver", "_law_start", "_law_row_here", "_law_receivers", "_law_hand"] ["_law_letter", "_law_gap", "_law_n", "_law_thing"] (defScope s__law_fault) := ⟨rfl, rfl, rfl, by decide +kernel, rfl, by decide +kernel, by decide +kernel⟩
abbrev s__law_same_fault : Stmt := top 36
theorem sc__law_same_fault : FnScope ["_law_told", "_law_due"] ["_law_told", "_law_due"] (defScope s__law_same_fault) := ⟨rfl, rfl, rfl, by decide +kernel, rfl, by decide +kernel, by decide +kernel⟩
abbrev s__law_waiting : Stmt := top 37
theorem sc__law_waiting : FnScope ["_law_source_here", "_law_letter", "_law_gap", "_law_n", "_law_rows", "_law_start", "_law_hand", "_law_sender", "_law_mixed", "_law_row_here"] ["_law_source_here", "_law_letter", "_law_gap", "_law_n"] (defScope s__law_waiting) := ⟨rfl, rfl, rfl, by decide +kernel, rfl, by decide +kernel, by decide +kernel⟩
abbrev s__law_changed : Stmt := top 38
theorem sc__law_changed : FnScope ["_law_source_here", "_law_rows", "_law_n", "_law_kind", "_law_letter", "_law_gap", "_law_at", "_law_row_here", "_law_other", "_law_late", "_law_told", "_law_start"] ["_law_source_here", "_law_rows", "_law_n", "_law_kind", "_law_letter", "_law_gap"] (defScope s__law_changed) := ⟨rfl, rfl, rfl, by decide +kernel, rfl, by decide +kernel, by decide +kernel⟩
abbrev s_law : Stmt := top 39
theorem sc_law : FnScope ["_law_script", "_law_source_here", "_law_numbers_here", "_law_letter", "_law_gap", "_law_machine", "_law_words", "_law_k", "_law_n", "_law_right", "_law_rows", "_law_due", "_law_other", "_law_row_here"] ["_law_script"] (defScope s_law) := ⟨rfl, rfl, rfl, by decide +kernel, rfl, by decide +kernel, by decide +kernel⟩
/-- where the top has written what -/
structure Adr where
  a_is_integer : Addr
  d_is_integer : FuncData
  a_is_between : Addr
  d_is_between : FuncData
  a_check_count : Addr
  d_check_count : FuncData
  a_is_row : Addr
  d_is_row : FuncData
  a_form_fault : Addr
  d_form_fault : FuncData
  a_hand_fault : Addr
  d_hand_fault : FuncData
  a_again_fault : Addr
  d_again_fault : FuncData
  a_nobody_fault : Addr
  d_nobody_fault : FuncData
  a_early_fault : Addr
  d_early_fault : FuncData
  a_telling_fault : Addr
  d_telling_fault : FuncData
  a_is_near : Addr
  d_is_near : FuncData
  a_near_fault : Addr
  d_near_fault : FuncData
  a_row_fault : Addr
  d_row_fault : FuncData
  a_fault : Addr
  d_fault : FuncData
  a_Machine_init : Addr
  d_Machine_init : FuncData
  a__law_source : Addr
  d__law_source : FuncData
  a__law_draw : Addr
  d__law_draw : FuncData
  a__law_big : Addr
  d__law_big : FuncData
  a__law_numbers : Addr
  d__law_numbers : FuncData
  a__law_times : Addr
  d__law_times : FuncData
  a__law_is : Addr
  d__law_is : FuncData
  a__law_row : Addr
  d__law_row : FuncData
  a__law_fault : Addr
  d__law_fault : FuncData
  a__law_same_fault : Addr
  d__law_same_fault : FuncData
  a__law_waiting : Addr
  d__law_waiting : FuncData
  a__law_changed : Addr
  d__law_changed : FuncData
  a_law : Addr
  d_law : FuncData
  c_Machine : Addr
/-- what the walk asks of the top -/
structure Txt (K : PySem.W.Frag) (mg : Str → Option Value) (a : Adr) : Prop where
  F_is_integer : Fun K "is_integer" "is_integer" s_is_integer a.a_is_integer a.d_is_integer
  b_is_integer : Binds K a.d_is_integer ["thing"] []
  g_is_integer : mg "is_integer" = some (.ref a.a_is_integer)
  F_is_between : Fun K "is_between" "is_between" s_is_between a.a_is_between a.d_is_between
  b_is_between : Binds K a.d_is_between ["thing", "low", "high"] []
  g_is_between : mg "is_between" = some (.ref a.a_is_between)
  F_check_count : Fun K "check_count" "check_count" s_check_count a.a_check_count a.d_check_count
  b_check_count : Binds K a.d_check_count ["count", "low", "high"] []
  g_check_count : mg "check_count" = some (.ref a.a_check_count)
  F_is_row : Fun K "is_row" "is_row" s_is_row a.a_is_row a.d_is_row
  b_is_row : Binds K a.d_is_row ["thing", "parts"] []
  g_is_row : mg "is_row" = some (.ref a.a_is_row)
  F_form_fault : Fun K "form_fault" "form_fault" s_form_fault a.a_form_fault a.d_form_fault
  b_form_fault : Binds K a.d_form_fault ["thing", "most", "parts"] []
  g_form_fault : mg "form_fault" = some (.ref a.a_form_fault)
  F_hand_fault : Fun K "hand_fault" "hand_fault" s_hand_fault a.a_hand_fault a.d_hand_fault
  b_hand_fault : Binds K a.d_hand_fault ["n", "pairs", "first_sender", "first_receiver"] []
  g_hand_fault : mg "hand_fault" = some (.ref a.a_hand_fault)
  F_again_fault : Fun K "again_fault" "again_fault" s_again_fault a.a_again_fault a.d_again_fault
  b_again_fault : Binds K a.d_again_fault ["keys", "taken"] []
  g_again_fault : mg "again_fault" = some (.ref a.a_again_fault)
  F_nobody_fault : Fun K "nobody_fault" "nobody_fault" s_nobody_fault a.a_nobody_fault a.d_nobody_fault
  b_nobody_fault : Binds K a.d_nobody_fault ["wanted", "keys"] []
  g_nobody_fault : mg "nobody_fault" = some (.ref a.a_nobody_fault)
  F_early_fault : Fun K "early_fault" "early_fault" s_early_fault a.a_early_fault a.d_early_fault
  b_early_fault : Binds K a.d_early_fault ["told", "roots", "letter"] []
  g_early_fault : mg "early_fault" = some (.ref a.a_early_fault)
  F_telling_fault : Fun K "telling_fault" "telling_fault" s_telling_fault a.a_telling_fault a.d_telling_fault
  b_telling_fault : Binds K a.d_telling_fault ["told", "roots", "wanted", "letter"] []
  g_telling_fault : mg "telling_fault" = some (.ref a.a_telling_fault)
  F_is_near : Fun K "is_near" "is_near" s_is_near a.a_is_near a.d_is_near
  b_is_near : Binds K a.d_is_near ["times", "hand", "time", "width"] []
  g_is_near : mg "is_near" = some (.ref a.a_is_near)
  F_near_fault : Fun K "near_fault" "near_fault" s_near_fault a.a_near_fault a.d_near_fault
  b_near_fault : Binds K a.d_near_fault ["why", "marks", "width"] []
  g_near_fault : mg "near_fault" = some (.ref a.a_near_fault)
  F_row_fault : Fun K "row_fault" "row_fault" s_row_fault a.a_row_fault a.d_row_fault
  b_row_fault : Binds K a.d_row_fault ["n", "thing"] []
  g_row_fault : mg "row_fault" = some (.ref a.a_row_fault)
  F_fault : Fun K "fault" "fault" s_fault a.a_fault a.d_fault
  b_fault : Binds K a.d_fault ["machine", "n", "thing"] []
  g_fault : mg "fault" = some (.ref a.a_fault)
  F_Machine_init : Fun K "__init__" "Machine.__init__" s_Machine_init a.a_Machine_init a.d_Machine_init
  b_Machine_init : Binds K a.d_Machine_init ["self", "o", "l", "g"] []
  mk_Machine : Mk K a.c_Machine a.a_Machine_init
  F__law_source : Fun K "_law_source" "_law_source" s__law_source a.a__law_source a.d__law_source
  b__law_source : Binds K a.d__law_source ["_law_script"] []
  g__law_source : mg "_law_source" = some (.ref a.a__law_source)
  F__law_draw : Fun K "_law_draw" "_law_draw" s__law_draw a.a__law_draw a.d__law_draw
  b__law_draw : Binds K a.d__law_draw ["_law_source_here", "_law_limit"] []
  g__law_draw : mg "_law_draw" = some (.ref a.a__law_draw)
  F__law_big : Fun K "_law_big" "_law_big" s__law_big a.a__law_big a.d__law_big
  b__law_big : Binds K a.d__law_big ["_law_source_here", "_law_limit"] []
  g__law_big : mg "_law_big" = some (.ref a.a__law_big)
  F__law_numbers : Fun K "_law_numbers" "_law_numbers" s__law_numbers a.a__law_numbers a.d__law_numbers
  b__law_numbers : Binds K a.d__law_numbers ["_law_source_here"] []
  g__law_numbers : mg "_law_numbers" = some (.ref a.a__law_numbers)
  F__law_times : Fun K "_law_times" "_law_times" s__law_times a.a__law_times a.d__law_times
  b__law_times : Binds K a.d__law_times ["_law_numbers_here"] []
  g__law_times : mg "_law_times" = some (.ref a.a__law_times)
  F__law_is : Fun K "_law_is" "_law_is" s__law_is a.a__law_is a.d__law_is
  b__law_is : Binds K a.d__law_is ["_law_thing", "_law_due"] []
  g__law_is : mg "_law_is" = some (.ref a.a__law_is)
  F__law_row : Fun K "_law_row" "_law_row" s__law_row a.a__law_row a.d__law_row
  b__law_row : Binds K a.d__law_row ["_law_row_here"] []
  g__law_row : mg "_law_row" = some (.ref a.a__law_row)
  F__law_fault : Fun K "_law_fault" "_law_fault" s__law_fault a.a__law_fault a.d__law_fault
  b__law_fault : Binds K a.d__law_fault ["_law_letter", "_law_gap", "_law_n", "_law_thing"] []
  g__law_fault : mg "_law_fault" = some (.ref a.a__law_fault)
  F__law_same_fault : Fun K "_law_same_fault" "_law_same_fault" s__law_same_fault a.a__law_same_fault a.d__law_same_fault
  b__law_same_fault : Binds K a.d__law_same_fault ["_law_told", "_law_due"] []
  g__law_same_fault : mg "_law_same_fault" = some (.ref a.a__law_same_fault)
  F__law_waiting : Fun K "_law_waiting" "_law_waiting" s__law_waiting a.a__law_waiting a.d__law_waiting
  b__law_waiting : Binds K a.d__law_waiting ["_law_source_here", "_law_letter", "_law_gap", "_law_n"] []
  g__law_waiting : mg "_law_waiting" = some (.ref a.a__law_waiting)
  F__law_changed : Fun K "_law_changed" "_law_changed" s__law_changed a.a__law_changed a.d__law_changed
  b__law_changed : Binds K a.d__law_changed ["_law_source_here", "_law_rows", "_law_n", "_law_kind", "_law_letter", "_law_gap"] []
  g__law_changed : mg "_law_changed" = some (.ref a.a__law_changed)
  F_law : Fun K "law" "law" s_law a.a_law a.d_law
  b_law : Binds K a.d_law ["_law_script"] []
  g_law : mg "law" = some (.ref a.a_law)
  g_Machine : mg "Machine" = some (.ref a.c_Machine)
  cl_Machine : Cls K a.c_Machine
  nF_Machine_o : NoAttr K a.c_Machine "o"
  nF_Machine_l : NoAttr K a.c_Machine "l"
  nF_Machine_g : NoAttr K a.c_Machine "g"
  nF_Machine_letter : NoAttr K a.c_Machine "letter"
  nF_Machine_gap : NoAttr K a.c_Machine "gap"
  n_abs : mg "abs" = none
  n_all : mg "all" = none
  n_bool : mg "bool" = none
  n_enumerate : mg "enumerate" = none
  n_int : mg "int" = none
  n_isinstance : mg "isinstance" = none
  n_len : mg "len" = none
  n_list : mg "list" = none
  n_max : mg "max" = none
  n_min : mg "min" = none
  n_range : mg "range" = none
  n_set : mg "set" = none
  n_str : mg "str" = none
  n_tuple : mg "tuple" = none
  g_MOST_PLANNED : ∃ t, mg "MOST_PLANNED" = some (.int 100 t)
  g_MOST_ROWS : ∃ t, mg "MOST_ROWS" = some (.int 400 t)
  g_LATEST_START : ∃ t, mg "LATEST_START" = some (.int 1000000000000000 t)
  g_GREATEST_PART : ∃ t, mg "GREATEST_PART" = some (.int 1000000000 t)
/-! ### core: rules that the layer lacks, what a draw's source is -/
section
variable {X : Cx}
/-- xs[i], read ahead of xs[i] op= e -/
theorem gt_list : PGet X (rIxL X.K) := by
  intro pins s σ H x y v u Q I rx ry h
  obtain ⟨p, xs, i, z, rfl, rfl, hq, he, q⟩ := h
  cases rx
  obtain ⟨t, rfl⟩ := ry
  obtain ⟨its, r, pl, hz⟩ := I.list hq
  obtain ⟨j, h1, h2, h3, h4, h5⟩ := atI_get he
  obtain ⟨w, ew, rw'⟩ := r.get h2
  have hl := r.length
  have hn := line63
  have fin : EP X pins σ Q w s := ⟨z, H, I, rw', q⟩
  by_cases h0 : 0 ≤ i
  · have hj : i.toNat = j := by
      rw [seqIndex_of h0 h5] at h1
      exact Option.some.inj h1
    exact PySem.wpAny_getItem_list pl.isList h0 (by omega) (by rw [hj]; simpa using ew) fin
  · have hj : (i + (its.toArray.size : Int)).toNat = j := by
      rw [seqIndex_neg (by omega) h4] at h1
      rw [List.size_toArray, ← hl]
      exact Option.some.inj h1
    exact PySem.wpAny_getItem_list_neg pl.isList (by omega) (by rw [List.size_toArray] <;> omega) (by omega) (by rw [hj]; simpa using ew) fin
end
theorem pe_powN {X : Cx} {i j z : Int} {p q pos : Pos} {k l : Nat} (hc : CPow i j) (h : i ^ j.toNat = z) : PE X (.BinOp (.Constant (.int i) k p) .Pow (.Constant (.int j) l q) pos) (tC (.int z)) :=
  ⟨fun pins s σ H Q I g => (pe_op op_pow pe_int pe_int).run pins s σ H Q I ⟨i, j, rfl, rfl, hc, by show Q (.int (i ^ j.toNat)) H; rw [h]; exact g⟩⟩
theorem ite_tt {c A B : Prop} [Decidable c] (hc : c) (h : A) : if decide c = true then A else B := by
  rw [if_pos (decide_eq_true hc)]
  exact h
theorem ite_ff {c A B : Prop} [Decidable c] (hc : ¬ c) (h : B) : if decide c = true then A else B := by
  rw [if_neg (by rw [decide_eq_false hc]; exact Bool.false_ne_true)]
  exact h
theorem ite_d {c A B : Prop} [Decidable c] (h1 : c → A) (h2 : ¬ c → B) : if decide c = true then A else B := by
  by_cases hc : c
  · exact ite_tt hc (h1 hc)
  · exact ite_ff hc (h2 hc)
theorem ite_b {b : Bool} {A B : Prop} (h1 : b = true → A) (h2 : b = false → B) : if b = true then A else B := by
  cases b with
  | true => exact iteT (h1 rfl)
  | false => exact iteF (h2 rfl)
/-! ### readings, turn by turn -/
/-- a new object -/
def NewAt (n : Nat) (o : HO) (H : Hp) (Q : VK) : Prop := n ≤ sizeLine ∧ ∀ p, H p = none → Q (.ref p) (upd H p o)
theorem Same.new {H : Hp} {p : Addr} {o : HO} (h : H p = none) : Same H (upd H p o) := fun b u e => by rw [upd_ne (ne_of_none e h)]; exact e
theorem Same.at {H H' : Hp} {b : Addr} {o : HO} (s : Same H H') (h : H b = some o) : H' b = some o := s b o h
/-- all but what stands at p is as it was -/
def But (p : Addr) (H H' : Hp) : Prop := ∀ b o, H b = some o → b ≠ p → H' b = some o
theorem But.refl (p : Addr) (H : Hp) : But p H H := fun _ _ h _ => h
theorem But.trans {p : Addr} {H H1 H2 : Hp} (a : But p H H1) (b : But p H1 H2) : But p H H2 := fun c o h n => b c o (a c o h n) n
theorem But.of_same {p : Addr} {H H' : Hp} (h : Same H H') : But p H H' := fun b o e _ => h b o e
theorem But.upd {p : Addr} {H : Hp} {o : HO} : But p H (upd H p o) := fun b u h n => by rw [upd_ne n]; exact h
theorem But.at {p b : Addr} {H H' : Hp} {o : HO} (s : But p H H') (n : b ≠ p) (h : H b = some o) : H' b = some o := s b o h n
theorem But.new {p q : Addr} {H : Hp} {o : HO} (h : H q = none) : But p H (L2.upd H q o) := But.of_same (Same.new h)
theorem But.some {p b : Addr} {H H' : Hp} {o : HO} (s : But p H H') (h : H b = Option.some o) (n : b ≠ p) : ∃ u, H' b = Option.some u := ⟨o, s b o h n⟩
theorem _root_.L2.Same.over {H H' : Hp} {D : Addr} {o u : HO} (s : Same H H') (n : H D = none) (e : H' D = some u) (hu : True := trivial) : Same H (upd H' D o) := fun b v h => (upd_ne (ne_of_none h n)).trans (s b v h)
theorem _root_.L2.Same.made0 {H : Hp} {x dx C : Addr} (nx : H x = none) (nd : H dx = none) : Same H (L2.upd (L2.upd H dx (.own x)) x (.ins C dx [])) := fun b o e => by
  rw [upd_ne (ne_of_none e nx), upd_ne (ne_of_none e nd)]; exact e
theorem But.updNone {H H' : Hp} {x L : Addr} {o : HO} (b : But x H H') (n : H L = none) : But x H (L2.upd H' L o) := fun c u hc hn => (upd_ne (ne_of_none hc n)).trans (b c u hc hn)
theorem But.updOver {H H' : Hp} {x L : Addr} {o u : HO} (b : But x H H') (n : H L = none) (e : H' L = Option.some u) : But x H (L2.upd H' L o) := b.updNone n

theorem new_at {n : Nat} {o : HO} {H : Hp} {Q : VK} (hn : n ≤ 1000) (k : ∀ p H', H p = none → Same H H' → H' p = some o → Q (.ref p) H') : NewAt n o H Q :=
  ⟨Nat.le_trans hn (by decide), fun p hp => k p _ hp (Same.new hp) upd_same⟩
theorem new_of {o : HO} {H : Hp} {Q : VK} (k : ∀ p H', H p = none → Same H H' → H' p = some o → Q (.ref p) H') : ∀ p, H p = none → Q (.ref p) (upd H p o) := fun p hp => k p _ hp (Same.new hp) upd_same
section
variable {K : PySem.W.Frag} {σ : St} {H : Hp} {Q : VK} {ta tb tc : TE} {x y v : V} {D : Ends} {t u : TS} {QT : Bool → Hp → Prop} {QA : List V → Hp → Prop} {i j : Int} {n m : Nat}
theorem r_var (e : σ[n]? = some (some v)) (q : Q v H) : tVar n σ H Q := ⟨v, e, q⟩
theorem r_c (q : Q v H) : tC v σ H Q := q
theorem r_op {r : R2} (h : ta σ H fun x H1 => tb σ H1 fun y H2 => r x y H2 Q) : tOp r ta tb σ H Q := h
theorem r_un {r : V → Hp → VK → Prop} (h : ta σ H fun x H1 => r x H1 Q) : tUn r ta σ H Q := h
theorem r_I0 {g : Int → Int → V} (q : Q (g i j) H) : rI0 g (.int i) (.int j) H Q := ⟨i, j, rfl, rfl, q⟩
theorem r_I {C : Int → Int → Prop} {g : Int → Int → V} (c : C i j) (q : Q (g i j) H) : rI C g (.int i) (.int j) H Q := ⟨i, j, rfl, rfl, c, q⟩
theorem r_add (q : Q (.int (i + j)) H) : rAdd (.int i) (.int j) H Q := ⟨i, j, rfl, rfl, q⟩
theorem r_sub (q : Q (.int (i - j)) H) : rSub (.int i) (.int j) H Q := ⟨i, j, rfl, rfl, q⟩
theorem r_U {g : Int → V} (q : Q (g i) H) : rU g (.int i) H Q := ⟨i, rfl, q⟩
theorem r_eqI (q : Q (.bl (decide (i = j))) H) : rEq (.int i) (.int j) H Q := ⟨rfl, by
  have e : decide (V.int i = V.int j) = decide (i = j) := by
    by_cases h : i = j
    · subst h; rw [decide_eq_true rfl, decide_eq_true rfl]
    · rw [decide_eq_false h, decide_eq_false fun z => h (V.int.inj z)]
  rw [e]; exact q⟩
theorem r_neI (q : Q (.bl (!decide (i = j))) H) : rNe (.int i) (.int j) H Q := ⟨rfl, by
  have e : decide (V.int i = V.int j) = decide (i = j) := by
    by_cases h : i = j
    · subst h; rw [decide_eq_true rfl, decide_eq_true rfl]
    · rw [decide_eq_false h, decide_eq_false fun z => h (V.int.inj z)]
  rw [e]; exact q⟩
theorem r_ixL {p : Addr} {xs : List V} (h : H p = some (.lst xs)) (e : atI xs i = some v) (q : Q v H) : rIxL K (.ref p) (.int i) H Q := ⟨p, xs, i, v, rfl, rfl, SqL.of h, e, q⟩
theorem r_ixT {p : Addr} {xs : List V} (h : H p = some (.tup xs)) (e : atI xs i = some v) (q : Q v H) : rIxT K (.ref p) (.int i) H Q := ⟨p, xs, i, v, rfl, rfl, SqT.of h, e, q⟩
theorem r_test (h : ta σ H fun x H' => ∃ k, x = .bl k ∧ QT k H') : tTest ta σ H QT := h
theorem r_tB (h : ta σ H fun x H' => ∃ k, x = .bl k ∧ QT k H') : tB ta σ H QT := h
theorem r_bl {b : Bool} {R : Bool → Prop} (h : R b) : ∃ k, V.bl b = .bl k ∧ R k := ⟨b, rfl, h⟩
theorem r_not {t : TT} (h : t σ H fun c H1 => QT (!c) H1) : tNot t σ H QT := h
theorem r_and {t u : TT} (h : t σ H fun c H1 => if c = true then u σ H1 QT else QT false H1) : tAnd t u σ H QT := h
theorem r_or {t u : TT} (h : t σ H fun c H1 => if c = true then QT true H1 else u σ H1 QT) : tOr t u σ H QT := h
theorem r_notV (h : ta σ H fun x H1 => ∃ c, x = .bl c ∧ Q (.bl (!c)) H1) : tNotV ta σ H Q := h
theorem r_andV (h : ta σ H fun x H1 => ∃ c, x = .bl c ∧ if c = true then tb σ H1 Q else Q (.bl false) H1) : tAndV ta tb σ H Q := h
theorem r_orV (h : ta σ H fun x H1 => ∃ c, x = .bl c ∧ if c = true then Q (.bl true) H1 else tb σ H1 Q) : tOrV ta tb σ H Q := h
theorem r_ifE {t : TT} (h : t σ H fun c H1 => if c = true then ta σ H1 Q else tb σ H1 Q) : tIf t ta tb σ H Q := h
theorem r_seq (h : t { D with nx := u D } σ H) : tSeq t u D σ H := h
theorem r_next (h : D.nx σ H) : tNext D σ H := h
theorem r_brk (h : D.bk σ H) : tBreak D σ H := h
theorem r_cont (h : D.ct σ H) : tCont D σ H := h
theorem r_drop (h : ta σ H fun _ H1 => D.nx σ H1) : tDrop ta D σ H := h
theorem r_ret (h : ta σ H D.rt) : tRet ta D σ H := h
theorem r_ifS {c : TT} (h : c σ H fun b H1 => if b = true then t D σ H1 else u D σ H1) : tIfS c t u D σ H := h
theorem r_asg {g : TG} (h : ta σ H fun x H1 => g x σ H1 D.nx) : tAsg ta g D σ H := h
theorem r_gName {R : St → Hp → Prop} (h : R (σ.set n (some v)) H) : gName n v σ H R := h
theorem r_gSub {s : TSet} {R : St → Hp → Prop} (h : ta σ H fun o H1 => tb σ H1 fun i H2 => s o i v H2 fun H3 => R σ H3) : gSub ta tb s v σ H R := h
theorem r_setL {p : Addr} {xs : List V} {k : Nat} {R : Hp → Prop} (h : H p = some (.lst xs)) (e : ixN xs.length i = some k) (q : R (upd H p (.lst (xs.set k v)))) : rSetL (.ref p) (.int i) v H R := ⟨p, xs, i, k, rfl, rfl, h, e, q⟩
theorem r_aug {ti : TIp} (e : σ[n]? = some (some x)) (h : ta σ H fun y H1 => ti x y H1 fun z H2 => D.nx (σ.set n (some z)) H2) : tAug n ta ti D σ H := ⟨x, e, h⟩
theorem r_augS {tg : V → V → Hp → VK → Prop} {tip : TIp} {ts : TSet} (h : ta σ H fun o H1 => tb σ H1 fun i H2 => tg o i H2 fun x H3 => tc σ H3 fun y H4 => tip x y H4 fun z H5 => ts o i z H5 fun H6 => D.nx σ H6) : tAugS ta tb tc tg tip ts D σ H := h
theorem r_ip {f : Int → Int → Int} (q : Q (.int (f i j)) H) : ipI f (.int i) (.int j) H Q := ⟨i, j, rfl, rfl, q⟩
theorem r_nil (h : QA [] H) : tNil σ H QA := h
theorem r_cons {tr : TA} (h : ta σ H fun x H1 => tr σ H1 fun xs H2 => QA (x :: xs) H2) : tCons ta tr σ H QA := h
theorem r_tup {t : TA} (h : t σ H fun xs H1 => NewAt xs.length (.tup xs) H1 Q) : tTup t σ H Q := h
theorem r_lst {t : TA} (h : t σ H fun xs H1 => NewAt xs.length (.lst xs) H1 Q) : tLst t σ H Q := h
theorem r_CB {r : List V → Hp → VK → Prop} {t : TA} (h : t σ H fun vs H1 => r vs H1 Q) : tCB r t σ H Q := h
theorem r_call {sp : Sp} {dvs : List V} {E : XK} {t : TA} (h : t σ H fun vs H1 => sp (vs ++ dvs) H1 Q E) : tCall sp dvs E t σ H Q := h
theorem r_callN {k l : Nat} {sp : Sp} {gV : List V → List V → List V} {E : XK} {t tk : TA} (h : t σ H fun vs H1 => tk σ H1 fun zs H2 => vs.length = k ∧ zs.length = l ∧ sp (gV vs zs) H2 Q E) : tCallN k l sp gV E t tk σ H Q := h
theorem r_fld {p C dx : Addr} {fs : List (Str × V)} {f : Str} {R : V → Prop} (hc : Cls K C) (hn : NoAttr K C f) (hx : H p = some (.ins C dx fs)) (e : fs.lookup f = some v) (q : R v) : (∃ a C dx fs v, V.ref p = .ref a ∧ H a = some (.ins C dx fs) ∧ Cls K C ∧ NoAttr K C f ∧ fs.lookup f = some v ∧ R v) := ⟨p, C, dx, fs, v, rfl, hx, hc, hn, e, q⟩
theorem r_tFld {f : Str} (h : ta σ H fun x H1 => ∃ a C dx fs v, x = .ref a ∧ H1 a = some (.ins C dx fs) ∧ Cls K C ∧ NoAttr K C f ∧ fs.lookup f = some v ∧ Q v H1) : tFld K ta f σ H Q := h
theorem r_sl {r : V → Option Int → Option Int → Hp → VK → Prop} {tl th : TO} (h : ta σ H fun x H1 => tl σ H1 fun l H2 => th σ H2 fun u H3 => r x l u H3 Q) : tSl r ta tl th σ H Q := h
theorem r_noP {R : Option Int → Hp → Prop} (h : R none H) : tNoPart σ H R := h
theorem r_part {R : Option Int → Hp → Prop} (h : ta σ H fun x H1 => ∃ i, x = .int i ∧ R (some i) H1) : tPart ta σ H R := h
theorem r_in {R : Int → Prop} (h : R i) : ∃ k, V.int i = .int k ∧ R k := ⟨i, rfl, h⟩
theorem r_Bm {T : String} {r : V → List V → Hp → VK → Prop} {t : TA} (h : ta σ H fun x H1 => tyV K T x H1 ∧ t σ H1 fun xs H2 => r x xs H2 Q) : tBM K T r ta t σ H Q := h
theorem r_app {l : Addr} {xs : List V} (h : H l = some (.lst xs)) (hz : xs.length < sizeLine) (q : Q .non (upd H l (.lst (xs ++ [y])))) : rAppend (.ref l) [y] H Q := ⟨l, xs, y, rfl, rfl, h, hz, q⟩
end
theorem at_nat {ns : List Int} {i : Int} (h0 : 0 ≤ i) (h : i < (ns.map V.int).length) : ∃ n, atI (ns.map V.int) i = some (.int n) ∧ n ∈ ns := by
  obtain ⟨j, rfl⟩ : ∃ j : Nat, i = j := ⟨i.toNat, by omega⟩
  rw [List.length_map] at h
  have hj : j < ns.length := by omega
  exact ⟨ns[j], atI_nat (by rw [List.getElem?_map, List.getElem?_eq_getElem hj]; rfl), List.getElem_mem hj⟩
theorem fmod_nn {a b : Int} (h : 0 < b) : 0 ≤ a.fmod b := by rw [Int.fmod_eq_emod_of_nonneg a (by omega)]; exact Int.emod_nonneg a (by omega)
theorem fmod_lt {a b : Int} (h : 0 < b) : a.fmod b < b := by rw [Int.fmod_eq_emod_of_nonneg a (by omega)]; exact Int.emod_lt_of_pos a h
theorem lim_div {lim : Int} (h0 : 0 < lim) (h : lim < 2 ^ 200) : CDivW lim lim := wide_div (b := 200) h0 (by omega) (by decide) (by decide)
theorem cdiv_of {i lim : Int} (h0 : 0 < lim) (h : lim < 2 ^ 200) : CDivW i lim := ⟨h0, (lim_div h0 h).2⟩
theorem mulL {i j : Int} (h1 : -(2 ^ 64) < i) (h2 : i < 2 ^ 64) : CMul i j := Or.inl ⟨h1, h2⟩
theorem mulR {i j : Int} (h1 : -(2 ^ 64) < j) (h2 : j < 2 ^ 64) : CMul i j := Or.inr ⟨h1, h2⟩
theorem powOk {i j : Int} (h1 : 0 ≤ j) (h2 : j ≤ 1000000) (h3 : i.natAbs < 2 ^ 64) : CPow i j := ⟨h1, h2, h3⟩
theorem r_for {wi : TI} {g : TG} {tb : TS} {D : Ends} {σ : St} {H : Hp} (h : wi σ H fun J H1 => ∃ W : Nat → Nat → St → Hp → Prop, (∃ m, W 0 m σ H1) ∧ ∀ i m σ H, W i m σ H →
  (J.stop i H ∧ D.nx σ H) ∨ (J.go i H ∧ ∃ N : St → Hp → Prop, (∀ σ' H', N σ' H' → ∃ m', m' < m ∧ W (i + 1) m' σ' H') ∧ ∀ x H', J.yld i H x H' → g x σ H' fun σ2 H2 => tb { D with nx := N, ct := N, bk := D.nx } σ2 H2)) : tFor wi g tb D σ H := h
theorem r_iR1 {ta : TA} {σ : St} {H : Hp} {R : It → Hp → Prop} (h : ta σ H fun vs H1 => ∃ j : Int, vs = [.int j] ∧ -(2 ^ 62) ≤ j ∧ j < 2 ^ 62 ∧ R (Itr 0 j.toNat) H1) : iRng1 ta σ H R := h
theorem r_iR2 {ta : TA} {σ : St} {H : Hp} {R : It → Hp → Prop} (h : ta σ H fun vs H1 => ∃ i j : Int, vs = [.int i, .int j] ∧ (-(2 ^ 62) ≤ i ∧ i < 2 ^ 62 ∧ -(2 ^ 62) ≤ j ∧ j < 2 ^ 62) ∧ R (Itr i (j - i).toNat) H1) : iRng2 ta σ H R := h
theorem r_tMeth {C : Addr} {m : Str} {sp : Sp} {dvs : List V} {E : XK} {ta : TE} {t : TA} {σ : St} {H : Hp} {Q : VK} (h : ta σ H fun x H1 => ∃ a dx fs, x = .ref a ∧ H1 a = some (.ins C dx fs) ∧ fs.lookup m = none ∧ t σ H1 fun vs H2 => sp (x :: (vs ++ dvs)) H2 Q E) : tMeth C m sp dvs E ta t σ H Q := h
theorem r_meth {C p dx : Addr} {fs : List (Str × V)} {m : Str} {H : Hp} {R : Prop} (hx : H p = some (.ins C dx fs)) (hl : fs.lookup m = none) (q : R) : ∃ a dx fs, V.ref p = .ref a ∧ H a = some (.ins C dx fs) ∧ fs.lookup m = none ∧ R := ⟨p, dx, fs, rfl, hx, hl, q⟩
theorem r_iT {K : PySem.W.Frag} {tl : TE} {σ : St} {H : Hp} {R : It → Hp → Prop} (h : tl σ H fun x H1 => ∃ a, x = .ref a ∧ (∃ xs, SqT K H1 a xs) ∧ R (Itt K a) H1) : iTup K tl σ H R := h
theorem r_iL {K : PySem.W.Frag} {tl : TE} {σ : St} {H : Hp} {R : It → Hp → Prop} (h : tl σ H fun x H1 => ∃ a, x = .ref a ∧ (∃ xs, SqL K H1 a xs) ∧ R (Itl K a) H1) : iList K tl σ H R := h
theorem r_lc {wi : TI} {g : TG} {tt : TT} {te : TE} {vs : List Nat} {σ : St} {H : Hp} {Q : VK} (h : wi σ H fun J H1 => ∀ D, H1 D = none → ∃ W : Nat → Nat → Hp → Prop, (∃ m, W 0 m (upd H1 D (.lst []))) ∧ ∀ i m H, W i m H →
  (J.stop i H ∧ Q (.ref D) H) ∨ (J.go i H ∧ ∃ Nx : Hp → Prop, (∀ H', Nx H' → ∃ m', m' < m ∧ W (i + 1) m' H') ∧ ∀ x H', J.yld i H x H' → g x (wipe σ vs) H' fun σ2 H2 => wipe σ2 vs = wipe σ vs ∧ tt σ2 H2 fun b H3 =>
    if b = true then te σ2 H3 fun y H4 => ∃ acc, H4 D = some (.lst acc) ∧ acc.length < sizeLine ∧ Nx (upd H4 D (.lst (acc ++ [y]))) else Nx H3)) : tLc wi g tt te vs σ H Q := h
theorem r_isiI {K : PySem.W.Frag} {H : Hp} {Q : VK} {i : Int} {n : String} (b : Bool) (h : kitB "int" n = some b) (q : Q (.bl b) H) : rIsi K [.int i, .ty n] H Q := ⟨_, _, .type "int", .type n, b, rfl, .ty n, .base (.int i), kit_ty h, q⟩
theorem r_isiB {K : PySem.W.Frag} {H : Hp} {Q : VK} {i : Bool} {n : String} (b : Bool) (h : kitB "bool" n = some b) (q : Q (.bl b) H) : rIsi K [.bl i, .ty n] H Q := ⟨_, _, .type "bool", .type n, b, rfl, .ty n, .base (.bl i), kit_ty h, q⟩
theorem r_slL {K : PySem.W.Frag} {H : Hp} {Q : VK} {a : Addr} {xs : List V} {lo hi : Option Int} (h : SqL K H a xs) (q : ∀ p H', H p = none → Same H H' → H' p = some (.lst (cutV xs lo hi)) → Q (.ref p) H') : rSlL K (.ref a) lo hi H Q := ⟨a, xs, rfl, h, new_of q⟩
theorem r_slT {K : PySem.W.Frag} {H : Hp} {Q : VK} {a : Addr} {xs : List V} {lo hi : Option Int} (h : SqT K H a xs) (hn : ¬ (HT.sIx xs.length 0 lo = 0 ∧ HT.sIx xs.length xs.length hi = xs.length)) (q : ∀ p H', H p = none → Same H H' → H' p = some (.tup (cutV xs lo hi)) → Q (.ref p) H') : rSlT K (.ref a) lo hi H Q := ⟨a, xs, rfl, h, hn, new_of q⟩
def rListOf (K : PySem.W.Frag) : List V → Hp → VK → Prop := fun xs H Q => ∃ p ys, xs = [.ref p] ∧ (SqL K H p ys ∨ SqT K H p ys) ∧ ∀ l, H l = none → Q (.ref l) (upd H l (.lst ys))
def rTupOf (K : PySem.W.Frag) : List V → Hp → VK → Prop := fun xs H Q => ∃ p ys, xs = [.ref p] ∧ ((SqL K H p ys ∧ ∀ l, H l = none → Q (.ref l) (upd H l (.tup ys))) ∨ (SqT K H p ys ∧ Q (.ref p) H))
theorem cr_list {X : Cx} : CallR X (.type "list") (rListOf X.K) := call_list_of
theorem cr_tup {X : Cx} : CallR X (.type "tuple") (rTupOf X.K) := call_tuple_of
theorem r_listS {K : PySem.W.Frag} {H : Hp} {Q : VK} {a : Addr} {xs : List V} (h : SqL K H a xs ∨ SqT K H a xs) (q : ∀ p H', H p = none → Same H H' → H' p = some (.lst xs) → Q (.ref p) H') : rListOf K [.ref a] H Q := ⟨a, xs, rfl, h, new_of q⟩
theorem r_listL {K : PySem.W.Frag} {H : Hp} {Q : VK} {a : Addr} {xs : List V} (h : H a = some (.lst xs)) (q : ∀ p H', H p = none → Same H H' → H' p = some (.lst xs) → Q (.ref p) H') : rListOf K [.ref a] H Q := r_listS (.inl (SqL.of h)) q
theorem r_listT {K : PySem.W.Frag} {H : Hp} {Q : VK} {a : Addr} {xs : List V} (h : H a = some (.tup xs)) (q : ∀ p H', H p = none → Same H H' → H' p = some (.lst xs) → Q (.ref p) H') : rListOf K [.ref a] H Q := r_listS (.inr (SqT.of h)) q
theorem r_tupL {K : PySem.W.Frag} {H : Hp} {Q : VK} {a : Addr} {xs : List V} (h : H a = some (.lst xs)) (q : ∀ p H', H p = none → Same H H' → H' p = some (.tup xs) → Q (.ref p) H') : rTupOf K [.ref a] H Q := ⟨a, xs, rfl, .inl ⟨SqL.of h, new_of q⟩⟩
theorem r_tupT {K : PySem.W.Frag} {H : Hp} {Q : VK} {a : Addr} {xs : List V} (h : H a = some (.tup xs)) (q : Q (.ref a) H) : rTupOf K [.ref a] H Q := ⟨a, xs, rfl, .inr ⟨SqT.of h, q⟩⟩
theorem r_nF {A B : Prop} (h : A) : if (!false) = true then A else B := h
theorem r_nT {A B : Prop} (h : B) : if (!true) = true then A else B := by
  rw [if_neg (by decide)]
  exact h
theorem r_nD {c A B : Prop} [Decidable c] (h1 : ¬ c → A) (h2 : c → B) : if (!decide c) = true then A else B := by
  by_cases hc : c
  · rw [decide_eq_true hc]; exact r_nT (h2 hc)
  · rw [decide_eq_false hc]; exact r_nF (h1 hc)
theorem cut_take {xs : List V} {k : Int} (h : (xs.length : Int) ≤ k) : cutV xs none (some k) = xs := by
  have e : HT.sIx xs.length xs.length (some k) = xs.length := by
    show (if k < 0 then (k + (xs.length : Int)).toNat else min k.toNat xs.length) = xs.length
    rw [if_neg (by omega)]; omega
  unfold cutV
  rw [e]
  show (xs.drop 0).take (xs.length - 0) = xs
  simp
theorem r_yes {σ : St} {H : Hp} {R : Bool → Hp → Prop} (h : R true H) : tYes σ H R := h
theorem int_of_get {ns : List Int} {i : Nat} {y : V} (h : (ns.map V.int)[i]? = some y) : ∃ z, ns[i]? = some z ∧ y = V.int z := by
  rw [List.getElem?_map] at h
  cases e : ns[i]? with
  | none => rw [e] at h; cases h
  | some z => rw [e] at h; exact ⟨z, rfl, (Option.some.inj h).symm⟩
theorem take_more {α : Type} {l : List α} {i : Nat} {x : α} (h : l[i]? = some x) : l.take (i + 1) = l.take i ++ [x] := by
  rw [List.take_succ, h]; rfl
theorem r_chain {r r' : R2} {ta tb tc : TE} {σ : St} {H : Hp} {Q : VK} (h : ta σ H fun x H1 => tb σ H1 fun y H2 => r x y H2 fun z H3 => ∃ k, z = .bl k ∧ (if k = true then tc σ H3 fun w' H4 => r' y w' H4 Q else Q (.bl false) H3)) : tChain r r' ta tb tc σ H Q := h
theorem r_sFld {K : PySem.W.Frag} {ta tv : TE} {f : Str} {D : Ends} {σ : St} {H : Hp} (h : tv σ H fun y H1 => ta σ H1 fun x H2 => ∃ a C dx fs, x = .ref a ∧ H2 a = some (.ins C dx fs) ∧ Cls K C ∧ NoAttr K C f ∧ fs.length < 1000 ∧ D.nx σ (upd H2 a (.ins C dx (putF f y fs)))) : sFld K ta tv f D σ H := h
theorem r_put {K : PySem.W.Frag} {p C dx : Addr} {fs : List (Str × V)} {f : Str} {H : Hp} {R : Addr → Addr → Addr → List (Str × V) → Prop} (hc : Cls K C) (hn : NoAttr K C f) (hx : H p = some (.ins C dx fs)) (hl : fs.length ≤ 900) (q : R p C dx fs) :
    ∃ a C dx fs, V.ref p = .ref a ∧ H a = some (.ins C dx fs) ∧ Cls K C ∧ NoAttr K C f ∧ fs.length < 1000 ∧ R a C dx fs := ⟨p, C, dx, fs, rfl, hx, hc, hn, by omega, q⟩
theorem putF_len (f : Str) (v : V) : ∀ fs : List (Str × V), (putF f v fs).length ≤ fs.length + 1
  | [] => Nat.le_refl _
  | (g, x) :: r => by
    unfold putF
    by_cases h : g = f
    · rw [if_pos h, List.length_cons, List.length_cons]; omega
    · rw [if_neg h, List.length_cons, List.length_cons]
      have := putF_len f v r
      omega
theorem putF_le {f : Str} {v : V} {fs : List (Str × V)} {n : Nat} (h : fs.length ≤ n) : (putF f v fs).length ≤ n + 1 := Nat.le_trans (putF_len f v fs) (by omega)
def MakeAt (C : Addr) (sp : Sp) (vs : List V) (E : XK) (H : Hp) (Q : VK) : Prop := ∀ x dx, H x = none → H dx = none → dx ≠ x → sp (.ref x :: vs) (upd (upd H dx (.own x)) x (.ins C dx [])) (fun v H2 => v = .non ∧ Q (.ref x) H2) E
theorem r_make {C : Addr} {sp : Sp} {dvs : List V} {E : XK} {t : TA} {σ : St} {H : Hp} {Q : VK} (h : t σ H fun vs H1 => MakeAt C sp (vs ++ dvs) E H1 Q) : tMake C sp dvs E t σ H Q := h
def rIsNo : R2 := fun x y H Q => y = .non ∧ Q (.bl (decide (x = .non))) H
def rNotNo : R2 := fun x y H Q => y = .non ∧ Q (.bl (!decide (x = .non))) H
theorem op_isNo {X : Cx} : OpR X (compareOp .Is) rIsNo := op_isN
theorem op_notNo {X : Cx} : OpR X (compareOp .IsNot) rNotNo := op_notN
theorem r_isNn {H : Hp} {Q : VK} (q : Q (.bl true) H) : rIsNo .non .non H Q := ⟨rfl, q⟩
theorem r_isNi {H : Hp} {Q : VK} {i : Int} (q : Q (.bl false) H) : rIsNo (.int i) .non H Q := ⟨rfl, q⟩
theorem r_isNr {H : Hp} {Q : VK} {i : Addr} (q : Q (.bl false) H) : rIsNo (.ref i) .non H Q := ⟨rfl, q⟩
theorem r_notNn {H : Hp} {Q : VK} (q : Q (.bl false) H) : rNotNo .non .non H Q := ⟨rfl, q⟩
theorem r_notNi {H : Hp} {Q : VK} {i : Int} (q : Q (.bl true) H) : rNotNo (.int i) .non H Q := ⟨rfl, q⟩
theorem r_notNr {H : Hp} {Q : VK} {i : Addr} (q : Q (.bl true) H) : rNotNo (.ref i) .non H Q := ⟨rfl, q⟩
theorem r_lenS {K : PySem.W.Frag} {H : Hp} {p : Addr} {xs : List V} {R : List V → Prop} (h : SqL K H p xs ∨ SqT K H p xs) (q : R xs) : ∃ (p1 : Addr) (ys : List V), [V.ref p] = [.ref p1] ∧ (SqL K H p1 ys ∨ SqT K H p1 ys) ∧ R ys := ⟨p, xs, rfl, h, q⟩
theorem r_lenL {K : PySem.W.Frag} {H : Hp} {p : Addr} {xs : List V} {R : List V → Prop} (h : H p = some (.lst xs)) (q : R xs) : ∃ (p1 : Addr) (ys : List V), [V.ref p] = [.ref p1] ∧ (SqL K H p1 ys ∨ SqT K H p1 ys) ∧ R ys := ⟨p, xs, rfl, .inl (SqL.of h), q⟩
theorem r_lenT {K : PySem.W.Frag} {H : Hp} {p : Addr} {xs : List V} {R : List V → Prop} (h : H p = some (.tup xs)) (q : R xs) : ∃ (p1 : Addr) (ys : List V), [V.ref p] = [.ref p1] ∧ (SqL K H p1 ys ∨ SqT K H p1 ys) ∧ R ys := ⟨p, xs, rfl, .inr (SqT.of h), q⟩
theorem r_in1 {i : Int} {R : Int → Prop} (h : R i) : ∃ k, [V.int i] = [.int k] ∧ R k := ⟨i, rfl, h⟩
theorem r_in2 {i j : Int} {R : Int → Int → Prop} (h : R i j) : ∃ k l, [V.int i, V.int j] = [.int k, .int l] ∧ R k l := ⟨i, j, rfl, h⟩
/-- the source of draws at p, its cells at q -/
def SrcAt (H : Hp) (p q : Addr) : Prop := ∃ (cs : List Int) (i big cnt st : Int), H p = some (.lst [.ref q, .int i, .int big, .int cnt, .int st]) ∧ H q = some (.lst (cs.map V.int)) ∧ q ≠ p ∧ 0 ≤ i ∧ 0 ≤ big ∧ cs.length ≤ 63
theorem SrcAt.keep {H H' : Hp} {p q : Addr} (h : SrcAt H p q) (s : Same H H') : SrcAt H' p q := by
  obtain ⟨cs, i, big, cnt, st, h1, h2, h3⟩ := h
  exact ⟨cs, i, big, cnt, st, s _ _ h1, s _ _ h2, h3⟩
theorem SrcAt.upd {H : Hp} {p q x : Addr} {o : HO} (h : SrcAt H p q) (h1 : x ≠ p) (h2 : x ≠ q) : SrcAt (upd H x o) p q := by
  obtain ⟨cs, i, big, cnt, st, e1, e2, h3⟩ := h
  exact ⟨cs, i, big, cnt, st, (upd_ne h1.symm).trans e1, (upd_ne h2.symm).trans e2, h3⟩
theorem SrcAt.ne {H : Hp} {p q x : Addr} (h : SrcAt H p q) (hx : H x = none) : x ≠ p := by
  obtain ⟨cs, i, big, cnt, st, h1, _⟩ := h
  exact (ne_of_none h1 hx).symm
theorem SrcAt.neq {H : Hp} {p q x : Addr} (h : SrcAt H p q) (hx : H x = none) : x ≠ q := by
  obtain ⟨cs, i, big, cnt, st, _, h1, _⟩ := h
  exact (ne_of_none h1 hx).symm
theorem But.free {p q : Addr} {H H' : Hp} (b : But p H H') (hs : SrcAt H' p q) {x : Addr} (hx : H' x = none) : H x = none := by
  cases e : H x with
  | none => rfl
  | some o =>
    obtain ⟨u, z⟩ := b.some e (hs.ne hx)
    rw [hx] at z
    cases z
theorem seq_with {t1 t2 : TS} {D : Ends} {σ : St} {H : Hp} (P : St → Hp → Prop) (h2 : ∀ σ H, P σ H → t2 D σ H) (h1 : (∀ σ H, P σ H → t2 D σ H) → t1 { D with nx := t2 D } σ H) : tSeq t1 t2 D σ H := h1 h2
theorem pe_fldK {X : Cx} {K : PySem.W.Frag} {e : Expr} {f : Str} {pos : Pos} {ta : TE} (hK : X.K = K) (he : PE X e ta) (hb : attributeBase e f X.env (eval e X.env) = eval e X.env) : PE X (.Attribute e f pos) (tFld K ta f) := by
  subst hK; exact pe_fld he hb
theorem r_cat {H : Hp} {Q : VK} {l b : Addr} {xs zs : List V} (h1 : H l = some (.lst xs)) (h2 : H b = some (.lst zs)) (hn : xs.length + zs.length ≤ 1000) (q : ∀ p H', H p = none → Same H H' → H' p = some (.lst (xs ++ zs)) → Q (.ref p) H') : rCat (.ref l) (.ref b) H Q :=
  ⟨l, b, xs, zs, rfl, rfl, h1, h2, Nat.le_trans hn (by decide), new_of q⟩
theorem r_min {K : PySem.W.Frag} {H : Hp} {Q : VK} {l : Addr} {ns : List Int} (h1 : H l = some (.lst (ns.map V.int))) (hn : 0 < ns.length) (q : ∀ m, m ∈ ns → (∀ y, y ∈ ns → m ≤ y) → Q (.int m) H) : rMin K [.ref l] H Q :=
  ⟨l, ns, rfl, SqL.of h1, hn, q⟩
section
variable {X : Cx} {K : PySem.W.Frag}
theorem ix_listK (hK : X.K = K) : IxR X (rIxL K) := by subst hK; exact ix_list
theorem ix_tupK (hK : X.K = K) : IxR X (rIxT K) := by subst hK; exact ix_tup
theorem call_len_seqK (hK : X.K = K) : CallR X (.builtin "len") (fun xs H Q => ∃ p ys, xs = [.ref p] ∧ (SqL K H p ys ∨ SqT K H p ys) ∧ Q (.int ys.length) H) := by subst hK; exact call_len_seq
theorem call_isiK (hK : X.K = K) : CallR X (.builtin "isinstance") (rIsi K) := by subst hK; exact call_isi
theorem cr_listK (hK : X.K = K) : CallR X (.type "list") (rListOf K) := by subst hK; exact cr_list
theorem cr_tupK (hK : X.K = K) : CallR X (.type "tuple") (rTupOf K) := by subst hK; exact cr_tup
theorem pg_tupK {es : List Expr} {k n : Nat} {t : TGs} {pos : Pos} (hK : X.K = K) (hc : X.calm = true) (h : PGs X es t)
    (hn : (assignEach es X.env).length = n := by rfl) (hst : (assignEach es X.env).findIdx? (·.1) = none := by rfl) : PG X (.Tuple es k pos) (gTup K n t) := by subst hK; exact pg_tup hc h hn hst
end

local macro_rules | `(tactic| walk_at "src") => `(tactic| first | assumption | (refine' SrcAt.keep ?h ?s; (case s => assumption); (case h => walk_at "src")))
local macro_rules | `(tactic| walk_at "ne") => `(tactic| first | assumption | (apply Ne.symm; assumption) | (refine' SrcAt.ne ?a ?b; (case b => assumption); (case a => walk_at "src")))
local macro_rules | `(tactic| walk_at "hp") => `(tactic| first
  | assumption
  | with_reducible exact upd_same
  | (refine' Same.at ?s ?h; (case s => assumption); (case h => walk_at "hp"))
  | (refine' But.at ?s ?n ?h; (case s => assumption); (case n => walk_at "ne"); (case h => walk_at "hp"))
  | (rw [upd_ne (by first | assumption | (apply Ne.symm; assumption))]; walk_at "hp"))
local macro_rules | `(tactic| walk_at "side") => `(tactic| first | assumption | decide | omega | exact mulL (by omega) (by omega) | exact mulR (by omega) (by omega) | exact cdiv_of (by omega) (by omega) | exact powOk (by omega) (by omega) (by decide) | exact mulL (Int.lt_of_lt_of_le (by decide) (fmod_nn (by decide))) (Int.lt_trans (fmod_lt (by decide)) (by decide)))
local macro_rules | `(tactic| walk_at "pl") => `(tactic| ((repeat with_reducible refine putF_le ?_); with_unfolding_all exact Nat.le_of_ble_eq_true rfl))
local macro_rules | `(tactic| walk_at "lk") => `(tactic| first | assumption | (rw [lookup_putF, if_pos rfl]) | (rw [lookup_putF, if_neg (by decide +kernel)]; walk_at "lk"))
local macro_rules | `(tactic| walk_at "cls") => `(tactic| first | with_unfolding_all exact Txt.cl_Machine (by assumption) | with_unfolding_all exact Txt.nF_Machine_o (by assumption) | with_unfolding_all exact Txt.nF_Machine_l (by assumption) | with_unfolding_all exact Txt.nF_Machine_g (by assumption) | with_unfolding_all exact Txt.nF_Machine_letter (by assumption) | with_unfolding_all exact Txt.nF_Machine_gap (by assumption))
/-- one turn of a reading -/
local macro_rules | `(tactic| walk_at "rd") => `(tactic| with_reducible first
  | (refine r_seq ?_; fail_if_success (refine r_ifS ?_))
  | refine r_asg ?_
  | refine r_gName ?_
  | (refine' r_var ?hv ?_; (case hv => with_unfolding_all exact rfl))
  | refine r_c ?_
  | refine r_op ?_
  | refine r_I0 ?_
  | (refine' r_I ?hc ?_; (case hc => walk_at "side"))
  | refine r_add ?_
  | refine r_sub ?_
  | refine r_eqI ?_
  | refine r_neI ?_
  | (refine' r_ixL ?hp ?he ?_; (case hp => walk_at "hp"); (case he => with_unfolding_all exact rfl))
  | (refine' r_ixT ?hp ?he ?_; (case hp => walk_at "hp"); (case he => with_unfolding_all exact rfl))
  | refine r_cons ?_
  | refine r_nil ?_
  | refine r_CB ?_
  | refine r_call ?_
  | refine r_test ?_
  | refine r_tB ?_
  | refine r_bl ?_
  | refine r_in ?_
  | refine Or.inl (r_in1 ?_)
  | refine r_in1 ?_
  | refine r_in2 ?_
  | (refine' r_lenL ?hp ?_; (case hp => walk_at "hp"))
  | (refine' r_lenT ?hp ?_; (case hp => walk_at "hp"))
  | refine r_ifS ?_
  | refine r_and ?_
  | refine r_or ?_
  | refine r_not ?_
  | refine r_andV ?_
  | refine r_orV ?_
  | refine r_notV ?_
  | refine r_ifE ?_
  | refine r_ret ?_
  | refine r_next ?_
  | refine r_drop ?_
  | refine r_gSub ?_
  | (refine' r_setL ?hp ?he ?_; (case hp => walk_at "hp"); (case he => with_unfolding_all exact rfl))
  | (refine' r_aug ?he ?_; (case he => with_unfolding_all exact rfl))
  | refine r_augS ?_
  | refine r_ip ?_
  | refine r_tup ?_
  | refine r_lst ?_
  | refine r_tFld ?_
  | (refine' r_fld ?hc ?hn ?hx ?he ?_; (case hx => walk_at "hp"); (case hc => walk_at "cls"); (case hn => walk_at "cls"); (case he => walk_at "lk"))
  | (refine' r_put ?hc ?hn ?hx ?hl ?_; (case hx => walk_at "hp"); (case hc => walk_at "cls"); (case hn => walk_at "cls"); (case hl => walk_at "pl"))
  | refine r_sl ?_
  | refine r_noP ?_
  | refine r_part ?_
  | refine r_un ?_
  | refine r_U ?_
  | refine r_Bm ?_
  | refine r_cont ?_
  | refine r_brk ?_
  | refine r_isNn ?_
  | refine r_isNi ?_
  | refine r_isNr ?_
  | refine r_notNn ?_
  | refine r_notNi ?_
  | refine r_notNr ?_
  | refine r_chain ?_
  | refine r_sFld ?_
  | refine r_make ?_
  | refine r_yes ?_
  | refine r_lc ?_
  | refine r_isiI true (by decide +kernel) ?_
  | refine r_isiI false (by decide +kernel) ?_
  | refine r_for ?_
  | refine r_iR1 ?_
  | refine r_iR2 ?_
  | refine r_iL ?_
  | refine r_tMeth ?_
  | (refine' r_meth ?hx ?hl ?_; (case hx => walk_at "hp"); (case hl => walk_at "no"))
  | refine r_iT ?_
  | refine iteT ?_
  | refine r_nF ?_
  | refine r_nT ?_
  | refine iteF ?_)
local macro_rules | `(tactic| walk_at "rdi") => `(tactic| with_reducible (refine r_seq ?_; refine r_ifS ?_))

/-! ### the law's draws -/
def spDraw : Sp := fun vs H Q _ => ∃ (p q : Addr) (lim : Int), vs = [.ref p, .int lim] ∧ SrcAt H p q ∧ 0 < lim ∧ lim < 2 ^ 200 ∧
  ∀ (r : Int) (H' : Hp), 0 ≤ r → r < lim → SrcAt H' p q → But p H H' → Q (.int r) H'
section
variable {P : Program} {w : World} {K : PySem.W.Frag} {mg : Str → Option Value} {base : Heap} {a : Adr}
theorem ok__law_draw (T : Txt K mg a) : FnOk P w K mg base CX0 1 a.a__law_draw a.d__law_draw ["_law_source_here", "_law_limit"] spDraw := by
  refine T.F__law_draw.ok sc__law_draw (fun vs H Q E h => ?_) (fun cdv A outer s H vs Q E hr h => ?_)
  · obtain ⟨p, q, lim, rfl, _⟩ := h
    rfl
  · obtain ⟨p, q, lim, rfl, ⟨cs, i, big, cnt, st, h1, h2, h3, hi, hb, hl⟩, hl0, hl1, k⟩ := h
    refine ⟨_, (pss_cons (ps_augS (pv 0) pe_int gt_list pe_int ip_add set_list)
 (pss_cons (ps_if (PW.pt (pw_and (pt_cmpR op_eq (pe_ix ix_list (pv 0) pe_int (fun _ _ => rfl)) pe_int (nomark _)) (pw_and1 (pt_cmpR op_lt (pe_ix ix_list (pv 0) pe_int (fun _ _ => rfl)) (pe_callB call_len_seq (by rfl) T.n_len (by decide +kernel) (pa_cons (pe_ix ix_list (pv 0) pe_int (fun _ _ => rfl)) pa_nil)) (nomark _))))) (pss_cons (ps_set (i := 2) sc__law_draw.nd rfl (Or.inl rfl) (pe_ix ix_list (pe_ix ix_list (pv 0) pe_int (fun _ _ => rfl)) (pe_ix ix_list (pv 0) pe_int (fun _ _ => rfl)) (fun _ _ => rfl)))
 (pss_cons (ps_augS (pv 0) pe_int gt_list pe_int ip_add set_list)
 (pss_one (ps_if (pt_cmpR op_ge (pv 2) (pe_powN (z := 1000000000000000000) ⟨by decide, by decide, by decide⟩ (by decide +kernel)) (nomark _)) (pss_one (ps_asg (pv 2) (pg_sub (pv 0) pe_int set_list)))
 (pss_one (ps_asg (pe_op op_modN (pe_callTy call_int1 (by rfl) T.n_int (by decide +kernel) (pa_cons (pe_op op_add (pe_op op_add (pe_op op_mul (pe_ix ix_list (pv 0) pe_int (fun _ _ => rfl)) pe_int) (pe_op op_mul (pv 2) pe_int)) pe_int) pa_nil)) pe_int) (pg_sub (pv 0) pe_int set_list)))))))
 pss_nil)
 (pss_cons (ps_if (pt_cmpR op_gt (pe_ix ix_list (pv 0) pe_int (fun _ _ => rfl)) pe_int (nomark _)) (pss_cons (ps_set (i := 3) sc__law_draw.nd rfl (Or.inl rfl) (pe_op op_modN (pe_callTy call_int1 (by rfl) T.n_int (by decide +kernel) (pa_cons (pe_ix ix_list (pv 0) pe_int (fun _ _ => rfl)) pa_nil)) (pv 1)))
 (pss_cons (ps_asg (pe_op op_fdivW (pe_ix ix_list (pv 0) pe_int (fun _ _ => rfl)) (pv 1)) (pg_sub (pv 0) pe_int set_list))
 (pss_one (ps_ret (pv 3)))))
 pss_nil)
 (pss_cons (ps_set (i := 4) sc__law_draw.nd rfl (Or.inl rfl) (pe_op op_modN (pe_callTy call_int1 (by rfl) T.n_int (by decide +kernel) (pa_cons (pe_op op_mul (pe_op op_add (pe_ix ix_list (pv 0) pe_int (fun _ _ => rfl)) (pe_op op_mul pe_int (pe_ix ix_list (pv 0) pe_int (fun _ _ => rfl)))) pe_int) pa_nil)) pe_int))
 (pss_cons (ps_set (i := 5) sc__law_draw.nd rfl (Or.inl rfl) (pe_op op_modN (pe_callTy call_int1 (by rfl) T.n_int (by decide +kernel) (pa_cons (pe_op op_mul (pv 4) (pe_op op_add (pe_op op_fdivW (pv 4) pe_int) pe_int)) pa_nil)) pe_int))
 (pss_cons (ps_set (i := 6) sc__law_draw.nd rfl (Or.inl rfl) (pe_op op_modN (pe_callTy call_int1 (by rfl) T.n_int (by decide +kernel) (pa_cons (pe_op op_mul (pv 5) (pe_op op_add (pe_op op_fdivW (pv 5) pe_int) pe_int)) pa_nil)) pe_int))
 (pss_one (ps_ret (pe_op op_modN (pe_callTy call_int1 (by rfl) T.n_int (by decide +kernel) (pa_cons (pe_op op_fdivW (pv 6) pe_int) pa_nil)) (pv 1)))))))))), ?_⟩
    -- src[3] += 1
    repeat walk_at "rd"
    with_reducible refine seq_with (fun σ H' => ∃ (i big cnt st : Int) (v : Option V), σ = [some (.ref p), some (.int lim), v, none, none, none, none] ∧ H' p = some (.lst [.ref q, .int i, .int big, .int cnt, .int st]) ∧ H' q = some (.lst (cs.map V.int)) ∧ But p H H' ∧ 0 ≤ i ∧ 0 ≤ big) ?_ (fun rest => ?_)
    · clear h1 h2 hi hb
      rintro σ H' ⟨i, big, cnt, st, v, rfl, hp, hq, bt, hi, hb⟩
      walk_at "rdi"
      repeat walk_at "rd"
      refine ite_d (fun hc => ?_) (fun hc => ?_)
      · repeat walk_at "rd"
        exact k _ _ (fmod_nn hl0) (fmod_lt hl0) ⟨cs, i, _, cnt, st, upd_same, (upd_ne h3).trans hq, h3, hi, Int.ediv_nonneg hb (by omega), hl⟩ (bt.trans But.upd)
      · repeat walk_at "rd"
        exact k _ _ (fmod_nn hl0) (fmod_lt hl0) ⟨cs, i, _, cnt, st, hp, hq, h3, hi, hb, hl⟩ bt
    · have nq : H q ≠ none := by rw [h2]; intro z; cases z
      have hp1 : upd H p (HO.lst ([V.ref q, V.int i, V.int big, V.int cnt, V.int st].set (Int.toNat 3) (V.int (cnt + 1)))) p = some (.lst [.ref q, .int i, .int big, .int (cnt + 1), .int st]) := upd_same
      have hq1 : upd H p (HO.lst ([V.ref q, V.int i, V.int big, V.int cnt, V.int st].set (Int.toNat 3) (V.int (cnt + 1)))) q = some (.lst (cs.map V.int)) := (upd_ne h3).trans h2
      have bt1 : But p H (upd H p (HO.lst ([V.ref q, V.int i, V.int big, V.int cnt, V.int st].set (Int.toNat 3) (V.int (cnt + 1))))) := But.upd
      generalize upd H p (HO.lst ([V.ref q, V.int i, V.int big, V.int cnt, V.int st].set (Int.toNat 3) (V.int (cnt + 1)))) = H1 at hp1 hq1 bt1 ⊢
      clear h1 h2
      have no : ∀ (v : Option V), _ := fun v => rest [some (.ref p), some (.int lim), v, none, none, none, none] H1 ⟨i, big, cnt + 1, st, v, rfl, hp1, hq1, bt1, hi, hb⟩
      repeat walk_at "rd"
      refine ite_d (fun hc => ?_) (fun hc => ?_)
      · repeat walk_at "rd"
        refine ite_d (fun hc2 => ?_) (fun hc2 => ?_)
        · obtain ⟨c, hc3, _⟩ := at_nat (ns := cs) hi hc2
          repeat walk_at "rd"
          refine r_ixL hq1 hc3 ?_
          repeat walk_at "rd"
          refine ite_d (fun hc4 => ?_) (fun hc4 => ?_)
          · repeat walk_at "rd"
            exact rest _ _ ⟨i + 1, c, cnt + 1, st, _, rfl, upd_same, (upd_ne h3).trans ((upd_ne h3).trans hq1), (bt1.trans But.upd).trans But.upd, by omega, by omega⟩
          · repeat walk_at "rd"
            exact rest _ _ ⟨i + 1, big, cnt + 1, _, _, rfl, upd_same, (upd_ne h3).trans ((upd_ne h3).trans hq1), (bt1.trans But.upd).trans But.upd, by omega, by omega⟩
        · ((repeat walk_at "rd"); exact no none)
      · ((repeat walk_at "rd"); exact no none)

def spBig : Sp := fun vs H Q _ => ∃ (p q : Addr) (lim : Int), vs = [.ref p, .int lim] ∧ SrcAt H p q ∧ 0 < lim ∧
  ∀ (r : Int) (H' : Hp), 0 ≤ r → r < lim → SrcAt H' p q → But p H H' → Q (.int r) H'
theorem ok__law_big (T : Txt K mg a) : FnOk P w K mg base CX0 2 a.a__law_big a.d__law_big ["_law_source_here", "_law_limit"] spBig := by
  refine T.F__law_big.ok sc__law_big (fun vs H Q E h => ?_) (fun cdv A outer s H vs Q E hr h => ?_)
  · obtain ⟨p, q, lim, rfl, _⟩ := h
    rfl
  · obtain ⟨p, q, lim, rfl, hs, hl0, k⟩ := h
    refine ⟨_, (pss_cons (ps_set (i := 2) sc__law_big.nd rfl (Or.inl rfl) pe_int)
 (pss_cons (ps_for (by exact PassesOwn.never) rfl (pi_range1 (by rfl) T.n_range (pa_cons pe_int pa_nil)) (pg_name (i := 3) sc__law_big.nd rfl (Or.inl rfl))
 (pss_one (ps_set (i := 2) sc__law_big.nd rfl (Or.inl rfl) (pe_op op_add (pe_op op_mul (pv 2) pe_int) (pe_call (ok__law_draw T) (hr.mono (by decide)) (by rfl) T.g__law_draw T.F__law_draw.kp T.b__law_draw .nil pass0 (pa_cons (pv 0) (pa_cons pe_int pa_nil)))))))
 (pss_one (ps_ret (pe_op op_modN (pe_callTy call_int1 (by rfl) T.n_int (by decide +kernel) (pa_cons (pv 2) pa_nil)) (pv 1)))))), ?_⟩
    repeat walk_at "rd"
    refine ⟨by decide, by decide, for_range (lo := 0) (n := 5) (fun i σ H' => ∃ (n : Int) (v : Option V), σ = [some (.ref p), some (.int lim), some (.int n), v] ∧ SrcAt H' p q ∧ But p H H') ⟨_, _, rfl, hs, But.refl _ _⟩ ?_ ?_⟩
    · rintro i σ H1 hi ⟨n, v, rfl, hs1, b1⟩
      repeat walk_at "rd"
      refine ⟨p, q, _, rfl, hs1, by decide, by decide, fun r H2 r0 r1 hs2 b2 => ?_⟩
      repeat walk_at "rd"
      exact ⟨_, _, rfl, hs2, b1.trans b2⟩
    · rintro σ H1 ⟨n, v, rfl, hs1, b1⟩
      repeat walk_at "rd"
      exact k _ _ (fmod_nn hl0) (fmod_lt hl0) hs1 b1
end

/-! ### the machine's numbers, its times, whether a thing is an int -/
/-- o, l, g of a machine, at t -/
structure NumAt (H : Hp) (t : Addr) (o l g : Int) : Prop where
  at_ : H t = some (.tup [.int o, .int l, .int g])
  o0 : 0 ≤ o
  o9 : o ≤ 1000000000
  l0 : 0 ≤ l
  l9 : l ≤ 1000000000
  g1 : 1 ≤ g
  g9 : g ≤ 1000000000
  pos : 0 < 2 * o + l
theorem NumAt.keep {H H' : Hp} {t : Addr} {o l g : Int} (N : NumAt H t o l g) (h : H' t = H t) : NumAt H' t o l g := { N with at_ := h.trans N.at_ }
def spNumbers : Sp := fun vs H Q _ => ∃ (p q : Addr), vs = [.ref p] ∧ SrcAt H p q ∧ ∀ (t : Addr) (o l g : Int) (H' : Hp), NumAt H' t o l g → H t = none → SrcAt H' p q → But p H H' → Q (.ref t) H'
def gapOf (o g : Int) : Int := if g > o then g else o
def spTimes : Sp := fun vs H Q _ => ∃ (t : Addr) (o l g : Int), vs = [.ref t] ∧ H t = some (.tup [.int o, .int l, .int g]) ∧ ∀ (u : Addr) (H' : Hp), H u = none → Same H H' → H' u = some (.tup [.int (2 * o + l), .int (gapOf o g)]) → Q (.ref u) H'
def spIs : Sp := fun vs H Q _ => ∃ (i j : Int), vs = [.int i, .int j] ∧ Q (.bl (decide (i = j))) H
def spSource (K : PySem.W.Frag) : Sp := fun vs H Q _ => ∃ (b : Addr) (ns : List Int), vs = [.ref b] ∧ SqL K H b (ns.map V.int) ∧ ns.length ≤ 63 ∧ ∀ (p q : Addr) (H' : Hp), SrcAt H' p q → H p = none → H q = none → Same H H' → Q (.ref p) H'
section
variable {P : Program} {w : World} {K : PySem.W.Frag} {mg : Str → Option Value} {base : Heap} {a : Adr}
theorem ok__law_times (T : Txt K mg a) : FnOk P w K mg base CX0 1 a.a__law_times a.d__law_times ["_law_numbers_here"] spTimes := by
  refine T.F__law_times.ok sc__law_times (fun vs H Q E h => ?_) (fun cdv A outer s H vs Q E hr h => ?_)
  · obtain ⟨t, o, l, g, rfl, _⟩ := h
    rfl
  · obtain ⟨t, o, l, g, rfl, ht, k⟩ := h
    refine ⟨_, (pss_one (ps_ret (pe_tup (pa_cons (pe_op op_add (pe_op op_mul pe_int (pe_ix ix_tup (pv 0) pe_int (fun _ _ => rfl))) (pe_ix ix_tup (pv 0) pe_int (fun _ _ => rfl))) (pa_cons (pe_callB (call_max2 rfl) (by rfl) T.n_max (by decide +kernel) (pa_cons (pe_ix ix_tup (pv 0) pe_int (fun _ _ => rfl)) (pa_cons (pe_ix ix_tup (pv 0) pe_int (fun _ _ => rfl)) pa_nil))) pa_nil))))), ?_⟩
    repeat walk_at "rd"
    exact new_at (Nat.le_of_ble_eq_true rfl) k
theorem ok__law_source (T : Txt K mg a) : FnOk P w K mg base CX0 1 a.a__law_source a.d__law_source ["_law_script"] (spSource K) := by
  refine T.F__law_source.ok sc__law_source (fun vs H Q E h => ?_) (fun cdv A outer s H vs Q E hr h => ?_)
  · obtain ⟨i, j, rfl, _⟩ := h
    rfl
  · obtain ⟨b, ns, rfl, hS, hl, k⟩ := h
    refine ⟨_, (pss_one (ps_ret (pe_lst (pa_cons (pe_lc (own := [("_law_cell", 1)]) (g := gName 1) (tt := tYes) rfl sc__law_source.nd (pi_list (pe_slice sl_list (pv 0) po_none (po_some pe_int))) (blkOk_by (own := [("_law_cell", 1)]) (N := ["_law_script", "_law_cell"]) (sc := defScope s__law_source) (by decide +kernel)) (fun _ _ _ _ _ => (pg_name (i := 1) sc__law_source.nd rfl (Or.inl rfl))) (fun _ _ _ _ _ => pts_nil) (fun _ _ _ _ _ => (pe_callTy call_int1 (by rfl) T.n_int (by decide +kernel) (pa_cons (pv 1) pa_nil)))) (pa_cons pe_int (pa_cons pe_int (pa_cons pe_int (pa_cons pe_int pa_nil)))))))), ?_⟩
    repeat walk_at "rd"
    refine r_slL hS (fun p0 H1 n0 s1 e0 => ?_)
    rw [cut_take (by rw [List.length_map]; omega)] at e0
    refine ⟨p0, rfl, ⟨_, SqL.of e0⟩, fun D hD => lc_list (K := K) (a := p0) (xs := ns.map V.int) (fun i H' => H' D = some (.lst ((ns.take i).map V.int)) ∧ H' p0 = some (.lst (ns.map V.int)) ∧ Same H H') ?_ (fun i H' _ h => SqL.of h.2.1) ?_ ?_⟩
    · exact ⟨upd_same, (upd_ne (ne_of_none e0 hD)).trans e0, s1.trans (Same.new hD)⟩
    · rintro i x H2 hi ⟨h1, h2, h3⟩
      obtain ⟨z, hz, rfl⟩ := int_of_get hi
      repeat walk_at "rd"
      refine ⟨rfl, ?_⟩
      repeat walk_at "rd"
      have nD : H D = none := s1.free hD
      refine ⟨_, h1, small1000 (by rw [List.length_map, List.length_take]; omega), ?_, (upd_ne (ne_of_none e0 hD)).trans h2, h3.over nD h1⟩
      rw [upd_same, take_more hz, List.map_append]
      rfl
    · rintro H2 ⟨h1, h2, h3⟩
      repeat walk_at "rd"
      refine new_at (Nat.le_of_ble_eq_true rfl) (fun p H3 np s3 e3 => ?_)
      rw [List.length_map, List.take_length] at h1
      exact k p D _ ⟨ns, 0, 0, 0, 7, e3, s3 _ _ h1, ne_of_none h1 np, by decide, by decide, hl⟩ (h3.free np) (s1.free hD) (h3.trans s3)
theorem ok__law_numbers (T : Txt K mg a) : FnOk P w K mg base CX0 3 a.a__law_numbers a.d__law_numbers ["_law_source_here"] spNumbers := by
  refine T.F__law_numbers.ok sc__law_numbers (fun vs H Q E h => ?_) (fun cdv A outer s H vs Q E hr h => ?_)
  · obtain ⟨p, q, rfl, _⟩ := h
    rfl
  · obtain ⟨p, q, rfl, hs, k⟩ := h
    refine ⟨_, (pss_cons (ps_set (i := 1) sc__law_numbers.nd rfl (Or.inl rfl) (pe_call (ok__law_draw T) (hr.mono (by decide)) (by rfl) T.g__law_draw T.F__law_draw.kp T.b__law_draw .nil pass0 (pa_cons (pv 0) (pa_cons pe_int pa_nil))))
 (pss_cons (ps_set (i := 2) sc__law_numbers.nd rfl (Or.inl rfl) (pe_ix ix_list (pe_lst (pa_cons (pe_tup (pa_cons pe_int (pa_cons pe_int (pa_cons pe_int pa_nil)))) (pa_cons (pe_tup (pa_cons pe_int (pa_cons pe_int (pa_cons pe_int pa_nil)))) (pa_cons (pe_tup (pa_cons pe_int (pa_cons pe_int (pa_cons pe_int pa_nil)))) (pa_cons (pe_tup (pa_cons pe_int (pa_cons pe_int (pa_cons pe_int pa_nil)))) (pa_cons (pe_tup (pa_cons pe_int (pa_cons pe_int (pa_cons pe_int pa_nil)))) (pa_cons (pe_tup (pa_cons (pe_op op_add (pe_powN (z := 1000000000) ⟨by decide, by decide, by decide⟩ (by decide +kernel)) pe_int) (pa_cons (pe_op op_add (pe_powN (z := 1000000000) ⟨by decide, by decide, by decide⟩ (by decide +kernel)) pe_int) (pa_cons (pe_powN (z := 1000000000) ⟨by decide, by decide, by decide⟩ (by decide +kernel)) pa_nil)))) pa_nil))))))) (pv 1) (fun _ _ => rfl)))
 (pss_cons (ps_set (i := 3) sc__law_numbers.nd rfl (Or.inl rfl) (pe_call (ok__law_big T) (hr.mono (by decide)) (by rfl) T.g__law_big T.F__law_big.kp T.b__law_big .nil pass0 (pa_cons (pv 0) (pa_cons (pe_ix ix_tup (pv 2) pe_int (fun _ _ => rfl)) pa_nil))))
 (pss_cons (ps_set (i := 4) sc__law_numbers.nd rfl (Or.inl rfl) (pe_call (ok__law_big T) (hr.mono (by decide)) (by rfl) T.g__law_big T.F__law_big.kp T.b__law_big .nil pass0 (pa_cons (pv 0) (pa_cons (pe_ix ix_tup (pv 2) pe_int (fun _ _ => rfl)) pa_nil))))
 (pss_cons (ps_set (i := 5) sc__law_numbers.nd rfl (Or.inl rfl) (pe_op op_add pe_int (pe_call (ok__law_big T) (hr.mono (by decide)) (by rfl) T.g__law_big T.F__law_big.kp T.b__law_big .nil pass0 (pa_cons (pv 0) (pa_cons (pe_ix ix_tup (pv 2) pe_int (fun _ _ => rfl)) pa_nil)))))
 (pss_cons (ps_if (pt_cmpR op_eq (pe_op op_add (pe_op op_mul pe_int (pv 3)) (pv 4)) pe_int (nomark _)) (pss_one (ps_set (i := 4) sc__law_numbers.nd rfl (Or.inl rfl) pe_int))
 pss_nil)
 (pss_one (ps_ret (pe_tup (pa_cons (pv 3) (pa_cons (pv 4) (pa_cons (pv 5) pa_nil)))))))))))), ?_⟩
    repeat walk_at "rd"
    refine ⟨p, q, 6, rfl, hs, by decide, by decide, fun kind H1 k0 k6 hs1 b1 => ?_⟩
    repeat walk_at "rd"
    refine new_at (Nat.le_of_ble_eq_true rfl) (fun t1 H2 n1 s1 e1 => ?_)
    repeat walk_at "rd"
    refine new_at (Nat.le_of_ble_eq_true rfl) (fun t2 H3 n2 s2 e2 => ?_)
    repeat walk_at "rd"
    refine new_at (Nat.le_of_ble_eq_true rfl) (fun t3 H4 n3 s3 e3 => ?_)
    repeat walk_at "rd"
    refine new_at (Nat.le_of_ble_eq_true rfl) (fun t4 H5 n4 s4 e4 => ?_)
    repeat walk_at "rd"
    refine new_at (Nat.le_of_ble_eq_true rfl) (fun t5 H6 n5 s5 e5 => ?_)
    repeat walk_at "rd"
    refine new_at (Nat.le_of_ble_eq_true rfl) (fun t6 H7 n6 s6 e6 => ?_)
    repeat walk_at "rd"
    refine new_at (Nat.le_of_ble_eq_true rfl) (fun tl H8 n7 s7 e7 => ?_)
    obtain ⟨t, A, B, C, hat, et, nt, hA, hB, hC⟩ : ∃ (t : Addr) (A B C : Int), atI [V.ref t1, V.ref t2, V.ref t3, V.ref t4, V.ref t5, V.ref t6] kind = some (.ref t) ∧ H8 t = some (.tup [.int A, .int B, .int C]) ∧ t ≠ p ∧ (1 ≤ A ∧ A ≤ 1000000001) ∧ (1 ≤ B ∧ B ≤ 1000000001) ∧ 1 ≤ C ∧ C ≤ 1000000000 := by
      have hk : kind = 0 ∨ kind = 1 ∨ kind = 2 ∨ kind = 3 ∨ kind = 4 ∨ kind = 5 := by omega
      rcases hk with rfl | rfl | rfl | rfl | rfl | rfl
      · exact ⟨t1, _, _, _, rfl, by walk_at "hp", by walk_at "ne", by decide, by decide, by decide⟩
      · exact ⟨t2, _, _, _, rfl, by walk_at "hp", by walk_at "ne", by decide, by decide, by decide⟩
      · exact ⟨t3, _, _, _, rfl, by walk_at "hp", by walk_at "ne", by decide, by decide, by decide⟩
      · exact ⟨t4, _, _, _, rfl, by walk_at "hp", by walk_at "ne", by decide, by decide, by decide⟩
      · exact ⟨t5, _, _, _, rfl, by walk_at "hp", by walk_at "ne", by decide, by decide, by decide⟩
      · exact ⟨t6, _, _, _, rfl, by walk_at "hp", by walk_at "ne", by decide, by decide, by decide⟩
    have hs8 : SrcAt H8 p q := by walk_at "src"
    have b8 : But p H H8 := b1.trans (But.of_same (s1.trans (s2.trans (s3.trans (s4.trans (s5.trans (s6.trans s7)))))))
    repeat walk_at "rd"
    refine r_ixL e7 hat ?_
    clear e1 e2 e3 e4 e5 e6 s1 s2 s3 s4 s5 s6 s7 n1 n2 n3 n4 n5 n6 b1 hat e7
    repeat walk_at "rd"
    refine ⟨p, q, A, rfl, hs8, by omega, fun o H9 o0 oA hs9 b9 => ?_⟩
    repeat walk_at "rd"
    refine ⟨p, q, B, rfl, hs9, by omega, fun l H10 l0 lB hs10 b10 => ?_⟩
    repeat walk_at "rd"
    refine ⟨p, q, C, rfl, hs10, by omega, fun g H11 g0 gC hs11 b11 => ?_⟩
    have b12 : But p H H11 := ((b8.trans b9).trans b10).trans b11
    repeat walk_at "rd"
    with_reducible refine seq_with (fun σ H' => ∃ (l' : Int), σ = [some (.ref p), some (.int kind), some (.ref t), some (.int o), some (.int l'), some (.int (1 + g))] ∧ H' = H11 ∧ 0 < 2 * o + l' ∧ 0 ≤ l' ∧ l' ≤ 1000000000) ?_ (fun rest => ?_)
    · rintro σ H' ⟨l', rfl, rfl, h1, h2, h3⟩
      repeat walk_at "rd"
      refine new_at (Nat.le_of_ble_eq_true rfl) (fun u H12 nu su eu => ?_)
      have nH : H u = none := b12.free hs11 nu
      exact k u o l' (1 + g) _ ⟨eu, o0, by omega, h2, h3, by omega, by omega, h1⟩ nH (hs11.keep su) (b12.trans (But.of_same su))
    · repeat walk_at "rd"
      refine ite_d (fun hc => ?_) (fun hc => ?_)
      · iterate 3 walk_at "rd"
        exact rest _ _ ⟨1, rfl, rfl, by omega, by omega, by omega⟩
      · walk_at "rd"
        exact rest _ _ ⟨l, rfl, rfl, by omega, by omega, by omega⟩
end

section
variable {P : Program} {w : World} {K : PySem.W.Frag} {mg : Str → Option Value} {base : Heap} {a : Adr}
theorem ok__law_is (T : Txt K mg a) : FnOk P w K mg base CX0 1 a.a__law_is a.d__law_is ["_law_thing", "_law_due"] spIs := by
  refine T.F__law_is.ok sc__law_is (fun vs H Q E h => ?_) (fun cdv A outer s H vs Q E hr h => ?_)
  · obtain ⟨i, j, rfl, _⟩ := h
    rfl
  · obtain ⟨i, j, rfl, k⟩ := h
    refine ⟨_, (pss_one (ps_ret (pe_and (pe_callB call_isi (by rfl) T.n_isinstance (by decide +kernel) (pa_cons (pv 0) (pa_cons (pe_bltn (v := .ty "int") (u := .type "int") (by rfl) T.n_int (by decide +kernel) rfl) pa_nil))) (pe_and (pe_not (pe_callB call_isi (by rfl) T.n_isinstance (by decide +kernel) (pa_cons (pv 0) (pa_cons (pe_bltn (v := .ty "bool") (u := .type "bool") (by rfl) T.n_bool (by decide +kernel) rfl) pa_nil)))) (pe_one (pe_cmpR op_eq (pv 0) (pv 1) (nomark _))))))), ?_⟩
    repeat walk_at "rd"
    exact k
end

/-! ### integers, machines -/
/-- whether the value is an int and no bool -/
def IntV (K : PySem.W.Frag) (H : Hp) (x : V) (b : Bool) : Prop := ∃ (t : Value) (b1 b2 : Bool), TyX K H x t ∧ PySem.W.kitOne K t (.type "int") = some b1 ∧ PySem.W.kitOne K t (.type "bool") = some b2 ∧ b = (b1 && !b2)
theorem IntV.int {K : PySem.W.Frag} {H : Hp} {i : Int} : IntV K H (.int i) true := ⟨_, true, false, .base (.int i), kit_ty (by decide +kernel), kit_ty (by decide +kernel), rfl⟩
theorem r_isi {K : PySem.W.Frag} {H : Hp} {Q : VK} {x : V} {t : Value} {n : String} {b : Bool} (ty : TyX K H x t) (h : PySem.W.kitOne K t (.type n) = some b) (q : Q (.bl b) H) : rIsi K [x, .ty n] H Q := ⟨_, _, t, .type n, b, rfl, .ty n, ty, h, q⟩
def spIsInteger (K : PySem.W.Frag) : Sp := fun vs H Q _ => ∃ (x : V) (b : Bool), vs = [x] ∧ IntV K H x b ∧ Q (.bl b) H
def spBetween (K : PySem.W.Frag) : Sp := fun vs H Q _ => ∃ (x : V) (lo hi : Int) (b : Bool), vs = [x, .int lo, .int hi] ∧ IntV K H x b ∧ (b = false → Q (.bl false) H) ∧ (b = true → ∃ i, x = .int i ∧ Q (.bl (decide (lo ≤ i ∧ i ≤ hi))) H)
theorem r_between {K : PySem.W.Frag} {H : Hp} {Q : VK} {E : XK} {i lo hi : Int} (q : Q (.bl (decide (lo ≤ i ∧ i ≤ hi))) H) : spBetween K [.int i, .int lo, .int hi] H Q E := ⟨_, lo, hi, true, rfl, IntV.int, (fun z => Bool.noConfusion z), fun _ => ⟨i, rfl, q⟩⟩
/-- the attributes of a machine -/
def mf (o l g : Int) : List (Str × V) := putF "gap" (.int (gapOf o g)) (putF "letter" (.int (2 * o + l)) (putF "g" (.int g) (putF "l" (.int l) (putF "o" (.int o) []))))
def MachAt (C : Addr) (H : Hp) (m : Addr) (o l g : Int) : Prop := ∃ dx, H m = some (.ins C dx (mf o l g))
theorem MachAt.keep {C m : Addr} {H H' : Hp} {o l g : Int} (h : MachAt C H m o l g) (s : Same H H') : MachAt C H' m o l g := let ⟨dx, e⟩ := h; ⟨dx, s _ _ e⟩
theorem mf_o {o l g : Int} : (mf o l g).lookup ("o" : Str) = some (.int o) := by unfold mf; walk_at "lk"
theorem mf_l {o l g : Int} : (mf o l g).lookup ("l" : Str) = some (.int l) := by unfold mf; walk_at "lk"
theorem mf_g {o l g : Int} : (mf o l g).lookup ("g" : Str) = some (.int g) := by unfold mf; walk_at "lk"
theorem mf_letter {o l g : Int} : (mf o l g).lookup ("letter" : Str) = some (.int (2 * o + l)) := by unfold mf; walk_at "lk"
theorem mf_gap {o l g : Int} : (mf o l g).lookup ("gap" : Str) = some (.int (gapOf o g)) := by unfold mf; walk_at "lk"
theorem MachAt.but {C m p : Addr} {H H' : Hp} {o l g : Int} (h : MachAt C H m o l g) (s : But p H H') (n : m ≠ p) : MachAt C H' m o l g := let ⟨dx, e⟩ := h; ⟨dx, s _ _ e n⟩
def spMachine (C : Addr) : Sp := fun vs H Q _ => ∃ (m dx : Addr) (o l g : Int), vs = [.ref m, .int o, .int l, .int g] ∧ H m = some (.ins C dx []) ∧ (0 ≤ o ∧ o ≤ 1000000000) ∧ (0 ≤ l ∧ l ≤ 1000000000) ∧ (1 ≤ g ∧ g ≤ 1000000000) ∧ 0 < 2 * o + l ∧ ∀ H', MachAt C H' m o l g → But m H H' → Q .non H'
local macro_rules | `(tactic| walk_at "lk") => `(tactic| first | exact mf_o | exact mf_l | exact mf_g | exact mf_letter | exact mf_gap)
section
variable {P : Program} {w : World} {K : PySem.W.Frag} {mg : Str → Option Value} {base : Heap} {a : Adr}
theorem ok_is_integer (T : Txt K mg a) : FnOk P w K mg base CX0 1 a.a_is_integer a.d_is_integer ["thing"] (spIsInteger K) := by
  refine T.F_is_integer.ok sc_is_integer (fun vs H Q E h => ?_) (fun cdv A outer s H vs Q E hr h => ?_)
  · obtain ⟨x, b, rfl, _⟩ := h
    rfl
  · obtain ⟨x, b, rfl, ⟨t, b1, b2, ty, h1, h2, rfl⟩, k⟩ := h
    refine ⟨_, (pss_one (ps_ret (pe_and (pe_callB call_isi (by rfl) T.n_isinstance (by decide +kernel) (pa_cons (pv 0) (pa_cons (pe_bltn (v := .ty "int") (u := .type "int") (by rfl) T.n_int (by decide +kernel) rfl) pa_nil))) (pe_one (pe_not (pe_callB call_isi (by rfl) T.n_isinstance (by decide +kernel) (pa_cons (pv 0) (pa_cons (pe_bltn (v := .ty "bool") (u := .type "bool") (by rfl) T.n_bool (by decide +kernel) rfl) pa_nil)))))))), ?_⟩
    repeat walk_at "rd"
    refine r_isi ty h1 ?_
    refine ⟨b1, rfl, ?_⟩
    cases b1 with
    | false => exact iteF k
    | true =>
      repeat walk_at "rd"
      refine r_isi ty h2 ?_
      exact ⟨b2, rfl, k⟩
theorem ok_is_between (T : Txt K mg a) : FnOk P w K mg base CX0 2 a.a_is_between a.d_is_between ["thing", "low", "high"] (spBetween K) := by
  refine T.F_is_between.ok sc_is_between (fun vs H Q E h => ?_) (fun cdv A outer s H vs Q E hr h => ?_)
  · obtain ⟨x, lo, hi, b, rfl, _⟩ := h
    rfl
  · obtain ⟨x, lo, hi, b, rfl, iv, k0, k1⟩ := h
    refine ⟨_, (pss_one (ps_ret (pe_and (pe_call (ok_is_integer T) (hr.mono (by decide)) (by rfl) T.g_is_integer T.F_is_integer.kp T.b_is_integer .nil pass0 (pa_cons (pv 0) pa_nil)) (pe_one (pe_chain op_le op_le (pv 1) (pv 0) (pv 2)))))), ?_⟩
    repeat walk_at "rd"
    refine ⟨x, b, rfl, iv, ?_⟩
    refine ⟨b, rfl, ?_⟩
    cases b with
    | false => exact iteF (k0 rfl)
    | true =>
      obtain ⟨i, rfl, q⟩ := k1 rfl
      repeat walk_at "rd"
      refine ite_d (fun h1 => ?_) (fun h1 => ?_)
      · repeat walk_at "rd"
        rw [decide_eq_decide.mpr (show lo ≤ i ∧ i ≤ hi ↔ i ≤ hi from ⟨fun h => h.2, fun h => ⟨h1, h⟩⟩)] at q
        exact q
      · rw [decide_eq_false (show ¬ (lo ≤ i ∧ i ≤ hi) from fun h => h1 h.1)] at q
        exact q
theorem ok_Machine_init (T : Txt K mg a) : FnOk P w K mg base CX0 3 a.a_Machine_init a.d_Machine_init ["self", "o", "l", "g"] (spMachine a.c_Machine) := by
  refine T.F_Machine_init.ok sc_Machine_init (fun vs H Q E h => ?_) (fun cdv A outer s H vs Q E hr h => ?_)
  · obtain ⟨m, dx, o, l, g, rfl, _⟩ := h
    rfl
  · obtain ⟨m, dx, o, l, g, rfl, hm, ho, hl, hg, hp, k⟩ := h
    refine ⟨_, (pss_cons (ps_if (pt_not (pt_val (pe_call (ok_is_between T) (hr.mono (by decide)) (by rfl) T.g_is_between T.F_is_between.kp T.b_is_between .nil pass0 (pa_cons (pv 1) (pa_cons pe_int (pa_cons (pe_glob (v := .int 1000000000) (by rfl) T.g_GREATEST_PART.choose_spec ⟨_, rfl⟩) pa_nil)))))) (pss_one ps_never)
 pss_nil)
 (pss_cons (ps_if (pt_not (pt_val (pe_call (ok_is_between T) (hr.mono (by decide)) (by rfl) T.g_is_between T.F_is_between.kp T.b_is_between .nil pass0 (pa_cons (pv 2) (pa_cons pe_int (pa_cons (pe_glob (v := .int 1000000000) (by rfl) T.g_GREATEST_PART.choose_spec ⟨_, rfl⟩) pa_nil)))))) (pss_one ps_never)
 pss_nil)
 (pss_cons (ps_if (pt_not (pt_val (pe_call (ok_is_between T) (hr.mono (by decide)) (by rfl) T.g_is_between T.F_is_between.kp T.b_is_between .nil pass0 (pa_cons (pv 3) (pa_cons pe_int (pa_cons (pe_glob (v := .int 1000000000) (by rfl) T.g_GREATEST_PART.choose_spec ⟨_, rfl⟩) pa_nil)))))) (pss_one ps_never)
 pss_nil)
 (pss_cons (ps_if (pt_cmpR op_eq (pe_op op_add (pe_op op_mul pe_int (pv 1)) (pv 2)) pe_int (nomark _)) (pss_one ps_never)
 pss_nil)
 (pss_cons (ps_fld (pv 0) (pv 1) rfl)
 (pss_cons (ps_fld (pv 0) (pv 2) rfl)
 (pss_cons (ps_fld (pv 0) (pv 3) rfl)
 (pss_cons (ps_fld (pv 0) (pe_op op_add (pe_op op_mul pe_int (pv 1)) (pv 2)) rfl)
 (pss_one (ps_fld (pv 0) (pe_callB (call_max2 rfl) (by rfl) T.n_max (by decide +kernel) (pa_cons (pv 1) (pa_cons (pv 3) pa_nil))) rfl)))))))))), ?_⟩
    walk_at "rdi"
    repeat walk_at "rd"
    refine r_between ?_
    repeat walk_at "rd"
    refine r_nD (fun h => absurd ho h) (fun _ => ?_)
    walk_at "rd"
    walk_at "rdi"
    repeat walk_at "rd"
    refine r_between ?_
    repeat walk_at "rd"
    refine r_nD (fun h => absurd hl h) (fun _ => ?_)
    walk_at "rd"
    walk_at "rdi"
    repeat walk_at "rd"
    refine r_between ?_
    repeat walk_at "rd"
    refine r_nD (fun h => absurd hg h) (fun _ => ?_)
    walk_at "rd"
    walk_at "rdi"
    repeat walk_at "rd"
    refine ite_d (fun h => absurd h (by omega)) (fun _ => ?_)
    repeat walk_at "rd"
    refine k _ ⟨dx, ?_⟩ ?_
    · exact upd_same
    · exact But.upd.trans (But.upd.trans (But.upd.trans (But.upd.trans But.upd)))
end

/-! ### own rules: C(..) by a local name, x op y by an own def, targets in a tuple -/
/-- the slot n holds the class at C: a new instance -/
def tMakeL (n : Nat) (C : Addr) (sp : Sp) (dvs : List V) (E : XK) (t : TA) : TE := fun σ H Q => σ[n]? = some (some (.ref C)) ∧ tMake C sp dvs E t σ H Q
/-- x op y, x an instance with a dict, y of a known type -/
def rOwnD (K : PySem.W.Frag) (C : Addr) (sp : Sp) (E : XK) : R2 := fun x y H Q => ∃ m dx fs tb, x = .ref m ∧ H m = some (.ins C dx fs) ∧ TyX K H y tb ∧ PySem.W.notFirst K C tb = true ∧ sp [x, y] H Q E
section
variable {X : Cx} {CX : CXT} {k i : Nat} {f C : Addr} {fd : FuncData} {ps : List Str} {sp : Sp} {dvs : List V} {ds : List Value} {E : XK} {x : Str} {p pos : Pos} {e : Expr} {es : List Expr} {t : TA}
theorem pe_makeL (M : Mk X.K C f) (F : FnOk X.prog X.w X.K X.mg X.base CX k f fd ps sp) (hr : Room (k + 1) X.A) (hN : X.N[i]? = some x) (hv : Vis X.env.scope x) (hb : Binds X.K fd ps ds) (hd : Vals dvs ds) (hx : Passes CX X E) (ha : PA X (e :: es) t)
    (hdb : (x == ("__debug__" : Str)) = false := by decide) (hcd : (x == ("__classdict__" : Str)) = false := by decide)
    (he : starEach (e :: es) X.env = (false, eval e X.env) :: starEach es X.env := by rfl) (hpl : (backTo pos (starEach es X.env)).any (·.1) = false := by rfl) : PE X (.Call (.Name x p) (e :: es) [] pos) (tMakeL i C sp dvs E t) := by
  refine ⟨fun pins s σ H Q I h => wpAny_Call_Name_kw (thn ((pe_var (pos := p) hN hv hdb hcd).run pins s σ H (fun v H1 => v = .ref C ∧ H1 = H) I ⟨.ref C, h.1, rfl, rfl⟩) fun u s1 g => ?_)⟩
  obtain ⟨v, H1, J, r1, rfl, rfl⟩ := g
  cases r1
  exact PySem.W.callWith_K (h₀ := X.base) J.ok.mod.kin M.kp (thn (ha.run pos pins s1 σ _ _ J h.2) fun us s2 ⟨vs, H2, J2, r, q⟩ => ⟨J2.kIn, run_make M F hr hb hd hx J2 r q⟩) he hpl
theorem op_ownD {op : CmpOp} {g : Addr} {n : Nat} (hop : ∀ a b, compareOp op a b = richCompare op a b) (hs : PySem.W.findIn X.K (.ref C) (cmpInfo op).2.1 = some (some (.ref g))) (hf : PySem.W.isFn X.K (.ref g) = true) (F : FnR X.prog X.w X.K X.mg X.base CX n g sp)
    (hr : Room n X.A) (hx : Passes CX X E) : OpR X (compareOp op) (rOwnD X.K C sp E) := by
  intro pins s σ H x y v u Q I rx ry h
  obtain ⟨m, dx, fs, tb, rfl, hm, ty, hn, q⟩ := h
  obtain rfl : v = Value.ref m := rx
  obtain ⟨mA, J, _⟩ := ins_get I.hok hm
  obtain ⟨od, J, _⟩ := J.look
  obtain ⟨Pk, Z, pz, _⟩ := kit_of I ry ty
  obtain ⟨mF, hF⟩ := I.fr
  rw [hop]
  refine PySem.W.cmp_K (op := op) (tb := tb) hr.units0 hF I.ok.mod.kin J (Z.ty _ _ I.kIn pz) hn hs hf ?_
  refine wpAny_mono (wpAny_call (run_fnR (us := [.ref m, u]) (vs := [.ref m, y]) F hr hx I (.cons rfl (.cons ry .nil)) q)) (fun w s' z => ?_) fun _ _ x => x
  exact (let ⟨z', H', I', rz, qz⟩ := z; SlX.cmpback rz ⟨z', H', I', rz, qz⟩)
end
theorem kit_self {K : PySem.W.Frag} {C : Addr} : PySem.W.kitOne K (.ref C) (.ref C) = some true := by
  unfold PySem.W.kitOne
  rw [if_pos (by simp)]
theorem kit_no {K : PySem.W.Frag} {C : Addr} {n : String} (h1 : PySem.W.isClsIn K C = true) (h2 : PySem.W.typeIn K (.ref C) = some (.type "type")) (h3 : PySem.W.subIn K (.type n) (.ref C) = some false) : PySem.W.kitOne K (.type n) (.ref C) = some false := by
  have e : ((PySem.W.clsIn K C).isSome && PySem.W.typeIn K (.ref C) == some (.type "type")) = true := by
    rw [show (PySem.W.clsIn K C).isSome = true from h1, h2]
    rfl
  unfold PySem.W.kitOne
  rw [if_neg (by simp)]
  show (if ((PySem.W.clsIn K C).isSome && PySem.W.typeIn K (.ref C) == some (.type "type")) = true then PySem.W.subIn K (.type n) (.ref C) else none) = some false
  rw [if_pos e]
  exact h3
theorem nf_self {K : PySem.W.Frag} {C : Addr} : PySem.W.notFirst K C (.ref C) = true := by
  unfold PySem.W.notFirst
  simp
theorem nf_no {K : PySem.W.Frag} {C : Addr} {n : String} (h3 : PySem.W.subIn K (.type n) (.ref C) = some false) : PySem.W.notFirst K C (.type n) = true := by
  unfold PySem.W.notFirst
  rw [h3]
  simp
section
variable {K : PySem.W.Frag} {σ : St} {H : Hp} {Q : VK} {R : St → Hp → Prop} {n : Nat} {v : V} {vs : List V}
theorem r_gTup {t : TGs} {p : Addr} (h : H p = some (.tup vs)) (hl : vs.length = n) (q : t vs σ H R) : gTup K n t (.ref p) σ H R := ⟨p, vs, rfl, SqT.of h, hl, q⟩
theorem r_gCons {t : TG} {u : TGs} (h : t v σ H fun σ' H' => u vs σ' H' R) : gCons t u (v :: vs) σ H R := ⟨v, vs, rfl, h⟩
theorem r_gNil (h : R σ H) : gNil [] σ H R := ⟨rfl, h⟩
theorem r_par {i j : Nat} {ta : TA} {D : Ends} (h : ta σ H fun vs H1 => ∃ v w, vs = [v, w] ∧ D.nx ((σ.set i (some v)).set j (some w)) H1) : tPar i j ta D σ H := h
theorem r_par3 {i j l : Nat} {ta : TA} {D : Ends} (h : ta σ H fun vs H1 => ∃ u v w, vs = [u, v, w] ∧ D.nx (((σ.set i (some u)).set j (some v)).set l (some w)) H1) : tPar3 i j l ta D σ H := h
theorem r_ex2 {u v : V} {R : V → V → Prop} (q : R u v) : ∃ x y, [u, v] = [x, y] ∧ R x y := ⟨_, _, rfl, q⟩
theorem r_ex3 {u v w : V} {R : V → V → V → Prop} (q : R u v w) : ∃ x y z, [u, v, w] = [x, y, z] ∧ R x y z := ⟨_, _, _, rfl, q⟩
theorem r_nDT {c A B : Prop} [Decidable c] (hc : c) (h : B) : if (!decide c) = true then A else B := r_nD (fun z => absurd hc z) fun _ => h
theorem r_neB {a b : Bool} (q : Q (.bl (!decide (a = b))) H) : rNe (.bl a) (.bl b) H Q := ⟨rfl, by
  have e : decide (V.bl a = V.bl b) = decide (a = b) := by cases a <;> cases b <;> decide
  rw [e]; exact q⟩
theorem r_isB {a b : Bool} (q : Q (.bl (decide (a = b))) H) : rIsB (.bl a) (.bl b) H Q := ⟨a, b, rfl, rfl, q⟩
theorem r_notB {a b : Bool} (q : Q (.bl (!decide (a = b))) H) : rNotB (.bl a) (.bl b) H Q := ⟨a, b, rfl, rfl, q⟩
theorem r_dnew (k : ∀ p H', H p = none → Same H H' → H' p = some (.dK []) → Q (.ref p) H') : tDNewK σ H Q := new_of k
theorem r_makeL {C : Addr} {sp : Sp} {dvs : List V} {E : XK} {t : TA} (e : σ[n]? = some (some (.ref C))) (h : tMake C sp dvs E t σ H Q) : tMakeL n C sp dvs E t σ H Q := ⟨e, h⟩
theorem r_cmeth {C : Addr} {sp : Sp} {E : XK} {t : TA} (h : t σ H fun vs H2 => sp (.ref C :: vs) H2 Q E) : ClX.tCMeth C sp E (tC (.ref C)) t σ H Q := ⟨rfl, h⟩
theorem eq_ints {xs ys : List Int} : PyData.eqvAll (xs.map PyData.int) (ys.map PyData.int) = decide (xs = ys) := by
  induction xs generalizing ys with
  | nil => cases ys <;> rfl
  | cons x xs ih =>
    cases ys with
    | nil => rfl
    | cons y ys =>
      show (PyData.eqv (.int x) (.int y) && PyData.eqvAll (xs.map PyData.int) (ys.map PyData.int)) = _
      rw [ih]
      show ((x == y) && decide (xs = ys)) = _
      by_cases h : x = y
      · subst h; simp
      · simp [h]
theorem dp_ints (xs : List Int) : DpAll K H (xs.map V.int) (xs.map PyData.int) := by
  induction xs with
  | nil => exact .nil
  | cons x xs ih => exact .cons (.int x) ih
/-- == of two tuples of ints -/
theorem r_eqT {p q : Addr} {xs ys : List Int} (h1 : H p = some (.tup (xs.map V.int))) (h2 : H q = some (.tup (ys.map V.int))) (s1 : SeqAt.shaped (.tuple (xs.map PyData.int)) = true) (s2 : SeqAt.shaped (.tuple (ys.map PyData.int)) = true)
    (k : Q (.bl (decide (xs = ys))) H) : rEqD K (.ref p) (.ref q) H Q := ⟨_, _, .tup (SqT.of h1) (dp_ints xs), .tup (SqT.of h2) (dp_ints ys), s1, s2, by
  show Q (.bl (PyData.eqvAll (xs.map PyData.int) (ys.map PyData.int))) H
  rw [eq_ints]; exact k⟩
end
theorem r_Machine {C : Addr} {H : Hp} {Q : VK} {E : XK} {o l g : Int} (ho : 0 ≤ o ∧ o ≤ 1000000000) (hl : 0 ≤ l ∧ l ≤ 1000000000) (hg : 1 ≤ g ∧ g ≤ 1000000000) (hp : 0 < 2 * o + l) (k : ∀ m H', H m = none → MachAt C H' m o l g → Same H H' → Q (.ref m) H') :
    MakeAt C (spMachine C) ([.int o, .int l, .int g] ++ []) E H Q :=
  fun x dx nx nd _ => ⟨x, dx, o, l, g, rfl, upd_same, ho, hl, hg, hp, fun H' hm bt => ⟨rfl, k x H' nx hm (Same.made nx nd bt)⟩⟩

local macro_rules | `(tactic| walk_at "rd") => `(tactic| with_reducible first
  | (refine' r_gTup ?hp ?hl ?_; (case hp => walk_at "hp"); (case hl => with_unfolding_all exact rfl))
  | refine r_gCons ?_
  | refine r_gNil ?_
  | refine r_par ?_
  | refine r_par3 ?_
  | refine r_ex2 ?_
  | refine r_ex3 ?_
  | refine r_nDT rfl ?_
  | refine r_neB ?_
  | refine r_isB ?_
  | refine r_notB ?_
  | refine r_cmeth ?_
  | (refine' r_makeL ?he ?_; (case he => with_unfolding_all exact rfl))
  | refine r_isiB true (by decide +kernel) ?_
  | refine r_isiB false (by decide +kernel) ?_
  | refine r_callN ?_
  | refine r_andV ?_)

/-! ### enumerate over a tuple -/
open PySem.AutoSeq1 (wpAny_loadPart') in
theorem en_newT (p : Addr) (its : Array Value) (n : Nat) (dd : Option Addr) (sl : Array (Option Value)) :
    Meets (Builtin.«enumerate.__new__» ⟨[.type "enumerate", .ref p], []⟩) (fun _ R s => s.heap.get? p = some { cls := .type "tuple", dict := dd, data := .seq its n, slots := sl } ∧
      R (.ok (.ret (.ref (s.heap.push { cls := .type "tuple_iterator", data := .fields #[.ref p, .int 0 0] }).objs.size)))
        { s with heap := (s.heap.push { cls := .type "tuple_iterator", data := .fields #[.ref p, .int 0 0] }).push { cls := .type "enumerate", data := .fields #[.none, .bool false, .ref s.heap.objs.size, rawInt 0, .none, .none] } }) :=
  .of_wp fun prog w A R s h => by
    obtain ⟨hp, g, d, tk, os⟩ := s
    obtain ⟨hl, h⟩ := h
    have hsub := sub_enumerate
    have hT : Heap.IsTuple (Shared.heap ⟨hp, g, d, tk, os⟩) p its := ⟨_, hl, rfl, n, rfl⟩
    wp_walk using wpAny_loadPart' hl
    refine wpAny_stack_any fun st => wpAny_pure ?_
    split
    · rename_i c _ _ _ _ _
      cases (c == Value.type "enumerate") <;> (wp_walk using wpAny_loadPart' hl, wpAny_pyIter_tuple hT; exact ⟨_, rfl, h⟩)
    · wp_walk using wpAny_loadPart' hl, wpAny_pyIter_tuple hT
      exact ⟨_, rfl, h⟩
theorem en_callT {prog : Program} {w : World} {A : Around} {E : Value → Shared → Prop} {s : Shared} {p : Addr} {its : Array Value} {Q : Value → Shared → Prop} (hT : s.heap.IsTuple p its)
    (h : ∀ h', IsEnum h' (s.heap.objs.size + 1) s.heap.objs.size 0 .none → h'.IsTupleIter s.heap.objs.size p 0 → h'.objs.size = s.heap.objs.size + 2 →
      (∀ b o, s.heap.get? b = some o → h'.get? b = some o) → Q (.ref (s.heap.objs.size + 1)) { s with heap := h' }) : wpAny (model prog w) A (call (.type "enumerate") [.ref p]) Q E s := by
  obtain ⟨⟨c, dct, dt, sl⟩, hl, hc, n, hd⟩ := hT
  simp only at hc hd
  subst hc hd
  refine callType_new F.called_enumerate (by decide) (F.typeCall_enumerate_1 _) (F.newCall_enumerate_1 _) (fun obj => F.args_object_init_2 obj _) F.entry_enumerate_new (en_newT p its n dct sl) ⟨hl, ?_⟩
  generalize hg : s.heap.push { cls := .type "tuple_iterator", data := .fields #[.ref p, .int 0 0] } = g
  have hz : g.objs.size = s.heap.objs.size + 1 := by rw [← hg]; exact Heap.size_push ..
  show _ ∧ _
  rw [hz]
  have he : IsEnum (g.push { cls := .type "enumerate", data := .fields #[.none, .bool false, .ref s.heap.objs.size, rawInt 0, .none, .none] }) (s.heap.objs.size + 1) s.heap.objs.size 0 .none := by
    have q := Heap.get?_push_size g (o := { cls := .type "enumerate", data := .fields #[.none, .bool false, .ref s.heap.objs.size, rawInt 0, .none, .none] }) rfl
    rw [hz] at q
    exact q
  have hi : g.get? s.heap.objs.size = some { cls := .type "tuple_iterator", data := .fields #[.ref p, .int 0 0] } := by rw [← hg]; exact Heap.get?_push_size _ rfl
  refine ⟨⟨_, he, rfl⟩, h _ he ⟨_, Heap.get?_push_of_some _ hi, rfl, rfl⟩ (by rw [Heap.size_push, hz]) fun b o x => Heap.get?_push_of_some _ ?_⟩
  rw [← hg]
  exact Heap.get?_push_of_some _ x
/-- the tuple at a, each item in a new pair -/
def IteT (K : PySem.W.Frag) (a : Addr) : It :=
  ⟨fun i H => ∃ (xs : List V) (x : V), SqT K H a xs ∧ xs[i]? = some x, fun i H v H' => ∃ T x, v = .ref T ∧ H T = none ∧ H' = upd H T (.tup [.int (i : Nat), x]) ∧ ∀ xs, SqT K H a xs → xs[i]? = some x, fun i H => ∃ xs : List V, SqT K H a xs ∧ xs.length ≤ i⟩
theorem turn_enT {P : Program} {w : World} {K : PySem.W.Frag} {elts : List Expr} {kk : Nat} {tpos : Pos} (a e it : Addr) :
    Turn P w K (.Tuple elts kk tpos) (IteT K a) [e, it] e (fun i h => (∃ old, IsEnum h e it ((i : Nat) : Int) old) ∧ h.IsTupleIter it a i ∧ e ≠ it ∧ e ≠ a ∧ a ≠ it) where
  mem := by simp
  obj := fun i h st b hb => by
    obtain ⟨⟨old, he⟩, ⟨o, ho, hc, hd⟩, _⟩ := st
    rcases (by simpa using hb : b = e ∨ b = it) with z | z
    · rw [z]; exact ⟨_, he, fun v q => nomatch q⟩
    · rw [z]; exact ⟨o, ho, fun v q => by rw [hd] at q; cases q⟩
  keep := fun i h h' st k => let ⟨⟨old, he⟩, hi, hne⟩ := st; ⟨⟨old, k e (by simp) _ he⟩, hi.at fun o q => k it (by simp) o q, hne⟩
  item := by
    intro X hP hw hK hc i pins s σ H E I hf st hg
    subst hP hw hK
    obtain ⟨⟨old, he⟩, hit, hne, hea, hai⟩ := st
    obtain ⟨xs, x, hq, hx⟩ := hg
    obtain ⟨its, rv, p, hz⟩ := I.tuple hq
    obtain ⟨u, hu, ru⟩ := rv.get hx
    have hel : e < s.heap.objs.size := Heap.lt_size he
    have hil : it < s.heap.objs.size := by obtain ⟨_, q, _⟩ := hit; exact Heap.lt_size q
    have pT : s.heap.IsTuple a its.toArray := p
    have hlt : i < its.toArray.size := by
      have := (List.getElem?_eq_some_iff.mp hu).1
      simpa using this
    refine wpAny_pyNext_enum_itemD (Draws.tuple (A := X.A.in1) (show X.A.in1.handled = none from I.ok.hd hc) it a hai its.toArray) he ⟨hit, pT⟩ hlt hne (by simp [hne, hea]) fun v h' tk hv ho hst hT hsz hk => ?_
    have ev : v = u := by
      have q : its[i]? = some v := by simpa using hv
      rw [hu] at q
      exact (Option.some.inj q).symm
    subst ev
    refine ⟨_, rfl, wpAny_letOwnedTupleGo_enum (s := { s with heap := h', toks := tk + 1 }) ho fun h'' he' sb => ?_⟩
    have hT2 : h''.get? s.heap.objs.size = some { cls := .type "tuple", data := .seq #[.int i tk, v] } := (sb.2 _ (Nat.ne_of_gt hel)).trans hT
    have new : ObjOk X.prog X.w (upd H s.heap.objs.size (.tup [.int (i : Nat), x])) h'' s.heap.objs.size (.tup [.int (i : Nat), x]) :=
      ⟨by show 2 ≤ sizeLine; decide, [.int i tk, v], .cons ⟨_, rfl⟩ (.cons ru .nil), ⟨_, hT2, rfl, _, rfl⟩⟩
    have I1 : Inv X pins σ (upd H s.heap.objs.size (.tup [.int (i : Nat), x])) { s with heap := h'', toks := tk + 1 } :=
      I.turnedNew (ch := [e, it]) (fun b ob hb q => (sb.2 b (fun z => hb (by simp [z]))).trans (hk b ob (fun z => hb (by simp [z])) (fun z => hb (by simp [z])) q)) hf (Nat.le_refl _) new
    refine ⟨.ref s.heap.objs.size, _, I1, rfl, ⟨_, x, rfl, I.hok.fresh (Nat.le_refl _), rfl, fun ys hy => by rw [I.tuple_inj hy hq]; exact hx⟩, ⟨⟨v, ?_⟩, hst.1.at fun o q => (sb.2 it (Ne.symm hne)).trans q, hne, hea, hai⟩, fun b hb => ?_⟩
    · rw [show ((i + 1 : Nat) : Int) = (i : Int) + 1 by omega]; exact he'
    · have hb' : b < s.heap.objs.size := by
        rcases (by simpa using hb : b = e ∨ b = it) with z | z
        · rw [z]; exact hel
        · rw [z]; exact hil
      rw [upd_ne (Nat.ne_of_lt hb')]
      exact (hf b hb).1
  done := by
    intro X hP hw hK hc i pins s σ H E I hf st hg
    subst hP hw hK
    obtain ⟨⟨old, he⟩, hit, hne, hea, hai⟩ := st
    obtain ⟨xs, hq, hx⟩ := hg
    obtain ⟨its, rv, p, hz⟩ := I.tuple hq
    obtain ⟨f0, f1, f2, f3, f4, f5⟩ := hf it (by simp)
    have hl := rv.length
    have pT : s.heap.IsTuple a its.toArray := p
    unfold pyNext
    have hTy : s.TypeIs (.ref e) "enumerate" := ⟨_, he, rfl⟩
    refine wpAny_bind (wpAny_attempt (wpAny_callSpecial?_slot (name := Str.ofString "__next__") hTy F.slot_enumerate_next (wpAny_call_entry F.slot_enumerate_next hTy F.entry_enumerate_next ?_ (F.args_enumerate_next_1 _))))
    show wpAny _ _ (field (.ref e) 2 >>= _) _ _ _
    refine wpAny_bind (wpAny_field he rfl (x := .ref it) rfl ?_)
    refine wpAny_bind (wpAny_nextOf_tuple_end (I.ok.hd hc) hit pT (by simp; omega) fun h' x he' hx' => ?_)
    obtain ⟨o, ho, hcl⟩ := hx'
    refine wpAny_bind (wpAny_isInstance (T := "StopIteration") (b := true) ⟨o, ho, hcl⟩ isSubtype_stop ?_)
    exact wpAny_pure ⟨rfl, I.turned (t' := s.toks) (fun b o hb q => he' b o hb q) f0 f1 f3 f4 f5⟩
  self := fun A i s Q E st h => let ⟨⟨_, he⟩, _⟩ := st; wpAny_pyIter_enum he h
def iEnumS (K : PySem.W.Frag) (ta : TA) : TI := fun σ H R => ta σ H fun vs H1 => ∃ a xs, vs = [.ref a] ∧ ((SqL K H1 a xs ∧ R (Ite K a) H1) ∨ (SqT K H1 a xs ∧ R (IteT K a) H1))
theorem pi_enumS {X : Cx} {e : Expr} {ta : TA} {p pos tpos : Pos} {elts : List Expr} {kk : Nat} (hg : Gl X "enumerate") (hm : X.mg "enumerate" = none) (ha : PA X [e] ta) (hs : starEach [e] X.env = [(false, eval e X.env)] := by rfl) :
    PI X (.Tuple elts kk tpos) (.Call (.Name "enumerate" p) [e] [] pos) (iEnumS X.K ta) := by
  refine ⟨fun pins s σ H R I h => PyProof.Rows.Call_ (ld_blt I hg hm PyProof.Rows.boot_enumerate (PyProof.Rows.callWith_type1 (thn (ha.run pos pins s σ H _ I h) fun us s1 g => ?_) hs rfl))⟩
  obtain ⟨vs, H1, I1, r1, a, xs, rfl, g⟩ := g
  cases r1 with
  | cons r rr =>
    cases rr
    cases r
    have fresh : ∀ b ∈ [s1.heap.objs.size + 1, s1.heap.objs.size], s1.heap.objs.size ≤ b := fun b hb => by
      rcases (by simpa using hb : b = s1.heap.objs.size + 1 ∨ b = s1.heap.objs.size) with z | z <;> omega
    rcases g with ⟨hq, q⟩ | ⟨hq, q⟩
    · obtain ⟨its, rv, p', hz⟩ := I1.list hq
      refine call_enumerate_list p'.isList fun h' he hit hsz hk => wpAny_pyIter_enum he ?_
      exact ⟨s1.heap.objs.size + 1, [s1.heap.objs.size + 1, s1.heap.objs.size], _, _, H1, rfl, I1.kept (t' := s1.toks) hk, turn_enum a (s1.heap.objs.size + 1) s1.heap.objs.size, ⟨⟨.none, he⟩, hit, Nat.succ_ne_self _⟩, fun b hb => I1.fpOk (fresh b hb) (I1.hok.fresh (fresh b hb)), q⟩
    · obtain ⟨its, rv, p', hz⟩ := I1.tuple hq
      have pT : s1.heap.IsTuple a its.toArray := p'
      have hal : a < s1.heap.objs.size := by obtain ⟨o, ho, _⟩ := pT; exact Heap.lt_size ho
      refine en_callT pT fun h' he hit hsz hk => wpAny_pyIter_enum he ?_
      exact ⟨s1.heap.objs.size + 1, [s1.heap.objs.size + 1, s1.heap.objs.size], _, _, H1, rfl, I1.kept (t' := s1.toks) hk, turn_enT a (s1.heap.objs.size + 1) s1.heap.objs.size, ⟨⟨.none, he⟩, hit, Nat.succ_ne_self _, Nat.ne_of_gt (Nat.lt_succ_of_lt hal), Nat.ne_of_lt hal⟩, fun b hb => I1.fpOk (fresh b hb) (I1.hok.fresh (fresh b hb)), q⟩
theorem for_en {K : PySem.W.Frag} {a : Addr} {xs : List V} {g : TG} {tb : TS} {D : Ends} {σ : St} {H : Hp} (J : It) (Sq : Hp → List V → Prop) (hJ : J = Ite K a ∧ Sq = (fun H ys => SqL K H a ys) ∨ J = IteT K a ∧ Sq = (fun H ys => SqT K H a ys)) (Pv : Nat → St → Hp → Prop) (h0 : Pv 0 σ H) (hl : ∀ i σ H, i ≤ xs.length → Pv i σ H → Sq H xs)
    (hs : ∀ i x σ H T H', xs[i]? = some x → Pv i σ H → H T = none → H' = upd H T (.tup [.int (i : Nat), x]) → g (.ref T) σ H' fun σ2 H2 => tb { D with nx := Pv (i + 1), ct := Pv (i + 1), bk := D.nx } σ2 H2) (hd : ∀ σ H, Pv xs.length σ H → D.nx σ H) :
    ∃ W : Nat → Nat → St → Hp → Prop, (∃ m, W 0 m σ H) ∧ ∀ i m σ H, W i m σ H →
      (J.stop i H ∧ D.nx σ H) ∨ (J.go i H ∧ ∃ N : St → Hp → Prop, (∀ σ' H', N σ' H' → ∃ m', m' < m ∧ W (i + 1) m' σ' H') ∧ ∀ x H', J.yld i H x H' → g x σ H' fun σ2 H2 => tb { D with nx := N, ct := N, bk := D.nx } σ2 H2) := by
  refine ⟨fun i m σ H => m = xs.length - i ∧ i ≤ xs.length ∧ Pv i σ H, ⟨xs.length, by simp, Nat.zero_le _, h0⟩, ?_⟩
  rintro i m σ H ⟨rfl, hi, pv⟩
  have sq := hl i σ H hi pv
  by_cases hlt : i < xs.length
  · have hx : xs[i]? = some xs[i] := List.getElem?_eq_getElem hlt
    have hgo : J.go i H := by
      rcases hJ with ⟨rfl, rfl⟩ | ⟨rfl, rfl⟩
      · exact ⟨xs, _, sq, hx⟩
      · exact ⟨xs, _, sq, hx⟩
    refine .inr ⟨hgo, Pv (i + 1), fun σ' H' q => ⟨xs.length - (i + 1), by omega, rfl, hlt, q⟩, fun x H' y => ?_⟩
    have hy : ∃ T z, x = .ref T ∧ H T = none ∧ H' = upd H T (.tup [.int (i : Nat), z]) ∧ xs[i]? = some z := by
      rcases hJ with ⟨rfl, rfl⟩ | ⟨rfl, rfl⟩
      · obtain ⟨T, z, e1, e2, e3, e4⟩ := y; exact ⟨T, z, e1, e2, e3, e4 xs sq⟩
      · obtain ⟨T, z, e1, e2, e3, e4⟩ := y; exact ⟨T, z, e1, e2, e3, e4 xs sq⟩
    obtain ⟨T, z, rfl, e2, rfl, e4⟩ := hy
    exact hs i z σ H T _ e4 pv e2 rfl
  · have e : i = xs.length := by omega
    subst e
    refine .inl ⟨?_, hd σ H pv⟩
    rcases hJ with ⟨rfl, rfl⟩ | ⟨rfl, rfl⟩
    · exact ⟨xs, sq, Nat.le_refl _⟩
    · exact ⟨xs, sq, Nat.le_refl _⟩
theorem r_enS {K : PySem.W.Frag} {r : Addr} {xs : List V} {ta : TA} {g : TG} {tb : TS} {D : Ends} {σ : St} {H : Hp} (ha : ∀ QA : List V → Hp → Prop, QA [.ref r] H → ta σ H QA) (hq : SqL K H r xs ∨ SqT K H r xs) (Pv : Nat → St → Hp → Prop) (h0 : Pv 0 σ H) (hl : ∀ i σ H', Pv i σ H' → Same H H')
    (hs : ∀ i x σ H T H', xs[i]? = some x → Pv i σ H → H T = none → H' = upd H T (.tup [.int (i : Nat), x]) → g (.ref T) σ H' fun σ2 H2 => tb { D with nx := Pv (i + 1), ct := Pv (i + 1), bk := D.nx } σ2 H2) (hd : ∀ σ H, Pv xs.length σ H → D.nx σ H) :
    iEnumS K ta σ H fun J H1 => ∃ W : Nat → Nat → St → Hp → Prop, (∃ m, W 0 m σ H1) ∧ ∀ i m σ H, W i m σ H →
      (J.stop i H ∧ D.nx σ H) ∨ (J.go i H ∧ ∃ N : St → Hp → Prop, (∀ σ' H', N σ' H' → ∃ m', m' < m ∧ W (i + 1) m' σ' H') ∧ ∀ x H', J.yld i H x H' → g x σ H' fun σ2 H2 => tb { D with nx := N, ct := N, bk := D.nx } σ2 H2) := by
  refine ha _ ⟨r, xs, rfl, ?_⟩
  rcases hq with hq | hq
  · exact .inl ⟨hq, for_en _ _ (.inl ⟨rfl, rfl⟩) Pv h0 (fun i σ H' _ pv => Same.seq (hl i σ H' pv) hq) hs hd⟩
  · refine .inr ⟨hq, for_en _ _ (.inr ⟨rfl, rfl⟩) Pv h0 (fun i σ H' _ pv => ?_) hs hd⟩
    have s := hl i σ H' pv
    rcases hq with (h | ⟨o, h⟩) | h
    · exact .inl (.inl (s _ _ h))
    · exact .inl (.inr ⟨o, s _ _ h⟩)
    · exact .inr h

/-! ### sets of ints, dict comprehensions stored in a name -/
theorem u1 {u c : Nat} (h : u + 64 < c) : u + 1 < c := by omega
/-- the ints at a, as a set: its members, their number -/
def SetI (P : Program) (w : World) (a : Addr) (S : Int → Bool) (n : Nat) : HO := .ext fun h => h.SetOf (PySem.intKind P w) a S n
def rSetI (K : PySem.W.Frag) (P : Program) (w : World) : List V → Hp → VK → Prop := fun xs H Q => ∃ (p : Addr) (ns : List Int), xs = [.ref p] ∧ SqL K H p (ns.map V.int) ∧ ns.length ≤ 4000 ∧ ∀ (a : Addr) (n : Nat), H a = none → n ≤ ns.length → Q (.ref a) (upd H a (SetI P w a (fun k => decide (k ∈ ns)) n))
def rAddI (P : Program) (w : World) : V → List V → Hp → VK → Prop := fun x xs H Q => ∃ (a : Addr) (k : Int) (S : Int → Bool) (n : Nat), x = .ref a ∧ xs = [.int k] ∧ H a = some (SetI P w a S n) ∧ n ≤ 4000 ∧
  ∀ m : Nat, m ≤ n + 1 → Q .non (upd H a (SetI P w a (fun j => S j || decide (j = k)) m))
def rInI (P : Program) (w : World) (neg : Bool) : R2 := fun x y H Q => ∃ (k : Int) (a : Addr) (S : Int → Bool) (n : Nat), x = .int k ∧ y = .ref a ∧ H a = some (SetI P w a S n) ∧ Q (.bl (if neg then !S k else S k)) H
def tAddI (P : Program) (w : World) (to : TE) (t : TA) : TE := fun σ H Q => to σ H fun x H1 => (∃ a S n, x = .ref a ∧ H1 a = some (SetI P w a S n)) ∧ t σ H1 fun xs H2 => rAddI P w x xs H2 Q
section
open PySem.Spec PyProof.Rows
theorem setI_new {P : Program} {w : World} {H : Hp} {h : Heap} {a : Addr} {S : Int → Bool} {n : Nat} (R : h.SetOf (PySem.intKind P w) a S n) : ObjOk P w H h a (SetI P w a S n) :=
  ⟨R, let ⟨o, _, _, _, ho, _⟩ := R; ⟨o, ho⟩, fun h1 h2 ⟨o, es, ep, t, ho, r⟩ k => ⟨o, es, ep, t, k o ho, r⟩⟩
theorem mem_first (ns : List Int) (k : Int) : (firstMet (fun i => ns.getD i 0) ns.length).any (· == k) = decide (k ∈ ns) := by
  rw [firstMet_any]
  have e : (List.range ns.length).map (fun i => ns.getD i 0) = ns := by
    apply List.ext_getElem (by simp)
    intro i h1 h2
    simp [h2]
  rw [e]
  rw [Bool.eq_iff_iff, List.any_eq_true, decide_eq_true_eq]
  exact ⟨fun ⟨x, hx, e⟩ => by rw [← eq_of_beq e]; exact hx, fun h => ⟨k, h, beq_self_eq_true k⟩⟩
variable {X : Cx}
theorem setI_get {pins : List (Addr × Obj)} {σ : L2.St} {H : Hp} {s : Shared} {a : Addr} {S : Int → Bool} {n : Nat} (I : Inv X pins σ H s) (ha : H a = some (SetI X.prog X.w a S n)) : s.heap.SetOf (PySem.intKind X.prog X.w) a S n := (I.hok a _ ha).1
theorem cr_setI (hc : X.calm = true) : CallR X (.type "set") (rSetI X.K X.prog X.w) := by
  intro pins s σ H xs us Q I r h
  obtain ⟨p, ns, rfl, hq, hl, q⟩ := h
  obtain ⟨its, rv, pl, hz⟩ := I.list hq
  rw [Vals.ref1 r]
  have hlen : its.toArray.size = ns.length := by rw [List.size_toArray, ← rv.length, List.length_map]
  refine call_set_list (ns := ns) (I.ok.hd hc) pl.isList (by simpa using rv.ints) (by rw [hlen]; unfold scanBound; omega) fun h' tk hS hk => ?_
  rw [hlen] at hS
  have hS' : h'.SetOf (PySem.intKind X.prog X.w) s.heap.objs.size (fun k => decide (k ∈ ns)) (firstMet (fun i => ns.getD i 0) ns.length).length := SetOf_congr hS (fun k => mem_first ns k) rfl
  exact ⟨.ref s.heap.objs.size, _, I.laid (t' := tk) (fun b u e => hk b u (Heap.lt_size e) e) (Nat.le_refl _) (setI_new hS'), rfl, q _ _ (I.hok.fresh (Nat.le_refl _)) (firstMet_length_le _ _)⟩
theorem mt_addI : MtR X "set.add" (rAddI X.prog X.w) := by
  intro pins s σ H x xs v us Q I rx rxs h
  obtain ⟨a, k, S, n, rfl, rfl, ha, room, q⟩ := h
  cases rx
  cases rxs with
  | cons ry rt =>
    cases rt
    obtain ⟨tk, rfl⟩ := ry
    refine call_set_add (knd := PySem.intKind X.prog X.w) (k := k) (intKind_is _ _ _ _) rfl (setI_get I ha) (by unfold scanBound; omega) fun h' sb new => ?_
    have he : ∃ u, h'.get? a = some u := let ⟨o, _, _, _, ho, _⟩ := new; ⟨o, ho⟩
    exact ⟨.non, _, I.write (e := a) (t' := _) (by rw [ha]; trivial) (.inl rfl) (fun b u hb hu => (sb.2 b hb).trans hu) he (setI_new new), rfl, q _ (by split <;> omega)⟩
theorem or_inI : OpR X (compareOp .In) (rInI X.prog X.w false) := by
  intro pins s σ H x y v u Q I rx ry h
  obtain ⟨k, a, S, n, rfl, rfl, ha, q⟩ := h
  obtain ⟨tk, rfl⟩ := rx
  cases ry
  exact wpAny_inSet_of (intKind_is _ _ _ _) rfl (setI_get I ha) ⟨.bl (S k), H, I.tok _, rfl, q⟩
theorem or_ninI : OpR X (compareOp .NotIn) (rInI X.prog X.w true) := by
  intro pins s σ H x y v u Q I rx ry h
  obtain ⟨k, a, S, n, rfl, rfl, ha, q⟩ := h
  obtain ⟨tk, rfl⟩ := rx
  cases ry
  exact wpAny_notInSet_of (intKind_is _ _ _ _) rfl (setI_get I ha) ⟨.bl (!S k), H, I.tok _, rfl, q⟩
end
section
open PySem.Spec PyProof.Rows
variable {X : Cx} {o e : Expr} {es : List Expr} {to : TE} {t : TA} {apos cpos : Pos}
theorem pe_addI (ho : PE X o to) (ha : PA X (e :: es) t)
    (hbase : attributeBase o "add" X.env (eval o X.env) = eval o X.env := by rfl)
    (hfew : ((backTo cpos (starEach (e :: es) X.env)).all (fun x => !x.1) && (backToKw cpos (keywordEach [] X.env)).all (fun x => x.1.isSome) && decide ((e :: es).length + ([] : List Keyword).length + (if ([] : List Keyword).isEmpty then 0 else 1) < 30)) = true := by rfl)
    (hline : (apos.endLine == cpos.line) = true := by rfl) (hs : starEach (e :: es) X.env = (false, eval e X.env) :: starEach es X.env := by rfl) (hplain : (backTo cpos (starEach es X.env)).any (·.1) = false := by rfl) :
    PE X (.Call (.Attribute o "add" apos) (e :: es) [] cpos) (tAddI X.prog X.w to t) := by
  refine ⟨fun pins s σ H Q I h => wpAny_Call_method_late hbase hfew hline rfl (thn (ho.run pins s σ H _ I h) fun v s1 ⟨x, H1, I1, r1, ty, q1⟩ => ?_)⟩
  obtain ⟨a, S, n, rfl, hka⟩ := ty
  have hS := setI_get I1 hka
  cases r1
  refine ⟨"set", "set.add", F.plainAttrs_set, F.slot_set_add, F.type_set_add, hS.typeIs, hS.noDict, ?_⟩
  have hA := ha.run cpos pins s1 σ H1 _ I1 q1
  rw [hs] at hA ⊢
  refine Calls.callWith_builtin ?_ (Calls.evalArgs_plain (thn hA fun us s2 ⟨vs, H2, I2, r2, q2⟩ => mt_addI pins s2 σ H2 (.ref a) vs (.ref a) us Q I2 rfl r2 q2))
  show (false || (backTo cpos (starEach es X.env)).any (·.1)) = false
  rw [hplain] <;> rfl
theorem sw_trueD {ek ev : Expr} {gs : List Comprehension} {scope : Scope} {pos py : Pos} {y : Str} {l : Nat} {env : Env} (hk : env.scope.kind = .function) (hy : env.scope.names.lookup y = some .local) (hl : (py.line == pos.line) = true) (ha : (scope.names.any fun (n, k) => n == y && (k == .local || k == .cell)) = false) :
    swapsWith (.DictComp ek ev gs scope pos) (some (.Name y py)) l env = pure true := by
  have hb : env.blockKind = .function := by unfold Env.blockKind; rw [hk]; rfl
  have ky : env.kindOf y = some .local := hy
  unfold swapsWith
  simp only [hb, ky, ha, Expr.pos, hl]
  rfl
theorem ps_setDc {i : Nat} {y : Str} {py : Pos} {kx vx tg iter : Expr} {ifs : List Expr} {scope : Scope} {own : List (Str × Nat)} {pos spos : Pos} {wi : TI} {g : TG} {tt : TT} {tk tv : TE} (hc : X.calm = true) (hN : X.N.Nodup) (hy : X.N[i]? = some y) (hyl : X.env.scope.names.lookup y = some .local)
    (hsw : swapsWith (.DictComp kx vx [⟨tg, iter, ifs, 0⟩] scope pos) (some (.Name y py)) spos.line X.env = pure true) (hi : PI X tg iter wi) (ok : BlkOk X.N X.env.scope scope own)
    (hg : ∀ (s : Shared) (H : Hp) (C : Addr) (cl : List (Str × Addr)) (fp : List Addr), PG (X.blk s H scope (compEnvC scope cl C X.env) fp) tg g) (ht : ∀ (s : Shared) (H : Hp) (C : Addr) (cl : List (Str × Addr)) (fp : List Addr), PTs (X.blk s H scope (compEnvC scope cl C X.env) fp) ifs tt)
    (hk : ∀ (s : Shared) (H : Hp) (C : Addr) (cl : List (Str × Addr)) (fp : List Addr), PE (X.blk s H scope (compEnvC scope cl C X.env) fp) kx tk)
    (he : ∀ (s : Shared) (H : Hp) (C : Addr) (cl : List (Str × Addr)) (fp : List Addr), PE (X.blk s H scope (compEnvC scope cl C X.env) fp) vx tv) (hs : ∀ x, foldedSetIterable iter X.env x = pure x := by intro _; rfl) :
    PS X (.Assign [.Name y py] (.DictComp kx vx [⟨tg, iter, ifs, 0⟩] scope pos) spos) (tAsg (tDc wi g tt tk tv (own.map (·.2))) (gName i)) := by
  refine ⟨fun pins s σ H D I h => ?_⟩
  rw [exec_Assign_Name_used _ _ _ _ hsw]
  have h : tDc wi g tt tk tv (own.map (·.2)) σ H (fun x H1 => gName i x σ H1 D.nx) := h
  have run := dc_core (Qf := fun _ s' => SP X pins D .next s') (use := some (assign (.Name y py) X.env)) (pos := pos) (pos' := firstIterPos [⟨tg, iter, ifs, 0⟩] pos) hc hN I hi ok hg ht hk he hs h fun L C s' m H' I' q hn f => by
    show wpAny _ _ (assign (.Name y py) X.env (.ref L)) _ _ _
    refine wpAny_assign_Name (store_ok2 (v := V.ref L) I' hN hy (.inl hyl) rfl (fun s2 I2 ⟨a, sb, ha⟩ => ?_) (.inr hyl))
    obtain ⟨f0, f1, f2, f3, f4, f5⟩ := f
    have haC : C ≠ a := ha.elim (fun z => by rw [z]; exact f1) fun z e => f4 y a z e.symm
    exact ⟨m, hn.sameBut sb haC, fun h3 sb3 => ⟨_, H', I2.turned (t' := s2.toks) (fun b o hb e => (sb3.2 b hb).trans e) f0 f1 f3 f4 f5, q⟩⟩
  refine wpAny_bind (wpAny_standAt (wpAny_bind (wpAny_bind (thn run fun _ s' hq => wpAny_pure (wpAny_pure hq)))))
end

/-! ### walks over a list or a tuple -/
def iSeq (K : PySem.W.Frag) (tl : TE) : TI := fun σ H R => iList K tl σ H R ∨ iTup K tl σ H R
theorem pi_seq {X : Cx} {tg l : Expr} {tl : TE} (hl : PE X l tl) : PI X tg l (iSeq X.K tl) := ⟨fun pins s σ H R I h => h.elim ((pi_list hl).run pins s σ H R I) ((pi_tup hl).run pins s σ H R I)⟩
def SeqV (H : Hp) (p : Addr) (xs : List V) : Prop := H p = some (.lst xs) ∨ H p = some (.tup xs)
theorem SeqV.keep {H H' : Hp} {p : Addr} {xs : List V} (h : SeqV H p xs) (s : Same H H') : SeqV H' p xs := h.imp (s _ _) (s _ _)
theorem SeqV.sq {K : PySem.W.Frag} {H : Hp} {p : Addr} {xs : List V} (h : SeqV H p xs) : SqL K H p xs ∨ SqT K H p xs := h.imp SqL.of SqT.of
theorem r_forSeq {K : PySem.W.Frag} {tl : TE} {g : TG} {tb : TS} {D : Ends} {σ : St} {H : Hp} {p : Addr} {xs : List V} (Pv : Nat → St → Hp → Prop) (hx : ∀ Q : VK, Q (.ref p) H → tl σ H Q) (h : SeqV H p xs) (h0 : Pv 0 σ H) (hk : ∀ i σ H', Pv i σ H' → ∀ o, H p = some o → H' p = some o)
    (hs : ∀ i x σ H', xs[i]? = some x → Pv i σ H' → g x σ H' fun σ2 H2 => tb { D with nx := Pv (i + 1), ct := Pv (i + 1), bk := D.nx } σ2 H2) (hd : ∀ σ H', Pv xs.length σ H' → D.nx σ H') : tFor (iSeq K tl) g tb D σ H := by
  rcases h with h | h
  · exact r_for (.inl (r_iL (hx _ ⟨p, rfl, ⟨_, SqL.of h⟩, for_list (K := K) (a := p) (xs := xs) Pv h0 (fun i σ H' _ q => SqL.of (hk i σ H' q _ h)) hs hd⟩)))
  · exact r_for (.inr (r_iT (hx _ ⟨p, rfl, ⟨_, SqT.of h⟩, for_tup (K := K) (a := p) (xs := xs) Pv h0 (fun i σ H' _ q => SqT.of (hk i σ H' q _ h)) hs hd⟩)))
theorem r_lcSeq {K : PySem.W.Frag} {tl : TE} {g : TG} {tt : TT} {te : TE} {vs : List Nat} {σ : St} {H : Hp} {Qd : Addr → Hp → Prop} {p : Addr} {xs : List V} (Pv : Addr → Nat → Hp → Prop) (hx : ∀ Q : VK, Q (.ref p) H → tl σ H Q) (h : SeqV H p xs) (h0 : ∀ D, H D = none → Pv D 0 (upd H D (.lst []))) (hk : ∀ D i H', H D = none → Pv D i H' → ∀ o, H p = some o → H' p = some o)
    (hs : ∀ D i x H', H D = none → xs[i]? = some x → Pv D i H' → g x (wipe σ vs) H' fun σ2 H2 => wipe σ2 vs = wipe σ vs ∧ tt σ2 H2 fun b H3 =>
      if b = true then te σ2 H3 fun y H4 => ∃ acc, H4 D = some (.lst acc) ∧ acc.length < sizeLine ∧ Pv D (i + 1) (upd H4 D (.lst (acc ++ [y]))) else Pv D (i + 1) H3) (hd : ∀ D H', H D = none → Pv D xs.length H' → Qd D H') : iSeq K tl σ H fun J H1 => ∀ D, H1 D = none → ∃ W : Nat → Nat → Hp → Prop, (∃ m, W 0 m (upd H1 D (.lst []))) ∧ ∀ i m H, W i m H →
      (J.stop i H ∧ Qd D H) ∨ (J.go i H ∧ ∃ Nx : Hp → Prop, (∀ H', Nx H' → ∃ m', m' < m ∧ W (i + 1) m' H') ∧ ∀ x H', J.yld i H x H' → g x (wipe σ vs) H' fun σ2 H2 => wipe σ2 vs = wipe σ vs ∧ tt σ2 H2 fun b H3 =>
        if b = true then te σ2 H3 fun y H4 => ∃ acc, H4 D = some (.lst acc) ∧ acc.length < sizeLine ∧ Nx (upd H4 D (.lst (acc ++ [y]))) else Nx H3) := by
  rcases h with h | h
  · exact (.inl (r_iL (hx _ ⟨p, rfl, ⟨_, SqL.of h⟩, fun D hD => lc_list (K := K) (a := p) (xs := xs) (Pv D) (h0 D hD) (fun i H' _ q => SqL.of (hk D i H' hD q _ h)) (fun i x H' a b => hs D i x H' hD a b) (fun H' q => hd D H' hD q)⟩)))
  · exact (.inr (r_iT (hx _ ⟨p, rfl, ⟨_, SqT.of h⟩, fun D hD => lc_tup (K := K) (a := p) (xs := xs) (Pv D) (h0 D hD) (fun i H' _ q => SqT.of (hk D i H' hD q _ h)) (fun i x H' a b => hs D i x H' hD a b) (fun H' q => hd D H' hD q)⟩)))
theorem r_enS2 {K : PySem.W.Frag} {r : Addr} {xs : List V} {ta : TA} {g : TG} {tb : TS} {D : Ends} {σ : St} {H : Hp} (ha : ∀ QA : List V → Hp → Prop, QA [.ref r] H → ta σ H QA) (hq : SeqV H r xs) (Pv : Nat → St → Hp → Prop) (h0 : Pv 0 σ H) (hl : ∀ i σ H', Pv i σ H' → ∀ o, H r = some o → H' r = some o)
    (hs : ∀ i x σ H T H', xs[i]? = some x → Pv i σ H → H T = none → H' = upd H T (.tup [.int (i : Nat), x]) → g (.ref T) σ H' fun σ2 H2 => tb { D with nx := Pv (i + 1), ct := Pv (i + 1), bk := D.nx } σ2 H2) (hd : ∀ σ H, Pv xs.length σ H → D.nx σ H) : tFor (iEnumS K ta) g tb D σ H := by
  refine r_for (ha _ ⟨r, xs, rfl, ?_⟩)
  rcases hq with hq | hq
  · exact .inl ⟨SqL.of hq, for_en _ _ (.inl ⟨rfl, rfl⟩) Pv h0 (fun i σ H' _ pv => SqL.of (hl i σ H' pv _ hq)) hs hd⟩
  · exact .inr ⟨SqT.of hq, for_en _ _ (.inr ⟨rfl, rfl⟩) Pv h0 (fun i σ H' _ pv => SqT.of (hl i σ H' pv _ hq)) hs hd⟩

/-! ### faults of rows -/
abbrev L3 := Int × Int × Int
def triV (l : L3) : List V := [.int l.1, .int l.2.1, .int l.2.2]
def TrisAt (H : Hp) (xs : List V) (ls : List L3) : Prop := xs.length = ls.length ∧ ∀ (i : Nat) (l : L3), ls[i]? = some l → ∃ t : Addr, xs[i]? = some (.ref t) ∧ H t = some (.tup (triV l))
theorem TrisAt.keep {H H' : Hp} {xs : List V} {ls : List L3} (h : TrisAt H xs ls) (s : Same H H') : TrisAt H' xs ls := ⟨h.1, fun i g hg => let ⟨t, e, z⟩ := h.2 i g hg; ⟨t, e, s _ _ z⟩⟩
theorem TrisAt.upd {H : Hp} {L : Addr} {zs xs : List V} {o : HO} {ls : List L3} (h : TrisAt H xs ls) (e : H L = some (.lst zs)) : TrisAt (L2.upd H L o) xs ls := ⟨h.1, fun i g hg => let ⟨t, e1, z⟩ := h.2 i g hg; ⟨t, e1, (upd_ne (fun y => by rw [y, e] at z; cases z)).trans z⟩⟩
theorem TrisAt.nil {H : Hp} : TrisAt H [] [] := ⟨rfl, fun i g h => by simp at h⟩
theorem TrisAt.snoc {H : Hp} {xs : List V} {ls : List L3} {t : Addr} {g : L3} (h : TrisAt H xs ls) (e : H t = some (.tup (triV g))) : TrisAt H (xs ++ [.ref t]) (ls ++ [g]) := ⟨by rw [List.length_append, List.length_append, h.1]; rfl, fun i g' hg => by
  by_cases hi : i < ls.length
  · rw [List.getElem?_append_left hi] at hg
    rw [List.getElem?_append_left (by rw [h.1]; exact hi)]
    exact h.2 i g' hg
  · have hl := (List.getElem?_eq_some_iff.mp hg).1
    rw [List.length_append, List.length_singleton] at hl
    obtain rfl : i = ls.length := by omega
    rw [List.getElem?_append_right (Nat.le_refl _), Nat.sub_self] at hg
    obtain rfl : g = g' := by simpa using hg
    exact ⟨t, by rw [← h.1, List.getElem?_append_right (Nat.le_refl _), Nat.sub_self]; rfl, e⟩⟩
theorem TrisAt.get {H : Hp} {xs : List V} {ls : List L3} {i : Nat} {x : V} (h : TrisAt H xs ls) (hx : xs[i]? = some x) : ∃ (t : Addr) (l : L3), x = .ref t ∧ ls[i]? = some l ∧ H t = some (.tup [.int l.1, .int l.2.1, .int l.2.2]) := by
  obtain ⟨l, hl⟩ : ∃ l, ls[i]? = some l := ⟨_, List.getElem?_eq_getElem (by have := (List.getElem?_eq_some_iff.mp hx).1; rw [h.1] at this; exact this)⟩
  obtain ⟨t, e, z⟩ := h.2 i l hl
  exact ⟨t, l, Option.some.inj (hx.symm.trans e), hl, z⟩
/-- the first number below m at which P holds -/
def first (P : Nat → Bool) (m : Nat) : Option Nat := (List.range m).find? P
theorem first_none {P : Nat → Bool} {m : Nat} (h : ∀ i, i < m → P i = false) : first P m = none := by
  unfold first
  rw [List.find?_eq_none]
  intro i hi
  rw [h i (List.mem_range.mp hi)]
  exact Bool.false_ne_true
theorem first_some {P : Nat → Bool} {m i : Nat} (hi : i < m) (h : P i = true) (hb : ∀ j, j < i → P j = false) : first P m = some i := by
  unfold first
  rw [List.find?_range_eq_some]
  exact ⟨h, List.mem_range.mpr hi, fun j hj => by rw [hb j hj]; rfl⟩
theorem first_no {P : Nat → Bool} {m : Nat} (h : first P m = none) : ∀ i, i < m → P i = false := fun i hi => by
  unfold first at h
  rw [List.find?_eq_none] at h
  exact Bool.eq_false_iff.mpr (h i (List.mem_range.mpr hi))
theorem first_yes {P : Nat → Bool} {m i : Nat} (h : first P m = some i) : i < m ∧ P i = true ∧ ∀ j, j < i → P j = false := by
  unfold first at h
  rw [List.find?_range_eq_some] at h
  exact ⟨List.mem_range.mp h.2.1, h.1, fun j hj => by have := h.2.2 j hj; simpa using this⟩
theorem first_congr {P P' : Nat → Bool} {m : Nat} (h : ∀ i, i < m → P i = P' i) : first P m = first P' m := by
  cases e : first P' m with
  | none => exact first_none fun i hi => (h i hi).trans (first_no e i hi)
  | some i =>
    obtain ⟨h1, h2, h3⟩ := first_yes e
    exact first_some h1 ((h i h1).trans h2) fun j hj => (h j (by omega)).trans (h3 j hj)
abbrev Flt := Option (Str × Int)
def FltAt (H : Hp) (v : V) : Flt → Prop
  | none => v = .non
  | some (s, i) => ∃ p, v = .ref p ∧ H p = some (.tup [.str s, .int i])
theorem FltAt.keep {H H' : Hp} {v : V} {f : Flt} (h : FltAt H v f) (s : Same H H') : FltAt H' v f := by
  cases f with
  | none => exact h
  | some x => obtain ⟨p, e, h⟩ := h; exact ⟨p, e, s _ _ h⟩
def atIx (w : Str) (o : Option Nat) : Flt := Option.map (fun i : Nat => (w, (i : Int))) o
theorem r_orT {K : PySem.W.Frag} {ta tb : TE} {σ : St} {H : Hp} {Q : VK} (h : ta σ H fun x H1 => ∃ k, TruV K x H1 k ∧ if k = true then Q x H1 else tb σ H1 Q) : tOrT K ta tb σ H Q := h
/-- f or g, of faults -/
theorem r_orF {K : PySem.W.Frag} {x : V} {H : Hp} {f : Flt} {A B : Prop} (h : FltAt H x f) (h1 : f ≠ none → A) (h2 : f = none → B) : ∃ k, TruV K x H k ∧ if k = true then A else B := by
  cases f with
  | none =>
    have h : x = .non := h
    subst h
    exact ⟨false, rfl, iteF (h2 rfl)⟩
  | some f =>
    obtain ⟨p, rfl, e⟩ := h
    exact ⟨true, .inr (.inl ⟨_, SqT.of e, rfl⟩), iteT (h1 (fun z => nomatch z))⟩
/-! what is wrong -/
def badForm (l : L3) : Bool := !decide (0 ≤ l.2.2 ∧ l.2.2 ≤ 1000000000000000)
def formF (rs : List L3) : Flt := atIx "form" (first (fun i => badForm (rs.getD i (0, 0, 0))) rs.length)
def badHand (n fs fr : Int) (g : Int × Int) : Bool := !decide ((fs ≤ g.1 ∧ g.1 < n) ∧ (fr ≤ g.2 ∧ g.2 < n) ∧ g.1 ≠ g.2)
def handF (n fs fr : Int) (ps : List (Int × Int)) : Flt := atIx "hand" (first (fun i => badHand n fs fr (ps.getD i (0, 0))) ps.length)
def againF (keys taken : List Int) : Flt := atIx "again" (first (fun i => decide (keys.getD i 0 ∈ taken ++ keys.take i)) keys.length)
def nobodyF (wanted keys : List Int) : Flt := (wanted.find? fun k => !decide (k ∈ keys)).map fun k => ("nobody", k)
/-- when a hand knows -/
def knownOf (rs : List L3) (roots : List Int) (D s : Int) : Int := if s ∈ roots then 0 else ((rs.find? fun l => decide (l.2.1 = s)).map fun l => l.2.2 + D).getD 0
def earlyF (rs : List L3) (roots : List Int) (D : Int) : Flt := atIx "early" (first (fun i => decide ((rs.getD i (0, 0, 0)).2.2 < knownOf rs roots D (rs.getD i (0, 0, 0)).1)) rs.length)
def near1 (w : Int) (m q : Int × Int) : Bool := decide (q.1 = m.1 ∧ -w < m.2 - q.2 ∧ m.2 - q.2 < w)
def nearP (w : Int) (prev : List (Int × Int)) (m : Int × Int) : Bool := prev.any (near1 w m)
def rowNear (w : Int) (marks : List (List (Int × Int))) (i : Nat) : Bool := (List.range (marks.getD i []).length).any fun j => nearP w ((marks.take i).flatten ++ (marks.getD i []).take j) ((marks.getD i []).getD j (0, 0))
def nearF (why : Str) (marks : List (List (Int × Int))) (w : Int) : Flt := if w = 0 then none else atIx why (first (rowNear w marks) marks.length)
/-! times kept by hand and slot -/
def kk (h s : Int) : List L2.Key := [.inl h, .inl s]
theorem kk_inj {h s h' s' : Int} : kk h s = kk h' s' ↔ h = h' ∧ s = s' := by
  unfold kk
  simp
structure Marks (w : Int) (kvs : List (List L2.Key × V)) (prev : List (Int × Int)) : Prop where
  of : ∀ h s v, valV kvs (kk h s) = some v → ∃ t, v = .int t ∧ (h, t) ∈ prev ∧ s = t / w
  at_ : ∀ q, q ∈ prev → valV kvs (kk q.1 (q.2 / w)) = some (.int q.2)
  len : kvs.length ≤ prev.length
theorem Marks.nil {w : Int} : Marks w [] [] := ⟨fun h s v e => (nomatch e), fun q hq => (nomatch hq), Nat.le_refl _⟩
theorem slot_near {w t t' : Int} (hw : 0 < w) (h1 : -w < t - t') (h2 : t - t' < w) : t' / w = t / w - 1 ∨ t' / w = t / w ∨ t' / w = t / w + 1 := by
  have a1 := Int.ediv_mul_le t (show w ≠ 0 by omega)
  have a2 := Int.lt_ediv_add_one_mul_self t hw
  have b1 := Int.ediv_mul_le t' (show w ≠ 0 by omega)
  have b2 := Int.lt_ediv_add_one_mul_self t' hw
  obtain ⟨x, hx⟩ : ∃ x, t / w = x := ⟨_, rfl⟩
  obtain ⟨y, hy⟩ : ∃ y, t' / w = y := ⟨_, rfl⟩
  rw [hx] at a1 a2 ⊢
  rw [hy] at b1 b2 ⊢
  rw [Int.add_mul, Int.one_mul] at a2 b2
  by_cases c1 : y + 2 ≤ x
  · have : (y + 2) * w ≤ x * w := Int.mul_le_mul_of_nonneg_right c1 (by omega)
    rw [Int.add_mul] at this
    omega
  · by_cases c2 : x + 2 ≤ y
    · have : (x + 2) * w ≤ y * w := Int.mul_le_mul_of_nonneg_right c2 (by omega)
      rw [Int.add_mul] at this
      omega
    · omega
theorem same_slot {w t t' : Int} (hw : 0 < w) (h : t / w = t' / w) : -w < t - t' ∧ t - t' < w := by
  have a1 := Int.ediv_mul_le t (show w ≠ 0 by omega)
  have a2 := Int.lt_ediv_add_one_mul_self t hw
  have b1 := Int.ediv_mul_le t' (show w ≠ 0 by omega)
  have b2 := Int.lt_ediv_add_one_mul_self t' hw
  rw [h] at a1 a2
  rw [Int.add_mul, Int.one_mul] at a2 b2
  omega
/-- what a look at three slots tells -/
theorem Marks.near {w : Int} {kvs : List (List L2.Key × V)} {prev : List (Int × Int)} (h : Marks w kvs prev) (hw : 0 < w) {a t : Int} :
    nearP w prev (a, t) = true ↔ ∃ s, (s = t / w - 1 ∨ s = t / w ∨ s = t / w + 1) ∧ ∃ t', valV kvs (kk a s) = some (.int t') ∧ -w < t - t' ∧ t - t' < w := by
  unfold nearP near1
  rw [List.any_eq_true]
  constructor
  · rintro ⟨q, hq, e⟩
    obtain ⟨e1, e2, e3⟩ := of_decide_eq_true e
    dsimp only at e1 e2 e3
    refine ⟨q.2 / w, slot_near hw e2 e3, q.2, ?_, e2, e3⟩
    have := h.at_ q hq
    rwa [e1] at this
  · rintro ⟨s, _, t', e, h1, h2⟩
    obtain ⟨t2, e2, hm, _⟩ := h.of a s _ e
    obtain rfl := V.int.inj e2
    exact ⟨(a, t'), hm, decide_eq_true ⟨rfl, h1, h2⟩⟩
theorem valV_put {kvs : List (List L2.Key × V)} {k j : List L2.Key} {v : V} : valV (putK kvs k v) j = if j = k then some v else valV kvs j := by
  unfold putK
  split
  · rename_i h
    rw [valV_map]
    rw [valV_any] at h
    by_cases c : j = k
    · rw [if_pos c]
      subst c
      obtain ⟨x, hx⟩ := Option.isSome_iff_exists.mp h
      rw [hx]
      simp
    · rw [if_neg c]
      cases valV kvs j <;> simp [c]
  · rename_i h
    rw [valV_any] at h
    exact valV_snoc k j v kvs (by simpa using h)
theorem Marks.put {w : Int} {kvs : List (List L2.Key × V)} {prev : List (Int × Int)} (h : Marks w kvs prev) (hw : 0 < w) {a t : Int} (hn : nearP w prev (a, t) = false) : Marks w (putK kvs (kk a (t / w)) (.int t)) (prev ++ [(a, t)]) := by
  have hno : ∀ q, q ∈ prev → ¬ (q.1 = a ∧ q.2 / w = t / w) := fun q hq ⟨e1, e2⟩ => by
    have : nearP w prev (a, t) = true := by
      unfold nearP near1
      rw [List.any_eq_true]
      have h2 := same_slot hw e2.symm
      exact ⟨q, hq, decide_eq_true ⟨e1, h2.1, h2.2⟩⟩
    rw [hn] at this
    exact Bool.false_ne_true this
  refine ⟨fun b s v e => ?_, fun q hq => ?_, ?_⟩
  · rw [valV_put] at e
    split at e
    · rename_i c
      obtain ⟨rfl, rfl⟩ := kk_inj.mp c
      obtain rfl := Option.some.inj e
      exact ⟨t, rfl, List.mem_append_right _ (List.mem_singleton.mpr rfl), rfl⟩
    · obtain ⟨t', e1, e2, e3⟩ := h.of b s v e
      exact ⟨t', e1, List.mem_append_left _ e2, e3⟩
  · rw [valV_put]
    rcases List.mem_append.mp hq with hq | hq
    · rw [if_neg fun z => hno q hq (kk_inj.mp z)]
      exact h.at_ q hq
    · rw [List.mem_singleton] at hq
      subst hq
      rw [if_pos rfl]
  · have h1 := h.len
    rw [List.length_append, List.length_singleton]
    unfold putK
    split
    · rw [List.length_map]; omega
    · rw [List.length_append, List.length_singleton]; omega

/-! ### the program's faults, read -/
theorem r_inI {P : Program} {w : World} {H : Hp} {Q : VK} {k : Int} {a : Addr} {S : Int → Bool} {n : Nat} (e : H a = some (SetI P w a S n)) (q : Q (.bl (S k)) H) : rInI P w false (.int k) (.ref a) H Q := ⟨k, a, S, n, rfl, rfl, e, q⟩
theorem r_ninI {P : Program} {w : World} {H : Hp} {Q : VK} {k : Int} {a : Addr} {S : Int → Bool} {n : Nat} (e : H a = some (SetI P w a S n)) (q : Q (.bl (!S k)) H) : rInI P w true (.int k) (.ref a) H Q := ⟨k, a, S, n, rfl, rfl, e, q⟩
theorem r_addI {P : Program} {w : World} {to : TE} {t : TA} {σ : St} {H : Hp} {Q : VK} (h : to σ H fun x H1 => (∃ a S n, x = .ref a ∧ H1 a = some (SetI P w a S n)) ∧ t σ H1 fun xs H2 => rAddI P w x xs H2 Q) : tAddI P w to t σ H Q := h
theorem isiLT {K : PySem.W.Frag} {H : Hp} {p : Addr} {xs : List V} (h : SeqV H p xs) : ∃ t, TyX K H (.ref p) t ∧ PySem.W.kitAny K t [.type "list", .type "tuple"] = some true := by
  rcases h with h | h
  · exact ⟨_, .base (.lst h), kitAny_cons (b := true) (kit_ty (by decide +kernel)) (fun z => Bool.noConfusion z) fun _ => rfl⟩
  · exact ⟨_, .base (.tup h), kitAny_cons (b := false) (kit_ty (by decide +kernel)) (fun _ => kitAny_cons (b := true) (kit_ty (by decide +kernel)) (fun z => Bool.noConfusion z) fun _ => rfl) (fun z => Bool.noConfusion z)⟩
theorem r_isiTu {K : PySem.W.Frag} {H : Hp} {Q : VK} {p : Addr} {xs : List V} {n : String} (b : Bool) (h : H p = some (.tup xs)) (hk : kitB "tuple" n = some b) (q : Q (.bl b) H) : rIsi K [.ref p, .ty n] H Q := r_isi (.base (.tup h)) (kit_ty hk) q
theorem at_end (zs : List Int) (s : Int) : atI ((zs ++ [s]).map V.int) (-1) = some (.int s) := by
  have e1 : ixN ((zs ++ [s]).map V.int).length (-1) = some zs.length := by
    rw [List.length_map, List.length_append, List.length_singleton]
    unfold ixN
    rw [if_neg (by decide), if_pos (by omega)]
    congr 1
    omega
  unfold atI
  rw [e1]
  show ((zs ++ [s]).map V.int)[zs.length]? = some (.int s)
  rw [List.getElem?_map, List.getElem?_append_right (Nat.le_refl _), Nat.sub_self]
  rfl
def okStart (s : Int) : Bool := decide (0 ≤ s ∧ s ≤ 1000000000000000)
def formS (ss : List Int) : Flt := atIx "form" (first (fun i => !okStart (ss.getD i 0)) ss.length)
def RowsG (H : Hp) (k : Nat) (xs : List V) (ss : List Int) : Prop := xs.length = ss.length ∧ ∀ (i : Nat) (s : Int), ss[i]? = some s → ∃ (t : Addr) (zs : List Int), xs[i]? = some (.ref t) ∧ H t = some (.tup ((zs ++ [s]).map V.int)) ∧ zs.length = k
theorem RowsG.get {H : Hp} {k : Nat} {xs : List V} {ss : List Int} {i : Nat} {x : V} (h : RowsG H k xs ss) (hx : xs[i]? = some x) : ∃ (t : Addr) (zs : List Int) (s : Int), x = .ref t ∧ ss[i]? = some s ∧ H t = some (.tup ((zs ++ [s]).map V.int)) ∧ zs.length = k := by
  obtain ⟨l, hl⟩ : ∃ l, ss[i]? = some l := ⟨_, List.getElem?_eq_getElem (by have := (List.getElem?_eq_some_iff.mp hx).1; rw [h.1] at this; exact this)⟩
  obtain ⟨t, zs, e, z⟩ := h.2 i l hl
  exact ⟨t, zs, l, Option.some.inj (hx.symm.trans e), hl, z⟩
theorem RowsG.keep {H H' : Hp} {k : Nat} {xs : List V} {ss : List Int} (h : RowsG H k xs ss) (s : Same H H') : RowsG H' k xs ss := ⟨h.1, fun i g hg => let ⟨t, zs, e, z, l⟩ := h.2 i g hg; ⟨t, zs, e, s _ _ z, l⟩⟩
def PairsAt (H : Hp) (xs : List V) (ps : List (Int × Int)) : Prop := xs.length = ps.length ∧ ∀ (i : Nat) (g : Int × Int), ps[i]? = some g → ∃ t : Addr, xs[i]? = some (.ref t) ∧ H t = some (.tup [.int g.1, .int g.2])
theorem PairsAt.keep {H H' : Hp} {xs : List V} {ls : List (Int × Int)} (h : PairsAt H xs ls) (s : Same H H') : PairsAt H' xs ls := ⟨h.1, fun i g hg => let ⟨t, e, z⟩ := h.2 i g hg; ⟨t, e, s _ _ z⟩⟩
theorem PairsAt.upd {H : Hp} {L : Addr} {zs xs : List V} {o : HO} {ls : List (Int × Int)} (h : PairsAt H xs ls) (e : H L = some (.lst zs)) : PairsAt (L2.upd H L o) xs ls := ⟨h.1, fun i g hg => let ⟨t, e1, z⟩ := h.2 i g hg; ⟨t, e1, (upd_ne (fun y => by rw [y, e] at z; cases z)).trans z⟩⟩
theorem PairsAt.nil {H : Hp} : PairsAt H [] [] := ⟨rfl, fun i g h => by simp at h⟩
theorem PairsAt.snoc {H : Hp} {xs : List V} {ls : List (Int × Int)} {t : Addr} {g : Int × Int} (h : PairsAt H xs ls) (e : H t = some (.tup [.int g.1, .int g.2])) : PairsAt H (xs ++ [.ref t]) (ls ++ [g]) := ⟨by rw [List.length_append, List.length_append, h.1]; rfl, fun i g' hg => by
  by_cases hi : i < ls.length
  · rw [List.getElem?_append_left hi] at hg
    rw [List.getElem?_append_left (by rw [h.1]; exact hi)]
    exact h.2 i g' hg
  · have hl := (List.getElem?_eq_some_iff.mp hg).1
    rw [List.length_append, List.length_singleton] at hl
    obtain rfl : i = ls.length := by omega
    rw [List.getElem?_append_right (Nat.le_refl _), Nat.sub_self] at hg
    obtain rfl : g = g' := by simpa using hg
    exact ⟨t, by rw [← h.1, List.getElem?_append_right (Nat.le_refl _), Nat.sub_self]; rfl, e⟩⟩
theorem PairsAt.get {H : Hp} {xs : List V} {ls : List (Int × Int)} {i : Nat} {x : V} (h : PairsAt H xs ls) (hx : xs[i]? = some x) : ∃ (t : Addr) (g : Int × Int), x = .ref t ∧ ls[i]? = some g ∧ H t = some (.tup [.int g.1, .int g.2]) := by
  obtain ⟨l, hl⟩ : ∃ l, ls[i]? = some l := ⟨_, List.getElem?_eq_getElem (by have := (List.getElem?_eq_some_iff.mp hx).1; rw [h.1] at this; exact this)⟩
  obtain ⟨t, e, z⟩ := h.2 i l hl
  exact ⟨t, l, Option.some.inj (hx.symm.trans e), hl, z⟩
theorem getD_of {α : Type} {l : List α} {i : Nat} {x d : α} (h : l[i]? = some x) : l.getD i d = x := by
  rw [List.getD_eq_getElem?_getD, h]; rfl
def spIsRow : Sp := fun vs H Q _ => ∃ (t : Addr) (zs : List Int) (s : Int), vs = [.ref t, .int ((zs.length : Int) + 1)] ∧ H t = some (.tup ((zs ++ [s]).map V.int)) ∧ Q (.bl (okStart s)) H
def spForm : Sp := fun vs H Q _ => ∃ (p : Addr) (most : Int) (k : Nat) (xs : List V) (ss : List Int), vs = [.ref p, .int most, .int ((k : Int) + 1)] ∧ SeqV H p xs ∧ RowsG H k xs ss ∧ (xs.length : Int) ≤ most ∧ ∀ v H', Same H H' → FltAt H' v (formS ss) → Q v H'
def spHand : Sp := fun vs H Q _ => ∃ (p : Addr) (n fs fr : Int) (xs : List V) (ps : List (Int × Int)), vs = [.int n, .ref p, .int fs, .int fr] ∧ H p = some (.lst xs) ∧ PairsAt H xs ps ∧ ∀ v H', Same H H' → FltAt H' v (handF n fs fr ps) → Q v H'
def spAgain : Sp := fun vs H Q _ => ∃ (p r : Addr) (ks ts : List Int), vs = [.ref p, .ref r] ∧ H p = some (.lst (ks.map V.int)) ∧ H r = some (.lst (ts.map V.int)) ∧ ks.length ≤ 1000 ∧ ts.length ≤ 1000 ∧ ∀ v H', Same H H' → FltAt H' v (againF ks ts) → Q v H'
def spNobody : Sp := fun vs H Q _ => ∃ (p r : Addr) (ws ks : List Int), vs = [.ref p, .ref r] ∧ H p = some (.lst (ws.map V.int)) ∧ H r = some (.lst (ks.map V.int)) ∧ ks.length ≤ 4000 ∧ ∀ v H', Same H H' → FltAt H' v (nobodyF ws ks) → Q v H'
section
variable {P : Program} {w : World} {K : PySem.W.Frag} {mg : Str → Option Value} {base : Heap} {a : Adr}
theorem ok_is_row (T : Txt K mg a) : FnOk P w K mg base CX0 2 a.a_is_row a.d_is_row ["thing", "parts"] spIsRow := by
  refine T.F_is_row.ok sc_is_row (fun vs H Q E h => ?_) (fun cdv A outer s H vs Q E hr h => ?_)
  · obtain ⟨t, zs, s, rfl, _⟩ := h
    rfl
  · obtain ⟨t, zs, s0, rfl, et, k⟩ := h
    refine ⟨_, (pss_cons (ps_if (PW.pt (pw_or (pt_not (pt_val (pe_callB call_isi (by rfl) T.n_isinstance (by decide +kernel) (pa_cons (pv 0) (pa_cons (pe_bltn (v := .ty "tuple") (u := .type "tuple") (by rfl) T.n_tuple (by decide +kernel) rfl) pa_nil))))) (pw_or1 (pt_cmpR op_ne (pe_callB call_len_seq (by rfl) T.n_len (by decide +kernel) (pa_cons (pv 0) pa_nil)) (pv 1) (nomark _))))) (pss_one (ps_ret pe_bl))
 pss_nil)
 (pss_cons (ps_for (by exact PassesOwn.never) rfl (pi_tup (pv 0)) (pg_name (i := 2) sc_is_row.nd rfl (Or.inl rfl))
 (pss_one (ps_if (pt_not (pt_val (pe_call (ok_is_integer T) (hr.mono (by decide)) (by rfl) T.g_is_integer T.F_is_integer.kp T.b_is_integer .nil pass0 (pa_cons (pv 2) pa_nil)))) (pss_one (ps_ret pe_bl))
 pss_nil)))
 (pss_one (ps_ret (pe_chain op_le op_le pe_int (pe_ix ix_tup (pv 0) (pe_un un_neg pe_int) (fun _ _ => rfl)) (pe_glob (v := .int 1000000000000000) (by rfl) T.g_LATEST_START.choose_spec ⟨_, rfl⟩)))))), ?_⟩
    repeat first | walk_at "rd" | walk_at "rdi"
    refine r_isiTu true et (by decide +kernel) ?_
    repeat first | walk_at "rd" | walk_at "rdi"
    refine r_nDT (show ((((zs ++ [s0]).map V.int).length : Nat) : Int) = (zs.length : Int) + 1 by rw [List.length_map, List.length_append, List.length_singleton]; omega) ?_
    repeat walk_at "rd"
    refine ⟨t, rfl, ⟨_, SqT.of et⟩, for_tup (K := K) (a := t) (xs := (zs ++ [s0]).map V.int) (fun i σ H' => ∃ v2 : Option V, σ = [some (.ref t), some (.int ((zs.length : Int) + 1)), v2] ∧ H' = H) ⟨_, rfl, rfl⟩ (fun i σ H' _ ⟨_, _, e⟩ => by rw [e]; exact SqT.of et) ?_ ?_⟩
    · rintro i x σ H1 hi ⟨v2, rfl, rfl⟩
      obtain ⟨z, _, rfl⟩ := int_of_get hi
      repeat first | walk_at "rd" | walk_at "rdi"
      refine ⟨_, true, rfl, IntV.int, ?_⟩
      repeat first | exact ⟨_, rfl, rfl⟩ | walk_at "rd" | walk_at "rdi"
    · rintro σ H1 ⟨v2, rfl, rfl⟩
      repeat walk_at "rd"
      refine r_ixT et (at_end zs s0) ?_
      repeat walk_at "rd"
      refine ite_d (fun hc => ?_) (fun hc => ?_)
      · repeat walk_at "rd"
        rw [show okStart s0 = decide (s0 ≤ 1000000000000000) from decide_eq_decide.mpr ⟨fun h => h.2, fun h => ⟨hc, h⟩⟩] at k
        exact k
      · rw [show okStart s0 = false from decide_eq_false fun h => hc h.1] at k
        exact k
theorem ok_form_fault (T : Txt K mg a) : FnOk P w K mg base CX0 3 a.a_form_fault a.d_form_fault ["thing", "most", "parts"] spForm := by
  refine T.F_form_fault.ok sc_form_fault (fun vs H Q E h => ?_) (fun cdv A outer s H vs Q E hr h => ?_)
  · obtain ⟨p, most, k, xs, ss, rfl, _⟩ := h
    rfl
  · obtain ⟨p, most, n, xs, ss, rfl, ep, hA, hm, k⟩ := h
    refine ⟨_, (pss_cons (ps_if (PW.pt (pw_or (pt_not (pt_val (pe_callB call_isiT (by rfl) T.n_isinstance (by decide +kernel) (pa_cons (pv 0) (pa_cons (pe_tup (pa_cons (pe_bltn (v := .ty "list") (u := .type "list") (by rfl) T.n_list (by decide +kernel) rfl) (pa_cons (pe_bltn (v := .ty "tuple") (u := .type "tuple") (by rfl) T.n_tuple (by decide +kernel) rfl) pa_nil))) pa_nil))))) (pw_or1 (pt_cmpR op_gt (pe_callB call_len_seq (by rfl) T.n_len (by decide +kernel) (pa_cons (pv 0) pa_nil)) (pv 1) (nomark _))))) (pss_one (ps_ret (pe_tup (pa_cons pe_str (pa_cons (pe_un un_neg pe_int) pa_nil)))))
 pss_nil)
 (pss_cons (ps_for (by exact PassesOwn.never) rfl (pi_enumS (by rfl) T.n_enumerate (pa_cons (pv 0) pa_nil)) (pg_tup (by rfl) (pgs_cons (pg_name (i := 3) sc_form_fault.nd rfl (Or.inl rfl)) (pgs_cons (pg_name (i := 4) sc_form_fault.nd rfl (Or.inl rfl)) pgs_nil)))
 (pss_one (ps_if (pt_not (pt_val (pe_call (ok_is_row T) (hr.mono (by decide)) (by rfl) T.g_is_row T.F_is_row.kp T.b_is_row .nil pass0 (pa_cons (pv 4) (pa_cons (pv 2) pa_nil))))) (pss_one (ps_ret (pe_tup (pa_cons pe_str (pa_cons (pv 3) pa_nil)))))
 pss_nil)))
 (pss_one (ps_ret pe_non)))), ?_⟩
    walk_at "rdi"
    repeat walk_at "rd"
    refine new_at (Nat.le_of_ble_eq_true rfl) (fun u H1 nu s1 e1 => ?_)
    have ep := ep.keep s1
    have hA := hA.keep s1
    obtain ⟨ty, tyx, hk⟩ := isiLT (K := K) ep
    repeat walk_at "rd"
    refine ⟨_, u, [.ty "list", .ty "tuple"], ty, [.type "list", .type "tuple"], true, rfl, e1, .cons (.ty _) (.cons (.ty _) .nil), tyx, hk, ?_⟩
    repeat walk_at "rd"
    refine r_lenS ep.sq ?_
    repeat walk_at "rd"
    refine ite_ff (by omega) ?_
    repeat first | walk_at "rd" | walk_at "rdi"
    refine r_enS2 (xs := xs) (by intro QA q; (repeat walk_at "rd"); exact q) ep (fun i σ H' => ∃ v3 v4 : Option V, σ = [some (.ref p), some (.int most), some (.int ((n : Int) + 1)), v3, v4] ∧ Same H1 H' ∧ ∀ j, j < i → okStart (ss.getD j 0) = true) ⟨_, _, rfl, Same.refl _, fun j hj => absurd hj (by omega)⟩ (fun i σ H' ⟨_, _, _, s, _⟩ => s _) ?_ ?_
    · rintro i x σ H2 u2 H3 hx ⟨v3, v4, rfl, s2, hb⟩ nu2 rfl
      have s3 : Same H1 (upd H2 u2 (.tup [.int (i : Nat), x])) := s2.trans (Same.new nu2)
      obtain ⟨t, zs, s0, rfl, hs0, et, hn⟩ := (hA.keep s3).get hx
      repeat first | walk_at "rd" | walk_at "rdi"
      refine ⟨t, zs, s0, by rw [hn]; rfl, et, ?_⟩
      cases hok : okStart s0 with
      | true =>
        repeat first | exact ⟨_, _, rfl, s3, fun j hj => by
          by_cases c : j = i
          · subst c; rw [getD_of hs0]; exact hok
          · exact hb j (by omega)⟩ | walk_at "rd" | walk_at "rdi"
      | false =>
        repeat first | walk_at "rd" | walk_at "rdi"
        refine new_at (Nat.le_of_ble_eq_true rfl) (fun z H4 nz s4 ez => ?_)
        refine k _ _ ((s1.trans s3).trans s4) ?_
        have hi : i < ss.length := (List.getElem?_eq_some_iff.mp hs0).1
        unfold formS
        rw [first_some (i := i) hi (by rw [getD_of hs0, hok]; rfl) (fun j hj => by rw [hb j hj]; rfl)]
        exact ⟨z, rfl, ez⟩
    · rintro σ H2 ⟨v3, v4, rfl, s2, hb⟩
      repeat walk_at "rd"
      refine k _ _ (s1.trans s2) ?_
      rw [hA.1] at hb
      unfold formS
      rw [first_none (fun j hj => by rw [hb j hj]; rfl)]
      rfl
theorem ok_hand_fault (T : Txt K mg a) : FnOk P w K mg base CX0 1 a.a_hand_fault a.d_hand_fault ["n", "pairs", "first_sender", "first_receiver"] spHand := by
  refine T.F_hand_fault.ok sc_hand_fault (fun vs H Q E h => ?_) (fun cdv A outer s H vs Q E hr h => ?_)
  · obtain ⟨p, n, fs, fr, xs, ps, rfl, _⟩ := h
    rfl
  · obtain ⟨p, n, fs, fr, xs, ps, rfl, ep, hA, k⟩ := h
    refine ⟨_, (pss_cons (ps_for (by exact PassesOwn.never) rfl (pi_enumS (by rfl) T.n_enumerate (pa_cons (pv 1) pa_nil)) (pg_tup (by rfl) (pgs_cons (pg_name (i := 4) sc_hand_fault.nd rfl (Or.inl rfl)) (pgs_cons (pg_tup (by rfl) (pgs_cons (pg_name (i := 5) sc_hand_fault.nd rfl (Or.inl rfl)) (pgs_cons (pg_name (i := 6) sc_hand_fault.nd rfl (Or.inl rfl)) pgs_nil))) pgs_nil)))
 (pss_one (ps_if (PW.pt (pw_or (pt_not (pt_chain op_le op_lt (pv 2) (pv 5) (pv 0))) (pw_or (pt_not (pt_chain op_le op_lt (pv 3) (pv 6) (pv 0))) (pw_or1 (pt_cmpR op_eq (pv 5) (pv 6) (nomark _)))))) (pss_one (ps_ret (pe_tup (pa_cons pe_str (pa_cons (pv 4) pa_nil)))))
 pss_nil)))
 (pss_one (ps_ret pe_non))), ?_⟩
    repeat walk_at "rd"
    refine r_enS2 (xs := xs) (by intro QA q; (repeat walk_at "rd"); exact q) (.inl ep) (fun i σ H' => ∃ v4 v5 v6 : Option V, σ = [some (.int n), some (.ref p), some (.int fs), some (.int fr), v4, v5, v6] ∧ Same H H' ∧ ∀ j, j < i → badHand n fs fr (ps.getD j (0, 0)) = false) ⟨_, _, _, rfl, Same.refl _, fun j hj => absurd hj (by omega)⟩ (fun i σ H' ⟨_, _, _, _, s, _⟩ => s _) ?_ ?_
    · rintro i x σ H2 u2 H3 hx ⟨v4, v5, v6, rfl, s2, hb⟩ nu2 rfl
      have s3 : Same H (upd H2 u2 (.tup [.int (i : Nat), x])) := s2.trans (Same.new nu2)
      obtain ⟨t, g, rfl, hg, et⟩ := (hA.keep s3).get hx
      have hi : i < ps.length := (List.getElem?_eq_some_iff.mp hg).1
      have fin : ∀ D : Ends, D.rt = Q → badHand n fs fr g = true → tRet (tTup (tCons (tC (.str "hand")) (tCons (tVar 4) tNil))) D [some (.int n), some (.ref p), some (.int fs), some (.int fr), some (.int (i : Nat)), some (.int g.1), some (.int g.2)] (upd H2 u2 (.tup [.int (i : Nat), .ref t])) := fun D hD hbad => by
        repeat walk_at "rd"
        refine new_at (Nat.le_of_ble_eq_true rfl) (fun z H4 nz s4 ez => ?_)
        rw [hD]
        refine k _ _ (s3.trans s4) ?_
        unfold handF
        rw [first_some (i := i) hi (by rw [getD_of hg]; exact hbad) hb]
        exact ⟨z, rfl, ez⟩
      have go : badHand n fs fr g = false → ∃ v4' v5' v6' : Option V, [some (.int n), some (.ref p), some (.int fs), some (.int fr), some (.int (i : Nat)), some (.int g.1), some (.int g.2)] = [some (.int n), some (.ref p), some (.int fs), some (.int fr), v4', v5', v6'] ∧ Same H (upd H2 u2 (.tup [.int (i : Nat), .ref t])) ∧ ∀ j, j < i + 1 → badHand n fs fr (ps.getD j (0, 0)) = false := fun h => ⟨_, _, _, rfl, s3, fun j hj => by
        by_cases c : j = i
        · subst c; rw [getD_of hg]; exact h
        · exact hb j (by omega)⟩
      have bad : ¬ ((fs ≤ g.1 ∧ g.1 < n) ∧ (fr ≤ g.2 ∧ g.2 < n) ∧ g.1 ≠ g.2) → badHand n fs fr g = true := fun h => by unfold badHand; rw [decide_eq_false h]; rfl
      repeat first | walk_at "rd" | walk_at "rdi"
      refine ite_d (fun c1 => ?_) (fun c1 => ?_)
      · repeat first | walk_at "rd" | walk_at "rdi"
        refine r_nD (fun c2 => ?_) (fun c2 => ?_)
        · exact fin _ rfl (bad (by omega))
        · repeat first | walk_at "rd" | walk_at "rdi"
          refine ite_d (fun c3 => ?_) (fun c3 => ?_)
          · repeat first | walk_at "rd" | walk_at "rdi"
            refine r_nD (fun c4 => ?_) (fun c4 => ?_)
            · exact fin _ rfl (bad (by omega))
            · repeat first | walk_at "rd" | walk_at "rdi"
              refine ite_d (fun c5 => ?_) (fun c5 => ?_)
              · exact fin _ rfl (bad (by omega))
              · have := go (by unfold badHand; rw [decide_eq_true ⟨⟨c1, c2⟩, ⟨c3, c4⟩, c5⟩]; rfl)
                repeat first | exact this | walk_at "rd"
          · repeat first | exact fin _ rfl (bad (by omega)) | walk_at "rd"
      · repeat first | exact fin _ rfl (bad (by omega)) | walk_at "rd"
    · rintro σ H2 ⟨v4, v5, v6, rfl, s2, hb⟩
      repeat walk_at "rd"
      refine k _ _ s2 ?_
      rw [hA.1] at hb
      unfold handF
      rw [first_none hb]
      rfl
theorem ok_again_fault (T : Txt K mg a) : FnOk P w K mg base CX0 1 a.a_again_fault a.d_again_fault ["keys", "taken"] spAgain := by
  refine T.F_again_fault.ok sc_again_fault (fun vs H Q E h => ?_) (fun cdv A outer s H vs Q E hr h => ?_)
  · obtain ⟨p, r, ks, ts, rfl, _⟩ := h
    rfl
  · obtain ⟨p, r, ks, ts, rfl, ep, er, hk9, ht9, k⟩ := h
    refine ⟨_, (pss_cons (ps_set (i := 2) sc_again_fault.nd rfl (Or.inl rfl) (pe_callTy (cr_setI rfl) (by rfl) T.n_set (by decide +kernel) (pa_cons (pv 1) pa_nil)))
 (pss_cons (ps_for (by exact PassesOwn.never) rfl (pi_enumS (by rfl) T.n_enumerate (pa_cons (pv 0) pa_nil)) (pg_tup (by rfl) (pgs_cons (pg_name (i := 3) sc_again_fault.nd rfl (Or.inl rfl)) (pgs_cons (pg_name (i := 4) sc_again_fault.nd rfl (Or.inl rfl)) pgs_nil)))
 (pss_cons (ps_if (pt_cmpR or_inI (pv 4) (pv 2) (by rfl)) (pss_one (ps_ret (pe_tup (pa_cons pe_str (pa_cons (pv 3) pa_nil)))))
 pss_nil)
 (pss_one (ps_expr (pe_addI (pv 2) (pa_cons (pv 4) pa_nil))))))
 (pss_one (ps_ret pe_non)))), ?_⟩
    repeat walk_at "rd"
    refine ⟨r, ts, rfl, SqL.of er, by omega, fun c n nc hn => ?_⟩
    repeat walk_at "rd"
    have npc : p ≠ c := ne_of_none ep nc
    refine r_enS2 (xs := ks.map V.int) (by intro QA q; (repeat walk_at "rd"); exact q) (.inl ((upd_ne npc).trans ep)) (fun i σ H' => ∃ (v3 v4 : Option V) (S : Int → Bool) (m : Nat), σ = [some (.ref p), some (.ref r), some (.ref c), v3, v4] ∧ H' c = some (SetI P w c S m) ∧ (∀ j, S j = decide (j ∈ ts ++ ks.take i)) ∧ m ≤ ts.length + i ∧ Same H H' ∧ ∀ j, j < i → decide (ks.getD j 0 ∈ ts ++ ks.take j) = false) ⟨_, _, _, n, rfl, upd_same, fun j => by rw [List.take_zero, List.append_nil], hn, Same.new nc, fun j hj => absurd hj (by omega)⟩ (fun i σ H' ⟨_, _, _, _, _, _, _, _, s, _⟩ o ho => s _ _ ((upd_ne npc).symm.trans ho)) ?_ ?_
    · rintro i x σ H2 u2 H3 hx ⟨v3, v4, S, m, rfl, ec, hS, hm, s2, hb⟩ nu2 rfl
      have s3 : Same H (upd H2 u2 (.tup [.int (i : Nat), x])) := s2.trans (Same.new nu2)
      have ec : upd H2 u2 (.tup [.int (i : Nat), x]) c = some (SetI P w c S m) := (upd_ne (ne_of_none ec nu2)).trans ec
      obtain ⟨z, hz, rfl⟩ := int_of_get hx
      have hi : i < ks.length := (List.getElem?_eq_some_iff.mp hz).1
      have eu2 : upd H2 u2 (.tup [.int (i : Nat), .int z]) u2 = some (.tup [.int (i : Nat), .int z]) := upd_same
      generalize upd H2 u2 (.tup [.int (i : Nat), .int z]) = H3 at s3 ec eu2 ⊢
      repeat first | walk_at "rd" | walk_at "rdi"
      refine r_inI ec ?_
      rw [hS z]
      repeat first | walk_at "rd" | walk_at "rdi"
      refine ite_d (fun hc => ?_) (fun hc => ?_)
      · repeat walk_at "rd"
        refine new_at (Nat.le_of_ble_eq_true rfl) (fun z' H4 nz s4 ez => ?_)
        refine k _ _ (s3.trans s4) ?_
        unfold againF
        rw [first_some (i := i) hi (by rw [getD_of hz]; exact decide_eq_true hc) hb]
        exact ⟨z', rfl, ez⟩
      · repeat walk_at "rd"
        refine r_addI ?_
        repeat walk_at "rd"
        refine ⟨⟨c, _, _, rfl, ec⟩, ?_⟩
        repeat walk_at "rd"
        refine ⟨c, z, S, m, rfl, rfl, ec, by omega, fun m' hm' => ?_⟩
        refine ⟨_, _, _, m', rfl, upd_same, fun j => ?_, by omega, s3.over nc ec, fun j hj => ?_⟩
        · show (S j || decide (j = z)) = _
          rw [hS j, take_more hz, ← List.append_assoc, Bool.eq_iff_iff, Bool.or_eq_true, decide_eq_true_eq, decide_eq_true_eq, decide_eq_true_eq, List.mem_append (t := [z]), List.mem_singleton]
        · by_cases e : j = i
          · subst e
            rw [getD_of hz]
            exact decide_eq_false hc
          · exact hb j (by omega)
    · rintro σ H2 ⟨v3, v4, S, m, rfl, ec, hS, hm, s2, hb⟩
      rw [List.length_map] at hb
      repeat walk_at "rd"
      refine k _ _ s2 ?_
      unfold againF
      rw [first_none hb]
      rfl
theorem find_none_take {ws : List Int} {f : Int → Bool} (h : ∀ j, j < ws.length → f (ws.getD j 0) = false) : ws.find? f = none := by
  rw [List.find?_eq_none]
  intro x hx
  obtain ⟨i, hi⟩ := List.mem_iff_getElem?.mp hx
  have := h i (List.getElem?_eq_some_iff.mp hi).1
  rw [getD_of hi] at this
  rw [this]
  exact Bool.false_ne_true
theorem find_some_at {ws : List Int} {f : Int → Bool} {i : Nat} {z : Int} (hz : ws[i]? = some z) (hf : f z = true) (h : ∀ j, j < i → f (ws.getD j 0) = false) : ws.find? f = some z := by
  have hi := (List.getElem?_eq_some_iff.mp hz).1
  have e : ws = ws.take i ++ z :: ws.drop (i + 1) := by
    conv => lhs; rw [← List.take_append_drop i ws]
    rw [List.drop_eq_getElem_cons hi, (List.getElem?_eq_some_iff.mp hz).2]
  rw [e, List.find?_append]
  have hn : (ws.take i).find? f = none := find_none_take fun j hj => by
    rw [List.length_take] at hj
    have := h j (by omega)
    rw [List.getD_eq_getElem?_getD, List.getElem?_take, if_pos (by omega), ← List.getD_eq_getElem?_getD]
    exact this
  rw [hn, List.find?_cons, hf]
  rfl
theorem ok_nobody_fault (T : Txt K mg a) : FnOk P w K mg base CX0 1 a.a_nobody_fault a.d_nobody_fault ["wanted", "keys"] spNobody := by
  refine T.F_nobody_fault.ok sc_nobody_fault (fun vs H Q E h => ?_) (fun cdv A outer s H vs Q E hr h => ?_)
  · obtain ⟨p, r, ws, ks, rfl, _⟩ := h
    rfl
  · obtain ⟨p, r, ws, ks, rfl, ep, er, hk9, k⟩ := h
    refine ⟨_, (pss_cons (ps_set (i := 2) sc_nobody_fault.nd rfl (Or.inl rfl) (pe_callTy (cr_setI rfl) (by rfl) T.n_set (by decide +kernel) (pa_cons (pv 1) pa_nil)))
 (pss_cons (ps_for (by exact PassesOwn.never) rfl (pi_list (pv 0)) (pg_name (i := 3) sc_nobody_fault.nd rfl (Or.inl rfl))
 (pss_one (ps_if (pt_cmpR or_ninI (pv 3) (pv 2) (by rfl)) (pss_one (ps_ret (pe_tup (pa_cons pe_str (pa_cons (pv 3) pa_nil)))))
 pss_nil)))
 (pss_one (ps_ret pe_non)))), ?_⟩
    repeat walk_at "rd"
    refine ⟨r, ks, rfl, SqL.of er, hk9, fun c n nc hn => ?_⟩
    have npc : p ≠ c := ne_of_none ep nc
    have s1 : Same H (upd H c (SetI P w c (fun k => decide (k ∈ ks)) n)) := Same.new nc
    have ec : upd H c (SetI P w c (fun k => decide (k ∈ ks)) n) c = some (SetI P w c (fun k => decide (k ∈ ks)) n) := upd_same
    have k : ∀ v H', Same (upd H c (SetI P w c (fun k => decide (k ∈ ks)) n)) H' → FltAt H' v (nobodyF ws ks) → Q v H' := fun v H' h1 h2 => k v H' (s1.trans h1) h2
    have ep := s1 _ _ ep
    have goal_ : ∀ H1 : Hp, H1 = upd H c (SetI P w c (fun k => decide (k ∈ ks)) n) → True := fun _ _ => trivial
    clear goal_
    generalize hH1 : upd H c (SetI P w c (fun k => decide (k ∈ ks)) n) = H1 at ec k ep
    have hH1' : upd H c (SetI (cxOf CX0 P w K mg base ["wanted", "keys", "found", "key"] "nobody_fault" (defScope s_nobody_fault) a.a_nobody_fault cdv A outer s H E).nox.prog (cxOf CX0 P w K mg base ["wanted", "keys", "found", "key"] "nobody_fault" (defScope s_nobody_fault) a.a_nobody_fault cdv A outer s H E).nox.w c (fun k => decide (k ∈ ks)) n) = H1 := hH1
    rw [hH1']
    clear hH1 hH1' s1
    repeat walk_at "rd"
    refine ⟨p, rfl, ⟨_, SqL.of ep⟩, for_list (K := K) (a := p) (xs := ws.map V.int) (fun i σ H' => ∃ v3 : Option V, σ = [some (.ref p), some (.ref r), some (.ref c), v3] ∧ H' = H1 ∧ ∀ j, j < i → (!decide (ws.getD j 0 ∈ ks)) = false) ⟨_, rfl, rfl, fun j hj => absurd hj (by omega)⟩ (fun i σ H' _ ⟨_, _, e, _⟩ => by rw [e]; exact SqL.of ep) ?_ ?_⟩
    · rintro i x σ H2 hx ⟨v3, rfl, rfl, hb⟩
      obtain ⟨z, hz, rfl⟩ := int_of_get hx
      repeat first | walk_at "rd" | walk_at "rdi"
      refine r_ninI ec ?_
      repeat first | walk_at "rd" | walk_at "rdi"
      refine r_nD (fun hc => ?_) (fun hc => ?_)
      · repeat walk_at "rd"
        refine new_at (Nat.le_of_ble_eq_true rfl) (fun z' H4 nz s4 ez => ?_)
        refine k _ _ s4 ?_
        unfold nobodyF
        rw [find_some_at hz (by rw [decide_eq_false hc]; rfl) hb]
        exact ⟨z', rfl, ez⟩
      · repeat first | exact ⟨_, rfl, rfl, fun j hj => by
          by_cases e : j = i
          · subst e; rw [getD_of hz, decide_eq_true hc]; rfl
          · exact hb j (by omega)⟩ | walk_at "rd"
    · rintro σ H2 ⟨v3, rfl, rfl, hb⟩
      rw [List.length_map] at hb
      repeat walk_at "rd"
      refine k _ _ (Same.refl _) ?_
      unfold nobodyF
      rw [find_none_take hb]
      rfl
end

/-! ### the program's faults, read: early, near -/
theorem sl_tupK {X : Cx} {K : PySem.W.Frag} (hK : X.K = K) : SlR X (rSlT K) := by subst hK; exact sl_tup
theorem r_dc {wi : TI} {g : TG} {tt : TT} {tk tv : TE} {vs : List Nat} {σ : St} {H : Hp} {Q : VK} (h : wi σ H fun J H1 => ∀ D, H1 D = none → ∃ W : Nat → Nat → Hp → Prop, (∃ m, W 0 m (upd H1 D (.dK []))) ∧ ∀ i m H, W i m H →
  (J.stop i H ∧ Q (.ref D) H) ∨ (J.go i H ∧ ∃ Nx : Hp → Prop, (∀ H', Nx H' → ∃ m', m' < m ∧ W (i + 1) m' H') ∧ ∀ x H', J.yld i H x H' → g x (wipe σ vs) H' fun σ2 H2 => wipe σ2 vs = wipe σ vs ∧ tt σ2 H2 fun b H3 =>
    if b = true then tk σ2 H3 fun y H4 => tv σ2 H4 fun z H5 => ∃ kvs k, y = kV k ∧ H5 D = some (.dK kvs) ∧ kvs.length < sizeLine ∧ Nx (upd H5 D (.dK (putK kvs k z))) else Nx H3)) : tDc wi g tt tk tv vs σ H Q := h
theorem dc_list {K : PySem.W.Frag} {a : Addr} {xs : List V} {g : TG} {tt : TT} {tk tv : TE} {vs : List Nat} {σ : St} {H1 : Hp} {D : Addr} {Qd : Hp → Prop} (Pv : Nat → Hp → Prop) (h0 : Pv 0 (upd H1 D (.dK []))) (hl : ∀ i H, Pv i H → SqL K H a xs)
    (hs : ∀ i x H, xs[i]? = some x → Pv i H → g x (wipe σ vs) H fun σ2 H2 => wipe σ2 vs = wipe σ vs ∧ tt σ2 H2 fun b H3 => if b = true then tk σ2 H3 fun y H4 => tv σ2 H4 fun z H5 => ∃ kvs k, y = kV k ∧ H5 D = some (.dK kvs) ∧ kvs.length < sizeLine ∧ Pv (i + 1) (upd H5 D (.dK (putK kvs k z))) else Pv (i + 1) H3)
    (hd : ∀ H, Pv xs.length H → Qd H) :
    ∃ W : Nat → Nat → Hp → Prop, (∃ m, W 0 m (upd H1 D (.dK []))) ∧ ∀ i m H, W i m H → ((Itl K a).stop i H ∧ Qd H) ∨ ((Itl K a).go i H ∧ ∃ Nx : Hp → Prop, (∀ H', Nx H' → ∃ m', m' < m ∧ W (i + 1) m' H') ∧ ∀ x H', (Itl K a).yld i H x H' → g x (wipe σ vs) H' fun σ2 H2 => wipe σ2 vs = wipe σ vs ∧ tt σ2 H2 fun b H3 =>
        if b = true then tk σ2 H3 fun y H4 => tv σ2 H4 fun z H5 => ∃ kvs k, y = kV k ∧ H5 D = some (.dK kvs) ∧ kvs.length < sizeLine ∧ Nx (upd H5 D (.dK (putK kvs k z))) else Nx H3) := by
  refine ⟨fun i m H => m + i = xs.length ∧ Pv i H, ⟨xs.length, rfl, h0⟩, fun i m H ⟨hm, p⟩ => ?_⟩
  have q := hl i H p
  cases m with
  | zero =>
    obtain rfl : i = xs.length := by omega
    exact .inl ⟨⟨xs, q, Nat.le_refl _⟩, hd H p⟩
  | succ m =>
    have hlt : i < xs.length := by omega
    refine .inr ⟨⟨xs, xs[i], q, List.getElem?_eq_getElem hlt⟩, Pv (i + 1), fun H' p' => ⟨m, by omega, by omega, p'⟩, fun x H' ⟨e, y⟩ => ?_⟩
    subst e
    exact hs i x _ (y xs q) p
theorem r_dget {td ty : TE} {σ : St} {H : Hp} {Q : VK} (h : td σ H fun x H1 => ty σ H1 fun y H2 => ∃ a v, x = .ref a ∧ DGet H2 a y (some v) ∧ Q v H2) : tDGet td ty σ H Q := h
theorem r_dget1 {td ty : TE} {σ : St} {H : Hp} {Q : VK} (h : td σ H fun x H1 => ∃ a, x = .ref a ∧ IsD H1 a ∧ ty σ H1 fun y H2 => ∃ o, DGet H2 a y o ∧ Q (o.getD .non) H2) : tDGet1 td ty σ H Q := h
theorem r_getK {H : Hp} {R : V → Prop} {a : Addr} {kvs : List (L2.Key × V)} {i : Int} {v : V} (e : H a = some (.dK kvs)) (h : valV kvs (.inl i) = some v) (q : R v) : ∃ b v, V.ref a = .ref b ∧ DGet H b (.int i) (some v) ∧ R v := ⟨a, v, rfl, h ▸ DGet.k (k := .inl i) e, q⟩
theorem r_setK {H : Hp} {R : Hp → Prop} {a : Addr} {kvs : List (L2.Key × V)} {i : Int} {v : V} (e : H a = some (.dK kvs)) (hl : kvs.length ≤ 9000) (q : R (upd H a (.dK (putK kvs (.inl i) v)))) : rSetD (.ref a) (.int i) v H R := ⟨a, _, rfl, DPut.k (k := .inl i) e (by rw [sizeLine_eq]; omega), q⟩
theorem valV_putK {kvs : List (L2.Key × V)} {k j : L2.Key} {v : V} : valV (putK kvs k v) j = if j = k then some v else valV kvs j := by
  unfold putK
  split
  · rename_i h
    rw [valV_map]
    rw [valV_any] at h
    by_cases c : j = k
    · rw [if_pos c]
      subst c
      obtain ⟨x, hx⟩ := Option.isSome_iff_exists.mp h
      rw [hx]
      simp
    · rw [if_neg c]
      cases valV kvs j <;> simp [c]
  · rename_i h
    rw [valV_any] at h
    exact valV_snoc k j v kvs (by simpa using h)
theorem len_putK {κ : Type} [DecidableEq κ] {kvs : List (κ × V)} {k : κ} {v : V} : (putK kvs k v).length ≤ kvs.length + 1 := by
  unfold putK
  split
  · rw [List.length_map]; omega
  · rw [List.length_append, List.length_singleton]; exact Nat.le_refl _
/-- when the senders of rows know -/
theorem known_take {rs : List L3} {roots : List Int} {D s : Int} {i : Nat} {l : L3} (hl : rs[i]? = some l) : knownOf (rs.take (i + 1)) roots D s = if s ∈ roots then 0 else if (∃ x, x ∈ rs.take i ∧ x.2.1 = s) then knownOf (rs.take i) roots D s else if l.2.1 = s then l.2.2 + D else 0 := by
  unfold knownOf
  by_cases c : s ∈ roots
  · rw [if_pos c, if_pos c]
  · rw [if_neg c, if_neg c, if_neg c, take_more hl, List.find?_append]
    by_cases h : ∃ x, x ∈ rs.take i ∧ x.2.1 = s
    · rw [if_pos h]
      obtain ⟨x, hx, he⟩ := h
      have : ((rs.take i).find? fun l => decide (l.2.1 = s)).isSome = true := by
        rw [List.find?_isSome]
        exact ⟨x, hx, decide_eq_true he⟩
      obtain ⟨y, hy⟩ := Option.isSome_iff_exists.mp this
      rw [hy]
      rfl
    · rw [if_neg h]
      have : (rs.take i).find? (fun l => decide (l.2.1 = s)) = none := by
        rw [List.find?_eq_none]
        intro x hx he
        exact h ⟨x, hx, of_decide_eq_true he⟩
      rw [this, Option.none_or, List.find?_cons]
      by_cases e : l.2.1 = s
      · rw [decide_eq_true e, if_pos e]; rfl
      · rw [decide_eq_false e, if_neg e]; rfl
theorem r_tup2 {K : PySem.W.Frag} {t : TGs} {n : Nat} {vs : List V} {p : Addr} {σ : St} {H : Hp} {R : St → Hp → Prop} (h : H p = some (.tup vs)) (hl : vs.length = n) (q : t vs σ H R) : gTup K n t (.ref p) σ H R := ⟨p, vs, rfl, SqT.of h, hl, q⟩
def spEarly : Sp := fun vs H Q _ => ∃ (p r : Addr) (D : Int) (xs : List V) (rs : List L3) (roots : List Int), vs = [.ref p, .ref r, .int D] ∧ SeqV H p xs ∧ TrisAt H xs rs ∧ H r = some (.lst (roots.map V.int)) ∧ roots.length ≤ 1000 ∧ rs.length ≤ 1000 ∧ (rs.map (·.2.1)).Nodup ∧ (∀ l, l ∈ rs → l.2.1 ∉ roots) ∧ (∀ l, l ∈ rs → l.1 ∈ roots ∨ ∃ m, m ∈ rs ∧ m.2.1 = l.1) ∧ ∀ v H', Same H H' → FltAt H' v (earlyF rs roots D) → Q v H'
def spIsNear : Sp := fun vs H Q _ => ∃ (d : Addr) (h t w_ : Int) (kvs : List (List L2.Key × V)) (prev : List (Int × Int)), vs = [.ref d, .int h, .int t, .int w_] ∧ H d = some (.dT kvs) ∧ Marks w_ kvs prev ∧ 0 < w_ ∧ w_ < 2 ^ 64 ∧ ∀ H', Same H H' → Q (.bl (nearP w_ prev (h, t))) H'
def MarksAt (H : Hp) (xs : List V) (ms : List (List (Int × Int))) : Prop := xs.length = ms.length ∧ ∀ (i : Nat) (m : List (Int × Int)), ms[i]? = some m → ∃ (t : Addr) (ys : List V), xs[i]? = some (.ref t) ∧ H t = some (.lst ys) ∧ PairsAt H ys m
theorem MarksAt.keep {H H' : Hp} {xs : List V} {ls : List (List (Int × Int))} (h : MarksAt H xs ls) (s : Same H H') : MarksAt H' xs ls := ⟨h.1, fun i g hg => let ⟨t, ys, e, z, q⟩ := h.2 i g hg; ⟨t, ys, e, s _ _ z, q.keep s⟩⟩
theorem MarksAt.get {H : Hp} {xs : List V} {ls : List (List (Int × Int))} {i : Nat} {x : V} (h : MarksAt H xs ls) (hx : xs[i]? = some x) : ∃ (t : Addr) (ys : List V) (m : List (Int × Int)), x = .ref t ∧ ls[i]? = some m ∧ H t = some (.lst ys) ∧ PairsAt H ys m := by
  obtain ⟨l, hl⟩ : ∃ l, ls[i]? = some l := ⟨_, List.getElem?_eq_getElem (by have := (List.getElem?_eq_some_iff.mp hx).1; rw [h.1] at this; exact this)⟩
  obtain ⟨t, ys, e, z, q⟩ := h.2 i l hl
  exact ⟨t, ys, l, Option.some.inj (hx.symm.trans e), hl, z, q⟩
def spNear : Sp := fun vs H Q _ => ∃ (why : Str) (p : Addr) (w_ : Int) (xs : List V) (ms : List (List (Int × Int))), vs = [.str why, .ref p, .int w_] ∧ H p = some (.lst xs) ∧ MarksAt H xs ms ∧ ms.length ≤ 1000 ∧ (∀ m, m ∈ ms → m.length ≤ 4) ∧ 0 ≤ w_ ∧ w_ < 2 ^ 64 ∧ ∀ v H', Same H H' → FltAt H' v (nearF why ms w_) → Q v H'
section
variable {P : Program} {w : World} {K : PySem.W.Frag} {mg : Str → Option Value} {base : Heap} {a : Adr}
theorem ok_early_fault (T : Txt K mg a) : FnOk P w K mg base CX0 1 a.a_early_fault a.d_early_fault ["told", "roots", "letter"] spEarly := by
  refine T.F_early_fault.ok sc_early_fault (fun vs H Q E h => ?_) (fun cdv A outer s H vs Q E hr h => ?_)
  · obtain ⟨p, r, D, xs, rs, roots, rfl, _⟩ := h
    rfl
  · obtain ⟨p, r, D, xs, rs, roots, rfl, ep, hA, er, hro9, hrs9, hnd, hnr, hsend, k⟩ := h
    refine ⟨_, (pss_cons (ps_setDc (i := 3) (own := [("root", 9)]) (g := gName 9) (tt := tYes) rfl sc_early_fault.nd rfl rfl (sw_trueD rfl rfl rfl (by decide +kernel)) (pi_list (pv 1)) (blkOk_by (own := [("root", 9)]) (N := ["told", "roots", "letter", "known", "_", "receiver", "start", "at", "sender", "root"]) (sc := defScope s_early_fault) (by decide +kernel)) (fun _ _ _ _ _ => (pg_name (i := 9) sc_early_fault.nd rfl (Or.inl rfl))) (fun _ _ _ _ _ => pts_nil) (fun _ _ _ _ _ => (pv 9)) (fun _ _ _ _ _ => pe_int))
 (pss_cons (ps_for (by exact PassesOwn.never) rfl (pi_seq (pv 0)) (pg_tup (by rfl) (pgs_cons (pg_name (i := 4) sc_early_fault.nd rfl (Or.inl rfl)) (pgs_cons (pg_name (i := 5) sc_early_fault.nd rfl (Or.inl rfl)) (pgs_cons (pg_name (i := 6) sc_early_fault.nd rfl (Or.inl rfl)) pgs_nil))))
 (pss_one (ps_asg (pe_op op_add (pv 6) (pv 2)) (pg_sub (pv 3) (pv 5) (set_dict (u1 hr.units))))))
 (pss_cons (ps_for (by exact PassesOwn.never) rfl (pi_enumS (by rfl) T.n_enumerate (pa_cons (pv 0) pa_nil)) (pg_tup (by rfl) (pgs_cons (pg_name (i := 7) sc_early_fault.nd rfl (Or.inl rfl)) (pgs_cons (pg_tup (by rfl) (pgs_cons (pg_name (i := 8) sc_early_fault.nd rfl (Or.inl rfl)) (pgs_cons (pg_name (i := 4) sc_early_fault.nd rfl (Or.inl rfl)) (pgs_cons (pg_name (i := 6) sc_early_fault.nd rfl (Or.inl rfl)) pgs_nil)))) pgs_nil)))
 (pss_one (ps_if (pt_cmpR op_lt (pv 6) (pe_dget (u1 hr.units) (pv 3) (pv 8) (fun _ _ => rfl)) (nomark _)) (pss_one (ps_ret (pe_tup (pa_cons pe_str (pa_cons (pv 7) pa_nil)))))
 pss_nil)))
 (pss_one (ps_ret pe_non))))), ?_⟩
    repeat walk_at "rd"
    refine r_dc ?_
    repeat walk_at "rd"
    refine ⟨r, rfl, ⟨_, SqL.of er⟩, fun d hd => dc_list (K := K) (a := r) (xs := roots.map V.int) (fun i H' => ∃ kvs : List (L2.Key × V), H' d = some (.dK kvs) ∧ kvs.length ≤ i ∧ (∀ s0 : Int, valV kvs (.inl s0) = if s0 ∈ roots.take i then some (.int 0) else none) ∧ Same H H') ⟨[], upd_same, Nat.le_refl _, fun s0 => by rw [List.take_zero]; rfl, Same.new hd⟩ (fun i H' ⟨_, _, _, _, s⟩ => SqL.of (s _ _ er)) ?_ ?_⟩
    · rintro i x H1 hi ⟨kvs, e1, hl, hv, s1⟩
      obtain ⟨z, hz, rfl⟩ := int_of_get hi
      have hi9 := (List.getElem?_eq_some_iff.mp hz).1
      repeat walk_at "rd"
      refine ⟨rfl, ?_⟩
      repeat walk_at "rd"
      refine ⟨kvs, .inl z, rfl, e1, by rw [sizeLine_eq]; omega, _, upd_same, by have := len_putK (kvs := kvs) (k := (.inl z : L2.Key)) (v := .int 0); omega, fun s0 => ?_, s1.over hd e1⟩
      rw [valV_putK, hv s0, take_more hz]
      by_cases c : s0 = z
      · subst c
        rw [if_pos rfl, if_pos (List.mem_append_right _ (List.mem_singleton.mpr rfl))]
      · rw [if_neg (fun e => c (Sum.inl.inj e))]
        by_cases c2 : s0 ∈ roots.take i
        · rw [if_pos c2, if_pos (List.mem_append_left _ c2)]
        · rw [if_neg c2, if_neg fun z' => by
            rcases List.mem_append.mp z' with z' | z'
            · exact c2 z'
            · exact c (List.mem_singleton.mp z')]
    · rintro H1 ⟨kvs, e1, hl, hv, s1⟩
      rw [List.length_map] at hl
      rw [List.length_map, List.take_length] at hv
      repeat walk_at "rd"
      refine r_forSeq (xs := xs) (fun i σ H' => ∃ (v4 v5 v6 : Option V) (kvs : List (L2.Key × V)), σ = [some (.ref p), some (.ref r), some (.int D), some (.ref d), v4, v5, v6, none, none, none] ∧ H' d = some (.dK kvs) ∧ kvs.length ≤ roots.length + i ∧ (∀ s0 : Int, s0 ∈ roots ∨ (∃ m, m ∈ rs.take i ∧ m.2.1 = s0) → valV kvs (.inl s0) = some (.int (knownOf (rs.take i) roots D s0))) ∧ Same H H') (by intro QA q; (repeat walk_at "rd"); exact q) (ep.keep s1) ⟨_, _, _, kvs, rfl, e1, hl, fun s0 hs0 => ?_, s1⟩ (fun i σ H' ⟨_, _, _, _, _, _, _, _, s⟩ o ho => ?_) ?_ ?_
      · rcases hs0 with hs0 | ⟨m, hm, _⟩
        · rw [hv s0, if_pos hs0]
          unfold knownOf
          rw [if_pos hs0]
        · rw [List.take_zero] at hm
          cases hm
      · rcases ep with ep | ep
        · have := s1 _ _ ep
          rw [ho] at this
          cases this
          exact s _ _ ep
        · have := s1 _ _ ep
          rw [ho] at this
          cases this
          exact s _ _ ep
      · rintro i x σ H2 hi ⟨v4, v5, v6, kvs, rfl, e2, hl2, hv2, s2⟩
        obtain ⟨t, l, rfl, hl1, et⟩ := (hA.keep s2).get hi
        have hi9 := (List.getElem?_eq_some_iff.mp hl1).1
        repeat walk_at "rd"
        refine r_setK e2 (by omega) ?_
        refine ⟨_, _, _, _, rfl, upd_same, by have := len_putK (kvs := kvs) (k := (.inl l.2.1 : L2.Key)) (v := .int (l.2.2 + D)); omega, fun s0 hs0 => ?_, s2.over hd e2⟩
        rw [valV_putK, known_take hl1]
        have hnew : ¬ ∃ x, x ∈ rs.take i ∧ x.2.1 = l.2.1 := fun ⟨x, hx, he⟩ => by
          obtain ⟨j, hj⟩ := List.mem_iff_getElem?.mp hx
          have hji : j < i := by
            have := (List.getElem?_eq_some_iff.mp hj).1
            rw [List.length_take] at this
            omega
          rw [List.getElem?_take, if_pos hji] at hj
          have e1 : (rs.map (·.2.1))[j]? = some l.2.1 := by rw [List.getElem?_map, hj]; exact congrArg Option.some he
          have e2 : (rs.map (·.2.1))[i]? = some l.2.1 := by rw [List.getElem?_map, hl1]; rfl
          obtain ⟨hj1, hj2⟩ := List.getElem?_eq_some_iff.mp e1
          obtain ⟨hi1, hi2⟩ := List.getElem?_eq_some_iff.mp e2
          exact (List.pairwise_iff_getElem.mp hnd) j i hj1 hi1 hji (hj2.trans hi2.symm)
        by_cases c : s0 = l.2.1
        · subst c
          rw [if_pos rfl, if_neg (hnr l (List.mem_iff_getElem?.mpr ⟨i, hl1⟩)), if_neg hnew, if_pos rfl]
        · rw [if_neg (fun e => c (Sum.inl.inj e))]
          rcases hs0 with hs0 | ⟨m, hm, rfl⟩
          · rw [hv2 s0 (.inl hs0), if_pos hs0]
            unfold knownOf
            rw [if_pos hs0]
          · rw [take_more hl1] at hm
            rcases List.mem_append.mp hm with hm | hm
            · rw [hv2 _ (.inr ⟨m, hm, rfl⟩), if_neg (hnr m (List.mem_of_mem_take hm)), if_pos ⟨m, hm, rfl⟩]
            · rw [List.mem_singleton] at hm
              subst hm
              exact absurd rfl c
      · rintro σ H2 ⟨v4, v5, v6, kvs, rfl, e2, hl2, hv2, s2⟩
        rw [hA.1, List.take_length] at hv2
        have hA2 := hA.keep s2
        repeat walk_at "rd"
        refine r_enS2 (xs := xs) (by intro QA q; (repeat walk_at "rd"); exact q) (ep.keep s2) (fun i σ H' => ∃ v4 v5 v6 v7 v8 : Option V, σ = [some (.ref p), some (.ref r), some (.int D), some (.ref d), v4, v5, v6, v7, v8, none] ∧ Same H2 H' ∧ ∀ j, j < i → decide ((rs.getD j (0, 0, 0)).2.2 < knownOf rs roots D (rs.getD j (0, 0, 0)).1) = false) ⟨_, _, _, _, _, rfl, Same.refl _, fun j hj => absurd hj (by omega)⟩ (fun i σ H' ⟨_, _, _, _, _, _, s, _⟩ => s _) ?_ ?_
        · rintro i x σ H3 u2 H4 hx ⟨v4, v5, v6, v7, v8, rfl, s3, hb⟩ nu2 rfl
          have s4 : Same H2 (upd H3 u2 (.tup [.int (i : Nat), x])) := s3.trans (Same.new nu2)
          obtain ⟨t, l, rfl, hl1, et⟩ := (hA2.keep s4).get hx
          have hi9 := (List.getElem?_eq_some_iff.mp hl1).1
          have ed := s4 _ _ e2
          have hk := hv2 l.1 (hsend l (List.mem_iff_getElem?.mpr ⟨i, hl1⟩))
          repeat first | walk_at "rd" | walk_at "rdi"
          refine r_dget ?_
          repeat first | walk_at "rd" | walk_at "rdi"
          refine r_getK ed hk ?_
          repeat first | walk_at "rd" | walk_at "rdi"
          refine ite_d (fun hc => ?_) (fun hc => ?_)
          · repeat walk_at "rd"
            refine new_at (Nat.le_of_ble_eq_true rfl) (fun z H5 nz s5 ez => ?_)
            refine k _ _ ((s2.trans s4).trans s5) ?_
            unfold earlyF
            rw [first_some (i := i) hi9 (by rw [getD_of hl1]; exact decide_eq_true hc) hb]
            exact ⟨z, rfl, ez⟩
          · repeat first | exact ⟨_, _, _, _, _, rfl, s4, fun j hj => by
              by_cases e : j = i
              · subst e; rw [getD_of hl1]; exact decide_eq_false hc
              · exact hb j (by omega)⟩ | walk_at "rd"
        · rintro σ H3 ⟨v4, v5, v6, v7, v8, rfl, s3, hb⟩
          rw [hA.1] at hb
          repeat walk_at "rd"
          refine k _ _ (s2.trans s3) ?_
          unfold earlyF
          rw [first_none hb]
          rfl
theorem ok_is_near (T : Txt K mg a) : FnOk P w K mg base CX0 1 a.a_is_near a.d_is_near ["times", "hand", "time", "width"] spIsNear := by
  refine T.F_is_near.ok sc_is_near (fun vs H Q E h => ?_) (fun cdv A outer s H vs Q E hr h => ?_)
  · obtain ⟨d, h, t, w_, kvs, prev, rfl, _⟩ := h
    rfl
  · obtain ⟨d, h, t, w_, kvs, prev, rfl, ed, hM, w0, w9, k⟩ := h
    refine ⟨_, (pss_cons (ps_set (i := 4) sc_is_near.nd rfl (Or.inl rfl) (pe_op op_fdivW (pv 2) (pv 3)))
 (pss_cons (ps_for (by exact PassesOwn.never) rfl (pi_tup (pe_tup (pa_cons (pe_op op_sub (pv 4) pe_int) (pa_cons (pv 4) (pa_cons (pe_op op_add (pv 4) pe_int) pa_nil))))) (pg_name (i := 5) sc_is_near.nd rfl (Or.inl rfl))
 (pss_cons (ps_set (i := 6) sc_is_near.nd rfl (Or.inl rfl) (pe_dget1 (u1 hr.units) (pv 0) (pe_tup (pa_cons (pv 1) (pa_cons (pv 5) pa_nil))) ⟨rfl, rfl, rfl, rfl⟩))
 (pss_one (ps_if (PW.pt (pw_and (pt_cmpR op_notNo (pv 6) pe_non (nomark _)) (pw_and1 (pt_cmpR op_lt (pe_callB call_abs (by rfl) T.n_abs (by decide +kernel) (pa_cons (pe_op op_sub (pv 2) (pv 6)) pa_nil)) (pv 3) (nomark _))))) (pss_one (ps_ret pe_bl))
 pss_nil))))
 (pss_one (ps_ret pe_bl)))), ?_⟩
    have hw9 : CDivW t w_ := cdiv_of w0 (by omega)
    repeat walk_at "rd"
    obtain ⟨sl, hsl⟩ : ∃ sl, t / w_ = sl := ⟨_, rfl⟩
    rw [hsl]
    have hN : nearP w_ prev (h, t) = true ↔ ∃ s, (s = sl - 1 ∨ s = sl ∨ s = sl + 1) ∧ ∃ t', valV kvs (kk h s) = some (.int t') ∧ -w_ < t - t' ∧ t - t' < w_ := by rw [← hsl]; exact hM.near w0
    refine new_at (Nat.le_of_ble_eq_true rfl) (fun u H1 nu s1 eu => ?_)
    have ed := s1 _ _ ed
    repeat walk_at "rd"
    refine ⟨u, rfl, ⟨_, SqT.of eu⟩, for_tup (K := K) (a := u) (xs := [.int (sl - 1), .int sl, .int (sl + 1)]) (fun i σ H' => ∃ v5 v6 : Option V, σ = [some (.ref d), some (.int h), some (.int t), some (.int w_), some (.int sl), v5, v6] ∧ Same H1 H' ∧ ∀ s, s ∈ [sl - 1, sl, sl + 1].take i → ¬ ∃ t', valV kvs (kk h s) = some (.int t') ∧ -w_ < t - t' ∧ t - t' < w_) ⟨_, _, rfl, Same.refl _, fun s hs => by rw [List.take_zero] at hs; cases hs⟩ (fun i σ H' _ ⟨_, _, _, s, _⟩ => SqT.of (s _ _ eu)) ?_ ?_⟩
    · rintro i x σ H2 hi ⟨v5, v6, rfl, s2, hb⟩
      obtain ⟨s0, hs0, rfl⟩ := int_of_get (ns := [sl - 1, sl, sl + 1]) hi
      have hs3 : s0 = sl - 1 ∨ s0 = sl ∨ s0 = sl + 1 := by
        have := List.mem_iff_getElem?.mpr ⟨i, hs0⟩
        simpa using this
      have ed := s2 _ _ ed
      repeat first | walk_at "rd" | walk_at "rdi"
      refine r_dget1 ?_
      repeat first | walk_at "rd" | walk_at "rdi"
      refine ⟨d, rfl, .inr ⟨kvs, .inl ed⟩, ?_⟩
      repeat first | walk_at "rd" | walk_at "rdi"
      refine new_at (Nat.le_of_ble_eq_true rfl) (fun b H3 nb s3 eb => ?_)
      have ed := s3 _ _ ed
      refine ⟨valV kvs (kk h s0), DGet.t ed (k := kk h s0) eb, ?_⟩
      have go : (¬ ∃ t', valV kvs (kk h s0) = some (.int t') ∧ -w_ < t - t' ∧ t - t' < w_) → ∀ v6 : V, ∃ v5' v6' : Option V, [some (.ref d), some (.int h), some (.int t), some (.int w_), some (.int sl), some (.int s0), some v6] = [some (.ref d), some (.int h), some (.int t), some (.int w_), some (.int sl), v5', v6'] ∧ Same H1 H3 ∧ ∀ s, s ∈ [sl - 1, sl, sl + 1].take (i + 1) → ¬ ∃ t', valV kvs (kk h s) = some (.int t') ∧ -w_ < t - t' ∧ t - t' < w_ := fun hno v6 => ⟨_, _, rfl, s2.trans s3, fun s hs => by
        rw [take_more hs0] at hs
        rcases List.mem_append.mp hs with hs | hs
        · exact hb s hs
        · rw [List.mem_singleton] at hs
          subst hs
          exact hno⟩
      cases hv : valV kvs (kk h s0) with
      | none =>
        have go := go (fun ⟨t', e, _⟩ => by rw [hv] at e; cases e) .non
        dsimp only [Option.getD_none]
        repeat first | exact go | walk_at "rd" | walk_at "rdi"
      | some v =>
        obtain ⟨t', rfl, _, _⟩ := hM.of h s0 v hv
        dsimp only [Option.getD_some]
        repeat first | walk_at "rd" | walk_at "rdi"
        refine ite_d (fun hc => ?_) (fun hc => ?_)
        · have hyes : nearP w_ prev (h, t) = true := hN.mpr ⟨s0, hs3, t', hv, by split at hc <;> omega, by split at hc <;> omega⟩
          rw [hyes] at k
          repeat walk_at "rd"
          exact k _ ((s1.trans s2).trans s3)
        · have go := go (fun ⟨t2, e, h1, h2⟩ => by
            rw [hv] at e
            obtain rfl := V.int.inj (Option.some.inj e)
            exact hc (by split <;> omega)) (.int t')
          repeat first | exact go | walk_at "rd" | walk_at "rdi"
    · rintro σ H2 ⟨v5, v6, rfl, s2, hb⟩
      have hno : nearP w_ prev (h, t) = false := Bool.eq_false_iff.mpr fun z => by
        obtain ⟨s0, hs3, rest⟩ := hN.mp z
        exact hb s0 (by show s0 ∈ [sl - 1, sl, sl + 1]; simpa using hs3) rest
      rw [hno] at k
      repeat walk_at "rd"
      exact k _ (s1.trans s2)
end

/-! ### the program's faults, read: rows too near, telling, plans -/
theorem flat_len {α : Type} {c : Nat} : ∀ {ms : List (List α)}, (∀ m, m ∈ ms → m.length ≤ c) → ms.flatten.length ≤ c * ms.length
  | [], _ => Nat.zero_le _
  | m :: ms, h => by
    have h1 := h m (List.mem_cons_self ..)
    have h2 := flat_len (ms := ms) fun x hx => h x (List.mem_cons_of_mem _ hx)
    rw [List.flatten_cons, List.length_append, List.length_cons, Nat.mul_succ]
    omega
theorem flat_more {α : Type} {ms : List (List α)} {i : Nat} {m : List α} (h : ms[i]? = some m) : (ms.take (i + 1)).flatten = (ms.take i).flatten ++ m := by
  rw [take_more h, List.flatten_append, List.flatten_cons, List.flatten_nil, List.append_nil]
theorem r_dnewT {σ : St} {H : Hp} {Q : VK} (k : ∀ p H', H p = none → Same H H' → H' p = some (.dT []) → Q (.ref p) H') : tDNewT σ H Q := new_of k
theorem r_lstRg {ta : TE} {σ : St} {H : Hp} {Q : VK} (h : ta σ H fun x H1 => ∃ n, x = .int n ∧ (RgOk 0 n ∧ ∀ q, H1 q = none → Q (.ref q) (upd H1 q (.lst (rgV 0 n))))) : tLstRg (tRg1 ta) σ H Q := h
def upTo (n : Int) : List Int := (List.range n.toNat).map fun h : Nat => (h : Int)
theorem mem_upTo {n x : Int} : x ∈ upTo n ↔ 0 ≤ x ∧ x < n := by
  unfold upTo
  rw [List.mem_map]
  constructor
  · rintro ⟨k, hk, rfl⟩
    have := List.mem_range.mp hk
    omega
  · intro h
    exact ⟨x.toNat, List.mem_range.mpr (by omega), by omega⟩
theorem rg_is {n : Int} (h : 0 ≤ n) : rgV 0 n = (upTo n).map V.int := by
  unfold rgV upTo
  rw [Int.sub_zero, List.map_map]
  refine List.map_congr_left fun x _ => ?_
  show V.int (0 + (x : Int)) = V.int x
  rw [Int.zero_add]
theorem again_none {ks ts : List Int} (h : againF ks ts = none) : ks.Nodup ∧ ∀ k, k ∈ ks → k ∉ ts := by
  unfold againF atIx at h
  rw [Option.map_eq_none_iff] at h
  have h := first_no h
  constructor
  · unfold List.Nodup
    rw [List.pairwise_iff_getElem]
    intro i j hi hj hij e
    have := h j hj
    rw [getD_of (List.getElem?_eq_getElem hj), decide_eq_false_iff_not] at this
    refine this (List.mem_append_right _ ?_)
    rw [← e]
    exact List.mem_iff_getElem?.mpr ⟨i, by rw [List.getElem?_take, if_pos hij, List.getElem?_eq_getElem hi]⟩
  · intro k hk
    obtain ⟨i, hi⟩ := List.mem_iff_getElem?.mp hk
    have := h i (List.getElem?_eq_some_iff.mp hi).1
    rw [getD_of hi, decide_eq_false_iff_not] at this
    exact fun z => this (List.mem_append_left _ z)
theorem nobody_none {ws ks : List Int} (h : nobodyF ws ks = none) : ∀ k, k ∈ ws → k ∈ ks := by
  unfold nobodyF at h
  rw [Option.map_eq_none_iff, List.find?_eq_none] at h
  intro k hk
  have := h k hk
  simpa using this
theorem hand_none {n fs fr : Int} {ps : List (Int × Int)} (h : handF n fs fr ps = none) : ∀ g, g ∈ ps → (fs ≤ g.1 ∧ g.1 < n) ∧ (fr ≤ g.2 ∧ g.2 < n) ∧ g.1 ≠ g.2 := by
  unfold handF atIx at h
  rw [Option.map_eq_none_iff] at h
  intro g hg
  obtain ⟨i, hi⟩ := List.mem_iff_getElem?.mp hg
  have := first_no h i (List.getElem?_eq_some_iff.mp hi).1
  rw [getD_of hi] at this
  unfold badHand at this
  simpa using this
def recvs (rs : List L3) : List Int := rs.map (·.2.1)
def tellingF (rs : List L3) (roots ws : List Int) (D : Int) : Flt := (againF (recvs rs) roots).or ((nobodyF ws (roots ++ recvs rs)).or (earlyF rs roots D))
def rowF (n : Int) (rs : List L3) : Flt := (formS (rs.map (·.2.2))).or (handF n 0 1 (rs.map fun l => (l.1, l.2.1)))
def gapMarks (rs : List L3) : List (List (Int × Int)) := rs.map fun l => [(l.1, l.2.2)]
def faultF (D G n : Int) (rs : List L3) : Flt := (rowF n rs).or ((tellingF rs [0] (upTo n) D).or (nearF "gap" (gapMarks rs) G))
def spTelling : Sp := fun vs H Q _ => ∃ (p r q : Addr) (D : Int) (xs : List V) (rs : List L3) (roots ws : List Int), vs = [.ref p, .ref r, .ref q, .int D] ∧ SeqV H p xs ∧ TrisAt H xs rs ∧ H r = some (.lst (roots.map V.int)) ∧ H q = some (.lst (ws.map V.int)) ∧ roots.length ≤ 400 ∧ rs.length ≤ 400 ∧ (∀ l, l ∈ rs → l.1 ∈ ws) ∧ ∀ v H', Same H H' → FltAt H' v (tellingF rs roots ws D) → Q v H'
def spRowF : Sp := fun vs H Q _ => ∃ (n : Int) (p : Addr) (xs : List V) (rs : List L3), vs = [.int n, .ref p] ∧ SeqV H p xs ∧ TrisAt H xs rs ∧ rs.length ≤ 400 ∧ ∀ v H', Same H H' → FltAt H' v (rowF n rs) → Q v H'
def spCountOk : Sp := fun vs H Q _ => ∃ (n lo hi : Int), vs = [.int n, .int lo, .int hi] ∧ (lo ≤ n ∧ n ≤ hi) ∧ Q .non H
def spFault (M : Addr) : Sp := fun vs H Q _ => ∃ (m p : Addr) (o l g n : Int) (xs : List V) (rs : List L3), vs = [.ref m, .int n, .ref p] ∧ MachAt M H m o l g ∧ 0 ≤ gapOf o g ∧ gapOf o g < 2 ^ 64 ∧ (1 ≤ n ∧ n ≤ 100) ∧ SeqV H p xs ∧ TrisAt H xs rs ∧ rs.length ≤ 400 ∧ ∀ v H', Same H H' → FltAt H' v (faultF (2 * o + l) (gapOf o g) n rs) → Q v H'
theorem TrisAt.rowsG {H : Hp} {xs : List V} {rs : List L3} (h : TrisAt H xs rs) : RowsG H 2 xs (rs.map (·.2.2)) := ⟨by rw [List.length_map, h.1], fun i s hs => by
  rw [List.getElem?_map] at hs
  cases e : rs[i]? with
  | none => rw [e] at hs; cases hs
  | some l =>
    rw [e] at hs
    obtain rfl := Option.some.inj hs
    obtain ⟨t, e1, e2⟩ := h.2 i l e
    exact ⟨t, [l.1, l.2.1], e1, e2, rfl⟩⟩
section
variable {P : Program} {w : World} {K : PySem.W.Frag} {mg : Str → Option Value} {base : Heap} {a : Adr}
theorem ok_near_fault (T : Txt K mg a) : FnOk P w K mg base CX0 2 a.a_near_fault a.d_near_fault ["why", "marks", "width"] spNear := by
  refine T.F_near_fault.ok sc_near_fault (fun vs H Q E h => ?_) (fun cdv A outer s H vs Q E hr h => ?_)
  · obtain ⟨why, p, w_, xs, ms, rfl, _⟩ := h
    rfl
  · obtain ⟨why, p, w_, xs, ms, rfl, ep, hA, hl9, hm4, w0, w9, k⟩ := h
    refine ⟨_, (pss_cons (ps_if (pt_cmpR op_eq (pv 2) pe_int (nomark _)) (pss_one (ps_ret pe_non))
 pss_nil)
 (pss_cons (ps_set (i := 3) sc_near_fault.nd rfl (Or.inl rfl) pe_dnewT)
 (pss_cons (ps_for (by exact PassesOwn.never) rfl (pi_enumS (by rfl) T.n_enumerate (pa_cons (pv 1) pa_nil)) (pg_tup (by rfl) (pgs_cons (pg_name (i := 4) sc_near_fault.nd rfl (Or.inl rfl)) (pgs_cons (pg_name (i := 5) sc_near_fault.nd rfl (Or.inl rfl)) pgs_nil)))
 (pss_one (ps_for (by exact PassesOwn.never) rfl (pi_list (pv 5)) (pg_tup (by rfl) (pgs_cons (pg_name (i := 6) sc_near_fault.nd rfl (Or.inl rfl)) (pgs_cons (pg_name (i := 7) sc_near_fault.nd rfl (Or.inl rfl)) pgs_nil)))
 (pss_cons (ps_if (pt_val (pe_call (ok_is_near T) (hr.mono (by decide)) (by rfl) T.g_is_near T.F_is_near.kp T.b_is_near .nil pass0 (pa_cons (pv 3) (pa_cons (pv 6) (pa_cons (pv 7) (pa_cons (pv 2) pa_nil)))))) (pss_one (ps_ret (pe_tup (pa_cons (pv 0) (pa_cons (pv 4) pa_nil)))))
 pss_nil)
 (pss_one (ps_asg (pv 7) (pg_sub (pv 3) (pe_tup (pa_cons (pv 6) (pa_cons (pe_op op_fdivW (pv 7) (pv 2)) pa_nil))) (set_dict (u1 hr.units)))))))))
 (pss_one (ps_ret pe_non))))), ?_⟩
    repeat first | walk_at "rd" | walk_at "rdi"
    refine ite_d (fun hc => ?_) (fun hc => ?_)
    · repeat walk_at "rd"
      refine k _ _ (Same.refl _) ?_
      unfold nearF
      rw [if_pos hc]
      rfl
    have hnf : nearF why ms w_ = atIx why (first (rowNear w_ ms) ms.length) := if_neg hc
    rw [hnf] at k
    have w0 : 0 < w_ := by omega
    repeat first | walk_at "rd" | walk_at "rdi"
    refine r_dnewT (fun d H1 nd s1 ed => ?_)
    repeat walk_at "rd"
    refine r_enS2 (xs := xs) (by intro QA q; (repeat walk_at "rd"); exact q) (.inl (s1 _ _ ep)) (fun i σ H' => ∃ (v4 v5 v6 v7 : Option V) (kvs : List (List L2.Key × V)), σ = [some (.str why), some (.ref p), some (.int w_), some (.ref d), v4, v5, v6, v7] ∧ H' d = some (.dT kvs) ∧ Marks w_ kvs (ms.take i).flatten ∧ Same H H' ∧ ∀ j, j < i → rowNear w_ ms j = false) ⟨_, _, _, _, [], rfl, ed, Marks.nil, s1, fun j hj => absurd hj (by omega)⟩ (fun i σ H' ⟨_, _, _, _, _, _, _, _, s, _⟩ o ho => ?_) ?_ ?_
    · have := s1 _ _ ep
      rw [ho] at this
      cases this
      exact s _ _ ep
    · clear ed
      rintro i x σ H2 u2 H3 hx ⟨v4, v5, v6, v7, kvs, rfl, ed, hM, s2, hb⟩ nu2 rfl
      have s3 : Same H (upd H2 u2 (.tup [.int (i : Nat), x])) := s2.trans (Same.new nu2)
      have ed : upd H2 u2 (.tup [.int (i : Nat), x]) d = some (.dT kvs) := (upd_ne (ne_of_none ed nu2)).trans ed
      obtain ⟨t, ys, m, rfl, hm1, et, hP⟩ := (hA.keep s3).get hx
      have hi9 := (List.getElem?_eq_some_iff.mp hm1).1
      have hmem : m ∈ ms := List.mem_iff_getElem?.mpr ⟨i, hm1⟩
      have hm9 := hm4 m hmem
      have hfl : (ms.take i).flatten.length ≤ 4 * 1000 := by
        have h1 := flat_len (ms := ms.take i) (c := 4) fun x hx => hm4 x (List.mem_of_mem_take hx)
        rw [List.length_take] at h1
        omega
      have eu2 : upd H2 u2 (.tup [.int (i : Nat), .ref t]) u2 = some (.tup [.int (i : Nat), .ref t]) := upd_same
      have ntd : t ≠ d := fun z => by
        have h1 := (hA.2 i m hm1)
        obtain ⟨t', ys', e1, e2, _⟩ := h1
        obtain rfl : t = t' := V.ref.inj (Option.some.inj (hx.symm.trans e1))
        rw [z, nd] at e2
        cases e2
      generalize upd H2 u2 (.tup [.int (i : Nat), .ref t]) = H3 at s3 ed et hP eu2 ⊢
      repeat walk_at "rd"
      refine ⟨t, rfl, ⟨_, SqL.of et⟩, for_list (K := K) (a := t) (xs := ys) (fun j σ H' => ∃ (v6 v7 : Option V) (kvs : List (List L2.Key × V)), σ = [some (.str why), some (.ref p), some (.int w_), some (.ref d), some (.int (i : Nat)), some (.ref t), v6, v7] ∧ H' d = some (.dT kvs) ∧ Marks w_ kvs ((ms.take i).flatten ++ m.take j) ∧ Same H H' ∧ PairsAt H' ys m ∧ H' t = some (.lst ys) ∧ ∀ j', j' < j → nearP w_ ((ms.take i).flatten ++ m.take j') (m.getD j' (0, 0)) = false) ⟨_, _, kvs, rfl, ed, by rw [List.take_zero, List.append_nil]; exact hM, s3, hP, et, fun j hj => absurd hj (by omega)⟩ (fun j σ H' _ ⟨_, _, _, _, _, _, _, _, h, _⟩ => SqL.of h) ?_ ?_⟩
      · clear ed hM s3 hP et eu2 s2 nu2
        rintro j y σ H4 hy ⟨v6, v7, kvs, rfl, ed, hM, s4, hP, et, hb2⟩
        obtain ⟨tp, g, rfl, hg, etp⟩ := hP.get hy
        have hj9 := (List.getElem?_eq_some_iff.mp hg).1
        have hw9 : CDivW g.2 w_ := cdiv_of w0 (by omega)
        repeat first | walk_at "rd" | walk_at "rdi"
        refine ⟨d, g.1, g.2, w_, kvs, _, rfl, ed, hM, w0, w9, fun H5 s5 => ?_⟩
        have s5' := s4.trans s5
        have ed := s5 _ _ ed
        cases hn : nearP w_ ((ms.take i).flatten ++ m.take j) (g.1, g.2) with
        | true =>
          repeat first | walk_at "rd" | walk_at "rdi"
          refine new_at (Nat.le_of_ble_eq_true rfl) (fun z H6 nz s6 ez => ?_)
          refine k _ _ (s5'.trans s6) ?_
          rw [first_some (i := i) hi9 ?_ hb]
          · exact ⟨z, rfl, ez⟩
          · unfold rowNear
            rw [getD_of hm1, List.any_eq_true]
            exact ⟨j, List.mem_range.mpr hj9, by rw [getD_of hg]; exact hn⟩
        | false =>
          repeat first | walk_at "rd" | walk_at "rdi"
          refine new_at (Nat.le_of_ble_eq_true rfl) (fun b H6 nb s6 eb => ?_)
          have ed := s6 _ _ ed
          repeat first | walk_at "rd" | walk_at "rdi"
          refine ⟨d, _, rfl, DPut.t ed (k := kk g.1 (g.2 / w_)) eb (by rw [sizeLine_eq]; have := hM.len; rw [List.length_append, List.length_take] at this; omega), ?_⟩
          have s56 := s5.trans s6
          refine ⟨_, _, _, rfl, upd_same, ?_, (s5'.trans s6).over nd ed, ?_, (upd_ne ntd).trans (s56 _ _ et), fun j' hj' => ?_⟩
          · rw [take_more hg, ← List.append_assoc]
            exact hM.put w0 hn
          · exact ⟨hP.1, fun i' g' hg' => by
              obtain ⟨t', e1, e2⟩ := (hP.keep s56).2 i' g' hg'
              exact ⟨t', e1, (upd_ne (fun z => by rw [z, ed] at e2; cases e2)).trans e2⟩⟩
          · by_cases e : j' = j
            · subst e; rw [getD_of hg]; exact hn
            · exact hb2 j' (by omega)
      · clear ed hM s3 hP et eu2 s2 nu2
        rintro σ H4 ⟨v6, v7, kvs, rfl, ed, hM, s4, hP, et, hb2⟩
        rw [hP.1] at hb2 hM
        rw [List.take_length] at hM
        repeat first | walk_at "rd" | walk_at "rdi"
        refine ⟨_, _, _, _, kvs, rfl, ed, by rw [flat_more hm1]; exact hM, s4, fun j hj => ?_⟩
        by_cases e : j = i
        · subst e
          unfold rowNear
          rw [getD_of hm1, List.any_eq_false]
          intro x hx
          rw [hb2 x (List.mem_range.mp hx)]
          exact Bool.false_ne_true
        · exact hb j (by omega)
    · rintro σ H2 ⟨v4, v5, v6, v7, kvs, rfl, ed, hM, s2, hb⟩
      rw [hA.1] at hb
      repeat walk_at "rd"
      refine k _ _ s2 ?_
      rw [first_none hb]
      rfl
end

/-! ### the program's faults of plans, read -/
theorem FltAt.or_left {H : Hp} {v : V} {f g : Flt} (h : FltAt H v f) (n : f ≠ none) : FltAt H v (f.or g) := by
  cases f with
  | none => exact absurd rfl n
  | some x => exact h
theorem FltAt.or_right {H : Hp} {v : V} {f g : Flt} (h : FltAt H v g) (n : f = none) : FltAt H v (f.or g) := by
  subst n; exact h
section
variable {P : Program} {w : World} {K : PySem.W.Frag} {mg : Str → Option Value} {base : Heap} {a : Adr}
theorem ok_check_count (T : Txt K mg a) : FnOk P w K mg base CX0 3 a.a_check_count a.d_check_count ["count", "low", "high"] spCountOk := by
  refine T.F_check_count.ok sc_check_count (fun vs H Q E h => ?_) (fun cdv A outer s H vs Q E hr h => ?_)
  · obtain ⟨n, lo, hi, rfl, _⟩ := h
    rfl
  · obtain ⟨n, lo, hi, rfl, hn, k⟩ := h
    refine ⟨_, (pss_one (ps_if (pt_not (pt_val (pe_call (ok_is_between T) (hr.mono (by decide)) (by rfl) T.g_is_between T.F_is_between.kp T.b_is_between .nil pass0 (pa_cons (pv 0) (pa_cons (pv 1) (pa_cons (pv 2) pa_nil)))))) (pss_one ps_never)
 pss_nil)), ?_⟩
    repeat first | walk_at "rd" | walk_at "rdi"
    refine r_between ?_
    repeat walk_at "rd"
    refine r_nDT hn ?_
    repeat first | exact k | walk_at "rd" | walk_at "rdi"
theorem ok_telling_fault (T : Txt K mg a) : FnOk P w K mg base CX0 2 a.a_telling_fault a.d_telling_fault ["told", "roots", "wanted", "letter"] spTelling := by
  refine T.F_telling_fault.ok sc_telling_fault (fun vs H Q E h => ?_) (fun cdv A outer s H vs Q E hr h => ?_)
  · obtain ⟨p, r, q, D, xs, rs, roots, ws, rfl, _⟩ := h
    rfl
  · obtain ⟨p, r, q, D, xs, rs, roots, ws, rfl, ep, hA, er, eq, hro, hrs, hsend, k⟩ := h
    refine ⟨_, (pss_cons (ps_setLc (i := 4) (own := [("_", 5), ("receiver", 6)]) (g := gTup K 3 (gCons (gName 5) (gCons (gName 6) (gCons (gName 5) (gNil))))) (tt := tYes) rfl sc_telling_fault.nd rfl rfl (sw_true rfl rfl rfl (by decide +kernel)) (pi_seq (pv 0)) (blkOk_by (own := [("_", 5), ("receiver", 6)]) (N := ["told", "roots", "wanted", "letter", "receivers", "_", "receiver"]) (sc := defScope s_telling_fault) (by decide +kernel)) (fun _ _ _ _ _ => (pg_tupK (K := K) (n := 3) rfl (by rfl) (pgs_cons (pg_name (i := 5) sc_telling_fault.nd rfl (Or.inl rfl)) (pgs_cons (pg_name (i := 6) sc_telling_fault.nd rfl (Or.inl rfl)) (pgs_cons (pg_name (i := 5) sc_telling_fault.nd rfl (Or.inl rfl)) pgs_nil))))) (fun _ _ _ _ _ => pts_nil) (fun _ _ _ _ _ => (pv 6)))
 (pss_one (ps_ret (pe_orT (pe_call (ok_again_fault T) (hr.mono (by decide)) (by rfl) T.g_again_fault T.F_again_fault.kp T.b_again_fault .nil pass0 (pa_cons (pv 4) (pa_cons (pv 1) pa_nil))) (pe_orT (pe_call (ok_nobody_fault T) (hr.mono (by decide)) (by rfl) T.g_nobody_fault T.F_nobody_fault.kp T.b_nobody_fault .nil pass0 (pa_cons (pv 2) (pa_cons (pe_op op_cat (pv 1) (pv 4)) pa_nil))) (pe_one (pe_call (ok_early_fault T) (hr.mono (by decide)) (by rfl) T.g_early_fault T.F_early_fault.kp T.b_early_fault .nil pass0 (pa_cons (pv 0) (pa_cons (pv 1) (pa_cons (pv 3) pa_nil)))))))))), ?_⟩
    repeat walk_at "rd"
    refine r_lcSeq (xs := xs) (fun L i H' => H' L = some (.lst (((rs.take i).map (·.2.1)).map V.int)) ∧ Same H H') (by intro QA q; (repeat walk_at "rd"); exact q) ep (fun L hL => ⟨upd_same, Same.new hL⟩) (fun L i H' hL h o ho => h.2 _ _ ho) ?_ ?_
    · rintro L i x H1 hL hx ⟨e1, s1⟩
      obtain ⟨t, l, rfl, hl1, et⟩ := (hA.keep s1).get hx
      have hi9 := (List.getElem?_eq_some_iff.mp hl1).1
      repeat walk_at "rd"
      refine ⟨rfl, ?_⟩
      repeat walk_at "rd"
      refine ⟨_, e1, small1000 (by rw [List.length_map, List.length_map, List.length_take]; omega), ?_, s1.over hL e1⟩
      rw [upd_same, take_more hl1, List.map_append, List.map_append]
      rfl
    · rintro L H1 hL ⟨e1, s1⟩
      rw [hA.1, List.take_length] at e1
      have e1 : H1 L = some (.lst ((recvs rs).map V.int)) := e1
      have hrl : (recvs rs).length = rs.length := List.length_map _
      repeat walk_at "rd"
      refine r_orT ?_
      repeat walk_at "rd"
      refine ⟨L, r, recvs rs, roots, rfl, e1, s1 _ _ er, by omega, by omega, fun v H2 s2 hv => ?_⟩
      refine r_orF hv (fun hn => k _ _ (s1.trans s2) (hv.or_left hn)) (fun hn => ?_)
      have k : ∀ v H', Same H H' → FltAt H' v ((nobodyF ws (roots ++ recvs rs)).or (earlyF rs roots D)) → Q v H' := fun v H' h1 h2 => k v H' h1 (h2.or_right hn)
      obtain ⟨hnd, hnr⟩ := again_none hn
      have s12 := s1.trans s2
      refine r_orT ?_
      repeat walk_at "rd"
      refine r_cat (s12 _ _ er) (s2 _ _ e1) (by rw [List.length_map, List.length_map]; omega) (fun c H3 nc s3 ec => ?_)
      rw [← List.map_append] at ec
      have s13 := s12.trans s3
      repeat walk_at "rd"
      refine ⟨q, c, ws, roots ++ recvs rs, rfl, s13 _ _ eq, ec, by rw [List.length_append]; omega, fun v H4 s4 hv => ?_⟩
      have s14 := s13.trans s4
      refine r_orF hv (fun hn => k _ _ s14 (hv.or_left hn)) (fun hn2 => ?_)
      have hall := nobody_none hn2
      repeat walk_at "rd"
      refine ⟨p, r, D, xs, rs, roots, rfl, ep.keep s14, hA.keep s14, s14 _ _ er, by omega, by omega, hnd, fun l hl => hnr _ (List.mem_map.mpr ⟨l, hl, rfl⟩), fun l hl => ?_, fun v H5 s5 hv => k _ _ (s14.trans s5) (hv.or_right hn2)⟩
      rcases List.mem_append.mp (hall _ (hsend l hl)) with h | h
      · exact .inl h
      · obtain ⟨m, hm, e⟩ := List.mem_map.mp h
        exact .inr ⟨m, hm, e⟩
theorem ok_row_fault (T : Txt K mg a) : FnOk P w K mg base CX0 4 a.a_row_fault a.d_row_fault ["n", "thing"] spRowF := by
  refine T.F_row_fault.ok sc_row_fault (fun vs H Q E h => ?_) (fun cdv A outer s H vs Q E hr h => ?_)
  · obtain ⟨n, p, xs, rs, rfl, _⟩ := h
    rfl
  · obtain ⟨n, p, xs, rs, rfl, ep, hA, hl, k⟩ := h
    refine ⟨_, (pss_one (ps_ret (pe_orT (pe_call (ok_form_fault T) (hr.mono (by decide)) (by rfl) T.g_form_fault T.F_form_fault.kp T.b_form_fault .nil pass0 (pa_cons (pv 1) (pa_cons (pe_glob (v := .int 400) (by rfl) T.g_MOST_ROWS.choose_spec ⟨_, rfl⟩) (pa_cons pe_int pa_nil)))) (pe_one (pe_call (ok_hand_fault T) (hr.mono (by decide)) (by rfl) T.g_hand_fault T.F_hand_fault.kp T.b_hand_fault .nil pass0 (pa_cons (pv 0) (pa_cons (pe_lc (own := [("row", 2)]) (g := gName 2) (tt := tYes) rfl sc_row_fault.nd (pi_seq (pv 1)) (blkOk_by (own := [("row", 2)]) (N := ["n", "thing", "row"]) (sc := defScope s_row_fault) (by decide +kernel)) (fun _ _ _ _ _ => (pg_name (i := 2) sc_row_fault.nd rfl (Or.inl rfl))) (fun _ _ _ _ _ => pts_nil) (fun _ _ _ _ _ => (pe_slice (sl_tupK (K := K) rfl) (pv 2) po_none (po_some pe_int)))) (pa_cons pe_int (pa_cons pe_int pa_nil))))))))), ?_⟩
    repeat walk_at "rd"
    refine r_orT ?_
    repeat walk_at "rd"
    refine ⟨p, 400, 2, xs, rs.map (·.2.2), rfl, ep, hA.rowsG, by rw [hA.1]; omega, fun v H1 s1 hv => ?_⟩
    refine r_orF hv (fun hn => k _ _ s1 (hv.or_left hn)) (fun hn => ?_)
    have ep1 := ep.keep s1
    repeat walk_at "rd"
    refine r_lcSeq (xs := xs) (fun L i H' => ∃ ys, H' L = some (.lst ys) ∧ PairsAt H' ys ((rs.take i).map fun l => (l.1, l.2.1)) ∧ Same H1 H') (by intro QA q; (repeat walk_at "rd"); exact q) ep1 (fun L hL => ⟨[], upd_same, by rw [List.take_zero]; exact PairsAt.nil, Same.new hL⟩) (fun L i H' hL ⟨_, _, _, s⟩ o ho => s _ _ ho) ?_ ?_
    · rintro L i x H2 hL hx ⟨ys, e2, hP, s2⟩
      obtain ⟨t, l, rfl, hl1, et⟩ := (hA.keep (s1.trans s2)).get hx
      have hi9 := (List.getElem?_eq_some_iff.mp hl1).1
      repeat walk_at "rd"
      refine ⟨rfl, ?_⟩
      repeat walk_at "rd"
      refine r_slT (SqT.of et) (by simp [HT.sIx]) (fun q H3 nq s3 e3 => ?_)
      have e3 : H3 q = some (.tup [.int l.1, .int l.2.1]) := by rw [e3]; rfl
      have e2 := s3 _ _ e2
      refine ⟨_, e2, small1000 (by rw [hP.1, List.length_map, List.length_take]; omega), ys ++ [.ref q], upd_same, ?_, (s2.trans s3).over hL e2⟩
      rw [take_more hl1, List.map_append]
      exact ((hP.keep s3).snoc (g := (l.1, l.2.1)) e3).upd e2
    · rintro L H2 hL ⟨ys, e2, hP, s2⟩
      rw [hA.1, List.take_length] at hP
      repeat walk_at "rd"
      refine ⟨L, n, 0, 1, ys, _, rfl, e2, hP, fun v H3 s3 hv => k _ _ ((s1.trans s2).trans s3) (hv.or_right hn)⟩
theorem ok_fault (T : Txt K mg a) : FnOk P w K mg base CX0 5 a.a_fault a.d_fault ["machine", "n", "thing"] (spFault a.c_Machine) := by
  refine T.F_fault.ok sc_fault (fun vs H Q E h => ?_) (fun cdv A outer s H vs Q E hr h => ?_)
  · obtain ⟨m, p, o, l, g, n, xs, rs, rfl, _⟩ := h
    rfl
  · obtain ⟨m, p, o, l, g, n, xs, rs, rfl, hm, g0, g9, hn, ep, hA, hl, k⟩ := h
    refine ⟨_, (pss_cons (ps_expr (pe_call (ok_check_count T) (hr.mono (by decide)) (by rfl) T.g_check_count T.F_check_count.kp T.b_check_count .nil pass0 (pa_cons (pv 1) (pa_cons pe_int (pa_cons (pe_glob (v := .int 100) (by rfl) T.g_MOST_PLANNED.choose_spec ⟨_, rfl⟩) pa_nil)))))
 (pss_one (ps_ret (pe_orT (pe_call (ok_row_fault T) (hr.mono (by decide)) (by rfl) T.g_row_fault T.F_row_fault.kp T.b_row_fault .nil pass0 (pa_cons (pv 1) (pa_cons (pv 2) pa_nil))) (pe_orT (pe_call (ok_telling_fault T) (hr.mono (by decide)) (by rfl) T.g_telling_fault T.F_telling_fault.kp T.b_telling_fault .nil pass0 (pa_cons (pv 2) (pa_cons (pe_lst (pa_cons pe_int pa_nil)) (pa_cons (pe_listRg rfl (by rfl) T.n_list (prg_1 (by rfl) T.n_range (pv 1))) (pa_cons (pe_fld (pv 0) rfl) pa_nil))))) (pe_one (pe_call (ok_near_fault T) (hr.mono (by decide)) (by rfl) T.g_near_fault T.F_near_fault.kp T.b_near_fault .nil pass0 (pa_cons pe_str (pa_cons (pe_lc (own := [("sender", 3), ("_", 4), ("start", 5)]) (g := gTup K 3 (gCons (gName 3) (gCons (gName 4) (gCons (gName 5) (gNil))))) (tt := tYes) rfl sc_fault.nd (pi_seq (pv 2)) (blkOk_by (own := [("sender", 3), ("_", 4), ("start", 5)]) (N := ["machine", "n", "thing", "sender", "_", "start"]) (sc := defScope s_fault) (by decide +kernel)) (fun _ _ _ _ _ => (pg_tupK (K := K) (n := 3) rfl (by rfl) (pgs_cons (pg_name (i := 3) sc_fault.nd rfl (Or.inl rfl)) (pgs_cons (pg_name (i := 4) sc_fault.nd rfl (Or.inl rfl)) (pgs_cons (pg_name (i := 5) sc_fault.nd rfl (Or.inl rfl)) pgs_nil))))) (fun _ _ _ _ _ => pts_nil) (fun _ _ _ _ _ => (pe_lst (pa_cons (pe_tup (pa_cons (pv 3) (pa_cons (pv 5) pa_nil))) pa_nil)))) (pa_cons (pe_fld (pv 0) rfl) pa_nil)))))))))), ?_⟩
    repeat walk_at "rd"
    refine ⟨n, 1, 100, rfl, hn, ?_⟩
    repeat walk_at "rd"
    refine r_orT ?_
    repeat walk_at "rd"
    refine ⟨n, p, xs, rs, rfl, ep, hA, hl, fun v H1 s1 hv => ?_⟩
    refine r_orF hv (fun hn => k _ _ s1 (hv.or_left hn)) (fun hn1 => ?_)
    have k : ∀ v H', Same H H' → FltAt H' v ((tellingF rs [0] (upTo n) (2 * o + l)).or (nearF "gap" (gapMarks rs) (gapOf o g))) → Q v H' := fun v H' h1 h2 => k v H' h1 (h2.or_right hn1)
    have hh : handF n 0 1 (rs.map fun l => (l.1, l.2.1)) = none := by
      unfold rowF at hn1
      rw [Option.or_eq_none_iff] at hn1
      exact hn1.2
    have hsend : ∀ x, x ∈ rs → x.1 ∈ upTo n := fun x hx => by
      have := hand_none hh _ (List.mem_map.mpr ⟨x, hx, rfl⟩)
      exact mem_upTo.mpr ⟨this.1.1, this.1.2⟩
    have hm1 := hm.keep s1
    refine r_orT ?_
    repeat walk_at "rd"
    refine new_at (Nat.le_of_ble_eq_true rfl) (fun r H2 nr s2 er => ?_)
    repeat walk_at "rd"
    refine r_lstRg ?_
    repeat walk_at "rd"
    refine ⟨RgOk.of_le (by omega) (by omega) (by omega) (by omega), fun q nq => ?_⟩
    have s3 : Same H2 (upd H2 q (.lst (rgV 0 n))) := Same.new nq
    have eq : upd H2 q (.lst (rgV 0 n)) q = some (.lst ((upTo n).map V.int)) := by rw [upd_same, rg_is (by omega)]
    generalize upd H2 q (.lst (rgV 0 n)) = H3 at s3 eq ⊢
    have s13 := (s1.trans s2).trans s3
    obtain ⟨dm, hm3⟩ := (hm1.keep s2).keep s3
    repeat walk_at "rd"
    refine ⟨p, r, q, 2 * o + l, xs, rs, [0], upTo n, rfl, ep.keep s13, hA.keep s13, s3 _ _ er, eq, by decide, hl, hsend, fun v H4 s4 hv => ?_⟩
    have s14 := s13.trans s4
    refine r_orF hv (fun hn => k _ _ s14 (hv.or_left hn)) (fun hn2 => ?_)
    have ep4 := ep.keep s14
    repeat walk_at "rd"
    refine r_lcSeq (xs := xs) (fun L i H' => ∃ ys, H' L = some (.lst ys) ∧ MarksAt H' ys (gapMarks (rs.take i)) ∧ (∀ t, V.ref t ∈ ys → t ≠ L) ∧ Same H4 H') (by intro QA q; (repeat walk_at "rd"); exact q) ep4 (fun L hL => ⟨[], upd_same, ⟨rfl, fun i m h => by simp [gapMarks] at h⟩, (fun t ht => nomatch ht), Same.new hL⟩) (fun L i H' hL ⟨_, _, _, _, s⟩ o ho => s _ _ ho) ?_ ?_
    · rintro L i x H5 hL hx ⟨ys, e5, hP, hne, s5⟩
      obtain ⟨t, y, rfl, hl1, et⟩ := (hA.keep (s14.trans s5)).get hx
      have hi9 := (List.getElem?_eq_some_iff.mp hl1).1
      repeat walk_at "rd"
      refine ⟨rfl, ?_⟩
      repeat walk_at "rd"
      refine new_at (Nat.le_of_ble_eq_true rfl) (fun b H6 nb s6 eb => ?_)
      repeat walk_at "rd"
      refine new_at (Nat.le_of_ble_eq_true rfl) (fun c H7 nc s7 ec => ?_)
      have s67 := s6.trans s7
      have e5 := s67 _ _ e5
      have hlen : ys.length = i := by
        rw [hP.1]
        unfold gapMarks
        rw [List.length_map, List.length_take]
        omega
      have ncL : c ≠ L := (ne_of_none (s6 _ _ (by assumption)) nc).symm
      refine ⟨_, e5, small1000 (by omega), ys ++ [.ref c], upd_same, ⟨?_, fun j m hm => ?_⟩, fun t' ht' => ?_, ((s5.trans s67)).over hL e5⟩
      · unfold gapMarks
        rw [List.length_append, List.length_singleton, List.length_map, List.length_take]
        omega
      · have keep : ∀ {z : Addr} {zs : List V}, z ≠ L → H7 z = some (.lst zs) → L2.upd H7 L (.lst (ys ++ [.ref c])) z = some (.lst zs) := fun nz h => (upd_ne nz).trans h
        have hP7 := hP.keep s67
        unfold gapMarks at hm
        rw [List.getElem?_map, List.getElem?_take] at hm
        by_cases cj : j < i
        · rw [if_pos (by omega)] at hm
          obtain ⟨t', zs, e1, e2, e3⟩ := hP7.2 j m (by unfold gapMarks; rw [List.getElem?_map, List.getElem?_take, if_pos cj]; exact hm)
          exact ⟨t', zs, by rw [List.getElem?_append_left (by omega)]; exact e1, keep (hne t' (List.mem_iff_getElem?.mpr ⟨j, e1⟩)) e2, e3.upd e5⟩
        · by_cases ce : j = i
          · subst ce
            rw [if_pos (by omega), hl1] at hm
            obtain rfl := Option.some.inj hm
            refine ⟨c, _, by rw [List.getElem?_append_right (by omega), hlen, Nat.sub_self]; rfl, keep ncL ec, ?_⟩
            exact (PairsAt.nil.snoc (g := (y.1, y.2.2)) (s7 _ _ eb)).upd e5
          · rw [if_neg (by omega)] at hm
            cases hm
      · rcases List.mem_append.mp ht' with h | h
        · exact hne t' h
        · rw [List.mem_singleton] at h
          rw [V.ref.inj h]
          exact ncL
    · rintro L H5 hL ⟨ys, e5, hP, hne, s5⟩
      rw [hA.1, List.take_length] at hP
      obtain ⟨dm, hm5⟩ := (hm.keep s14).keep s5
      repeat walk_at "rd"
      refine ⟨"gap", L, gapOf o g, ys, gapMarks rs, rfl, e5, hP, by unfold gapMarks; rw [List.length_map]; omega, fun m hm => ?_, g0, g9, fun v H6 s6 hv => k _ _ ((s14.trans s5).trans s6) (hv.or_right hn2)⟩
      obtain ⟨y, _, rfl⟩ := List.mem_map.mp hm
      exact Nat.le_of_ble_eq_true rfl
end

/-! ### a law's own fault of a plan -/
theorem inV_ints (z : Int) : ∀ xs : List Int, inV (.int z) (xs.map V.int) = decide (z ∈ xs)
  | [] => rfl
  | x :: xs => by
    have ih := inV_ints z xs
    unfold inV at ih ⊢
    rw [List.map_cons, List.any_cons, ih]
    show ((x == z) || decide (z ∈ xs)) = decide (z ∈ x :: xs)
    rw [Bool.eq_iff_iff, Bool.or_eq_true, decide_eq_true_eq, decide_eq_true_eq, List.mem_cons]
    constructor
    · rintro (h | h)
      · exact .inl (eq_of_beq h).symm
      · exact .inr h
    · rintro (h | h)
      · exact .inl (beq_iff_eq.mpr h.symm)
      · exact .inr h
theorem flat_ints : ∀ xs : List Int, (xs.map V.int).all flatV = true
  | [] => rfl
  | x :: xs => by rw [List.map_cons, List.all_cons, flat_ints xs]; rfl
theorem r_inS {K : PySem.W.Frag} {H : Hp} {Q : VK} {z : Int} {p : Addr} {xs : List Int} (h : H p = some (.lst (xs.map V.int))) (q : Q (.bl (decide (z ∈ xs))) H) : rIn K false (.int z) (.ref p) H Q := ⟨p, _, rfl, .inl (SqL.of h), rfl, flat_ints xs, by rw [inV_ints]; exact q⟩
theorem r_ninS {K : PySem.W.Frag} {H : Hp} {Q : VK} {z : Int} {p : Addr} {xs : List Int} (h : H p = some (.lst (xs.map V.int))) (q : Q (.bl (!decide (z ∈ xs))) H) : rIn K true (.int z) (.ref p) H Q := ⟨p, _, rfl, .inl (SqL.of h), rfl, flat_ints xs, by rw [inV_ints]; exact q⟩
theorem eqV_int {x y : Int} : eqV (.int x) (.int y) = decide (x = y) := by
  show (x == y) = _
  rw [Bool.eq_iff_iff, beq_iff_eq, decide_eq_true_eq]
theorem r_index {K : PySem.W.Frag} {H : Hp} {Q : VK} {z : Int} {p : Addr} {xs : List Int} (h : H p = some (.lst (xs.map V.int))) (hz : z ∈ xs) (q : ∀ j : Nat, xs[j]? = some z → (∀ m, m < j → xs.getD m 0 ≠ z) → Q (.int (j : Nat)) H) : rIndex K (.ref p) [.int z] H Q := by
  have hs : (first (fun i => decide (xs.getD i 0 = z)) xs.length) ≠ none := fun e => by
    obtain ⟨i, hi⟩ := List.mem_iff_getElem?.mp hz
    have := first_no e i (List.getElem?_eq_some_iff.mp hi).1
    rw [getD_of hi, decide_eq_true rfl] at this
    cases this
  obtain ⟨j, hj⟩ := Option.ne_none_iff_exists'.mp hs
  obtain ⟨h1, h2, h3⟩ := first_yes hj
  have hj2 : xs[j]? = some z := by
    have := of_decide_eq_true h2
    rw [getD_of (List.getElem?_eq_getElem h1)] at this
    rw [List.getElem?_eq_getElem h1, this]
  refine ⟨p, _, .int z, j, .int z, rfl, rfl, SqL.of h, rfl, flat_ints xs, by rw [List.getElem?_map, hj2]; rfl, by rw [eqV_int, decide_eq_true rfl], fun m z' hm hz' => ?_, q j hj2 fun m hm => of_decide_eq_false (h3 m hm)⟩
  obtain ⟨y, hy, rfl⟩ := int_of_get hz'
  have := h3 m hm
  rw [getD_of hy] at this
  rw [eqV_int]
  exact this
/-! what the law says is wrong -/
def againL (rs : List L3) : Flt := atIx "again" (first (fun i => decide ((recvs rs).getD i 0 ∈ (recvs rs).take i)) rs.length)
def nobodyL (n : Int) (rs : List L3) : Flt := Option.map (fun i : Nat => ("nobody", 1 + (i : Int))) (first (fun i => !decide ((1 + (i : Int)) ∈ recvs rs)) (n - 1).toNat)
def earlyL (D : Int) (rs : List L3) : Flt := atIx "early" (first (fun i => decide ((rs.getD i (0, 0, 0)).1 > 0 ∧ (rs.getD i (0, 0, 0)).2.2 < knownOf rs [] D (rs.getD i (0, 0, 0)).1)) rs.length)
def gapL (G : Int) (rs : List L3) : Flt := atIx "gap" (first (fun i => (rs.take i).any fun q => decide (q.1 = (rs.getD i (0, 0, 0)).1 ∧ -G < q.2.2 - (rs.getD i (0, 0, 0)).2.2 ∧ q.2.2 - (rs.getD i (0, 0, 0)).2.2 < G)) rs.length)
def lawF (D G n : Int) (rs : List L3) : Flt := (formS (rs.map (·.2.2))).or ((handF n 0 1 (rs.map fun l => (l.1, l.2.1))).or ((againL rs).or ((nobodyL n rs).or ((earlyL D rs).or (gapL G rs)))))
theorem or_congr {f f' g g' : Flt} (h : f = f') (k : f' = none → g = g') : f.or g = f'.or g' := by
  subst h
  cases f with
  | none => exact k rfl
  | some x => rfl
theorem or_assoc3 {a b c : Flt} : (a.or b).or c = a.or (b.or c) := Option.or_assoc
theorem form_none {ss : List Int} (h : formS ss = none) : ∀ s, s ∈ ss → 0 ≤ s ∧ s ≤ 1000000000000000 := by
  unfold formS atIx at h
  rw [Option.map_eq_none_iff] at h
  intro s hs
  obtain ⟨i, hi⟩ := List.mem_iff_getElem?.mp hs
  have := first_no h i (List.getElem?_eq_some_iff.mp hi).1
  rw [getD_of hi] at this
  unfold okStart at this
  simpa using this
theorem upTo_cons {n : Int} (h : 1 ≤ n) : upTo n = 0 :: (List.range (n - 1).toNat).map fun i : Nat => 1 + (i : Int) := by
  unfold upTo
  have e : n.toNat = (n - 1).toNat + 1 := by omega
  rw [e, List.range_succ_eq_map, List.map_cons, List.map_map]
  congr 1
  refine List.map_congr_left fun x _ => ?_
  show ((x + 1 : Nat) : Int) = 1 + (x : Int)
  omega
theorem find_first (P : Int → Bool) (m : Nat) : ((List.range m).map fun i : Nat => 1 + (i : Int)).find? P = Option.map (fun i : Nat => 1 + (i : Int)) (first (fun i => P (1 + (i : Int))) m) := by
  rw [List.find?_map]
  rfl
theorem known_nil {rs : List L3} {D s : Int} (h : s ≠ 0) : knownOf rs [0] D s = knownOf rs [] D s := by
  unfold knownOf
  rw [if_neg (by rw [List.mem_singleton]; exact h), if_neg (by simp)]
theorem flat_marks (rs : List L3) : (gapMarks rs).flatten = rs.map fun l => (l.1, l.2.2) := by
  unfold gapMarks
  induction rs with
  | nil => rfl
  | cons r rs ih => rw [List.map_cons, List.flatten_cons, ih]; rfl
/-- the law's fault is the program's -/
theorem law_fault {D G n : Int} {rs : List L3} (hn : 1 ≤ n) (hG : 0 < G) : lawF D G n rs = faultF D G n rs := by
  unfold lawF faultF rowF tellingF
  rw [or_assoc3]
  refine or_congr rfl fun hf => or_congr rfl fun hh => ?_
  rw [or_assoc3, or_assoc3]
  have hst : ∀ l, l ∈ rs → 0 ≤ l.2.2 := fun l hl => (form_none hf _ (List.mem_map.mpr ⟨l, hl, rfl⟩)).1
  have hhd : ∀ l, l ∈ rs → (0 ≤ l.1 ∧ l.1 < n) ∧ (1 ≤ l.2.1 ∧ l.2.1 < n) := fun l hl => by
    have := hand_none hh _ (List.mem_map.mpr ⟨l, hl, rfl⟩)
    exact ⟨this.1, this.2.1⟩
  have hr1 : ∀ k, k ∈ recvs rs → 1 ≤ k := fun k hk => by
    obtain ⟨l, hl, rfl⟩ := List.mem_map.mp hk
    exact (hhd l hl).2.1
  have hlr : (recvs rs).length = rs.length := List.length_map _
  refine or_congr ?_ fun ha => or_congr ?_ fun hb => or_congr ?_ fun he => ?_
  · unfold againL againF
    rw [hlr]
    congr 1
    refine first_congr fun i hi => ?_
    rw [decide_eq_decide, List.mem_append, List.mem_singleton]
    refine ⟨.inr, fun h => h.elim (fun e => ?_) id⟩
    have := hr1 _ (List.mem_iff_getElem?.mpr ⟨i, by rw [List.getElem?_eq_getElem (by omega)]⟩ : (recvs rs)[i]'(by omega) ∈ recvs rs)
    rw [getD_of (List.getElem?_eq_getElem (by omega))] at e
    omega
  · unfold nobodyL nobodyF
    rw [upTo_cons hn, List.find?_cons]
    have h0 : (!decide ((0 : Int) ∈ [0] ++ recvs rs)) = false := by
      rw [decide_eq_true (List.mem_append_left _ (List.mem_singleton.mpr rfl))]; rfl
    rw [h0]
    dsimp only
    rw [find_first, Option.map_map]
    rw [first_congr (P := fun i => !decide ((1 + (i : Int)) ∈ recvs rs)) (P' := fun i => !decide ((1 + (i : Int)) ∈ [0] ++ recvs rs)) fun i hi => by
      congr 1
      rw [decide_eq_decide, List.mem_append, List.mem_singleton]
      exact ⟨.inr, fun h => h.elim (fun e => absurd e (by omega)) id⟩]
    rfl
  · unfold earlyL earlyF
    congr 1
    refine first_congr fun i hi => ?_
    have hl := List.getElem?_eq_getElem hi
    rw [getD_of hl, decide_eq_decide]
    have hm : rs[i] ∈ rs := List.getElem_mem hi
    by_cases c : rs[i].1 = 0
    · have h1 := hst _ hm
      unfold knownOf
      rw [c, if_pos (List.mem_singleton.mpr rfl)]
      omega
    · have h1 := (hhd _ hm).1.1
      rw [known_nil c]
      exact ⟨fun h => h.2, fun h => ⟨by omega, h⟩⟩
  · unfold gapL nearF
    rw [if_neg (by omega)]
    have hgl : (gapMarks rs).length = rs.length := List.length_map _
    rw [hgl]
    congr 1
    refine first_congr fun i hi => ?_
    have hl := List.getElem?_eq_getElem hi
    have hm : (gapMarks rs).getD i [] = [(rs[i].1, rs[i].2.2)] := getD_of (by unfold gapMarks; rw [List.getElem?_map, hl]; rfl)
    unfold rowNear
    rw [getD_of hl, hm]
    show _ = ([0].any fun j => _)
    rw [List.any_cons, List.any_nil, Bool.or_false]
    rw [show ((gapMarks rs).take i).flatten = (rs.take i).map fun l => (l.1, l.2.2) by rw [← flat_marks]; unfold gapMarks; rw [List.map_take]]
    rw [List.take_zero, List.append_nil, show ([(rs[i].1, rs[i].2.2)] : List (Int × Int)).getD 0 (0, 0) = (rs[i].1, rs[i].2.2) from rfl]
    unfold nearP near1
    rw [List.any_map]
    congr 1
    funext q
    show decide _ = decide _
    rw [decide_eq_decide]
    dsimp only
    omega
def spLawRow : Sp := fun vs H Q _ => ∃ (t : Addr) (l : L3), vs = [.ref t] ∧ H t = some (.tup [.int l.1, .int l.2.1, .int l.2.2]) ∧ ∀ H', Same H H' → Q (.bl (okStart l.2.2)) H'
def spLawFault : Sp := fun vs H Q _ => ∃ (p : Addr) (D G n : Int) (xs : List V) (rs : List L3), vs = [.int D, .int G, .int n, .ref p] ∧ H p = some (.lst xs) ∧ TrisAt H xs rs ∧ rs.length ≤ 400 ∧ 1 ≤ n ∧ n ≤ 1000 ∧ ∀ v H', Same H H' → FltAt H' v (lawF D G n rs) → Q v H'
def spSameF : Sp := fun vs H Q _ => ∃ (u v : V) (f : Flt), vs = [u, v] ∧ FltAt H u f ∧ FltAt H v f ∧ Q (.bl true) H

/-! ### compares of strings -/
theorem r_eqStr {H : Hp} {Q : VK} {x y : Str} (b : Bool) (h : decide (V.str x = V.str y) = b) (q : Q (.bl b) H) : rEq (.str x) (.str y) H Q := ⟨rfl, by rw [h]; exact q⟩
theorem r_neStr {H : Hp} {Q : VK} {x y : Str} (b : Bool) (h : decide (V.str x = V.str y) = b) (q : Q (.bl (!b)) H) : rNe (.str x) (.str y) H Q := ⟨rfl, by rw [h]; exact q⟩
theorem r_isNs {H : Hp} {Q : VK} {s : Str} (q : Q (.bl false) H) : rIsNo (.str s) .non H Q := ⟨rfl, q⟩
theorem r_notNs {H : Hp} {Q : VK} {s : Str} (q : Q (.bl true) H) : rNotNo (.str s) .non H Q := ⟨rfl, q⟩

/-! ### a law's own fault of a plan, read -/
theorem or_r {H : Hp} {v : V} {f g : Flt} (n : f = none) (h : FltAt H v g) : FltAt H v (f.or g) := by subst n; exact h
theorem cut_upto {xs : List V} {i : Nat} (h : i ≤ xs.length) : cutV xs none (some (0 + (i : Int))) = xs.take i := by
  have e : HT.sIx xs.length xs.length (some (0 + (i : Int))) = i := by
    show (if 0 + (i : Int) < 0 then (0 + (i : Int) + (xs.length : Int)).toNat else min (0 + (i : Int)).toNat xs.length) = i
    rw [if_neg (by omega)]
    omega
  unfold cutV
  rw [e]
  show (xs.drop 0).take (i - 0) = _
  simp
theorem knownL {rs : List L3} {D : Int} {j : Nat} {l : L3} (hj : rs[j]? = some l) (hno : ∀ m, m < j → (recvs rs).getD m 0 ≠ l.2.1) : knownOf rs [] D l.2.1 = l.2.2 + D := by
  have hlt := (List.getElem?_eq_some_iff.mp hj).1
  have e : rs = rs.take j ++ l :: rs.drop (j + 1) := by
    conv => lhs; rw [← List.take_append_drop j rs]
    rw [List.drop_eq_getElem_cons hlt, (List.getElem?_eq_some_iff.mp hj).2]
  unfold knownOf
  rw [if_neg (by simp)]
  have h1 : (rs.take j).find? (fun x => decide (x.2.1 = l.2.1)) = none := by
    rw [List.find?_eq_none]
    intro x hx he
    obtain ⟨m, hm⟩ := List.mem_iff_getElem?.mp hx
    have hmj : m < j := by
      have := (List.getElem?_eq_some_iff.mp hm).1
      rw [List.length_take] at this
      omega
    rw [List.getElem?_take, if_pos hmj] at hm
    refine hno m hmj ?_
    unfold recvs
    rw [getD_of (by rw [List.getElem?_map, hm]; rfl)]
    exact of_decide_eq_true he
  rw [e, List.find?_append, h1, List.find?_cons, decide_eq_true rfl]
  rfl
section
variable {P : Program} {w : World} {K : PySem.W.Frag} {mg : Str → Option Value} {base : Heap} {a : Adr}
theorem ok__law_row (T : Txt K mg a) : FnOk P w K mg base CX0 1 a.a__law_row a.d__law_row ["_law_row_here"] spLawRow := by
  refine T.F__law_row.ok sc__law_row (fun vs H Q E h => ?_) (fun cdv A outer s H vs Q E hr h => ?_)
  · obtain ⟨t, l, rfl, _⟩ := h
    rfl
  · obtain ⟨t, l, rfl, et, k⟩ := h
    refine ⟨_, (pss_cons (ps_if (PW.pt (pw_or (pt_not (pt_val (pe_callB call_isi (by rfl) T.n_isinstance (by decide +kernel) (pa_cons (pv 0) (pa_cons (pe_bltn (v := .ty "tuple") (u := .type "tuple") (by rfl) T.n_tuple (by decide +kernel) rfl) pa_nil))))) (pw_or1 (pt_cmpR op_ne (pe_callB call_len_seq (by rfl) T.n_len (by decide +kernel) (pa_cons (pv 0) pa_nil)) pe_int (nomark _))))) (pss_one (ps_ret pe_bl))
 pss_nil)
 (pss_cons (ps_if (pt_not (pt_val (pe_callB (cr_all rfl) (by rfl) T.n_all (by decide +kernel) (pa_cons (pe_lc (own := [("_law_part", 1)]) (g := gName 1) (tt := tYes) rfl sc__law_row.nd (pi_tup (pv 0)) (blkOk_by (own := [("_law_part", 1)]) (N := ["_law_row_here", "_law_part"]) (sc := defScope s__law_row) (by decide +kernel)) (fun _ _ _ _ _ => (pg_name (i := 1) sc__law_row.nd rfl (Or.inl rfl))) (fun _ _ _ _ _ => pts_nil) (fun _ _ _ _ _ => (pe_and (pe_callB (call_isiK (K := K) rfl) (by rfl) T.n_isinstance (by decide +kernel) (pa_cons (pv 1) (pa_cons (pe_bltn (v := .ty "int") (u := .type "int") (by rfl) T.n_int (by decide +kernel) rfl) pa_nil))) (pe_one (pe_not (pe_callB (call_isiK (K := K) rfl) (by rfl) T.n_isinstance (by decide +kernel) (pa_cons (pv 1) (pa_cons (pe_bltn (v := .ty "bool") (u := .type "bool") (by rfl) T.n_bool (by decide +kernel) rfl) pa_nil)))))))) pa_nil)))) (pss_one (ps_ret pe_bl))
 pss_nil)
 (pss_one (ps_ret (pe_chain op_le op_le pe_int (pe_ix ix_tup (pv 0) pe_int (fun _ _ => rfl)) (pe_powN (z := 1000000000000000) ⟨by decide, by decide, by decide⟩ (by decide +kernel))))))), ?_⟩
    repeat first | walk_at "rd" | walk_at "rdi"
    refine r_isiTu true et (by decide +kernel) ?_
    repeat first | walk_at "rd" | walk_at "rdi"
    refine ⟨t, rfl, ⟨_, SqT.of et⟩, fun D hD => lc_tup (K := K) (a := t) (xs := [.int l.1, .int l.2.1, .int l.2.2]) (fun i H' => H' D = some (.lst ((List.replicate i true).map V.bl)) ∧ Same H H') ⟨upd_same, Same.new hD⟩ (fun i H' _ h => SqT.of (h.2 _ _ et)) ?_ ?_⟩
    · rintro i x H1 hi ⟨e1, s1⟩
      obtain ⟨z, hz, rfl⟩ := int_of_get (ns := [l.1, l.2.1, l.2.2]) hi
      have hi9 : i < 3 := (List.getElem?_eq_some_iff.mp hz).1
      repeat walk_at "rd"
      refine ⟨rfl, ?_⟩
      repeat first | walk_at "rd" | walk_at "rdi"
      refine ⟨_, e1, small1000 (by rw [List.length_map, List.length_replicate]; omega), ?_, s1.over hD e1⟩
      rw [upd_same, List.replicate_succ', List.map_append]
      rfl
    · rintro H1 ⟨e1, s1⟩
      have et := s1 _ _ et
      repeat first | walk_at "rd" | walk_at "rdi"
      refine ⟨D, List.replicate 3 true, rfl, SqL.of e1, ?_⟩
      rw [show (List.replicate 3 true).all id = true by decide]
      repeat first | walk_at "rd" | walk_at "rdi"
      refine ite_d (fun hc => ?_) (fun hc => ?_)
      · repeat walk_at "rd"
        have := k H1 s1
        rw [show okStart l.2.2 = decide (l.2.2 ≤ 1000000000000000) from decide_eq_decide.mpr ⟨fun h => h.2, fun h => ⟨hc, h⟩⟩] at this
        exact this
      · have := k H1 s1
        rw [show okStart l.2.2 = false from decide_eq_false fun h => hc h.1] at this
        exact this
theorem ok__law_same_fault (T : Txt K mg a) : FnOk P w K mg base CX0 2 a.a__law_same_fault a.d__law_same_fault ["_law_told", "_law_due"] spSameF := by
  refine T.F__law_same_fault.ok sc__law_same_fault (fun vs H Q E h => ?_) (fun cdv A outer s H vs Q E hr h => ?_)
  · obtain ⟨u, v, f, rfl, _⟩ := h
    rfl
  · obtain ⟨u, v, f, rfl, hu, hv, k⟩ := h
    refine ⟨_, (pss_cons (ps_if (pt_cmpR op_isNo (pv 1) pe_non (nomark _)) (pss_one (ps_ret (pe_cmpR op_isNo (pv 0) pe_non (nomark _))))
 pss_nil)
 (pss_cons (ps_if (PW.pt (pw_or (pt_not (pt_val (pe_callB call_isi (by rfl) T.n_isinstance (by decide +kernel) (pa_cons (pv 0) (pa_cons (pe_bltn (v := .ty "tuple") (u := .type "tuple") (by rfl) T.n_tuple (by decide +kernel) rfl) pa_nil))))) (pw_or (pt_cmpR op_ne (pe_callB call_len_seq (by rfl) T.n_len (by decide +kernel) (pa_cons (pv 0) pa_nil)) pe_int (nomark _)) (pw_or1 (pt_not (pt_val (pe_callB call_isi (by rfl) T.n_isinstance (by decide +kernel) (pa_cons (pe_ix ix_tup (pv 0) pe_int (fun _ _ => rfl)) (pa_cons (pe_bltn (v := .ty "str") (u := .type "str") (by rfl) T.n_str (by decide +kernel) rfl) pa_nil))))))))) (pss_one (ps_ret pe_bl))
 pss_nil)
 (pss_one (ps_ret (pe_and (pe_cmpR op_eq (pe_ix ix_tup (pv 0) pe_int (fun _ _ => rfl)) (pe_ix ix_tup (pv 1) pe_int (fun _ _ => rfl)) (nomark _)) (pe_one (pe_call (ok__law_is T) (hr.mono (by decide)) (by rfl) T.g__law_is T.F__law_is.kp T.b__law_is .nil pass0 (pa_cons (pe_ix ix_tup (pv 0) pe_int (fun _ _ => rfl)) (pa_cons (pe_ix ix_tup (pv 1) pe_int (fun _ _ => rfl)) pa_nil))))))))), ?_⟩
    cases f with
    | none =>
      have hu : u = .non := hu
      have hv : v = .non := hv
      subst hu; subst hv
      repeat first | exact k | walk_at "rd" | walk_at "rdi"
    | some f =>
      obtain ⟨p, rfl, ep⟩ := hu
      obtain ⟨q, rfl, eq⟩ := hv
      repeat first | walk_at "rd" | walk_at "rdi"
      refine r_isiTu true ep (by decide +kernel) ?_
      repeat first | walk_at "rd" | walk_at "rdi"
      refine r_isi (n := "str") (b := true) (.base (.str _)) (kit_ty (by decide +kernel)) ?_
      repeat first | walk_at "rd" | walk_at "rdi"
      refine ⟨rfl, ?_⟩
      rw [decide_eq_true (show V.str f.1 = V.str f.1 from rfl)]
      repeat first | walk_at "rd" | walk_at "rdi"
      refine ⟨_, _, rfl, ?_⟩
      rw [decide_eq_true rfl]
      exact k
set_option maxHeartbeats 0 in
theorem ok__law_fault (T : Txt K mg a) : FnOk P w K mg base CX0 2 a.a__law_fault a.d__law_fault ["_law_letter", "_law_gap", "_law_n", "_law_thing"] spLawFault := by
  refine T.F__law_fault.ok sc__law_fault (fun vs H Q E h => ?_) (fun cdv A outer s H vs Q E hr h => ?_)
  · obtain ⟨p, D, G, n, xs, rs, rfl, _⟩ := h
    rfl
  · obtain ⟨p, D, G, n, xs, rs, rfl, ep, hA, hl, n1, n9, k⟩ := h
    refine ⟨_, (pss_cons (ps_if (PW.pt (pw_or (pt_not (pt_val (pe_callB call_isiT (by rfl) T.n_isinstance (by decide +kernel) (pa_cons (pv 3) (pa_cons (pe_tup (pa_cons (pe_bltn (v := .ty "list") (u := .type "list") (by rfl) T.n_list (by decide +kernel) rfl) (pa_cons (pe_bltn (v := .ty "tuple") (u := .type "tuple") (by rfl) T.n_tuple (by decide +kernel) rfl) pa_nil))) pa_nil))))) (pw_or1 (pt_cmpR op_gt (pe_callB call_len_seq (by rfl) T.n_len (by decide +kernel) (pa_cons (pv 3) pa_nil)) pe_int (nomark _))))) (pss_one (ps_ret (pe_tup (pa_cons pe_str (pa_cons (pe_un un_neg pe_int) pa_nil)))))
 pss_nil)
 (pss_cons (ps_for (by exact PassesOwn.never) rfl (pi_range1 (by rfl) T.n_range (pa_cons (pe_callB call_len_seq (by rfl) T.n_len (by decide +kernel) (pa_cons (pv 3) pa_nil)) pa_nil)) (pg_name (i := 4) sc__law_fault.nd rfl (Or.inl rfl))
 (pss_one (ps_if (pt_not (pt_val (pe_call (ok__law_row T) (hr.mono (by decide)) (by rfl) T.g__law_row T.F__law_row.kp T.b__law_row .nil pass0 (pa_cons (pe_ix ix_list (pv 3) (pv 4) (fun _ _ => rfl)) pa_nil)))) (pss_one (ps_ret (pe_tup (pa_cons pe_str (pa_cons (pv 4) pa_nil)))))
 pss_nil)))
 (pss_cons (ps_for (by exact PassesOwn.never) rfl (pi_range1 (by rfl) T.n_range (pa_cons (pe_callB call_len_seq (by rfl) T.n_len (by decide +kernel) (pa_cons (pv 3) pa_nil)) pa_nil)) (pg_name (i := 4) sc__law_fault.nd rfl (Or.inl rfl))
 (pss_cons (ps_asg (pe_ix ix_list (pv 3) (pv 4) (fun _ _ => rfl)) (pg_tup (by rfl) (pgs_cons (pg_name (i := 5) sc__law_fault.nd rfl (Or.inl rfl)) (pgs_cons (pg_name (i := 6) sc__law_fault.nd rfl (Or.inl rfl)) (pgs_cons (pg_name (i := 7) sc__law_fault.nd rfl (Or.inl rfl)) pgs_nil)))))
 (pss_one (ps_if (PW.pt (pw_or (pt_cmpR op_lt (pv 5) pe_int (nomark _)) (pw_or (pt_cmpR op_ge (pv 5) (pv 2) (nomark _)) (pw_or (pt_cmpR op_lt (pv 6) pe_int (nomark _)) (pw_or (pt_cmpR op_ge (pv 6) (pv 2) (nomark _)) (pw_or1 (pt_cmpR op_eq (pv 5) (pv 6) (nomark _)))))))) (pss_one (ps_ret (pe_tup (pa_cons pe_str (pa_cons (pv 4) pa_nil)))))
 pss_nil))))
 (pss_cons (ps_setLc (i := 9) (own := [("_law_row_here", 8)]) (g := gName 8) (tt := tYes) rfl sc__law_fault.nd rfl rfl (sw_true rfl rfl rfl (by decide +kernel)) (pi_list (pv 3)) (blkOk_by (own := [("_law_row_here", 8)]) (N := ["_law_letter", "_law_gap", "_law_n", "_law_thing", "_law_at", "_law_sender", "_law_receiver", "_law_start", "_law_row_here", "_law_receivers", "_law_hand"]) (sc := defScope s__law_fault) (by decide +kernel)) (fun _ _ _ _ _ => (pg_name (i := 8) sc__law_fault.nd rfl (Or.inl rfl))) (fun _ _ _ _ _ => pts_nil) (fun _ _ _ _ _ => (pe_ix (ix_tupK (K := K) rfl) (pv 8) pe_int (fun _ _ => rfl))))
 (pss_cons (ps_for (by exact PassesOwn.never) rfl (pi_range1 (by rfl) T.n_range (pa_cons (pe_callB call_len_seq (by rfl) T.n_len (by decide +kernel) (pa_cons (pv 3) pa_nil)) pa_nil)) (pg_name (i := 4) sc__law_fault.nd rfl (Or.inl rfl))
 (pss_one (ps_if (pt_cmpR op_in_seq (pe_ix ix_list (pv 9) (pv 4) (fun _ _ => rfl)) (pe_slice sl_list (pv 9) po_none (po_some (pv 4))) (by rfl)) (pss_one (ps_ret (pe_tup (pa_cons pe_str (pa_cons (pv 4) pa_nil)))))
 pss_nil)))
 (pss_cons (ps_for (by exact PassesOwn.never) rfl (pi_range2 (by rfl) T.n_range (pa_cons pe_int (pa_cons (pv 2) pa_nil))) (pg_name (i := 10) sc__law_fault.nd rfl (Or.inl rfl))
 (pss_one (ps_if (pt_cmpR op_notIn_seq (pv 10) (pv 9) (by rfl)) (pss_one (ps_ret (pe_tup (pa_cons pe_str (pa_cons (pv 10) pa_nil)))))
 pss_nil)))
 (pss_cons (ps_for (by exact PassesOwn.never) rfl (pi_range1 (by rfl) T.n_range (pa_cons (pe_callB call_len_seq (by rfl) T.n_len (by decide +kernel) (pa_cons (pv 3) pa_nil)) pa_nil)) (pg_name (i := 4) sc__law_fault.nd rfl (Or.inl rfl))
 (pss_one (ps_if (PW.pt (pw_and (pt_cmpR op_gt (pe_ix ix_tup (pe_ix ix_list (pv 3) (pv 4) (fun _ _ => rfl)) pe_int (fun _ _ => rfl)) pe_int (nomark _)) (pw_and1 (pt_cmpR op_lt (pe_ix ix_tup (pe_ix ix_list (pv 3) (pv 4) (fun _ _ => rfl)) pe_int (fun _ _ => rfl)) (pe_op op_add (pe_ix ix_tup (pe_ix ix_list (pv 3) (pe_bm PySem.F.plainAttrs_list PySem.F.slot_list_index PySem.F.type_list_index mt_index (pv 9) (pa_cons (pe_ix ix_tup (pe_ix ix_list (pv 3) (pv 4) (fun _ _ => rfl)) pe_int (fun _ _ => rfl)) pa_nil)) (fun _ _ => rfl)) pe_int (fun _ _ => rfl)) (pv 0)) (nomark _))))) (pss_one (ps_ret (pe_tup (pa_cons pe_str (pa_cons (pv 4) pa_nil)))))
 pss_nil)))
 (pss_cons (ps_for (by exact PassesOwn.never) rfl (pi_range1 (by rfl) T.n_range (pa_cons (pe_callB call_len_seq (by rfl) T.n_len (by decide +kernel) (pa_cons (pv 3) pa_nil)) pa_nil)) (pg_name (i := 4) sc__law_fault.nd rfl (Or.inl rfl))
 (pss_one (ps_for (by exact PassesOwn.never) rfl (pi_list (pe_slice sl_list (pv 3) po_none (po_some (pv 4)))) (pg_name (i := 8) sc__law_fault.nd rfl (Or.inl rfl))
 (pss_one (ps_if (PW.pt (pw_and (pt_cmpR op_eq (pe_ix ix_tup (pv 8) pe_int (fun _ _ => rfl)) (pe_ix ix_tup (pe_ix ix_list (pv 3) (pv 4) (fun _ _ => rfl)) pe_int (fun _ _ => rfl)) (nomark _)) (pw_and1 (pt_chain op_lt op_lt (pe_un un_neg (pv 1)) (pe_op op_sub (pe_ix ix_tup (pv 8) pe_int (fun _ _ => rfl)) (pe_ix ix_tup (pe_ix ix_list (pv 3) (pv 4) (fun _ _ => rfl)) pe_int (fun _ _ => rfl))) (pv 1))))) (pss_one (ps_ret (pe_tup (pa_cons pe_str (pa_cons (pv 4) pa_nil)))))
 pss_nil)))))
 (pss_one (ps_ret pe_non)))))))))), ?_⟩
    have at_ : ∀ {H' : Hp} {i : Nat}, i < rs.length → Same H H' → ∃ (t : Addr) (l : L3), atI xs (0 + (i : Int)) = some (.ref t) ∧ rs[i]? = some l ∧ H' t = some (.tup [.int l.1, .int l.2.1, .int l.2.2]) := fun {H' i} hi s => by
      have hx : xs[i]? = some (xs[i]'(by rw [hA.1]; exact hi)) := List.getElem?_eq_getElem _
      obtain ⟨t, l, e1, e2, e3⟩ := (hA.keep s).get hx
      refine ⟨t, l, ?_, e2, e3⟩
      rw [show 0 + (i : Int) = i by omega, ← e1]
      exact atI_nat hx
    have hxl : xs.length = rs.length := hA.1
    walk_at "rdi"
    repeat walk_at "rd"
    refine new_at (Nat.le_of_ble_eq_true rfl) (fun u H1 nu s1 e1 => ?_)
    have ep1 := s1 _ _ ep
    obtain ⟨ty, tyx, hk⟩ := isiLT (K := K) (.inl ep1)
    repeat walk_at "rd"
    refine ⟨_, u, [.ty "list", .ty "tuple"], ty, [.type "list", .type "tuple"], true, rfl, e1, .cons (.ty _) (.cons (.ty _) .nil), tyx, hk, ?_⟩
    repeat walk_at "rd"
    refine ite_ff (by omega) ?_
    clear e1 tyx hk
    repeat first | walk_at "rd" | walk_at "rdi"
    -- form
    refine ⟨by omega, by omega, for_range (lo := 0) (n := ((xs.length : Nat) : Int).toNat) (fun i σ H' => ∃ v4 : Option V, σ = [some (.int D), some (.int G), some (.int n), some (.ref p), v4, none, none, none, none, none, none] ∧ Same H1 H' ∧ ∀ j, j < i → okStart ((rs.map (·.2.2)).getD j 0) = true) ⟨_, rfl, Same.refl _, fun j hj => absurd hj (by omega)⟩ ?_ ?_⟩
    · rintro i σ H2 hi ⟨v4, rfl, s2, hb⟩
      rw [Int.toNat_natCast] at hi
      have s12 := s1.trans s2
      obtain ⟨t, l, ea, hl1, et⟩ := at_ (by omega : i < rs.length) s12
      have ep2 := s2 _ _ ep1
      have hgs : (rs.map (·.2.2))[i]? = some l.2.2 := by rw [List.getElem?_map, hl1]; rfl
      repeat first | walk_at "rd" | walk_at "rdi"
      refine r_ixL ep2 ea ?_
      repeat first | walk_at "rd" | walk_at "rdi"
      refine ⟨t, l, rfl, et, fun H3 s3 => ?_⟩
      cases hok : okStart l.2.2 with
      | true =>
        repeat first | exact ⟨_, rfl, s2.trans s3, fun j hj => by
          by_cases e : j = i
          · subst e; rw [getD_of hgs]; exact hok
          · exact hb j (by omega)⟩ | walk_at "rd" | walk_at "rdi"
      | false =>
        repeat first | walk_at "rd" | walk_at "rdi"
        refine new_at (Nat.le_of_ble_eq_true rfl) (fun z H4 nz s4 ez => ?_)
        refine k _ _ ((s12.trans s3).trans s4) ?_
        unfold lawF formS
        rw [first_some (i := i) (by rw [List.length_map]; omega) (by rw [getD_of hgs, hok]; rfl) (fun j hj => by rw [hb j hj]; rfl)]
        exact ⟨z, rfl, by rw [ez]; rw [show 0 + (i : Int) = i by omega]⟩
    rintro σ H2 ⟨v4, rfl, s2, hb⟩
    rw [Int.toNat_natCast, hxl] at hb
    have hf : formS (rs.map (·.2.2)) = none := by
      unfold formS
      rw [first_none (fun j hj => by rw [hb j (by rw [List.length_map] at hj; exact hj)]; rfl)]
      rfl
    have k : ∀ v H', Same H H' → FltAt H' v ((handF n 0 1 (rs.map fun l => (l.1, l.2.1))).or ((againL rs).or ((nobodyL n rs).or ((earlyL D rs).or (gapL G rs))))) → Q v H' := fun v H' h1 h2 => k v H' h1 (or_r hf h2)
    have s12 := s1.trans s2
    have ep2 := s12 _ _ ep
    clear hb s1 s2 ep1 nu
    repeat first | walk_at "rd" | walk_at "rdi"
    -- hand
    refine ⟨by omega, by omega, for_range (lo := 0) (n := ((xs.length : Nat) : Int).toNat) (fun i σ H' => ∃ v4 v5 v6 v7 : Option V, σ = [some (.int D), some (.int G), some (.int n), some (.ref p), v4, v5, v6, v7, none, none, none] ∧ H' = H2 ∧ ∀ j, j < i → badHand n 0 1 ((rs.map fun l => (l.1, l.2.1)).getD j (0, 0)) = false) ⟨_, _, _, _, rfl, rfl, fun j hj => absurd hj (by omega)⟩ ?_ ?_⟩
    · rintro i σ H3 hi ⟨v4, v5, v6, v7, rfl, rfl, hb⟩
      rw [Int.toNat_natCast] at hi
      obtain ⟨t, l, ea, hl1, et⟩ := at_ (by omega : i < rs.length) s12
      have hgs : (rs.map fun l => (l.1, l.2.1))[i]? = some (l.1, l.2.1) := by rw [List.getElem?_map, hl1]; rfl
      have fin : ∀ D' : Ends, D'.rt = Q → badHand n 0 1 (l.1, l.2.1) = true → tRet (tTup (tCons (tC (.str "hand")) (tCons (tVar 4) tNil))) D' [some (.int D), some (.int G), some (.int n), some (.ref p), some (.int (0 + (i : Nat))), some (.int l.1), some (.int l.2.1), some (.int l.2.2), none, none, none] H3 := fun D' hD hbad => by
        repeat walk_at "rd"
        refine new_at (Nat.le_of_ble_eq_true rfl) (fun z H4 nz s4 ez => ?_)
        rw [hD]
        refine k _ _ (s12.trans s4) ?_
        unfold handF
        rw [first_some (i := i) (by rw [List.length_map]; omega) (by rw [getD_of hgs]; exact hbad) hb]
        exact ⟨z, rfl, by rw [ez]; rw [show 0 + (i : Int) = i by omega]⟩
      have bad : ¬ ((0 ≤ l.1 ∧ l.1 < n) ∧ (1 ≤ l.2.1 ∧ l.2.1 < n) ∧ l.1 ≠ l.2.1) → badHand n 0 1 (l.1, l.2.1) = true := fun h => by unfold badHand; rw [decide_eq_false h]; rfl
      repeat walk_at "rd"
      refine r_ixL ep2 ea ?_
      repeat first | walk_at "rd" | walk_at "rdi"
      refine ite_d (fun c1 => ?_) (fun c1 => ?_)
      · repeat first | exact fin _ rfl (bad (by omega)) | walk_at "rd"
      repeat first | walk_at "rd" | walk_at "rdi"
      refine ite_d (fun c2 => ?_) (fun c2 => ?_)
      · repeat first | exact fin _ rfl (bad (by omega)) | walk_at "rd"
      repeat first | walk_at "rd" | walk_at "rdi"
      refine ite_d (fun c3 => ?_) (fun c3 => ?_)
      · repeat first | exact fin _ rfl (bad (by omega)) | walk_at "rd"
      repeat first | walk_at "rd" | walk_at "rdi"
      refine ite_d (fun c4 => ?_) (fun c4 => ?_)
      · repeat first | exact fin _ rfl (bad (by omega)) | walk_at "rd"
      repeat first | walk_at "rd" | walk_at "rdi"
      refine ite_d (fun c5 => ?_) (fun c5 => ?_)
      · repeat first | exact fin _ rfl (bad (by omega)) | walk_at "rd"
      have good : badHand n 0 1 (l.1, l.2.1) = false := by unfold badHand; rw [decide_eq_true ⟨⟨by dsimp only; omega, by dsimp only; omega⟩, ⟨by dsimp only; omega, by dsimp only; omega⟩, c5⟩]; rfl
      repeat first | exact ⟨_, _, _, _, rfl, rfl, fun j hj => by
        by_cases e : j = i
        · subst e; rw [getD_of hgs]; exact good
        · exact hb j (by omega)⟩ | walk_at "rd"
    rintro σ H3 ⟨v4, v5, v6, v7, rfl, rfl, hb⟩
    rw [Int.toNat_natCast, hxl] at hb
    have hh : handF n 0 1 (rs.map fun l => (l.1, l.2.1)) = none := by
      unfold handF
      rw [first_none (fun j hj => hb j (by rw [List.length_map] at hj; exact hj))]
      rfl
    have k : ∀ v H', Same H H' → FltAt H' v ((againL rs).or ((nobodyL n rs).or ((earlyL D rs).or (gapL G rs)))) → Q v H' := fun v H' h1 h2 => k v H' h1 (or_r hh h2)
    clear hb
    repeat walk_at "rd"
    refine ⟨p, rfl, ⟨_, SqL.of ep2⟩, fun L hL => lc_list (K := K) (a := p) (xs := xs) (fun i H' => H' L = some (.lst ((recvs (rs.take i)).map V.int)) ∧ Same H3 H') ⟨upd_same, Same.new hL⟩ (fun i H' _ h => SqL.of (h.2 _ _ ep2)) ?_ ?_⟩
    · rintro i x H4 hx ⟨e1, s1⟩
      obtain ⟨t, l, rfl, hl1, et⟩ := (hA.keep (s12.trans s1)).get hx
      have hi9 := (List.getElem?_eq_some_iff.mp hl1).1
      repeat walk_at "rd"
      refine ⟨rfl, ?_⟩
      repeat walk_at "rd"
      unfold recvs at e1 ⊢
      refine ⟨_, e1, small1000 (by rw [List.length_map, List.length_map, List.length_take]; omega), ?_, s1.over hL e1⟩
      rw [upd_same, take_more hl1, List.map_append, List.map_append]
      rfl
    rintro H4 ⟨eL, s4⟩
    rw [hxl, List.take_length] at eL
    have s14 := s12.trans s4
    have ep4 := s14 _ _ ep
    have hrl : (recvs rs).length = rs.length := List.length_map _
    clear ep2 s12
    repeat first | walk_at "rd" | walk_at "rdi"
    -- again
    refine ⟨by omega, by omega, for_range (lo := 0) (n := ((xs.length : Nat) : Int).toNat) (fun i σ H' => ∃ v4 : Option V, σ = [some (.int D), some (.int G), some (.int n), some (.ref p), v4, v5, v6, v7, none, some (.ref L), none] ∧ Same H4 H' ∧ ∀ j, j < i → decide ((recvs rs).getD j 0 ∈ (recvs rs).take j) = false) ⟨_, rfl, Same.refl _, fun j hj => absurd hj (by omega)⟩ ?_ ?_⟩
    · rintro i σ H5 hi ⟨v4, rfl, s5, hb⟩
      rw [Int.toNat_natCast] at hi
      have eL5 := s5 _ _ eL
      have hz : (recvs rs)[i]? = some ((recvs rs)[i]'(by omega)) := List.getElem?_eq_getElem _
      obtain ⟨z, hzz⟩ : ∃ z, (recvs rs)[i]'(by omega) = z := ⟨_, rfl⟩
      rw [hzz] at hz
      have ea : atI ((recvs rs).map V.int) (0 + (i : Int)) = some (.int z) := by
        rw [show 0 + (i : Int) = i by omega]
        exact atI_nat (by rw [List.getElem?_map, hz]; rfl)
      repeat first | walk_at "rd" | walk_at "rdi"
      refine r_ixL eL5 ea ?_
      repeat first | walk_at "rd" | walk_at "rdi"
      refine r_slL (SqL.of eL5) (fun c H6 nc s6 ec => ?_)
      have ec : H6 c = some (.lst (((recvs rs).take i).map V.int)) := by
        rw [ec, cut_upto (by rw [List.length_map]; omega), List.map_take]
      refine r_inS ec ?_
      repeat first | walk_at "rd" | walk_at "rdi"
      refine ite_d (fun hc => ?_) (fun hc => ?_)
      · repeat first | walk_at "rd" | walk_at "rdi"
        refine new_at (Nat.le_of_ble_eq_true rfl) (fun z' H7 nz s7 ez => ?_)
        refine k _ _ (((s14.trans s5).trans s6).trans s7) ?_
        unfold againL
        rw [first_some (i := i) (by omega) (by rw [getD_of hz]; exact decide_eq_true hc) hb]
        exact ⟨z', rfl, by rw [ez]; rw [show 0 + (i : Int) = i by omega]⟩
      · repeat first | exact ⟨_, rfl, s5.trans s6, fun j hj => by
          by_cases e : j = i
          · subst e; rw [getD_of hz]; exact decide_eq_false hc
          · exact hb j (by omega)⟩ | walk_at "rd" | walk_at "rdi"
    rintro σ H5 ⟨v4, rfl, s5, hb⟩
    rw [Int.toNat_natCast, hxl] at hb
    have hag : againL rs = none := by
      unfold againL
      rw [first_none hb]
      rfl
    have k : ∀ v H', Same H H' → FltAt H' v ((nobodyL n rs).or ((earlyL D rs).or (gapL G rs))) → Q v H' := fun v H' h1 h2 => k v H' h1 (or_r hag h2)
    have s15 := s14.trans s5
    have eL := s5 _ _ eL
    have ep5 := s5 _ _ ep4
    clear hb s14 s4 s5 ep4
    repeat first | walk_at "rd" | walk_at "rdi"
    -- nobody
    refine ⟨by omega, for_range (lo := 1) (n := (n - 1).toNat) (fun i σ H' => ∃ v10 : Option V, σ = [some (.int D), some (.int G), some (.int n), some (.ref p), v4, v5, v6, v7, none, some (.ref L), v10] ∧ H' = H5 ∧ ∀ j, j < i → (!decide ((1 + (j : Int)) ∈ recvs rs)) = false) ⟨_, rfl, rfl, fun j hj => absurd hj (by omega)⟩ ?_ ?_⟩
    · rintro i σ H6 hi ⟨v10, rfl, rfl, hb⟩
      repeat first | walk_at "rd" | walk_at "rdi"
      refine r_ninS eL ?_
      repeat first | walk_at "rd" | walk_at "rdi"
      refine r_nD (fun hc => ?_) (fun hc => ?_)
      · repeat first | walk_at "rd" | walk_at "rdi"
        refine new_at (Nat.le_of_ble_eq_true rfl) (fun z' H7 nz s7 ez => ?_)
        refine k _ _ (s15.trans s7) ?_
        unfold nobodyL
        rw [first_some (i := i) hi (by rw [decide_eq_false hc]; rfl) hb]
        exact ⟨z', rfl, ez⟩
      · repeat first | exact ⟨_, rfl, rfl, fun j hj => by
          by_cases e : j = i
          · subst e; rw [decide_eq_true hc]; rfl
          · exact hb j (by omega)⟩ | walk_at "rd" | walk_at "rdi"
    rintro σ H6 ⟨v10, rfl, rfl, hb⟩
    have hnb : nobodyL n rs = none := by
      unfold nobodyL
      rw [first_none hb]
      rfl
    have k : ∀ v H', Same H H' → FltAt H' v ((earlyL D rs).or (gapL G rs)) → Q v H' := fun v H' h1 h2 => k v H' h1 (or_r hnb h2)
    have hall : ∀ x : Int, 1 ≤ x → x < n → x ∈ recvs rs := fun x h1 h2 => by
      have := hb (x - 1).toNat (by omega)
      rw [show 1 + (((x - 1).toNat : Nat) : Int) = x by omega] at this
      simpa using this
    have hhd := hand_none hh
    clear hb
    repeat first | walk_at "rd" | walk_at "rdi"
    -- early
    refine ⟨by omega, by omega, for_range (lo := 0) (n := ((xs.length : Nat) : Int).toNat) (fun i σ H' => ∃ v4 : Option V, σ = [some (.int D), some (.int G), some (.int n), some (.ref p), v4, v5, v6, v7, none, some (.ref L), v10] ∧ H' = H6 ∧ ∀ j, j < i → decide ((rs.getD j (0, 0, 0)).1 > 0 ∧ (rs.getD j (0, 0, 0)).2.2 < knownOf rs [] D (rs.getD j (0, 0, 0)).1) = false) ⟨_, rfl, rfl, fun j hj => absurd hj (by omega)⟩ ?_ ?_⟩
    · rintro i σ H7 hi ⟨v4, rfl, rfl, hb⟩
      rw [Int.toNat_natCast] at hi
      obtain ⟨t, l, ea, hl1, et⟩ := at_ (by omega : i < rs.length) s15
      have go : ¬ (l.1 > 0 ∧ l.2.2 < knownOf rs [] D l.1) → ∃ v4' : Option V, [some (.int D), some (.int G), some (.int n), some (.ref p), some (.int (0 + (i : Nat))), v5, v6, v7, none, some (.ref L), v10] = [some (.int D), some (.int G), some (.int n), some (.ref p), v4', v5, v6, v7, none, some (.ref L), v10] ∧ H7 = H7 ∧ ∀ j, j < i + 1 → decide ((rs.getD j (0, 0, 0)).1 > 0 ∧ (rs.getD j (0, 0, 0)).2.2 < knownOf rs [] D (rs.getD j (0, 0, 0)).1) = false := fun h => ⟨_, rfl, rfl, fun j hj => by
        by_cases e : j = i
        · subst e; rw [getD_of hl1]; exact decide_eq_false h
        · exact hb j (by omega)⟩
      repeat first | walk_at "rd" | walk_at "rdi"
      refine r_ixL ep5 ea ?_
      repeat first | walk_at "rd" | walk_at "rdi"
      refine ite_d (fun c1 => ?_) (fun c1 => ?_)
      · have hs := hhd _ (List.mem_map.mpr ⟨l, List.mem_iff_getElem?.mpr ⟨i, hl1⟩, rfl⟩)
        have hmem := hall l.1 (by omega) hs.1.2
        repeat first | walk_at "rd" | walk_at "rdi"
        refine r_ixL ep5 ea ?_
        repeat first | walk_at "rd" | walk_at "rdi"
        refine ⟨.inl ⟨rfl, _, SqL.of eL⟩, ?_⟩
        repeat first | walk_at "rd" | walk_at "rdi"
        refine r_ixL ep5 ea ?_
        repeat first | walk_at "rd" | walk_at "rdi"
        refine r_index eL hmem (fun j hj hno => ?_)
        have hjl : j < rs.length := by
          have := (List.getElem?_eq_some_iff.mp hj).1
          omega
        obtain ⟨t2, l2, ea2, hl2, et2⟩ := at_ hjl s15
        rw [show 0 + (j : Int) = j by omega] at ea2
        have hrec : l2.2.1 = l.1 := by
          unfold recvs at hj
          rw [List.getElem?_map, hl2] at hj
          exact Option.some.inj hj
        have hkn : knownOf rs [] D l.1 = l2.2.2 + D := by rw [← hrec]; exact knownL hl2 (by rw [hrec]; exact hno)
        refine r_ixL ep5 ea2 ?_
        repeat first | walk_at "rd" | walk_at "rdi"
        refine ite_d (fun c2 => ?_) (fun c2 => ?_)
        · repeat first | walk_at "rd" | walk_at "rdi"
          refine new_at (Nat.le_of_ble_eq_true rfl) (fun z' H8 nz s8 ez => ?_)
          refine k _ _ (s15.trans s8) ?_
          unfold earlyL
          rw [first_some (i := i) (by omega) (by rw [getD_of hl1, hkn]; exact decide_eq_true ⟨c1, c2⟩) hb]
          exact ⟨z', rfl, by rw [ez]; rw [show 0 + (i : Int) = i by omega]⟩
        · have := go (fun h => c2 (by rw [← hkn]; exact h.2))
          repeat first | exact this | walk_at "rd" | walk_at "rdi"
      · have := go (fun h => c1 h.1)
        repeat first | exact this | walk_at "rd" | walk_at "rdi"
    rintro σ H7 ⟨v4, rfl, rfl, hb⟩
    rw [Int.toNat_natCast, hxl] at hb
    have hea : earlyL D rs = none := by
      unfold earlyL
      rw [first_none hb]
      rfl
    have k : ∀ v H', Same H H' → FltAt H' v (gapL G rs) → Q v H' := fun v H' h1 h2 => k v H' h1 (or_r hea h2)
    clear hb
    repeat first | walk_at "rd" | walk_at "rdi"
    -- gap
    refine ⟨by omega, by omega, for_range (lo := 0) (n := ((xs.length : Nat) : Int).toNat) (fun i σ H' => ∃ v4 v8 : Option V, σ = [some (.int D), some (.int G), some (.int n), some (.ref p), v4, v5, v6, v7, v8, some (.ref L), v10] ∧ Same H7 H' ∧ ∀ j, j < i → ((rs.take j).any fun q => decide (q.1 = (rs.getD j (0, 0, 0)).1 ∧ -G < q.2.2 - (rs.getD j (0, 0, 0)).2.2 ∧ q.2.2 - (rs.getD j (0, 0, 0)).2.2 < G)) = false) ⟨_, _, rfl, Same.refl _, fun j hj => absurd hj (by omega)⟩ ?_ ?_⟩
    · rintro i σ H8 hi ⟨v4, v8, rfl, s8, hb⟩
      rw [Int.toNat_natCast] at hi
      have s18 := s15.trans s8
      have ep8 := s8 _ _ ep5
      repeat first | walk_at "rd" | walk_at "rdi"
      refine r_slL (SqL.of ep8) (fun c H9 nc s9 ec => ?_)
      have ec : H9 c = some (.lst (xs.take i)) := by
        rw [ec, cut_upto (by omega)]
      have s19 := s18.trans s9
      obtain ⟨t, l, ea, hl1, et⟩ := at_ (by omega : i < rs.length) s19
      have ep9 := s19 _ _ ep
      repeat first | walk_at "rd" | walk_at "rdi"
      refine ⟨c, rfl, ⟨_, SqL.of ec⟩, for_list (K := K) (a := c) (xs := xs.take i) (fun j σ H' => ∃ v8 : Option V, σ = [some (.int D), some (.int G), some (.int n), some (.ref p), some (.int (0 + (i : Nat))), v5, v6, v7, v8, some (.ref L), v10] ∧ H' = H9 ∧ ∀ j', j' < j → decide ((rs.getD j' (0, 0, 0)).1 = l.1 ∧ -G < (rs.getD j' (0, 0, 0)).2.2 - l.2.2 ∧ (rs.getD j' (0, 0, 0)).2.2 - l.2.2 < G) = false) ⟨_, rfl, rfl, fun j hj => absurd hj (by omega)⟩ (fun j σ H' _ ⟨_, _, e, _⟩ => by rw [e]; exact SqL.of ec) ?_ ?_⟩
      · rintro j y σ H10 hy ⟨v8, rfl, rfl, hb2⟩
        have hji : j < i := by
          have := (List.getElem?_eq_some_iff.mp hy).1
          rw [List.length_take] at this
          omega
        rw [List.getElem?_take, if_pos hji] at hy
        obtain ⟨t2, q, rfl, hq, et2⟩ := (hA.keep s19).get hy
        have fin : ∀ D' : Ends, D'.rt = Q → (q.1 = l.1 ∧ -G < q.2.2 - l.2.2 ∧ q.2.2 - l.2.2 < G) → tRet (tTup (tCons (tC (.str "gap")) (tCons (tVar 4) tNil))) D' [some (.int D), some (.int G), some (.int n), some (.ref p), some (.int (0 + (i : Nat))), v5, v6, v7, some (.ref t2), some (.ref L), v10] H10 := fun D' hD hbad => by
          repeat walk_at "rd"
          refine new_at (Nat.le_of_ble_eq_true rfl) (fun z H11 nz s11 ez => ?_)
          rw [hD]
          refine k _ _ (s19.trans s11) ?_
          unfold gapL
          rw [first_some (i := i) (by omega) ?_ hb]
          · exact ⟨z, rfl, by rw [ez]; rw [show 0 + (i : Int) = i by omega]⟩
          · rw [List.any_eq_true]
            exact ⟨q, List.mem_iff_getElem?.mpr ⟨j, by rw [List.getElem?_take, if_pos hji]; exact hq⟩, by rw [getD_of hl1]; exact decide_eq_true hbad⟩
        have go : ¬ (q.1 = l.1 ∧ -G < q.2.2 - l.2.2 ∧ q.2.2 - l.2.2 < G) → ∃ v8' : Option V, [some (.int D), some (.int G), some (.int n), some (.ref p), some (.int (0 + (i : Nat))), v5, v6, v7, some (.ref t2), some (.ref L), v10] = [some (.int D), some (.int G), some (.int n), some (.ref p), some (.int (0 + (i : Nat))), v5, v6, v7, v8', some (.ref L), v10] ∧ H10 = H10 ∧ ∀ j', j' < j + 1 → decide ((rs.getD j' (0, 0, 0)).1 = l.1 ∧ -G < (rs.getD j' (0, 0, 0)).2.2 - l.2.2 ∧ (rs.getD j' (0, 0, 0)).2.2 - l.2.2 < G) = false := fun h => ⟨_, rfl, rfl, fun j' hj' => by
          by_cases e : j' = j
          · subst e; rw [getD_of hq]; exact decide_eq_false h
          · exact hb2 j' (by omega)⟩
        repeat first | walk_at "rd" | walk_at "rdi"
        refine r_ixL ep9 ea ?_
        repeat first | walk_at "rd" | walk_at "rdi"
        refine ite_d (fun c1 => ?_) (fun c1 => ?_)
        · repeat first | walk_at "rd" | walk_at "rdi"
          refine r_ixL ep9 ea ?_
          repeat first | walk_at "rd" | walk_at "rdi"
          refine ite_d (fun c2 => ?_) (fun c2 => ?_)
          · repeat first | walk_at "rd" | walk_at "rdi"
            refine ite_d (fun c3 => ?_) (fun c3 => ?_)
            · exact fin _ rfl ⟨c1, c2, c3⟩
            · have := go (fun h => c3 h.2.2)
              repeat first | exact this | walk_at "rd" | walk_at "rdi"
          · have := go (fun h => c2 h.2.1)
            repeat first | exact this | walk_at "rd" | walk_at "rdi"
        · have := go (fun h => c1 h.1)
          repeat first | exact this | walk_at "rd" | walk_at "rdi"
      · rintro σ H10 ⟨v8, rfl, rfl, hb2⟩
        refine ⟨_, _, rfl, s8.trans s9, fun j hj => ?_⟩
        by_cases e : j = i
        · subst e
          rw [List.any_eq_false]
          intro q hq
          obtain ⟨m, hm⟩ := List.mem_iff_getElem?.mp hq
          have hmj : m < j := by
            have := (List.getElem?_eq_some_iff.mp hm).1
            rw [List.length_take] at this
            omega
          rw [List.getElem?_take, if_pos hmj] at hm
          have := hb2 m (by rw [List.length_take]; omega)
          rw [getD_of hm] at this
          rw [getD_of hl1, this]
          exact Bool.false_ne_true
        · exact hb j (by omega)
    · rintro σ H8 ⟨v4, v8, rfl, s8, hb⟩
      rw [Int.toNat_natCast, hxl] at hb
      repeat walk_at "rd"
      refine k _ _ (s15.trans s8) ?_
      unfold gapL
      rw [first_none hb]
      rfl
end

/-! ### right plans, and plans changed -/
structure Right (D G n : Int) (rs : List L3) : Prop where
  hands : ∀ l, l ∈ rs → 0 ≤ l.1 ∧ l.1 < l.2.1 ∧ 1 ≤ l.2.1 ∧ l.2.1 < n
  start : ∀ l, l ∈ rs → 0 ≤ l.2.2 ∧ l.2.2 ≤ l.2.1 * (D + G + 3)
  nodup : (recvs rs).Nodup
  all : ∀ x : Int, 1 ≤ x → x < n → x ∈ recvs rs
  order : ∀ l m, l ∈ rs → m ∈ rs → l.2.1 < m.2.1 → l.2.2 + D + G ≤ m.2.2
theorem Right.perm {D G n : Int} {rs ss : List L3} (h : Right D G n rs) (p : rs.Perm ss) : Right D G n ss where
  hands := fun l hl => h.hands l (p.mem_iff.mpr hl)
  start := fun l hl => h.start l (p.mem_iff.mpr hl)
  nodup := List.Perm.nodup_iff (show (recvs rs).Perm (recvs ss) from p.map _) |>.mp h.nodup
  all := fun x h1 h2 => (List.Perm.mem_iff (show (recvs rs).Perm (recvs ss) from p.map _)).mp (h.all x h1 h2)
  order := fun l m hl hm => h.order l m (p.mem_iff.mpr hl) (p.mem_iff.mpr hm)
theorem form_ok {ss : List Int} (h : ∀ s, s ∈ ss → 0 ≤ s ∧ s ≤ 1000000000000000) : formS ss = none := by
  unfold formS
  rw [first_none fun i hi => ?_]
  · rfl
  · rw [getD_of (List.getElem?_eq_getElem hi)]
    unfold okStart
    rw [decide_eq_true (h _ (List.getElem_mem hi))]
    rfl
theorem hand_ok {n fs fr : Int} {ps : List (Int × Int)} (h : ∀ g, g ∈ ps → (fs ≤ g.1 ∧ g.1 < n) ∧ (fr ≤ g.2 ∧ g.2 < n) ∧ g.1 ≠ g.2) : handF n fs fr ps = none := by
  unfold handF
  rw [first_none fun i hi => ?_]
  · rfl
  · rw [getD_of (List.getElem?_eq_getElem hi)]
    unfold badHand
    rw [decide_eq_true (h _ (List.getElem_mem hi))]
    rfl
theorem again_ok {rs : List L3} (h : (recvs rs).Nodup) : againL rs = none := by
  unfold againL
  rw [first_none fun i hi => ?_]
  · rfl
  · have hi' : i < (recvs rs).length := by rw [show (recvs rs).length = rs.length from List.length_map _]; exact hi
    rw [getD_of (List.getElem?_eq_getElem hi')]
    refine decide_eq_false fun z => ?_
    obtain ⟨j, hj⟩ := List.mem_iff_getElem?.mp z
    have hji : j < i := by
      have := (List.getElem?_eq_some_iff.mp hj).1
      rw [List.length_take] at this
      omega
    rw [List.getElem?_take, if_pos hji] at hj
    obtain ⟨h1, h2⟩ := List.getElem?_eq_some_iff.mp hj
    exact (List.pairwise_iff_getElem.mp h) j i h1 hi' hji h2
theorem again_nodup {rs : List L3} (h : againL rs = none) : (recvs rs).Nodup := by
  unfold againL atIx at h
  rw [Option.map_eq_none_iff] at h
  have h := first_no h
  unfold List.Nodup
  rw [List.pairwise_iff_getElem]
  intro i j hi hj hij e
  have := h j (by rw [show (recvs rs).length = rs.length from List.length_map _] at hj; exact hj)
  rw [getD_of (List.getElem?_eq_getElem hj), decide_eq_false_iff_not] at this
  refine this ?_
  rw [← e]
  exact List.mem_iff_getElem?.mpr ⟨i, by rw [List.getElem?_take, if_pos hij, List.getElem?_eq_getElem hi]⟩
theorem nobody_ok {n : Int} {rs : List L3} (h : ∀ x : Int, 1 ≤ x → x < n → x ∈ recvs rs) : nobodyL n rs = none := by
  unfold nobodyL
  rw [first_none fun i hi => ?_]
  · rfl
  · rw [decide_eq_true (h _ (by omega) (by omega))]
    rfl
theorem nobody_all {n : Int} {rs : List L3} (h : nobodyL n rs = none) : ∀ x : Int, 1 ≤ x → x < n → x ∈ recvs rs := fun x h1 h2 => by
  unfold nobodyL at h
  rw [Option.map_eq_none_iff] at h
  have := first_no h (x - 1).toNat (by omega)
  rw [show 1 + (((x - 1).toNat : Nat) : Int) = x by omega] at this
  simpa using this
theorem known_mem {rs : List L3} {D s : Int} (h : s ∈ recvs rs) : ∃ m, m ∈ rs ∧ m.2.1 = s ∧ knownOf rs [] D s = m.2.2 + D := by
  have hs : (rs.find? fun l => decide (l.2.1 = s)).isSome = true := by
    rw [List.find?_isSome]
    obtain ⟨l, hl, rfl⟩ := List.mem_map.mp h
    exact ⟨l, hl, decide_eq_true rfl⟩
  obtain ⟨m, hm⟩ := Option.isSome_iff_exists.mp hs
  refine ⟨m, List.mem_of_find?_eq_some hm, (by have := List.find?_some hm; exact of_decide_eq_true this), ?_⟩
  unfold knownOf
  rw [if_neg (by simp), hm]
  rfl
theorem Right.none {D G n : Int} {rs : List L3} (h : Right D G n rs) (hD : 1 ≤ D ∧ D ≤ 3000000000) (hG : 1 ≤ G ∧ G ≤ 1000000000) (hn : 1 ≤ n ∧ n ≤ 1000) : lawF D G n rs = none := by
  have h1 : formS (rs.map (·.2.2)) = Option.none := form_ok fun s hs => by
    obtain ⟨l, hl, rfl⟩ := List.mem_map.mp hs
    have a := h.start l hl
    have b := h.hands l hl
    have : l.2.1 * (D + G + 3) ≤ 1000 * 4000000003 := Int.mul_le_mul (by omega) (by omega) (by omega) (by omega)
    omega
  have h2 : handF n 0 1 (rs.map fun l => (l.1, l.2.1)) = Option.none := hand_ok fun g hg => by
    obtain ⟨l, hl, rfl⟩ := List.mem_map.mp hg
    have b := h.hands l hl
    exact ⟨⟨b.1, by show l.1 < n; omega⟩, ⟨b.2.2.1, b.2.2.2⟩, by show l.1 ≠ l.2.1; omega⟩
  have h3 := again_ok h.nodup
  have h4 := nobody_ok h.all
  have h5 : earlyL D rs = Option.none := by
    unfold earlyL
    rw [first_none fun i hi => ?_]
    · rfl
    · have hl := List.getElem?_eq_getElem hi
      rw [getD_of hl]
      have hm : rs[i] ∈ rs := List.getElem_mem hi
      refine decide_eq_false fun ⟨c1, c2⟩ => ?_
      have b := h.hands _ hm
      obtain ⟨m, hm2, e1, e2⟩ := known_mem (D := D) (h.all rs[i].1 (by omega) (by omega))
      rw [e2] at c2
      have := h.order m _ hm2 hm (by omega)
      omega
  have h6 : gapL G rs = Option.none := by
    unfold gapL
    rw [first_none fun i hi => ?_]
    · rfl
    · have hl := List.getElem?_eq_getElem hi
      rw [getD_of hl, List.any_eq_false]
      intro q hq he
      obtain ⟨e1, e2, e3⟩ := of_decide_eq_true he
      obtain ⟨j, hj⟩ := List.mem_iff_getElem?.mp hq
      have hji : j < i := by
        have := (List.getElem?_eq_some_iff.mp hj).1
        rw [List.length_take] at this
        omega
      rw [List.getElem?_take, if_pos hji] at hj
      have hq' : q ∈ rs := List.mem_iff_getElem?.mpr ⟨j, hj⟩
      have hm : rs[i] ∈ rs := List.getElem_mem hi
      have hne : q.2.1 ≠ rs[i].2.1 := fun e => by
        have g1 : (recvs rs)[j]? = some q.2.1 := by unfold recvs; rw [List.getElem?_map, hj]; rfl
        have g2 : (recvs rs)[i]? = some rs[i].2.1 := by unfold recvs; rw [List.getElem?_map, hl]; rfl
        obtain ⟨k1, k2⟩ := List.getElem?_eq_some_iff.mp g1
        obtain ⟨k3, k4⟩ := List.getElem?_eq_some_iff.mp g2
        exact (List.pairwise_iff_getElem.mp h.nodup) j i k1 k3 hji (by rw [k2, k4]; exact e)
      rcases Int.lt_or_gt_of_ne hne with c | c
      · have := h.order q _ hq' hm c
        omega
      · have := h.order _ q hm hq' c
        omega
  unfold lawF
  rw [h1, h2, h3, h4, h5, h6]
  rfl
def Told (rs : List L3) : Prop := ∀ l, l ∈ rs → l.1 > 0 → ∃ m, m ∈ rs ∧ m.2.1 = l.1
theorem Right.told {D G n : Int} {rs : List L3} (h : Right D G n rs) : Told rs := fun l hl h0 => by
  have b := h.hands l hl
  obtain ⟨m, hm, e⟩ := List.mem_map.mp (h.all l.1 (by omega) (by omega))
  exact ⟨m, hm, e⟩
structure Chg (kind n D G : Int) (rs ss : List L3) : Prop where
  k0 : kind = 0 → ∃ (i : Nat) (l : L3) (b : Int), rs[i]? = some l ∧ ss = rs.set i (l.1, l.2.1, b) ∧ okStart b = false
  k1 : kind = 1 → ∃ (i : Nat) (l : L3) (g : Int × Int), rs[i]? = some l ∧ ss = rs.set i (g.1, g.2, l.2.2) ∧ badHand n 0 1 g = true
  k2 : kind = 2 → ∃ (i : Nat) (l : L3), l ∈ rs ∧ ss = rs.take i ++ [(l.1, l.2.1, l.2.2 + 3 * (D + G))] ++ rs.drop i
  k3 : kind = 3 → ∃ (i : Nat) (l : L3), rs[i]? = some l ∧ ss = rs.take i ++ rs.drop (i + 1)
  k4 : 4 ≤ kind → Told rs → Told ss
  len : ss.length ≤ rs.length + 1
def wordOf (kind : Int) : Str := if kind = 0 then "form" else if kind = 1 then "hand" else if kind = 2 then "again" else "nobody"
theorem atIx_word {w : Str} {o : Option Nat} (h : atIx w o ≠ none) : ∃ i, atIx w o = some (w, i) := by
  cases o with
  | none => exact absurd rfl h
  | some i => exact ⟨_, rfl⟩
theorem nobody_word {n : Int} {rs : List L3} (h : nobodyL n rs ≠ none) : ∃ i : Int, nobodyL n rs = some (("nobody" : Str), i) := by
  unfold nobodyL at h ⊢
  cases e : first (fun i => !decide ((1 + (i : Int)) ∈ recvs rs)) (n - 1).toNat with
  | none => rw [e] at h; exact absurd rfl h
  | some i => exact ⟨_, rfl⟩
/-- the fault of a plan changed in one way -/
theorem chg_word {kind D G n : Int} {rs ss : List L3} (h : Right D G n rs) (c : Chg kind n D G rs ss) (hk : 0 ≤ kind ∧ kind < 4) (hD : 1 ≤ D ∧ D ≤ 3000000000) (hG : 1 ≤ G ∧ G ≤ 1000000000) (hn : 1 ≤ n ∧ n ≤ 1000) : ∃ i, lawF D G n ss = some (wordOf kind, i) := by
  have hst : ∀ l, l ∈ rs → 0 ≤ l.2.2 ∧ l.2.2 ≤ 4000000003000 := fun l hl => by
    have a := h.start l hl
    have b := h.hands l hl
    have : l.2.1 * (D + G + 3) ≤ 1000 * 4000000003 := Int.mul_le_mul (by omega) (by omega) (by omega) (by omega)
    omega
  have hgood : ∀ l, l ∈ rs → (0 ≤ l.1 ∧ l.1 < n) ∧ (1 ≤ l.2.1 ∧ l.2.1 < n) ∧ l.1 ≠ l.2.1 := fun l hl => by
    have b := h.hands l hl
    exact ⟨⟨b.1, by omega⟩, ⟨b.2.2.1, b.2.2.2⟩, by omega⟩
  have form : (∀ l, l ∈ ss → 0 ≤ l.2.2 ∧ l.2.2 ≤ 1000000000000000) → formS (ss.map (·.2.2)) = none := fun q => form_ok fun s hs => by
    obtain ⟨l, hl, rfl⟩ := List.mem_map.mp hs
    exact q l hl
  have hand : (∀ l, l ∈ ss → (0 ≤ l.1 ∧ l.1 < n) ∧ (1 ≤ l.2.1 ∧ l.2.1 < n) ∧ l.1 ≠ l.2.1) → handF n 0 1 (ss.map fun l => (l.1, l.2.1)) = none := fun q => hand_ok fun g hg => by
    obtain ⟨l, hl, rfl⟩ := List.mem_map.mp hg
    exact q l hl
  have hcases : kind = 0 ∨ kind = 1 ∨ kind = 2 ∨ kind = 3 := by omega
  unfold lawF
  rcases hcases with rfl | rfl | rfl | rfl
  · obtain ⟨i, l, b, hl, rfl, hb⟩ := c.k0 rfl
    have hi := (List.getElem?_eq_some_iff.mp hl).1
    have hne : formS ((rs.set i (l.1, l.2.1, b)).map (·.2.2)) ≠ none := fun z => by
      have := form_none z b (List.mem_map.mpr ⟨(l.1, l.2.1, b), List.mem_set hi _, rfl⟩)
      unfold okStart at hb
      rw [decide_eq_true this] at hb
      cases hb
    obtain ⟨j, hj⟩ := atIx_word hne
    refine ⟨j, ?_⟩
    have hj : formS ((rs.set i (l.1, l.2.1, b)).map (·.2.2)) = some (("form" : Str), j) := hj
    rw [hj]
    rfl
  · obtain ⟨i, l, g, hl, rfl, hb⟩ := c.k1 rfl
    have hi := (List.getElem?_eq_some_iff.mp hl).1
    have hlm := List.mem_iff_getElem?.mpr ⟨i, hl⟩
    rw [form fun x hx => by
      rcases List.mem_or_eq_of_mem_set hx with hx | rfl
      · have := hst x hx; omega
      · have := hst l hlm; dsimp only; omega]
    have hne : handF n 0 1 ((rs.set i (g.1, g.2, l.2.2)).map fun l => (l.1, l.2.1)) ≠ none := fun z => by
      have := hand_none z (g.1, g.2) (List.mem_map.mpr ⟨(g.1, g.2, l.2.2), List.mem_set hi _, rfl⟩)
      unfold badHand at hb
      rw [decide_eq_true this] at hb
      cases hb
    obtain ⟨j, hj⟩ := atIx_word hne
    have hj : handF n 0 1 ((rs.set i (g.1, g.2, l.2.2)).map fun l => (l.1, l.2.1)) = some (("hand" : Str), j) := hj
    exact ⟨j, by rw [hj]; rfl⟩
  · obtain ⟨i, l, hlm, hss⟩ := c.k2 rfl
    have hmem : ∀ x, x ∈ ss → x ∈ rs ∨ x = (l.1, l.2.1, l.2.2 + 3 * (D + G)) := fun x hx => by
      rw [hss, List.append_assoc] at hx
      rcases List.mem_append.mp hx with hx | hx
      · exact .inl (List.mem_of_mem_take hx)
      · rcases List.mem_append.mp hx with hx | hx
        · exact .inr (List.mem_singleton.mp hx)
        · exact .inl (List.mem_of_mem_drop hx)
    rw [form fun x hx => by
      rcases hmem x hx with hx | rfl
      · have := hst x hx; omega
      · have := hst l hlm; dsimp only; omega]
    rw [hand fun x hx => by
      rcases hmem x hx with hx | rfl
      · exact hgood x hx
      · exact hgood l hlm]
    have hne : againL ss ≠ none := fun z => by
      have hnd := again_nodup z
      unfold recvs at hnd
      rw [hss, List.append_assoc, List.map_append, List.map_append] at hnd
      have hin : l.2.1 ∈ (rs.take i).map (·.2.1) ++ (rs.drop i).map (·.2.1) := by
        rw [← List.map_append, List.take_append_drop]
        exact List.mem_map.mpr ⟨l, hlm, rfl⟩
      have hp : ((rs.take i).map (·.2.1) ++ ([(l.1, l.2.1, l.2.2 + 3 * (D + G))].map (·.2.1) ++ (rs.drop i).map (·.2.1))).Perm (l.2.1 :: ((rs.take i).map (·.2.1) ++ (rs.drop i).map (·.2.1))) := List.perm_middle
      have := (hp.nodup_iff.mp hnd)
      exact (List.nodup_cons.mp this).1 hin
    obtain ⟨j, hj⟩ := atIx_word hne
    have hj : againL ss = some (("again" : Str), j) := hj
    exact ⟨j, by rw [hj]; rfl⟩
  · obtain ⟨i, l, hl, hss⟩ := c.k3 rfl
    have hlm := List.mem_iff_getElem?.mpr ⟨i, hl⟩
    have hi := (List.getElem?_eq_some_iff.mp hl).1
    have hp : rs.Perm (l :: ss) := by
      have e : rs = rs.take i ++ l :: rs.drop (i + 1) := by
        conv => lhs; rw [← List.take_append_drop i rs]
        rw [List.drop_eq_getElem_cons hi, (List.getElem?_eq_some_iff.mp hl).2]
      rw [hss]
      conv => lhs; rw [e]
      exact List.perm_middle
    have hmem : ∀ x, x ∈ ss → x ∈ rs := fun x hx => hp.mem_iff.mpr (List.mem_cons_of_mem _ hx)
    have hnd : (l.2.1 :: recvs ss).Nodup := List.Perm.nodup_iff (show (recvs rs).Perm (l.2.1 :: recvs ss) from hp.map _) |>.mp h.nodup
    rw [form fun x hx => by have := hst x (hmem x hx); omega, hand fun x hx => hgood x (hmem x hx), again_ok (List.nodup_cons.mp hnd).2]
    have hne : nobodyL n ss ≠ none := fun z => by
      have b := h.hands l hlm
      exact (List.nodup_cons.mp hnd).1 (nobody_all z l.2.1 b.2.2.1 b.2.2.2)
    obtain ⟨j, hj⟩ := nobody_word hne
    exact ⟨j, by rw [hj]; rfl⟩

/-! ### the law of k24: plans that wait, plans changed -/
theorem tup_but {H H' : Hp} {p q f : Addr} {xs : List V} (e : H f = some (.tup xs)) (hs : SrcAt H p q) (b : But p H H') : H' f = some (.tup xs) := b _ _ e (fun z => by
  obtain ⟨cs, i, big, cnt, st, h1, _⟩ := hs
  rw [z, h1] at e; cases e)
theorem TrisAt.but {H H' : Hp} {xs : List V} {ls : List L3} {p q : Addr} (h : TrisAt H xs ls) (hs : SrcAt H p q) (b : But p H H') : TrisAt H' xs ls := ⟨h.1, fun i g hg => let ⟨t, e, z⟩ := h.2 i g hg; ⟨t, e, tup_but z hs b⟩⟩
theorem TrisAt.split {H : Hp} {x : V} {i : Nat} {xs : List V} {l : L3} {ls : List L3} {t : Addr} (h : TrisAt H xs ls) (hx : x = .ref t) (e : H t = some (.tup (triV l))) : TrisAt H (xs.take i ++ [x] ++ xs.drop i) (ls.take i ++ [l] ++ ls.drop i) := by
  subst hx
  have hl := h.1
  refine ⟨by simp [hl], fun j g hg => ?_⟩
  rw [List.append_assoc] at hg ⊢
  by_cases c1 : j < (ls.take i).length
  · rw [List.getElem?_append_left c1] at hg
    rw [List.getElem?_append_left (by rw [List.length_take] at c1 ⊢; omega)]
    have hji : j < i := by rw [List.length_take] at c1; omega
    rw [List.getElem?_take, if_pos hji] at hg ⊢
    exact h.2 j g hg
  · have e1 : (ls.take i).length = (xs.take i).length := by rw [List.length_take, List.length_take, hl]
    rw [List.getElem?_append_right (by omega)] at hg
    rw [List.getElem?_append_right (by omega), ← e1]
    cases c2 : j - (ls.take i).length with
    | zero =>
      rw [c2] at hg
      obtain rfl := Option.some.inj hg
      exact ⟨t, rfl, e⟩
    | succ m =>
      rw [c2] at hg
      have hg : (ls.drop i)[m]? = some g := hg
      show ∃ t, (xs.drop i)[m]? = some (.ref t) ∧ _
      rw [List.getElem?_drop] at hg ⊢
      exact h.2 _ g hg
theorem TrisAt.set {H : Hp} {xs : List V} {ls : List L3} {t : Addr} {l : L3} {i : Nat} (h : TrisAt H xs ls) (e : H t = some (.tup (triV l))) : TrisAt H (xs.set i (.ref t)) (ls.set i l) := ⟨by rw [List.length_set, List.length_set, h.1], fun j g hg => by
  rw [List.getElem?_set] at hg ⊢
  by_cases c : i = j
  · rw [if_pos c] at hg ⊢
    split at hg
    · rename_i hlt
      rw [if_pos (by rw [h.1]; exact hlt)]
      obtain rfl := Option.some.inj hg
      exact ⟨t, rfl, e⟩
    · cases hg
  · rw [if_neg c] at hg ⊢
    exact h.2 j g hg⟩
theorem TrisAt.cat {H : Hp} {xs ys : List V} {ls ms : List L3} (h : TrisAt H xs ls) (k : TrisAt H ys ms) : TrisAt H (xs ++ ys) (ls ++ ms) := ⟨by rw [List.length_append, List.length_append, h.1, k.1], fun i r hr => by
  by_cases hi : i < ls.length
  · rw [List.getElem?_append_left hi] at hr
    rw [List.getElem?_append_left (by rw [h.1]; exact hi)]
    exact h.2 i r hr
  · rw [List.getElem?_append_right (by omega)] at hr
    rw [List.getElem?_append_right (by rw [h.1]; omega), h.1]
    exact k.2 _ r hr⟩
theorem TrisAt.take {H : Hp} {xs : List V} {ls : List L3} {i : Nat} (h : TrisAt H xs ls) : TrisAt H (xs.take i) (ls.take i) := ⟨by rw [List.length_take, List.length_take, h.1], fun j g hg => by
  rw [List.getElem?_take] at hg ⊢
  by_cases c : j < i
  · rw [if_pos c] at hg ⊢; exact h.2 j g hg
  · rw [if_neg c] at hg; cases hg⟩
theorem TrisAt.drop {H : Hp} {xs : List V} {ls : List L3} {i : Nat} (h : TrisAt H xs ls) : TrisAt H (xs.drop i) (ls.drop i) := ⟨by rw [List.length_drop, List.length_drop, h.1], fun j g hg => by
  rw [List.getElem?_drop] at hg ⊢; exact h.2 _ g hg⟩
def Kp (p L : Addr) (H H' : Hp) : Prop := ∀ b o, H b = some o → b ≠ p → b ≠ L → H' b = some o
theorem Kp.refl (p L : Addr) (H : Hp) : Kp p L H H := fun _ _ h _ _ => h
structure S3 (p q L : Addr) (H0 : Hp) (xs : List V) (rs : List L3) (H : Hp) : Prop where
  hs : SrcAt H p q
  kp : Kp p L H0 H
  eL : H L = some (.lst xs)
  hA : TrisAt H xs rs
  nLp : L ≠ p
  nLq : L ≠ q
theorem S3.keep {p q L : Addr} {H0 H H' : Hp} {xs : List V} {rs : List L3} (h : S3 p q L H0 xs rs H) (s : Same H H') : S3 p q L H0 xs rs H' := ⟨h.hs.keep s, fun b o e n1 n2 => s _ _ (h.kp b o e n1 n2), s _ _ h.eL, h.hA.keep s, h.nLp, h.nLq⟩
theorem S3.but {p q L : Addr} {H0 H H' : Hp} {xs : List V} {rs : List L3} (h : S3 p q L H0 xs rs H) (hs : SrcAt H' p q) (b : But p H H') : S3 p q L H0 xs rs H' := ⟨hs, fun c o e n1 n2 => b _ _ (h.kp c o e n1 n2) n1, b _ _ h.eL h.nLp, h.hA.but h.hs b, h.nLp, h.nLq⟩
theorem S3.put {p q L : Addr} {H0 H : Hp} {xs ys : List V} {rs ss : List L3} (h : S3 p q L H0 xs rs H) (k : TrisAt H ys ss) : S3 p q L H0 ys ss (L2.upd H L (.lst ys)) := ⟨h.hs.upd h.nLp h.nLq, fun b o e n1 n2 => (upd_ne n2).trans (h.kp b o e n1 n2), upd_same, k.upd h.eL, h.nLp, h.nLq⟩
theorem at_int {α : Type} {xs : List α} {d : Int} (h0 : 0 ≤ d) (h1 : d < xs.length) : atI xs d = some (xs[d.toNat]'(by omega)) := by
  have e : d = ((d.toNat : Nat) : Int) := by omega
  conv => lhs; rw [e]
  exact atI_nat (List.getElem?_eq_getElem (by omega))
theorem ix_int {n : Nat} {d : Int} (h0 : 0 ≤ d) (h1 : d < n) : ixN n d = some d.toNat := by
  unfold ixN
  rw [if_pos h0, if_pos h1]
theorem u65 {k : Nat} {A : Around} (r : Room k A) : A.units + 65 < cLine := by have := r.un; omega
def spWait : Sp := fun vs H Q _ => ∃ (p q : Addr) (D G n : Int), vs = [.ref p, .int D, .int G, .int n] ∧ SrcAt H p q ∧ (1 ≤ D ∧ D ≤ 3000000000) ∧ (1 ≤ G ∧ G ≤ 1000000000) ∧ (1 ≤ n ∧ n ≤ 100) ∧ ∀ (L : Addr) (xs : List V) (rs : List L3) (H' : Hp), S3 p q L H xs rs H' → Right D G n rs → rs.length = (n - 1).toNat → H L = none → Q (.ref L) H'
def spChanged : Sp := fun vs H Q _ => ∃ (p q L : Addr) (n kind D G : Int) (xs : List V) (rs : List L3), vs = [.ref p, .ref L, .int n, .int kind, .int D, .int G] ∧ SrcAt H p q ∧ L ≠ p ∧ L ≠ q ∧ H L = some (.lst xs) ∧ TrisAt H xs rs ∧ 0 < rs.length ∧ rs.length ≤ 200 ∧ (1 ≤ D ∧ D ≤ 3000000000) ∧ (1 ≤ G ∧ G ≤ 1000000000) ∧ (0 ≤ kind ∧ kind ≤ 5) ∧ (kind = 4 → Told rs) ∧
  ∀ (M : Addr) (ys : List V) (ss : List L3) (H' : Hp), SrcAt H' p q → Kp p L H H' → H' M = some (.lst ys) → TrisAt H' ys ss → M ≠ p → M ≠ q → Chg kind n D G rs ss → Q (.ref M) H'
section
variable {P : Program} {w : World} {K : PySem.W.Frag} {mg : Str → Option Value} {base : Heap} {a : Adr}
set_option maxHeartbeats 0 in
theorem ok__law_waiting (T : Txt K mg a) : FnOk P w K mg base CX0 3 a.a__law_waiting a.d__law_waiting ["_law_source_here", "_law_letter", "_law_gap", "_law_n"] spWait := by
  refine T.F__law_waiting.ok sc__law_waiting (fun vs H Q E h => ?_) (fun cdv A outer s H vs Q E hr h => ?_)
  · obtain ⟨p, q, D, G, n, rfl, _⟩ := h
    rfl
  · obtain ⟨p, q, D, G, n, rfl, hs, hD, hG, hn, k⟩ := h
    refine ⟨_, (pss_cons (ps_set (i := 4) sc__law_waiting.nd rfl (Or.inl rfl) (pe_lst pa_nil))
 (pss_cons (ps_set (i := 5) sc__law_waiting.nd rfl (Or.inl rfl) pe_int)
 (pss_cons (ps_for (by exact PassesOwn.never) rfl (pi_range2 (by rfl) T.n_range (pa_cons pe_int (pa_cons (pv 3) pa_nil))) (pg_name (i := 6) sc__law_waiting.nd rfl (Or.inl rfl))
 (pss_cons (ps_set (i := 7) sc__law_waiting.nd rfl (Or.inl rfl) (pe_call (ok__law_draw T) (hr.mono (by decide)) (by rfl) T.g__law_draw T.F__law_draw.kp T.b__law_draw .nil pass0 (pa_cons (pv 0) (pa_cons (pv 6) pa_nil))))
 (pss_cons (ps_aug (i := 5) sc__law_waiting.nd rfl (Or.inl rfl) (pe_op op_add (pe_op op_add (pv 1) (pv 2)) (pe_call (ok__law_draw T) (hr.mono (by decide)) (by rfl) T.g__law_draw T.F__law_draw.kp T.b__law_draw .nil pass0 (pa_cons (pv 0) (pa_cons pe_int pa_nil)))) ip_add)
 (pss_one (ps_expr (pe_bm PySem.F.plainAttrs_list PySem.F.slot_list_append PySem.F.type_list_append mt_append (pv 4) (pa_cons (pe_tup (pa_cons (pv 7) (pa_cons (pv 6) (pa_cons (pv 5) pa_nil)))) pa_nil)))))))
 (pss_cons (ps_set (i := 8) sc__law_waiting.nd rfl (Or.inl rfl) (pe_lst pa_nil))
 (pss_cons (ps_for (by exact PassesOwn.never) rfl (pi_list (pv 4)) (pg_name (i := 9) sc__law_waiting.nd rfl (Or.inl rfl))
 (pss_one (ps_expr (pe_bm PySem.F.plainAttrs_list PySem.F.slot_list_insert PySem.F.type_list_insert mt_insert (pv 8) (pa_cons (pe_call (ok__law_draw T) (hr.mono (by decide)) (by rfl) T.g__law_draw T.F__law_draw.kp T.b__law_draw .nil pass0 (pa_cons (pv 0) (pa_cons (pe_op op_add (pe_callB call_len_seq (by rfl) T.n_len (by decide +kernel) (pa_cons (pv 8) pa_nil)) pe_int) pa_nil))) (pa_cons (pv 9) pa_nil))))))
 (pss_one (ps_ret (pv 8)))))))), ?_⟩
    repeat walk_at "rd"
    refine new_at (Nat.zero_le _) (fun L H1 nL s1 eL => ?_)
    have S : S3 p q L H [] [] H1 := ⟨hs.keep s1, fun b o e _ _ => s1 _ _ e, eL, TrisAt.nil, hs.ne nL, hs.neq nL⟩
    repeat walk_at "rd"
    refine ⟨by omega, for_range (lo := 1) (n := (n - 1).toNat) (fun i σ H' => ∃ (v6 v7 : Option V) (st : Int) (xs : List V) (rs : List L3), σ = [some (.ref p), some (.int D), some (.int G), some (.int n), some (.ref L), some (.int st), v6, v7, none, none] ∧ S3 p q L H xs rs H' ∧ rs.length = i ∧ Right D G (1 + i) rs ∧ 0 ≤ st ∧ st ≤ i * (D + G + 3) ∧ ∀ l, l ∈ rs → l.2.2 ≤ st) ⟨_, _, 0, [], [], rfl, S, rfl, ⟨(fun l hl => nomatch hl), (fun l hl => nomatch hl), List.nodup_nil, fun x h1 h2 => absurd h2 (by omega), fun l m hl => nomatch hl⟩, Int.le_refl _, by omega, fun l hl => nomatch hl⟩ ?_ ?_⟩
    · clear S eL
      rintro i σ H2 hi ⟨v6, v7, st, xs, rs, rfl, S, hlen, R, st0, st9, hst⟩
      repeat walk_at "rd"
      refine ⟨p, q, _, rfl, S.hs, by omega, by omega, fun sd H3 sd0 sd1 hs3 b3 => ?_⟩
      have S := S.but hs3 b3
      clear hs3 b3
      repeat walk_at "rd"
      refine ⟨p, q, 3, rfl, S.hs, by decide, by decide, fun d H4 d0 d1 hs4 b4 => ?_⟩
      have S := S.but hs4 b4
      clear hs4 b4
      repeat walk_at "rd"
      refine ⟨.inl ⟨rfl, _, SqL.of S.eL⟩, ?_⟩
      repeat walk_at "rd"
      refine new_at (Nat.le_of_ble_eq_true rfl) (fun t H5 nt s5 et => ?_)
      have S := S.keep s5
      repeat walk_at "rd"
      refine r_app S.eL (small1000 (by rw [S.hA.1]; omega)) ?_
      have hnew : ∀ l, l ∈ rs → l.2.1 < 1 + i := fun l hl => (R.hands l hl).2.2.2
      refine ⟨_, _, _, _, _, rfl, S.put (S.hA.snoc (g := (sd, 1 + (i : Int), st + (D + G + d))) et), by rw [List.length_append, List.length_singleton]; omega, ⟨fun l hl => ?_, fun l hl => ?_, ?_, fun x h1 h2 => ?_, fun l m hl hm hlt => ?_⟩, by omega, ?_, fun l hl => ?_⟩
      · rcases List.mem_append.mp hl with hl | hl
        · have := R.hands l hl; omega
        · rw [List.mem_singleton] at hl; subst hl; dsimp only; omega
      · rcases List.mem_append.mp hl with hl | hl
        · exact R.start l hl
        · rw [List.mem_singleton] at hl; subst hl; dsimp only; rw [Int.add_mul, Int.one_mul]; omega
      · unfold recvs
        rw [List.map_append]
        have hp : (rs.map (·.2.1) ++ [((sd, 1 + (i : Int), st + (D + G + d)) : L3)].map (·.2.1)).Perm ((1 + (i : Int)) :: rs.map (·.2.1)) := List.perm_append_comm
        refine hp.nodup_iff.mpr (List.nodup_cons.mpr ⟨fun z => ?_, R.nodup⟩)
        obtain ⟨l, hl, e⟩ := List.mem_map.mp z
        have := hnew l hl
        omega
      · unfold recvs
        rw [List.map_append]
        by_cases c : x = 1 + i
        · subst c
          exact List.mem_append_right _ (List.mem_singleton.mpr rfl)
        · exact List.mem_append_left _ (R.all x h1 (by omega))
      · rcases List.mem_append.mp hl with hl | hl
        · rcases List.mem_append.mp hm with hm | hm
          · exact R.order l m hl hm hlt
          · rw [List.mem_singleton] at hm; subst hm; have := hst l hl; dsimp only; omega
        · rw [List.mem_singleton] at hl; subst hl
          rcases List.mem_append.mp hm with hm | hm
          · have := hnew m hm; dsimp only at hlt; omega
          · rw [List.mem_singleton] at hm; subst hm; dsimp only at hlt; omega
      · rw [Int.natCast_add, Int.add_mul]; omega
      · rcases List.mem_append.mp hl with hl | hl
        · have := hst l hl; omega
        · rw [List.mem_singleton] at hl; subst hl; dsimp only; omega
    · clear S eL
      rintro σ H2 ⟨v6, v7, st, xs, rs, rfl, S, hlen, R, st0, st9, hst⟩
      rw [show 1 + (((n - 1).toNat : Nat) : Int) = n by omega] at R
      repeat walk_at "rd"
      refine new_at (Nat.zero_le _) (fun M H3 nM s3 eM => ?_)
      have S3_ := S.keep s3
      have nML : M ≠ L := (ne_of_none S.eL nM).symm
      have nMH : H M = none := by
        cases e : H M with
        | none => rfl
        | some o =>
          have := S.kp M o e (S.hs.ne nM) nML
          rw [nM] at this
          cases this
      have S' : S3 p q M H [] [] H3 := ⟨S3_.hs, fun b o e n1 n2 => by
        by_cases c : b = L
        · subst c
          rw [nL] at e; cases e
        · exact S3_.kp b o e n1 c, eM, TrisAt.nil, S.hs.ne nM, S.hs.neq nM⟩
      have eL3 := S3_.eL
      have hA3 := S3_.hA
      clear S S3_ eM
      repeat walk_at "rd"
      refine ⟨L, rfl, ⟨_, SqL.of eL3⟩, for_list (K := K) (a := L) (xs := xs) (fun i σ H' => ∃ (v9 : Option V) (ys : List V) (ss : List L3), σ = [some (.ref p), some (.int D), some (.int G), some (.int n), some (.ref L), some (.int st), v6, v7, some (.ref M), v9] ∧ S3 p q M H ys ss H' ∧ (rs.take i).Perm ss ∧ H' L = some (.lst xs) ∧ TrisAt H' xs rs) ⟨_, [], [], rfl, S', by rw [List.take_zero], eL3, hA3⟩ (fun i σ H' _ ⟨_, _, _, _, _, _, h, _⟩ => SqL.of h) ?_ ?_⟩
      · clear S' eL3 hA3
        rintro i x σ H4 hx ⟨v9, ys, ss, rfl, S, hp, eL, hA⟩
        obtain ⟨t, l, rfl, hl1, et⟩ := hA.get hx
        have hlp := hp.length_eq
        have hi9 := (List.getElem?_eq_some_iff.mp hl1).1
        rw [List.length_take] at hlp
        repeat walk_at "rd"
        refine ⟨.inl ⟨rfl, _, SqL.of S.eL⟩, ?_⟩
        have hyl := S.hA.1
        have eM := S.eL
        repeat walk_at "rd"
        refine ⟨p, q, _, rfl, S.hs, by omega, by omega, fun d H5 d0 d1 hs5 b5 => ?_⟩
        have nLp : L ≠ p := fun z => by
          obtain ⟨cs, i, big, cnt, st, h1, _⟩ := S.hs
          rw [z, h1] at eL
          have := HO.lst.inj (Option.some.inj eL)
          rw [← this] at hx hA
          have h0 := hA.2 0 (rs[0]'(by omega)) (List.getElem?_eq_getElem (by omega))
          obtain ⟨t0, e0, e1⟩ := h0
          exact absurd z (hs.ne nL)
        have eL := b5 _ _ eL nLp
        have hA := hA.but S.hs b5
        have et := tup_but et S.hs b5
        have S := S.but hs5 b5
        repeat walk_at "rd"
        refine ⟨M, ys, d, .ref t, rfl, rfl, S.eL, small1000 (by omega), d0, by omega, ?_⟩
        refine ⟨_, _, _, rfl, S.put (S.hA.split (l := l) rfl et), ?_, (upd_ne nML.symm).trans eL, hA.upd S.eL⟩
        rw [take_more hl1]
        refine (hp.append_right [l]).trans ?_
        conv => lhs; rw [← List.take_append_drop d.toNat ss]
        rw [List.append_assoc, List.append_assoc]
        exact List.Perm.append_left _ List.perm_append_comm
      · clear S' eL3 hA3
        rintro σ H4 ⟨v9, ys, ss, rfl, S, hp, eL, hA⟩
        rw [hA.1, List.take_length] at hp
        repeat walk_at "rd"
        exact k M ys ss H4 S (R.perm hp) (by rw [← hp.length_eq]; exact hlen) nMH
end

/-! ### the law of k24: plans changed in one way -/
theorem len_chg {rs ss : List L3} (h : ss.length = rs.length) : ss.length ≤ rs.length + 1 := by omega
theorem cut_to {xs : List V} {d : Int} (h0 : 0 ≤ d) (h : d ≤ xs.length) : cutV xs none (some d) = xs.take d.toNat := by
  have e : d = 0 + ((d.toNat : Nat) : Int) := by omega
  conv => lhs; rw [e]
  exact cut_upto (by omega)
theorem cut_from {xs : List V} {d : Int} (h0 : 0 ≤ d) (h : d ≤ xs.length) : cutV xs (some d) none = xs.drop d.toNat := by
  have e : HT.sIx xs.length 0 (some d) = d.toNat := by
    show (if d < 0 then (d + (xs.length : Int)).toNat else min d.toNat xs.length) = d.toNat
    rw [if_neg (by omega)]
    omega
  unfold cutV
  rw [e]
  show (xs.drop d.toNat).take (xs.length - d.toNat) = _
  rw [List.take_of_length_le (by rw [List.length_drop]; omega)]
def posL (l : L3) : Bool := decide (l.1 > 0)
theorem told_set {rs : List L3} {i : Nat} {l g : L3} (hl : rs[i]? = some l) (h : Told rs) (h1 : g.1 = l.1 ∨ g.1 = 0) (h2 : g.2.1 = l.2.1) : Told (rs.set i g) := by
  have hi := (List.getElem?_eq_some_iff.mp hl).1
  have hlm := List.mem_iff_getElem?.mpr ⟨i, hl⟩
  have keep : ∀ m, m ∈ rs → ∃ m', m' ∈ rs.set i g ∧ m'.2.1 = m.2.1 := fun m hm => by
    obtain ⟨j, hj⟩ := List.mem_iff_getElem?.mp hm
    by_cases c : i = j
    · subst c
      obtain rfl := Option.some.inj (hl.symm.trans hj)
      exact ⟨g, List.mem_set hi _, h2⟩
    · exact ⟨m, List.mem_iff_getElem?.mpr ⟨j, by rw [List.getElem?_set, if_neg c]; exact hj⟩, rfl⟩
  intro x hx h0
  rcases List.mem_or_eq_of_mem_set hx with hx | rfl
  · obtain ⟨m, hm, e⟩ := h x hx h0
    obtain ⟨m', hm', e'⟩ := keep m hm
    exact ⟨m', hm', e'.trans e⟩
  · rcases h1 with h1 | h1
    · obtain ⟨m, hm, e⟩ := h l hlm (by omega)
      obtain ⟨m', hm', e'⟩ := keep m hm
      exact ⟨m', hm', by omega⟩
    · omega
def triD (l : L3) : PyData := .tuple [.int l.1, .int l.2.1, .int l.2.2]
theorem eqv_tri (a b : L3) : PyData.eqv (triD a) (triD b) = decide (a = b) := by
  obtain ⟨a1, a2, a3⟩ := a
  obtain ⟨b1, b2, b3⟩ := b
  show ((a1 == b1) && ((a2 == b2) && ((a3 == b3) && true))) = _
  rw [Bool.eq_iff_iff, decide_eq_true_eq]
  simp
theorem dp_tri {K : PySem.W.Frag} {H : Hp} {t : Addr} {l : L3} (e : H t = some (.tup (triV l))) : Dp K H (.ref t) (triD l) := .tup (SqT.of e) (.cons (.int _) (.cons (.int _) (.cons (.int _) .nil)))
theorem dp_tris {K : PySem.W.Frag} {H : Hp} : ∀ {xs : List V} {rs : List L3}, TrisAt H xs rs → DpAll K H xs (rs.map triD)
  | [], [], _ => .nil
  | x :: xs, r :: rs, h => by
    obtain ⟨t, e, hy⟩ := h.2 0 r rfl
    obtain rfl : x = .ref t := Option.some.inj e
    exact .cons (dp_tri hy) (dp_tris ⟨by have := h.1; simpa using this, fun i r' hr => h.2 (i + 1) r' hr⟩)
  | [], _ :: _, h => absurd h.1 (by simp)
  | _ :: _, [], h => absurd h.1 (by simp)
theorem lay_tris : ∀ rs : List L3, PyData.canLayAll0 (rs.map triD) = true
  | [] => rfl
  | r :: rs => by
    show ((true && (true && (true && true))) && PyData.canLayAll0 (rs.map triD)) = true
    rw [lay_tris rs]; rfl
theorem dep_tris : ∀ rs : List L3, PyData.depthAll (rs.map triD) ≤ 1
  | [] => by decide
  | r :: rs => by
    have := dep_tris rs
    have h : (triD r).depth ≤ 1 := by
      show max 0 (max 0 (max 0 0)) + 1 ≤ 1
      decide
    show max (triD r).depth (PyData.depthAll (rs.map triD)) ≤ 1
    omega
theorem sh_tris (rs : List L3) : SeqAt.shaped (.list (rs.map triD)) = true := by
  have h3 := dep_tris rs
  show (PyData.canLayAll0 (rs.map triD) && decide (PyData.depthAll (rs.map triD) + 1 ≤ 64)) = true
  rw [lay_tris, decide_eq_true (by omega)]; rfl
theorem sh_tri (l : L3) : SeqAt.shaped (triD l) = true := by
  show ((true && (true && (true && true))) && decide ((triD l).depth ≤ 64)) = true
  rw [decide_eq_true (show (triD l).depth ≤ 64 by show max 0 (max 0 (max 0 0)) + 1 ≤ 64; decide)]
  rfl
/-- rows.index(row) -/
theorem r_indexT {K : PySem.W.Frag} {H : Hp} {Q : VK} {t p : Addr} {xs : List V} {rs : List L3} {l : L3} (h : H p = some (.lst xs)) (hA : TrisAt H xs rs) (et : H t = some (.tup (triV l))) (hl : l ∈ rs) (q : ∀ j : Nat, rs[j]? = some l → Q (.int (j : Nat)) H) : rIndexD K (.ref p) [.ref t] H Q := by
  have hs : (first (fun i => decide (rs.getD i (0, 0, 0) = l)) rs.length) ≠ none := fun e => by
    obtain ⟨i, hi⟩ := List.mem_iff_getElem?.mp hl
    have := first_no e i (List.getElem?_eq_some_iff.mp hi).1
    rw [getD_of hi, decide_eq_true rfl] at this
    cases this
  obtain ⟨j, hj⟩ := Option.ne_none_iff_exists'.mp hs
  obtain ⟨h1, h2, h3⟩ := first_yes hj
  have hj2 : rs[j]? = some l := by
    have := of_decide_eq_true h2
    rw [getD_of (List.getElem?_eq_getElem h1)] at this
    rw [List.getElem?_eq_getElem h1, this]
  refine ⟨p, .ref t, triD l, rs.map triD, j, triD l, rfl, rfl, .lst (SqL.of h) (dp_tris hA), dp_tri et, sh_tris rs, sh_tri l, by rw [List.getElem?_map, hj2]; rfl, by rw [eqv_tri, decide_eq_true rfl], fun m z' hm hz' => ?_, q j hj2⟩
  rw [List.getElem?_map] at hz'
  cases e : rs[m]? with
  | none => rw [e] at hz'; cases hz'
  | some y =>
    rw [e] at hz'
    obtain rfl := Option.some.inj hz'
    have := h3 m hm
    rw [getD_of e] at this
    rw [eqv_tri]
    exact this
section
variable {P : Program} {w : World} {K : PySem.W.Frag} {mg : Str → Option Value} {base : Heap} {a : Adr}
set_option maxHeartbeats 0 in
theorem ok__law_changed (T : Txt K mg a) : FnOk P w K mg base CX0 3 a.a__law_changed a.d__law_changed ["_law_source_here", "_law_rows", "_law_n", "_law_kind", "_law_letter", "_law_gap"] spChanged := by
  refine T.F__law_changed.ok sc__law_changed (fun vs H Q E h => ?_) (fun cdv A outer s H vs Q E hr h => ?_)
  · obtain ⟨p, q, L, n, kind, D, G, xs, rs, rfl, _⟩ := h
    rfl
  · obtain ⟨p, q, L, n, kind, D, G, xs, rs, rfl, hs, nLp, nLq, eL, hA, hr0, hr9, hD, hG, hk, htold, k⟩ := h
    refine ⟨_, (pss_cons (ps_set (i := 6) sc__law_changed.nd rfl (Or.inl rfl) (pe_call (ok__law_draw T) (hr.mono (by decide)) (by rfl) T.g__law_draw T.F__law_draw.kp T.b__law_draw .nil pass0 (pa_cons (pv 0) (pa_cons (pe_callB call_len_seq (by rfl) T.n_len (by decide +kernel) (pa_cons (pv 1) pa_nil)) pa_nil))))
 (pss_cons (ps_set (i := 7) sc__law_changed.nd rfl (Or.inr rfl) (pe_ix ix_list (pv 1) (pv 6) (fun _ _ => rfl)))
 (pss_cons (ps_if (pt_cmpR op_eq (pv 3) pe_int (nomark _)) (pss_one (ps_asg (pe_tup (pa_cons (pe_ix ix_tup (pv 7) pe_int (fun _ _ => rfl)) (pa_cons (pe_ix ix_tup (pv 7) pe_int (fun _ _ => rfl)) (pa_cons (pe_ix ix_list (pe_lst (pa_cons (pe_un un_neg pe_int) (pa_cons (pe_op op_add (pe_powN (z := 1000000000000000) ⟨by decide, by decide, by decide⟩ (by decide +kernel)) pe_int) pa_nil))) (pe_call (ok__law_draw T) (hr.mono (by decide)) (by rfl) T.g__law_draw T.F__law_draw.kp T.b__law_draw .nil pass0 (pa_cons (pv 0) (pa_cons pe_int pa_nil))) (fun _ _ => rfl)) pa_nil)))) (pg_sub (pv 1) (pv 6) set_list)))
 pss_nil)
 (pss_cons (ps_if (pt_cmpR op_eq (pv 3) pe_int (nomark _)) (pss_one (ps_asg (pe_ix ix_list (pe_lst (pa_cons (pe_tup (pa_cons (pv 2) (pa_cons (pe_ix ix_tup (pv 7) pe_int (fun _ _ => rfl)) (pa_cons (pe_ix ix_tup (pv 7) pe_int (fun _ _ => rfl)) pa_nil)))) (pa_cons (pe_tup (pa_cons (pe_ix ix_tup (pv 7) pe_int (fun _ _ => rfl)) (pa_cons pe_int (pa_cons (pe_ix ix_tup (pv 7) pe_int (fun _ _ => rfl)) pa_nil)))) (pa_cons (pe_tup (pa_cons (pe_ix ix_tup (pv 7) pe_int (fun _ _ => rfl)) (pa_cons (pe_ix ix_tup (pv 7) pe_int (fun _ _ => rfl)) (pa_cons (pe_ix ix_tup (pv 7) pe_int (fun _ _ => rfl)) pa_nil)))) (pa_cons (pe_tup (pa_cons (pe_un un_neg pe_int) (pa_cons (pe_ix ix_tup (pv 7) pe_int (fun _ _ => rfl)) (pa_cons (pe_ix ix_tup (pv 7) pe_int (fun _ _ => rfl)) pa_nil)))) pa_nil))))) (pe_call (ok__law_draw T) (hr.mono (by decide)) (by rfl) T.g__law_draw T.F__law_draw.kp T.b__law_draw .nil pass0 (pa_cons (pv 0) (pa_cons pe_int pa_nil))) (fun _ _ => rfl)) (pg_sub (pv 1) (pv 6) set_list)))
 pss_nil)
 (pss_cons (ps_if (pt_cmpR op_eq (pv 3) pe_int (nomark _)) (pss_one (ps_expr (pe_bm PySem.F.plainAttrs_list PySem.F.slot_list_insert PySem.F.type_list_insert mt_insert (pv 1) (pa_cons (pe_call (ok__law_draw T) (hr.mono (by decide)) (by rfl) T.g__law_draw T.F__law_draw.kp T.b__law_draw .nil pass0 (pa_cons (pv 0) (pa_cons (pe_op op_add (pe_callB call_len_seq (by rfl) T.n_len (by decide +kernel) (pa_cons (pv 1) pa_nil)) pe_int) pa_nil))) (pa_cons (pe_tup (pa_cons (pe_ix ix_tup (pv 7) pe_int (fun _ _ => rfl)) (pa_cons (pe_ix ix_tup (pv 7) pe_int (fun _ _ => rfl)) (pa_cons (pe_op op_add (pe_ix ix_tup (pv 7) pe_int (fun _ _ => rfl)) (pe_op op_mul pe_int (pe_op op_add (pv 4) (pv 5)))) pa_nil)))) pa_nil)))))
 pss_nil)
 (pss_cons (ps_if (pt_cmpR op_eq (pv 3) pe_int (nomark _)) (pss_one (ps_set (i := 1) sc__law_changed.nd rfl (Or.inl rfl) (pe_op op_cat (pe_slice sl_list (pv 1) po_none (po_some (pv 6))) (pe_slice sl_list (pv 1) (po_some (pe_op op_add (pv 6) pe_int)) po_none))))
 pss_nil)
 (pss_cons (ps_if (pt_cmpR op_eq (pv 3) pe_int (nomark _)) (pss_cons (ps_setLc (i := 9) (own := [("_law_other", 8)]) (g := gName 8) rfl sc__law_changed.nd rfl rfl (sw_true rfl rfl rfl (by decide +kernel)) (pi_list (pv 1)) (blkOk_by (own := [("_law_other", 8)]) (N := ["_law_source_here", "_law_rows", "_law_n", "_law_kind", "_law_letter", "_law_gap", "_law_at", "_law_row_here", "_law_other", "_law_late", "_law_told", "_law_start"]) (sc := defScope s__law_changed) (by decide +kernel)) (fun _ _ _ _ _ => (pg_name (i := 8) sc__law_changed.nd rfl (Or.inl rfl))) (fun _ _ _ _ _ => pts_one (pt_cmpR op_gt (pe_ix (ix_tupK (K := K) rfl) (pv 8) pe_int (fun _ _ => rfl)) pe_int (nomark _))) (fun _ _ _ _ _ => (pv 8)))
 (pss_one (ps_if (pt_cmpR op_gt (pe_callB call_len_seq (by rfl) T.n_len (by decide +kernel) (pa_cons (pv 9) pa_nil)) pe_int (nomark _)) (pss_cons (ps_set (i := 7) sc__law_changed.nd rfl (Or.inr rfl) (pe_ix ix_list (pv 9) (pe_call (ok__law_draw T) (hr.mono (by decide)) (by rfl) T.g__law_draw T.F__law_draw.kp T.b__law_draw .nil pass0 (pa_cons (pv 0) (pa_cons (pe_callB call_len_seq (by rfl) T.n_len (by decide +kernel) (pa_cons (pv 9) pa_nil)) pa_nil))) (fun _ _ => rfl)))
 (pss_cons (ps_setLc (i := 10) (own := [("_law_other", 8)]) (g := gName 8) rfl sc__law_changed.nd rfl rfl (sw_true rfl rfl rfl (by decide +kernel)) (pi_list (pv 1)) (blkOk_by (own := [("_law_other", 8)]) (N := ["_law_source_here", "_law_rows", "_law_n", "_law_kind", "_law_letter", "_law_gap", "_law_at", "_law_row_here", "_law_other", "_law_late", "_law_told", "_law_start"]) (sc := defScope s__law_changed) (by decide +kernel)) (fun _ _ _ _ _ => (pg_name (i := 8) sc__law_changed.nd rfl (Or.inl rfl))) (fun _ _ _ _ _ => pts_one (pt_cmpR op_eq (pe_ix (ix_tupK (K := K) rfl) (pv 8) pe_int (fun _ _ => rfl)) (pe_ix (ix_tupK (K := K) rfl) (pv 7) pe_int (fun _ _ => rfl)) (nomark _))) (fun _ _ _ _ _ => (pe_ix (ix_tupK (K := K) rfl) (pv 8) pe_int (fun _ _ => rfl))))
 (pss_cons (ps_set (i := 11) sc__law_changed.nd rfl (Or.inl rfl) (pe_op op_sub (pe_op op_sub (pe_op op_add (pe_ix ix_list (pv 10) pe_int (fun _ _ => rfl)) (pv 4)) pe_int) (pe_op op_mul (pe_call (ok__law_draw T) (hr.mono (by decide)) (by rfl) T.g__law_draw T.F__law_draw.kp T.b__law_draw .nil pass0 (pa_cons (pv 0) (pa_cons pe_int pa_nil))) (pe_call (ok__law_draw T) (hr.mono (by decide)) (by rfl) T.g__law_draw T.F__law_draw.kp T.b__law_draw .nil pass0 (pa_cons (pv 0) (pa_cons (pv 4) pa_nil))))))
 (pss_one (ps_asg (pe_tup (pa_cons (pe_ix ix_tup (pv 7) pe_int (fun _ _ => rfl)) (pa_cons (pe_ix ix_tup (pv 7) pe_int (fun _ _ => rfl)) (pa_cons (pv 11) pa_nil)))) (pg_sub (pv 1) (pe_bm PySem.F.plainAttrs_list PySem.F.slot_list_index PySem.F.type_list_index (mt_indexD (u65 hr)) (pv 1) (pa_cons (pv 7) pa_nil)) (set_list)))))))
 pss_nil)))
 pss_nil)
 (pss_cons (ps_if (pt_cmpR op_eq (pv 3) pe_int (nomark _)) (pss_cons (ps_set (i := 11) sc__law_changed.nd rfl (Or.inl rfl) (pe_op op_add (pe_op op_add (pe_callB (cr_max rfl) (by rfl) T.n_max (by decide +kernel) (pa_cons (pe_lc (own := [("_law_other", 8)]) (g := gName 8) (tt := tYes) rfl sc__law_changed.nd (pi_list (pv 1)) (blkOk_by (own := [("_law_other", 8)]) (N := ["_law_source_here", "_law_rows", "_law_n", "_law_kind", "_law_letter", "_law_gap", "_law_at", "_law_row_here", "_law_other", "_law_late", "_law_told", "_law_start"]) (sc := defScope s__law_changed) (by decide +kernel)) (fun _ _ _ _ _ => (pg_name (i := 8) sc__law_changed.nd rfl (Or.inl rfl))) (fun _ _ _ _ _ => pts_nil) (fun _ _ _ _ _ => (pe_ix (ix_tupK (K := K) rfl) (pv 8) pe_int (fun _ _ => rfl)))) pa_nil)) (pv 4)) (pv 5)))
 (pss_one (ps_for (by exact PassesOwn.never) rfl (pi_range1 (by rfl) T.n_range (pa_cons pe_int pa_nil)) (pg_name (i := 8) sc__law_changed.nd rfl (Or.inl rfl))
 (pss_cons (ps_asg (pe_tup (pa_cons pe_int (pa_cons (pe_ix ix_tup (pv 7) pe_int (fun _ _ => rfl)) (pa_cons (pe_op op_add (pv 11) (pe_call (ok__law_draw T) (hr.mono (by decide)) (by rfl) T.g__law_draw T.F__law_draw.kp T.b__law_draw .nil pass0 (pa_cons (pv 0) (pa_cons (pv 5) pa_nil)))) pa_nil)))) (pg_sub (pv 1) (pv 6) set_list))
 (pss_cons (ps_set (i := 6) sc__law_changed.nd rfl (Or.inl rfl) (pe_op op_modN (pe_callTy call_int1 (by rfl) T.n_int (by decide +kernel) (pa_cons (pe_op op_add (pv 6) pe_int) pa_nil)) (pe_callB call_len_seq (by rfl) T.n_len (by decide +kernel) (pa_cons (pv 1) pa_nil))))
 (pss_one (ps_set (i := 7) sc__law_changed.nd rfl (Or.inr rfl) (pe_ix ix_list (pv 1) (pv 6) (fun _ _ => rfl)))))))))
 pss_nil)
 (pss_one (ps_ret (pv 1))))))))))), ?_⟩
    have S : S3 p q L H xs rs H := ⟨hs, Kp.refl _ _ _, eL, hA, nLp, nLq⟩
    have done : ∀ (ys : List V) (ss : List L3) (H' : Hp), S3 p q L H ys ss H' → Chg kind n D G rs ss → Q (.ref L) H' := fun ys ss H' S c => k L ys ss H' S.hs S.kp S.eL S.hA S.nLp S.nLq c
    repeat walk_at "rd"
    have hxl := hA.1
    refine ⟨p, q, _, rfl, S.hs, by omega, by omega, fun d H1 d0 d1 hs1 b1 => ?_⟩
    have S := S.but hs1 b1
    clear hs eL hA hs1 b1
    have hdx : d < xs.length := by omega
    have hdl : d.toNat < rs.length := by omega
    have hx : xs[d.toNat]? = some (xs[d.toNat]'(by omega)) := List.getElem?_eq_getElem _
    obtain ⟨t, l, ex, hl, et⟩ := S.hA.get hx
    have ea : atI xs d = some (.ref t) := by rw [at_int d0 hdx, ex]
    have hlm : l ∈ rs := List.mem_iff_getElem?.mpr ⟨_, hl⟩
    clear hx ex
    have eL := S.eL
    have ix : ixN xs.length d = some d.toNat := ix_int d0 hdx
    repeat first | walk_at "rd" | walk_at "rdi"
    refine r_ixL eL ea ?_
    have hcases : kind = 0 ∨ kind = 1 ∨ kind = 2 ∨ kind = 3 ∨ kind = 4 ∨ kind = 5 := by omega
    rcases hcases with rfl | rfl | rfl | rfl | rfl | rfl
    · -- a wrong start
      repeat first | refine ite_tt rfl ?_ | refine ite_ff (by decide) ?_ | walk_at "rd" | walk_at "rdi"
      refine new_at (Nat.le_of_ble_eq_true rfl) (fun u H2 nu s2 eu => ?_)
      have S := S.keep s2
      repeat first | walk_at "rd" | walk_at "rdi"
      refine ⟨p, q, 2, rfl, S.hs, by decide, by decide, fun e H3 e0 e1 hs3 b3 => ?_⟩
      have eu := b3 _ _ eu (by have := S.hs; exact fun z => by obtain ⟨cs, i, big, cnt, st, h1, _⟩ := this; rw [z, h1] at eu; simp at eu)
      have S := S.but hs3 b3
      obtain ⟨b, hb, hbad⟩ : ∃ b : Int, atI [V.int (-1), .int (1000000000000000 + 1)] e = some (.int b) ∧ okStart b = false := by
        have : e = 0 ∨ e = 1 := by omega
        rcases this with rfl | rfl
        · exact ⟨_, rfl, rfl⟩
        · exact ⟨_, rfl, rfl⟩
      refine r_ixL eu hb ?_
      repeat first | walk_at "rd" | walk_at "rdi"
      refine new_at (Nat.le_of_ble_eq_true rfl) (fun v H4 nv s4 ev => ?_)
      have S := S.keep s4
      repeat first | walk_at "rd" | walk_at "rdi"
      refine ⟨L, xs, d, d.toNat, rfl, rfl, S.eL, ix, ?_⟩
      have S := S.put (S.hA.set (i := d.toNat) (l := (l.1, l.2.1, b)) ev)
      repeat first | exact done _ _ _ S ⟨fun _ => ⟨_, l, b, hl, rfl, hbad⟩, fun z => absurd z (by decide), fun z => absurd z (by decide), fun z => absurd z (by decide), fun z => absurd z (by decide), len_chg (List.length_set ..)⟩ | refine ite_ff (by decide) ?_ | walk_at "rd" | walk_at "rdi"
    · -- a wrong hand
      repeat first | refine ite_tt rfl ?_ | refine ite_ff (by decide) ?_ | walk_at "rd" | walk_at "rdi"
      refine new_at (Nat.le_of_ble_eq_true rfl) (fun t1 H2 n1 s2 e1 => ?_)
      have S := S.keep s2
      have et := s2 _ _ et
      repeat first | walk_at "rd" | walk_at "rdi"
      refine new_at (Nat.le_of_ble_eq_true rfl) (fun t2 H3 n2 s3 e2 => ?_)
      have S := S.keep s3
      have et := s3 _ _ et
      repeat first | walk_at "rd" | walk_at "rdi"
      refine new_at (Nat.le_of_ble_eq_true rfl) (fun t3 H4 n3 s4 e3 => ?_)
      have S := S.keep s4
      have et := s4 _ _ et
      repeat first | walk_at "rd" | walk_at "rdi"
      refine new_at (Nat.le_of_ble_eq_true rfl) (fun t4 H5 n4 s5 e4 => ?_)
      have S := S.keep s5
      have e1 := s5 _ _ (s4 _ _ (s3 _ _ e1))
      have e2 := s5 _ _ (s4 _ _ e2)
      have e3 := s5 _ _ e3
      repeat first | walk_at "rd" | walk_at "rdi"
      refine new_at (Nat.le_of_ble_eq_true rfl) (fun u H6 nu s6 eu => ?_)
      have S := S.keep s6
      have nup : u ≠ p := fun z => by
        obtain ⟨cs, i, big, cnt, st, h1, _⟩ := S.hs
        rw [z, h1] at eu
        simp at eu
      repeat first | walk_at "rd" | walk_at "rdi"
      refine ⟨p, q, 4, rfl, S.hs, by decide, by decide, fun e H7 e0 e9 hs7 b7 => ?_⟩
      have eu := b7 _ _ eu nup
      have e1 := tup_but (s6 _ _ e1) S.hs b7
      have e2 := tup_but (s6 _ _ e2) S.hs b7
      have e3 := tup_but (s6 _ _ e3) S.hs b7
      have e4 := tup_but (s6 _ _ e4) S.hs b7
      have S := S.but hs7 b7
      obtain ⟨v, g, hv, ev, hbad⟩ : ∃ (v : Addr) (g : Int × Int), atI [V.ref t1, .ref t2, .ref t3, .ref t4] e = some (.ref v) ∧ H7 v = some (.tup [.int g.1, .int g.2, .int l.2.2]) ∧ badHand n 0 1 g = true := by
        have : e = 0 ∨ e = 1 ∨ e = 2 ∨ e = 3 := by omega
        rcases this with rfl | rfl | rfl | rfl
        · exact ⟨t1, (n, l.2.1), rfl, e1, by unfold badHand; rw [decide_eq_false (by dsimp only; omega)]; rfl⟩
        · exact ⟨t2, (l.1, 0), rfl, e2, by unfold badHand; rw [decide_eq_false (by dsimp only; omega)]; rfl⟩
        · exact ⟨t3, (l.2.1, l.2.1), rfl, e3, by unfold badHand; rw [decide_eq_false (by dsimp only; omega)]; rfl⟩
        · exact ⟨t4, (-1, l.2.1), rfl, e4, by unfold badHand; rw [decide_eq_false (by dsimp only; omega)]; rfl⟩
      refine r_ixL eu hv ?_
      repeat first | walk_at "rd" | walk_at "rdi"
      refine ⟨L, xs, d, d.toNat, rfl, rfl, S.eL, ix, ?_⟩
      have S := S.put (S.hA.set (i := d.toNat) (l := (g.1, g.2, l.2.2)) ev)
      repeat first | exact done _ _ _ S ⟨fun z => absurd z (by decide), fun _ => ⟨_, l, g, hl, rfl, hbad⟩, fun z => absurd z (by decide), fun z => absurd z (by decide), fun z => absurd z (by decide), len_chg (List.length_set ..)⟩ | refine ite_ff (by decide) ?_ | walk_at "rd" | walk_at "rdi"
    · -- a row again
      repeat first | refine ite_tt rfl ?_ | refine ite_ff (by decide) ?_ | walk_at "rd" | walk_at "rdi"
      refine ⟨.inl ⟨rfl, _, SqL.of S.eL⟩, ?_⟩
      repeat first | walk_at "rd" | walk_at "rdi"
      refine ⟨p, q, _, rfl, S.hs, by omega, by omega, fun e H2 e0 e9 hs2 b2 => ?_⟩
      have et := tup_but et S.hs b2
      have S := S.but hs2 b2
      repeat first | walk_at "rd" | walk_at "rdi"
      refine new_at (Nat.le_of_ble_eq_true rfl) (fun v H3 nv s3 ev => ?_)
      have S := S.keep s3
      repeat first | walk_at "rd" | walk_at "rdi"
      refine ⟨L, xs, e, .ref v, rfl, rfl, S.eL, small1000 (by omega), e0, by omega, ?_⟩
      have S := S.put (S.hA.split (i := e.toNat) (l := (l.1, l.2.1, l.2.2 + 3 * (D + G))) rfl ev)
      repeat first | exact done _ _ _ S ⟨fun z => absurd z (by decide), fun z => absurd z (by decide), fun _ => ⟨_, l, hlm, rfl⟩, fun z => absurd z (by decide), fun z => absurd z (by decide), by simp; omega⟩ | refine ite_ff (by decide) ?_ | walk_at "rd" | walk_at "rdi"
    · -- a row less
      repeat first | refine ite_tt rfl ?_ | refine ite_ff (by decide) ?_ | walk_at "rd" | walk_at "rdi"
      refine r_slL (SqL.of S.eL) (fun u H2 nu s2 eu => ?_)
      have S := S.keep s2
      rw [cut_to d0 (by omega)] at eu
      repeat first | walk_at "rd" | walk_at "rdi"
      refine r_slL (SqL.of S.eL) (fun v H3 nv s3 ev => ?_)
      have S := S.keep s3
      have eu := s3 _ _ eu
      rw [cut_from (by omega) (by omega)] at ev
      repeat first | walk_at "rd" | walk_at "rdi"
      refine r_cat eu ev (by rw [List.length_take, List.length_drop]; omega) (fun M H4 nM s4 eM => ?_)
      have hA3 := S.hA
      have nMp := S.hs.ne nM
      have nMq := S.hs.neq nM
      have S := S.keep s4
      have hA4 := (hA3.take (i := d.toNat)).cat (hA3.drop (i := (d + 1).toNat))
      have hA4 := hA4.keep s4
      have fin := k M _ _ H4 S.hs S.kp eM hA4 nMp nMq ⟨fun z => absurd z (by decide), fun z => absurd z (by decide), fun z => absurd z (by decide), fun _ => ⟨d.toNat, l, hl, by rw [show (d + 1).toNat = d.toNat + 1 by omega]⟩, fun z => absurd z (by decide), by rw [List.length_append, List.length_take, List.length_drop]; omega⟩
      repeat first | exact fin | refine ite_ff (by decide) ?_ | walk_at "rd" | walk_at "rdi"
    · -- a row too early
      have hT := htold rfl
      have same : Chg 4 n D G rs rs := ⟨fun z => absurd z (by decide), fun z => absurd z (by decide), fun z => absurd z (by decide), fun z => absurd z (by decide), fun _ h => h, by omega⟩
      repeat first | refine ite_tt rfl ?_ | refine ite_ff (by decide) ?_ | walk_at "rd" | walk_at "rdi"
      refine ⟨L, rfl, ⟨_, SqL.of S.eL⟩, fun A1 hA1 => lc_list (K := K) (a := L) (xs := xs) (fun i H' => ∃ acc, H' A1 = some (.lst acc) ∧ TrisAt H' acc ((rs.take i).filter posL) ∧ Same H1 H') ⟨[], upd_same, by rw [List.take_zero]; exact TrisAt.nil, Same.new hA1⟩ (fun i H' _ ⟨_, _, _, s⟩ => SqL.of (s _ _ S.eL)) ?_ ?_⟩
      · rintro i x H2 hx ⟨acc, g1, g2, s2⟩
        obtain ⟨t2, l2, rfl, hl2, et2⟩ := (S.hA.keep s2).get hx
        have hi9 := (List.getElem?_eq_some_iff.mp hl2).1
        have hal : acc.length ≤ i := by
          rw [g2.1]
          exact Nat.le_trans (List.length_filter_le _ _) (by rw [List.length_take]; omega)
        repeat walk_at "rd"
        refine ⟨rfl, ?_⟩
        repeat walk_at "rd"
        refine ite_d (fun hc => ?_) (fun hc => ?_)
        · repeat walk_at "rd"
          refine ⟨_, g1, small1000 (by omega), acc ++ [.ref t2], upd_same, ?_, s2.over hA1 g1⟩
          rw [take_more hl2, List.filter_append, List.filter_cons_of_pos (p := posL) (decide_eq_true hc)]
          exact (g2.snoc et2).upd g1
        · refine ⟨acc, g1, ?_, s2⟩
          rw [take_more hl2, List.filter_append, List.filter_cons_of_neg (p := posL) (by rw [show posL l2 = false from decide_eq_false hc]; exact Bool.false_ne_true), List.filter_nil, List.append_nil]
          exact g2
      · rintro H2 ⟨acc, g1, g2, s2⟩
        rw [hxl, List.take_length] at g2
        have nAp := S.hs.ne hA1
        have hfl := List.length_filter_le posL rs
        have S := S.keep s2
        repeat first | walk_at "rd" | walk_at "rdi"
        refine ite_d (fun hc => ?_) (fun hc => ?_)
        · have hal := g2.1
          repeat first | walk_at "rd" | walk_at "rdi"
          refine ⟨p, q, _, rfl, S.hs, by omega, by omega, fun e H3 e0 e9 hs3 b3 => ?_⟩
          have g1 := b3 _ _ g1 nAp
          have g2 := g2.but S.hs b3
          have S := S.but hs3 b3
          have hy : acc[e.toNat]? = some (acc[e.toNat]'(by omega)) := List.getElem?_eq_getElem _
          obtain ⟨t3, l3, ex3, hl3, et3⟩ := g2.get hy
          have ea3 : atI acc e = some (.ref t3) := by rw [at_int e0 (by omega), ex3]
          have hl3m := List.mem_filter.mp (List.mem_iff_getElem?.mpr ⟨_, hl3⟩)
          have hl3p : l3.1 > 0 := of_decide_eq_true hl3m.2
          obtain ⟨m0, hm0, hm1⟩ := hT l3 hl3m.1 hl3p
          refine r_ixL g1 ea3 ?_
          repeat first | walk_at "rd" | walk_at "rdi"
          refine ⟨L, rfl, ⟨_, SqL.of S.eL⟩, fun A2 hA2 => lc_list (K := K) (a := L) (xs := xs) (fun i H' => H' A2 = some (.lst ((((rs.take i).filter fun l => decide (l.2.1 = l3.1)).map (·.2.2)).map V.int)) ∧ Same H3 H') ⟨by rw [List.take_zero]; exact upd_same, Same.new hA2⟩ (fun i H' _ h => SqL.of (h.2 _ _ S.eL)) ?_ ?_⟩
          · rintro i x H4 hx ⟨f1, s4⟩
            obtain ⟨t4, l4, rfl, hl4, et4⟩ := (S.hA.keep s4).get hx
            have hi9 := (List.getElem?_eq_some_iff.mp hl4).1
            have et3 := s4 _ _ et3
            have hlen : (((rs.take i).filter fun l => decide (l.2.1 = l3.1)).map (·.2.2)).length ≤ i := by
              rw [List.length_map]
              exact Nat.le_trans (List.length_filter_le _ _) (by rw [List.length_take]; omega)
            repeat walk_at "rd"
            refine ⟨rfl, ?_⟩
            repeat walk_at "rd"
            refine ite_d (fun hc => ?_) (fun hc => ?_)
            · repeat walk_at "rd"
              refine ⟨_, f1, small1000 (by rw [List.length_map]; omega), ?_, s4.over hA2 f1⟩
              rw [upd_same, take_more hl4, List.filter_append, List.filter_cons_of_pos (p := fun l : L3 => decide (l.2.1 = l3.1)) (decide_eq_true hc), List.filter_nil, List.map_append, List.map_append]
              rfl
            · refine ⟨?_, s4⟩
              rw [f1, take_more hl4, List.filter_append, List.filter_cons_of_neg (p := fun l : L3 => decide (l.2.1 = l3.1)) (by simpa using hc), List.filter_nil, List.append_nil]
          · rintro H4 ⟨f1, s4⟩
            rw [hxl, List.take_length] at f1
            have S := S.keep s4
            have et3 := s4 _ _ et3
            obtain ⟨f, ft, hff⟩ : ∃ f ft, (rs.filter fun l => decide (l.2.1 = l3.1)) = f :: ft := by
              cases e : rs.filter fun l => decide (l.2.1 = l3.1) with
              | nil =>
                have : m0 ∈ rs.filter fun l => decide (l.2.1 = l3.1) := List.mem_filter.mpr ⟨hm0, decide_eq_true hm1⟩
                rw [e] at this
                cases this
              | cons f ft => exact ⟨f, ft, rfl⟩
            rw [hff] at f1
            repeat first | walk_at "rd" | walk_at "rdi"
            refine r_ixL f1 (v := .int f.2.2) (atI_nat (j := 0) rfl) ?_
            repeat first | walk_at "rd" | walk_at "rdi"
            refine ⟨p, q, 2, rfl, S.hs, by decide, by decide, fun c1 H5 c10 c19 hs5 b5 => ?_⟩
            have et3 := tup_but et3 S.hs b5
            have S := S.but hs5 b5
            repeat first | walk_at "rd" | walk_at "rdi"
            refine ⟨p, q, D, rfl, S.hs, by omega, by omega, fun c2 H6 c20 c29 hs6 b6 => ?_⟩
            have et3 := tup_but et3 S.hs b6
            have S := S.but hs6 b6
            repeat first | walk_at "rd" | walk_at "rdi"
            refine new_at (Nat.le_of_ble_eq_true rfl) (fun v H7 nv s7 ev => ?_)
            have et3 := s7 _ _ et3
            have S := S.keep s7
            repeat first | walk_at "rd" | walk_at "rdi"
            refine ⟨.inl ⟨rfl, _, SqL.of S.eL⟩, ?_⟩
            repeat first | walk_at "rd" | walk_at "rdi"
            refine r_indexT S.eL S.hA et3 hl3m.1 (fun j hj => ?_)
            have hj9 := (List.getElem?_eq_some_iff.mp hj).1
            refine ⟨L, xs, (j : Int), j, rfl, rfl, S.eL, by rw [ix_int (by omega) (by omega), Int.toNat_natCast], ?_⟩
            have S := S.put (S.hA.set (i := j) (l := (l3.1, l3.2.1, f.2.2 + D - 1 - c1 * c2)) ev)
            repeat first | exact done _ _ _ S ⟨fun z => absurd z (by decide), fun z => absurd z (by decide), fun z => absurd z (by decide), fun z => absurd z (by decide), fun _ h => told_set hj h (.inl rfl) rfl, len_chg (List.length_set ..)⟩ | refine ite_ff (by decide) ?_ | walk_at "rd" | walk_at "rdi"
        · repeat first | exact done _ _ _ S same | refine ite_ff (by decide) ?_ | walk_at "rd" | walk_at "rdi"
    · -- rows too near
      repeat first | refine ite_tt rfl ?_ | refine ite_ff (by decide) ?_ | walk_at "rd" | walk_at "rdi"
      refine ⟨L, rfl, ⟨_, SqL.of S.eL⟩, fun A1 hA1 => lc_list (K := K) (a := L) (xs := xs) (fun i H' => H' A1 = some (.lst (((rs.take i).map (·.2.2)).map V.int)) ∧ Same H1 H') ⟨by rw [List.take_zero]; exact upd_same, Same.new hA1⟩ (fun i H' _ h => SqL.of (h.2 _ _ S.eL)) ?_ ?_⟩
      · rintro i x H2 hx ⟨f1, s2⟩
        obtain ⟨t2, l2, rfl, hl2, et2⟩ := (S.hA.keep s2).get hx
        have hi9 := (List.getElem?_eq_some_iff.mp hl2).1
        repeat walk_at "rd"
        refine ⟨rfl, ?_⟩
        repeat walk_at "rd"
        refine ⟨_, f1, small1000 (by rw [List.length_map, List.length_map, List.length_take]; omega), ?_, s2.over hA1 f1⟩
        rw [upd_same, take_more hl2, List.map_append, List.map_append]
        rfl
      · rintro H2 ⟨f1, s2⟩
        rw [hxl, List.take_length] at f1
        have S := S.keep s2
        have et := s2 _ _ et
        repeat walk_at "rd"
        refine ⟨A1, rs.map (·.2.2), rfl, SqL.of f1, by rw [List.length_map]; omega, fun mx hmx _ => ?_⟩
        repeat walk_at "rd"
        refine ⟨by omega, by omega, for_range (lo := 0) (n := 2) (fun i σ H' => ∃ (d : Int) (t : Addr) (l : L3) (v8 : Option V) (ys : List V) (ss : List L3), σ = [some (.ref p), some (.ref L), some (.int n), some (.int 5), some (.int D), some (.int G), some (.int d), some (.ref t), v8, none, none, some (.int (mx + D + G))] ∧ S3 p q L H ys ss H' ∧ ss.length = rs.length ∧ (Told rs → Told ss) ∧ 0 ≤ d ∧ d < rs.length ∧ ss[d.toNat]? = some l ∧ H' t = some (.tup (triV l))) ⟨d, t, l, _, xs, rs, rfl, S, rfl, id, d0, by omega, hl, et⟩ ?_ ?_⟩
        · clear S et hl ix ea hdx hdl d0 d1 d hlm
          rintro i σ H3 hi ⟨d, t, l, v8, ys, ss, rfl, S, hlen, hT, d0, d1, hl, et⟩
          have hyl := S.hA.1
          have et : H3 t = some (.tup [.int l.1, .int l.2.1, .int l.2.2]) := et
          repeat walk_at "rd"
          refine ⟨p, q, G, rfl, S.hs, by omega, by omega, fun c H4 c0 c9 hs4 b4 => ?_⟩
          have S := S.but hs4 b4
          repeat walk_at "rd"
          refine new_at (Nat.le_of_ble_eq_true rfl) (fun v H5 nv s5 ev => ?_)
          have S := S.keep s5
          repeat walk_at "rd"
          refine ⟨L, ys, d, d.toNat, rfl, rfl, S.eL, ix_int d0 (by omega), ?_⟩
          have S := S.put (S.hA.set (i := d.toNat) (l := (0, l.2.1, mx + D + G + c)) ev)
          have eL := S.eL
          have hlen2 : (ss.set d.toNat (0, l.2.1, mx + D + G + c)).length = rs.length := by rw [List.length_set, hlen]
          have hT2 : Told rs → Told (ss.set d.toNat (0, l.2.1, mx + D + G + c)) := fun h => told_set hl (hT h) (.inr rfl) rfl
          generalize ss.set d.toNat (0, l.2.1, mx + D + G + c) = ss2 at S hlen2 hT2
          have hyl2 : ((ys.set d.toNat (.ref v)).length : Int) = rs.length := by rw [List.length_set]; omega
          generalize ys.set d.toNat (.ref v) = ys2 at S eL hyl2 ⊢
          generalize L2.upd H5 L (.lst ys2) = H6 at S eL ⊢
          repeat walk_at "rd"
          obtain ⟨d2, hd2⟩ : ∃ d2, (d + 1).fmod (ys2.length : Int) = d2 := ⟨_, rfl⟩
          have hd20 : 0 ≤ d2 ∧ d2 < rs.length := by rw [← hd2, ← hyl2]; exact ⟨fmod_nn (by omega), fmod_lt (by omega)⟩
          rw [hd2]
          have hx2 : ys2[d2.toNat]? = some (ys2[d2.toNat]'(by omega)) := List.getElem?_eq_getElem _
          obtain ⟨t2, l2, ex2, hl2, et2⟩ := S.hA.get hx2
          have ea2 : atI ys2 d2 = some (.ref t2) := by rw [at_int hd20.1 (by omega), ex2]
          repeat walk_at "rd"
          refine r_ixL eL ea2 ?_
          repeat first | exact ⟨d2, t2, l2, _, ys2, ss2, rfl, S, hlen2, hT2, hd20.1, hd20.2, hl2, et2⟩ | walk_at "rd"
        · clear S et hl ix ea hdx hdl d0 d1 d hlm
          rintro σ H3 ⟨d, t, l, v8, ys, ss, rfl, S, hlen, hT, d0, d1, hl, et⟩
          repeat first | exact done _ _ _ S ⟨fun z => absurd z (by decide), fun z => absurd z (by decide), fun z => absurd z (by decide), fun z => absurd z (by decide), fun _ h => hT h, len_chg hlen⟩ | walk_at "rd" | walk_at "rdi"
end

/-! ### the law of k24 -/
theorem TrisAt.kp {H H' : Hp} {xs zs : List V} {ls : List L3} {p q L : Addr} (h : TrisAt H xs ls) (hs : SrcAt H p q) (eL : H L = some (.lst zs)) (k : Kp p L H H') : TrisAt H' xs ls := ⟨h.1, fun i g hg => let ⟨t, e, z⟩ := h.2 i g hg; ⟨t, e, k _ _ z (fun y => by
  obtain ⟨cs, i, big, cnt, st, h1, _⟩ := hs
  rw [y, h1] at z; cases z) (fun y => by rw [y, eL] at z; cases z)⟩⟩
structure Bs (M p q m W : Addr) (o l g : Int) (H : Hp) : Prop where
  hs : SrcAt H p q
  hm : MachAt M H m o l g
  eW : H W = some (.lst [.str "form", .str "hand", .str "again", .str "nobody", .str "early", .str "gap"])
  nWp : W ≠ p
theorem Bs.keep {M p q m W : Addr} {o l g : Int} {H H' : Hp} (h : Bs M p q m W o l g H) (s : Same H H') : Bs M p q m W o l g H' := ⟨h.hs.keep s, h.hm.keep s, s _ _ h.eW, h.nWp⟩
theorem Bs.mp {M p q m W : Addr} {o l g : Int} {H : Hp} (h : Bs M p q m W o l g H) : m ≠ p := fun z => by
  obtain ⟨dx, e⟩ := h.hm
  obtain ⟨cs, i, big, cnt, st, h1, _⟩ := h.hs
  rw [z, h1] at e
  cases e
theorem Bs.but {M p q m W : Addr} {o l g : Int} {H H' : Hp} (h : Bs M p q m W o l g H) (hs : SrcAt H' p q) (b : But p H H') : Bs M p q m W o l g H' := ⟨hs, h.hm.but b h.mp, b _ _ h.eW h.nWp, h.nWp⟩
theorem Bs.kp {M p q m W L : Addr} {o l g : Int} {H H' : Hp} (h : Bs M p q m W o l g H) (hs : SrcAt H' p q) (k : Kp p L H H') (nW : W ≠ L) (nm : m ≠ L) : Bs M p q m W o l g H' := ⟨hs, let ⟨dx, e⟩ := h.hm; ⟨dx, k _ _ e h.mp nm⟩, k _ _ h.eW h.nWp nW, h.nWp⟩
def spLaw (K : PySem.W.Frag) : Sp := fun vs H Q _ => ∃ (b : Addr) (ns : List Int), vs = [.ref b] ∧ SqL K H b (ns.map V.int) ∧ ns.length ≤ 63 ∧ ∀ H', Q (.bl true) H'
theorem r_notNx {H : Hp} {Q : VK} {v : V} {f : Flt} (h : FltAt H v f) (q : Q (.bl (f.isSome)) H) : rNotNo v .non H Q := by
  cases f with
  | none =>
    have h : v = .non := h
    subst h
    exact ⟨rfl, q⟩
  | some f =>
    obtain ⟨p, rfl, _⟩ := h
    exact ⟨rfl, q⟩
section
variable {P : Program} {w : World} {K : PySem.W.Frag} {mg : Str → Option Value} {base : Heap} {a : Adr}
set_option maxHeartbeats 0 in
theorem ok_law (T : Txt K mg a) : FnOk P w K mg base CX0 9 a.a_law a.d_law ["_law_script"] (spLaw K) := by
  refine T.F_law.ok sc_law (fun vs H Q E h => ?_) (fun cdv A0 outer s H vs Q E hr h => ?_)
  · obtain ⟨b, ns, rfl, _⟩ := h
    rfl
  · obtain ⟨b, ns, rfl, hS, hn, k⟩ := h
    refine ⟨_, (pss_cons (ps_set (i := 1) sc_law.nd rfl (Or.inl rfl) (pe_call (ok__law_source T) (hr.mono (by decide)) (by rfl) T.g__law_source T.F__law_source.kp T.b__law_source .nil pass0 (pa_cons (pv 0) pa_nil)))
 (pss_cons (ps_set (i := 2) sc_law.nd rfl (Or.inl rfl) (pe_call (ok__law_numbers T) (hr.mono (by decide)) (by rfl) T.g__law_numbers T.F__law_numbers.kp T.b__law_numbers .nil pass0 (pa_cons (pv 1) pa_nil)))
 (pss_cons (ps_asg (pe_call (ok__law_times T) (hr.mono (by decide)) (by rfl) T.g__law_times T.F__law_times.kp T.b__law_times .nil pass0 (pa_cons (pv 2) pa_nil)) (pg_tup (by rfl) (pgs_cons (pg_name (i := 3) sc_law.nd rfl (Or.inl rfl)) (pgs_cons (pg_name (i := 4) sc_law.nd rfl (Or.inl rfl)) pgs_nil))))
 (pss_cons (ps_set (i := 5) sc_law.nd rfl (Or.inl rfl) (pe_make T.mk_Machine (ok_Machine_init T) (hr.mono (by decide)) (by rfl) T.g_Machine T.b_Machine_init .nil pass0 (pa_cons (pe_ix ix_tup (pv 2) pe_int (fun _ _ => rfl)) (pa_cons (pe_ix ix_tup (pv 2) pe_int (fun _ _ => rfl)) (pa_cons (pe_ix ix_tup (pv 2) pe_int (fun _ _ => rfl)) pa_nil)))))
 (pss_cons (ps_set (i := 6) sc_law.nd rfl (Or.inl rfl) (pe_lst (pa_cons pe_str (pa_cons pe_str (pa_cons pe_str (pa_cons pe_str (pa_cons pe_str (pa_cons pe_str pa_nil))))))))
 (pss_cons (ps_for (by exact PassesOwn.never) rfl (pi_range1 (by rfl) T.n_range (pa_cons pe_int pa_nil)) (pg_name (i := 7) sc_law.nd rfl (Or.inl rfl))
 (pss_cons (ps_set (i := 8) sc_law.nd rfl (Or.inl rfl) (pe_op op_add pe_int (pe_call (ok__law_draw T) (hr.mono (by decide)) (by rfl) T.g__law_draw T.F__law_draw.kp T.b__law_draw .nil pass0 (pa_cons (pv 1) (pa_cons pe_int pa_nil)))))
 (pss_cons (ps_set (i := 9) sc_law.nd rfl (Or.inl rfl) (pe_call (ok__law_waiting T) (hr.mono (by decide)) (by rfl) T.g__law_waiting T.F__law_waiting.kp T.b__law_waiting .nil pass0 (pa_cons (pv 1) (pa_cons (pv 3) (pa_cons (pv 4) (pa_cons (pv 8) pa_nil))))))
 (pss_cons (ps_if (pt_cmpR op_notNo (pe_call (ok_fault T) (hr.mono (by decide)) (by rfl) T.g_fault T.F_fault.kp T.b_fault .nil pass0 (pa_cons (pv 5) (pa_cons (pv 8) (pa_cons (pe_callTy cr_list (by rfl) T.n_list (by decide +kernel) (pa_cons (pv 9) pa_nil)) pa_nil)))) pe_non (nomark _)) (pss_one (ps_ret pe_bl))
 pss_nil)
 (pss_cons (ps_set (i := 10) sc_law.nd rfl (Or.inl rfl) (pe_call (ok__law_changed T) (hr.mono (by decide)) (by rfl) T.g__law_changed T.F__law_changed.kp T.b__law_changed .nil pass0 (pa_cons (pv 1) (pa_cons (pe_callTy cr_list (by rfl) T.n_list (by decide +kernel) (pa_cons (pv 9) pa_nil)) (pa_cons (pv 8) (pa_cons (pv 7) (pa_cons (pv 3) (pa_cons (pv 4) pa_nil))))))))
 (pss_cons (ps_set (i := 11) sc_law.nd rfl (Or.inl rfl) (pe_call (ok__law_fault T) (hr.mono (by decide)) (by rfl) T.g__law_fault T.F__law_fault.kp T.b__law_fault .nil pass0 (pa_cons (pv 3) (pa_cons (pv 4) (pa_cons (pv 8) (pa_cons (pv 10) pa_nil))))))
 (pss_cons (ps_if (PW.pt (pw_and (pt_cmpR op_notNo (pv 11) pe_non (nomark _)) (pw_and (pt_cmpR op_ne (pe_ix ix_tup (pv 11) pe_int (fun _ _ => rfl)) (pe_ix ix_list (pv 6) (pv 7) (fun _ _ => rfl)) (nomark _)) (pw_and1 (pt_cmpR op_lt (pv 7) pe_int (nomark _)))))) (pss_one (ps_ret pe_bl))
 pss_nil)
 (pss_cons (ps_if (pt_not (pt_val (pe_call (ok__law_same_fault T) (hr.mono (by decide)) (by rfl) T.g__law_same_fault T.F__law_same_fault.kp T.b__law_same_fault .nil pass0 (pa_cons (pe_call (ok_fault T) (hr.mono (by decide)) (by rfl) T.g_fault T.F_fault.kp T.b_fault .nil pass0 (pa_cons (pv 5) (pa_cons (pv 8) (pa_cons (pe_callTy cr_list (by rfl) T.n_list (by decide +kernel) (pa_cons (pv 10) pa_nil)) pa_nil)))) (pa_cons (pv 11) pa_nil))))) (pss_one (ps_ret pe_bl))
 pss_nil)
 (pss_cons (ps_set (i := 12) sc_law.nd rfl (Or.inl rfl) (pe_call (ok__law_draw T) (hr.mono (by decide)) (by rfl) T.g__law_draw T.F__law_draw.kp T.b__law_draw .nil pass0 (pa_cons (pv 1) (pa_cons pe_int pa_nil))))
 (pss_cons (ps_set (i := 10) sc_law.nd rfl (Or.inl rfl) (pe_call (ok__law_changed T) (hr.mono (by decide)) (by rfl) T.g__law_changed T.F__law_changed.kp T.b__law_changed .nil pass0 (pa_cons (pv 1) (pa_cons (pe_callTy cr_list (by rfl) T.n_list (by decide +kernel) (pa_cons (pv 9) pa_nil)) (pa_cons (pv 8) (pa_cons (pe_callB (call_max2 rfl) (by rfl) T.n_max (by decide +kernel) (pa_cons (pv 7) (pa_cons (pv 12) pa_nil))) (pa_cons (pv 3) (pa_cons (pv 4) pa_nil))))))))
 (pss_cons (ps_if (PW.pt (pw_and (pt_val (pe_callB (cr_all rfl) (by rfl) T.n_all (by decide +kernel) (pa_cons (pe_lc (own := [("_law_row_here", 13)]) (g := gName 13) (tt := tYes) rfl sc_law.nd (pi_list (pv 10)) (blkOk_by (own := [("_law_row_here", 13)]) (N := ["_law_script", "_law_source_here", "_law_numbers_here", "_law_letter", "_law_gap", "_law_machine", "_law_words", "_law_k", "_law_n", "_law_right", "_law_rows", "_law_due", "_law_other", "_law_row_here"]) (sc := defScope s_law) (by decide +kernel)) (fun _ _ _ _ _ => (pg_name (i := 13) sc_law.nd rfl (Or.inl rfl))) (fun _ _ _ _ _ => pts_nil) (fun _ _ _ _ _ => (pe_call (ok__law_row T) (hr.mono (by decide)) (by rfl) T.g__law_row T.F__law_row.kp T.b__law_row .nil pass0 (pa_cons (pv 13) pa_nil)))) pa_nil))) (pw_and1 (pt_cmpR op_gt (pe_callB call_len_seq (by rfl) T.n_len (by decide +kernel) (pa_cons (pv 10) pa_nil)) pe_int (nomark _))))) (pss_one (ps_set (i := 10) sc_law.nd rfl (Or.inl rfl) (pe_call (ok__law_changed T) (hr.mono (by decide)) (by rfl) T.g__law_changed T.F__law_changed.kp T.b__law_changed .nil pass0 (pa_cons (pv 1) (pa_cons (pv 10) (pa_cons (pv 8) (pa_cons (pe_callB (call_min2 rfl) (by rfl) T.n_min (by decide +kernel) (pa_cons (pv 7) (pa_cons (pv 12) pa_nil))) (pa_cons (pv 3) (pa_cons (pv 4) pa_nil)))))))))
 pss_nil)
 (pss_cons (ps_set (i := 11) sc_law.nd rfl (Or.inl rfl) (pe_call (ok__law_fault T) (hr.mono (by decide)) (by rfl) T.g__law_fault T.F__law_fault.kp T.b__law_fault .nil pass0 (pa_cons (pv 3) (pa_cons (pv 4) (pa_cons (pv 8) (pa_cons (pv 10) pa_nil))))))
 (pss_one (ps_if (pt_not (pt_val (pe_call (ok__law_same_fault T) (hr.mono (by decide)) (by rfl) T.g__law_same_fault T.F__law_same_fault.kp T.b__law_same_fault .nil pass0 (pa_cons (pe_call (ok_fault T) (hr.mono (by decide)) (by rfl) T.g_fault T.F_fault.kp T.b_fault .nil pass0 (pa_cons (pv 5) (pa_cons (pv 8) (pa_cons (pe_callTy cr_list (by rfl) T.n_list (by decide +kernel) (pa_cons (pv 10) pa_nil)) pa_nil)))) (pa_cons (pv 11) pa_nil))))) (pss_one (ps_ret pe_bl))
 pss_nil))))))))))))))
 (pss_one (ps_ret pe_bl)))))))), ?_⟩
    repeat walk_at "rd"
    refine ⟨b, ns, rfl, hS, hn, fun p q H1 hs1 np nq s1 => ?_⟩
    repeat walk_at "rd"
    refine ⟨p, q, rfl, hs1, fun t o l g H2 hN nt hs2 b2 => ?_⟩
    have ht := hN.at_
    repeat walk_at "rd"
    refine ⟨t, o, l, g, rfl, ht, fun u H3 nu s3 eu => ?_⟩
    have ht := s3 _ _ ht
    repeat walk_at "rd"
    refine r_Machine ⟨hN.o0, hN.o9⟩ ⟨hN.l0, hN.l9⟩ ⟨hN.g1, hN.g9⟩ hN.pos (fun m H4 nm hm s4 => ?_)
    have hD : 1 ≤ 2 * o + l ∧ 2 * o + l ≤ 3000000000 := by have := hN.pos; have := hN.o9; have := hN.l9; omega
    have hG : 1 ≤ gapOf o g ∧ gapOf o g ≤ 1000000000 := by
      have := hN.g1; have := hN.g9; have := hN.o9
      unfold gapOf; split <;> omega
    have hs4 := (hs2.keep s3).keep s4
    clear hs1 b2 ht hN nt s1 hs2 nm s3 s4 eu nu
    repeat walk_at "rd"
    refine new_at (Nat.le_of_ble_eq_true rfl) (fun W H5 nW s5 eW => ?_)
    have B : Bs a.c_Machine p q m W o l g H5 := ⟨hs4.keep s5, hm.keep s5, eW, hs4.ne nW⟩
    clear hs4 hm eW nW s5
    obtain ⟨D, hDe⟩ : ∃ D, 2 * o + l = D := ⟨_, rfl⟩
    obtain ⟨G, hGe⟩ : ∃ G, gapOf o g = G := ⟨_, rfl⟩
    rw [hDe] at hD
    rw [hGe] at hG
    have hgf : ∀ n rs, 1 ≤ n → faultF (2 * o + l) (gapOf o g) n rs = lawF D G n rs := fun n rs h => by rw [hDe, hGe]; exact (law_fault h (by omega)).symm
    repeat walk_at "rd"
    rw [hDe, hGe]
    refine ⟨by decide, by decide, for_range (lo := 0) (n := 6) (fun i σ H' => ∃ v7 v8 v9 v10 v11 v12 v13 : Option V, σ = [some (.ref b), some (.ref p), some (.ref t), some (.int D), some (.int G), some (.ref m), some (.ref W), v7, v8, v9, v10, v11, v12, v13] ∧ Bs a.c_Machine p q m W o l g H') ⟨_, _, _, _, _, _, _, rfl, B⟩ ?_ ?_⟩
    · clear B
      rintro i σ H6 hi ⟨v7, v8, v9, v10, v11, v12, v13, rfl, B⟩
      repeat walk_at "rd"
      refine ⟨p, q, 10, rfl, B.hs, by decide, by decide, fun n0 H7 n00 n09 hs7 b7 => ?_⟩
      have B := B.but hs7 b7
      clear hs7 b7
      obtain ⟨n, hne⟩ : ∃ n, 3 + n0 = n := ⟨_, rfl⟩
      have hn : 3 ≤ n ∧ n ≤ 12 := by omega
      repeat walk_at "rd"
      rw [hne]
      refine ⟨p, q, D, G, n, rfl, B.hs, hD, hG, by omega, fun R xs rs H8 S hR hlen nR => ?_⟩
      have B := B.kp S.hs S.kp (ne_of_none B.eW nR) (by obtain ⟨dx, e⟩ := B.hm; exact ne_of_none e nR)
      have eR := S.eL
      have hA := S.hA
      have nRp := S.nLp
      clear S nR
      have hrl : rs.length ≤ 11 ∧ 2 ≤ rs.length := by omega
      have hnone := hR.none hD hG (by omega)
      repeat first | walk_at "rd" | walk_at "rdi"
      refine r_listL eR (fun A1 H9 nA s9 eA => ?_)
      have B := B.keep s9
      have eR := s9 _ _ eR
      have hA := hA.keep s9
      clear s9 nA
      repeat first | walk_at "rd" | walk_at "rdi"
      refine ⟨m, A1, o, l, g, n, xs, rs, rfl, B.hm, by omega, by omega, by omega, .inl eA, hA, by omega, fun v H10 s10 hv => ?_⟩
      rw [hgf n rs (by omega), hnone] at hv
      have B := B.keep s10
      have eR := s10 _ _ eR
      have hA := hA.keep s10
      clear s10 eA
      obtain rfl : v = .non := hv
      repeat first | walk_at "rd" | walk_at "rdi"
      refine r_listL eR (fun A2 H11 nA s11 eA => ?_)
      have nAR : R ≠ A2 := ne_of_none eR nA
      have nAW : W ≠ A2 := ne_of_none B.eW nA
      have nAm : m ≠ A2 := by obtain ⟨dx, e⟩ := B.hm; exact ne_of_none e nA
      have nAp := B.hs.ne nA
      have nAq := B.hs.neq nA
      have B := B.keep s11
      have eR := s11 _ _ eR
      have hA := hA.keep s11
      clear s11 nA
      repeat first | walk_at "rd" | walk_at "rdi"
      refine ⟨p, q, A2, n, 0 + (i : Int), D, G, xs, rs, rfl, B.hs, nAp, nAq, eA, hA, by omega, by omega, hD, hG, by omega, fun _ => hR.told, fun M ys ss H12 hs12 kp12 eM hM nMp nMq hC => ?_⟩
      have eR := kp12 _ _ eR nRp nAR
      have hA := hA.kp B.hs eA kp12
      have B := B.kp hs12 kp12 nAW nAm
      clear hs12 kp12 eA nAR nAW nAm nAp nAq
      have hsl : ss.length ≤ 12 := by have := hC.len; omega
      repeat first | walk_at "rd" | walk_at "rdi"
      refine ⟨M, D, G, n, ys, ss, rfl, eM, hM, by omega, by omega, by omega, fun due H13 s13 hdue => ?_⟩
      have B := B.keep s13
      have eR := s13 _ _ eR
      have hA := hA.keep s13
      have eM := s13 _ _ eM
      have hM := hM.keep s13
      clear s13
      have hword : (i : Int) < 4 → ∃ j, lawF D G n ss = some (wordOf (0 + (i : Int)), j) := fun h4 => chg_word hR hC (by omega) hD hG (by omega)
      repeat walk_at "rd"
      with_reducible refine seq_with (fun σ H' => σ = [some (.ref b), some (.ref p), some (.ref t), some (.int D), some (.int G), some (.ref m), some (.ref W), some (.int (0 + (i : Nat))), some (.int n), some (.ref R), some (.ref M), some due, v12, v13] ∧ H' = H13) ?_ (fun rest => ?_)
      · rintro σ H ⟨rfl, rfl⟩
        repeat first | walk_at "rd" | walk_at "rdi"
        refine r_listL eM (fun A3 H14 nA s14 eA => ?_)
        have B := B.keep s14
        have eR := s14 _ _ eR
        have hA := hA.keep s14
        have hM := hM.keep s14
        have hdue := hdue.keep s14
        clear s14 nA
        repeat first | walk_at "rd" | walk_at "rdi"
        refine ⟨m, A3, o, l, g, n, ys, ss, rfl, B.hm, by omega, by omega, by omega, .inl eA, hM, by omega, fun v H15 s15 hv => ?_⟩
        rw [hgf n ss (by omega)] at hv
        have B := B.keep s15
        have eR := s15 _ _ eR
        have hA := hA.keep s15
        have hdue := hdue.keep s15
        clear s15 eA hM eM
        repeat first | walk_at "rd" | walk_at "rdi"
        refine ⟨v, due, _, rfl, hv, hdue, ?_⟩
        clear hv hdue
        repeat first | walk_at "rd" | walk_at "rdi"
        refine ⟨p, q, 6, rfl, B.hs, by decide, by decide, fun oth H16 o0 o9 hs16 b16 => ?_⟩
        have eR := b16 _ _ eR nRp
        have hA := hA.but B.hs b16
        have B := B.but hs16 b16
        clear hs16 b16
        repeat first | walk_at "rd" | walk_at "rdi"
        refine r_listL eR (fun A4 H17 nA s17 eA => ?_)
        have nAR : R ≠ A4 := ne_of_none eR nA
        have nAW : W ≠ A4 := ne_of_none B.eW nA
        have nAm : m ≠ A4 := by obtain ⟨dx, e⟩ := B.hm; exact ne_of_none e nA
        have nAp := B.hs.ne nA
        have nAq := B.hs.neq nA
        have B := B.keep s17
        have hA := hA.keep s17
        clear s17 nA eR
        repeat first | walk_at "rd" | walk_at "rdi"
        obtain ⟨mx, hmx, x0, x1, x2⟩ : ∃ mx, (if oth > 0 + (i : Int) then oth else 0 + (i : Int)) = mx ∧ 0 ≤ mx ∧ mx ≤ 5 ∧ (0 + (i : Int) ≤ mx ∧ oth ≤ mx) := ⟨_, rfl, by split <;> omega, by split <;> omega, by split <;> omega⟩
        rw [hmx]
        refine ⟨p, q, A4, n, mx, D, G, xs, rs, rfl, B.hs, nAp, nAq, eA, hA, by omega, by omega, hD, hG, by omega, fun _ => hR.told, fun M2 ys2 ss2 H18 hs18 kp18 eM2 hM2 nMp2 nMq2 hC2 => ?_⟩
        have B := B.kp hs18 kp18 nAW nAm
        clear hs18 kp18 eA nAR nAW nAm nAp nAq hA
        have hsl2 : ss2.length ≤ 12 := by have := hC2.len; omega
        repeat walk_at "rd"
        with_reducible refine seq_with (fun σ H' => ∃ (M3 : Addr) (ys3 : List V) (ss3 : List L3), σ = [some (.ref b), some (.ref p), some (.ref t), some (.int D), some (.int G), some (.ref m), some (.ref W), some (.int (0 + (i : Nat))), some (.int n), some (.ref R), some (.ref M3), some due, some (.int oth), v13] ∧ Bs a.c_Machine p q m W o l g H' ∧ H' M3 = some (.lst ys3) ∧ TrisAt H' ys3 ss3 ∧ ss3.length ≤ 13) ?_ (fun rest2 => ?_)
        · clear B eM2 hM2 nMp2 nMq2 hC2 hsl2
          rintro σ H19 ⟨M3, ys3, ss3, rfl, B, eM3, hM3, hl3⟩
          repeat first | walk_at "rd" | walk_at "rdi"
          refine ⟨M3, D, G, n, ys3, ss3, rfl, eM3, hM3, by omega, by omega, by omega, fun due2 H20 s20 hdue2 => ?_⟩
          have B := B.keep s20
          have eM3 := s20 _ _ eM3
          have hM3 := hM3.keep s20
          repeat first | walk_at "rd" | walk_at "rdi"
          refine r_listL eM3 (fun A5 H21 nA s21 eA => ?_)
          have B := B.keep s21
          repeat first | walk_at "rd" | walk_at "rdi"
          refine ⟨m, A5, o, l, g, n, ys3, ss3, rfl, B.hm, by omega, by omega, by omega, .inl eA, hM3.keep s21, by omega, fun v H22 s22 hv => ?_⟩
          rw [hgf n ss3 (by omega)] at hv
          have B := B.keep s22
          repeat first | walk_at "rd" | walk_at "rdi"
          refine ⟨v, due2, _, rfl, hv, (hdue2.keep s21).keep s22, ?_⟩
          repeat first | exact ⟨_, _, _, _, _, _, _, rfl, B⟩ | walk_at "rd" | walk_at "rdi"
        · have stay := fun H' (s : Same H18 H') => rest2 _ _ ⟨M2, ys2, ss2, rfl, B.keep s, s _ _ eM2, hM2.keep s, by omega⟩
          have hy2 := hM2.1
          repeat first | walk_at "rd" | walk_at "rdi"
          refine ⟨M2, rfl, ⟨_, SqL.of eM2⟩, fun L hL => lc_list (K := K) (a := M2) (xs := ys2) (fun j H' => H' L = some (.lst (((ss2.take j).map fun l => okStart l.2.2).map V.bl)) ∧ Same H18 H') ⟨by rw [List.take_zero]; exact upd_same, Same.new hL⟩ (fun j H' _ h => SqL.of (h.2 _ _ eM2)) ?_ ?_⟩
          · rintro j x H19 hx ⟨f1, s19⟩
            obtain ⟨t3, l3, rfl, hl3, et3⟩ := (hM2.keep s19).get hx
            have hj9 := (List.getElem?_eq_some_iff.mp hl3).1
            repeat walk_at "rd"
            refine ⟨rfl, ?_⟩
            repeat walk_at "rd"
            refine ⟨t3, l3, rfl, et3, fun H20 s20 => ?_⟩
            refine ⟨_, s20 _ _ f1, small1000 (by rw [List.length_map, List.length_map, List.length_take]; omega), ?_, (s19.trans s20).over hL (s20 _ _ f1)⟩
            rw [upd_same, take_more hl3, List.map_append, List.map_append]
            rfl
          · rintro H19 ⟨f1, s19⟩
            rw [hy2, List.take_length] at f1
            have stay := stay H19 s19
            have eM2 := s19 _ _ eM2
            have hM2 := hM2.keep s19
            have B := B.keep s19
            repeat first | walk_at "rd" | walk_at "rdi"
            refine ⟨L, _, rfl, SqL.of f1, ?_⟩
            repeat first | walk_at "rd" | walk_at "rdi"
            refine ite_b (fun hc => ?_) (fun hc => ?_)
            · repeat first | walk_at "rd" | walk_at "rdi"
              refine ite_d (fun hc3 => ?_) (fun hc3 => ?_)
              · repeat first | walk_at "rd" | walk_at "rdi"
                obtain ⟨mn, hmn, y0, y1, y2⟩ : ∃ mn, (if oth < 0 + (i : Int) then oth else 0 + (i : Int)) = mn ∧ 0 ≤ mn ∧ mn ≤ 5 ∧ mn ≤ mx := ⟨_, rfl, by split <;> omega, by split <;> omega, by split <;> omega⟩
                rw [hmn]
                refine ⟨p, q, M2, n, mn, D, G, ys2, ss2, rfl, B.hs, nMp2, nMq2, eM2, hM2, by omega, by omega, hD, hG, by omega, fun e4 => hC2.k4 (by omega) hR.told, fun M3 ys3 ss3 H20 hs20 kp20 eM3 hM3 _ _ hC3 => ?_⟩
                have nW2 : W ≠ M2 := fun z => by
                  have e1 := B.eW
                  rw [z, eM2] at e1
                  have e1 := HO.lst.inj (Option.some.inj e1)
                  rw [e1] at hM2
                  obtain ⟨t9, e9, _⟩ := hM2.2 0 (ss2[0]'(by omega)) (List.getElem?_eq_getElem _)
                  cases e9
                have nm2 : m ≠ M2 := fun z => by
                  obtain ⟨dx, e1⟩ := B.hm
                  rw [z, eM2] at e1
                  cases e1
                have B := B.kp hs20 kp20 nW2 nm2
                have fin := rest2 _ _ ⟨M3, ys3, ss3, rfl, B, eM3, hM3, by have := hC3.len; omega⟩
                repeat first | exact fin | walk_at "rd" | walk_at "rdi"
              · repeat first | exact stay | walk_at "rd" | walk_at "rdi"
            · repeat first | exact stay | walk_at "rd" | walk_at "rdi"
      · have stay := rest _ _ ⟨rfl, rfl⟩
        have eW := B.eW
        obtain ⟨wd, hwd, hwo⟩ : ∃ wd : Str, atI [V.str "form", .str "hand", .str "again", .str "nobody", .str "early", .str "gap"] (0 + (i : Int)) = some (.str wd) ∧ ((i : Int) < 4 → wd = wordOf (0 + (i : Int))) := by
          match i, hi with
          | 0, _ => exact ⟨_, rfl, fun _ => rfl⟩
          | 1, _ => exact ⟨_, rfl, fun _ => rfl⟩
          | 2, _ => exact ⟨_, rfl, fun _ => rfl⟩
          | 3, _ => exact ⟨_, rfl, fun _ => rfl⟩
          | 4, _ => exact ⟨_, rfl, fun h => absurd h (by decide)⟩
          | 5, _ => exact ⟨_, rfl, fun h => absurd h (by decide)⟩
          | i + 6, h => exact absurd h (by omega)
        cases hf : lawF D G n ss with
        | none =>
          rw [hf] at hdue
          obtain rfl : due = .non := hdue
          repeat first | exact stay | walk_at "rd" | walk_at "rdi"
        | some f =>
          rw [hf] at hdue
          obtain ⟨z, rfl, ez⟩ := hdue
          repeat first | walk_at "rd" | walk_at "rdi"
          refine r_ixL eW hwd ?_
          repeat first | walk_at "rd" | walk_at "rdi"
          by_cases hc : f.1 = wd
          · refine r_neStr true (decide_eq_true (by rw [hc])) ?_
            repeat first | exact stay | walk_at "rd" | walk_at "rdi"
          · refine r_neStr false (decide_eq_false fun z => hc (V.str.inj z)) ?_
            repeat first | walk_at "rd" | walk_at "rdi"
            refine ite_d (fun h4 => ?_) (fun h4 => ?_)
            · exfalso
              obtain ⟨j, hj⟩ := hword (by omega)
              rw [hf] at hj
              refine hc ?_
              rw [hwo (by omega), Option.some.inj hj]
            · repeat first | exact stay | walk_at "rd" | walk_at "rdi"
    · rintro σ H6 ⟨v7, v8, v9, v10, v11, v12, v13, rfl, B⟩
      repeat first | exact k _ | walk_at "rd" | walk_at "rdi"
end

theorem all_mk {P : Program} {w : World} {K : PySem.W.Frag} {h : Heap} {mg : Str → Option Value} {fa : Addr} (X : K.In h) (G : h.Ns mainGlobals mg) (hfa : mg "law" = some (.ref fa))
    {c_Machine : Addr} {oc_is_integer : Value} {od_is_integer : Option Addr} {an_is_integer : Option Addr} {sl_is_integer : Array (Option Value)} {kV_is_integer : Value} {dc_is_integer : Value} {pm_is_integer : Value} {cd_is_integer : Value} {ct_is_integer : Value} {f_is_integer : Addr} {oc_is_between : Value} {od_is_between : Option Addr} {an_is_between : Option Addr} {sl_is_between : Array (Option Value)} {kV_is_between : Value} {dc_is_between : Value} {pm_is_between : Value} {cd_is_between : Value} {ct_is_between : Value} {f_is_between : Addr} {oc_check_count : Value} {od_check_count : Option Addr} {an_check_count : Option Addr} {sl_check_count : Array (Option Value)} {kV_check_count : Value} {dc_check_count : Value} {pm_check_count : Value} {cd_check_count : Value} {ct_check_count : Value} {f_check_count : Addr} {oc_is_row : Value} {od_is_row : Option Addr} {an_is_row : Option Addr} {sl_is_row : Array (Option Value)} {kV_is_row : Value} {dc_is_row : Value} {pm_is_row : Value} {cd_is_row : Value} {ct_is_row : Value} {f_is_row : Addr} {oc_form_fault : Value} {od_form_fault : Option Addr} {an_form_fault : Option Addr} {sl_form_fault : Array (Option Value)} {kV_form_fault : Value} {dc_form_fault : Value} {pm_form_fault : Value} {cd_form_fault : Value} {ct_form_fault : Value} {f_form_fault : Addr} {oc_hand_fault : Value} {od_hand_fault : Option Addr} {an_hand_fault : Option Addr} {sl_hand_fault : Array (Option Value)} {kV_hand_fault : Value} {dc_hand_fault : Value} {pm_hand_fault : Value} {cd_hand_fault : Value} {ct_hand_fault : Value} {f_hand_fault : Addr} {oc_again_fault : Value} {od_again_fault : Option Addr} {an_again_fault : Option Addr} {sl_again_fault : Array (Option Value)} {kV_again_fault : Value} {dc_again_fault : Value} {pm_again_fault : Value} {cd_again_fault : Value} {ct_again_fault : Value} {f_again_fault : Addr} {oc_nobody_fault : Value} {od_nobody_fault : Option Addr} {an_nobody_fault : Option Addr} {sl_nobody_fault : Array (Option Value)} {kV_nobody_fault : Value} {dc_nobody_fault : Value} {pm_nobody_fault : Value} {cd_nobody_fault : Value} {ct_nobody_fault : Value} {f_nobody_fault : Addr} {oc_early_fault : Value} {od_early_fault : Option Addr} {an_early_fault : Option Addr} {sl_early_fault : Array (Option Value)} {kV_early_fault : Value} {dc_early_fault : Value} {pm_early_fault : Value} {cd_early_fault : Value} {ct_early_fault : Value} {f_early_fault : Addr} {oc_telling_fault : Value} {od_telling_fault : Option Addr} {an_telling_fault : Option Addr} {sl_telling_fault : Array (Option Value)} {kV_telling_fault : Value} {dc_telling_fault : Value} {pm_telling_fault : Value} {cd_telling_fault : Value} {ct_telling_fault : Value} {f_telling_fault : Addr} {oc_is_near : Value} {od_is_near : Option Addr} {an_is_near : Option Addr} {sl_is_near : Array (Option Value)} {kV_is_near : Value} {dc_is_near : Value} {pm_is_near : Value} {cd_is_near : Value} {ct_is_near : Value} {f_is_near : Addr} {oc_near_fault : Value} {od_near_fault : Option Addr} {an_near_fault : Option Addr} {sl_near_fault : Array (Option Value)} {kV_near_fault : Value} {dc_near_fault : Value} {pm_near_fault : Value} {cd_near_fault : Value} {ct_near_fault : Value} {f_near_fault : Addr} {oc_row_fault : Value} {od_row_fault : Option Addr} {an_row_fault : Option Addr} {sl_row_fault : Array (Option Value)} {kV_row_fault : Value} {dc_row_fault : Value} {pm_row_fault : Value} {cd_row_fault : Value} {ct_row_fault : Value} {f_row_fault : Addr} {oc_fault : Value} {od_fault : Option Addr} {an_fault : Option Addr} {sl_fault : Array (Option Value)} {kV_fault : Value} {dc_fault : Value} {pm_fault : Value} {cd_fault : Value} {ct_fault : Value} {f_fault : Addr} {oc_Machine_init : Value} {od_Machine_init : Option Addr} {an_Machine_init : Option Addr} {sl_Machine_init : Array (Option Value)} {kV_Machine_init : Value} {dc_Machine_init : Value} {pm_Machine_init : Value} {cd_Machine_init : Value} {ct_Machine_init : Value} {f_Machine_init : Addr} {oc__law_source : Value} {od__law_source : Option Addr} {an__law_source : Option Addr} {sl__law_source : Array (Option Value)} {kV__law_source : Value} {dc__law_source : Value} {pm__law_source : Value} {cd__law_source : Value} {ct__law_source : Value} {f__law_source : Addr} {oc__law_draw : Value} {od__law_draw : Option Addr} {an__law_draw : Option Addr} {sl__law_draw : Array (Option Value)} {kV__law_draw : Value} {dc__law_draw : Value} {pm__law_draw : Value} {cd__law_draw : Value} {ct__law_draw : Value} {f__law_draw : Addr} {oc__law_big : Value} {od__law_big : Option Addr} {an__law_big : Option Addr} {sl__law_big : Array (Option Value)} {kV__law_big : Value} {dc__law_big : Value} {pm__law_big : Value} {cd__law_big : Value} {ct__law_big : Value} {f__law_big : Addr} {oc__law_numbers : Value} {od__law_numbers : Option Addr} {an__law_numbers : Option Addr} {sl__law_numbers : Array (Option Value)} {kV__law_numbers : Value} {dc__law_numbers : Value} {pm__law_numbers : Value} {cd__law_numbers : Value} {ct__law_numbers : Value} {f__law_numbers : Addr} {oc__law_times : Value} {od__law_times : Option Addr} {an__law_times : Option Addr} {sl__law_times : Array (Option Value)} {kV__law_times : Value} {dc__law_times : Value} {pm__law_times : Value} {cd__law_times : Value} {ct__law_times : Value} {f__law_times : Addr} {oc__law_is : Value} {od__law_is : Option Addr} {an__law_is : Option Addr} {sl__law_is : Array (Option Value)} {kV__law_is : Value} {dc__law_is : Value} {pm__law_is : Value} {cd__law_is : Value} {ct__law_is : Value} {f__law_is : Addr} {oc__law_row : Value} {od__law_row : Option Addr} {an__law_row : Option Addr} {sl__law_row : Array (Option Value)} {kV__law_row : Value} {dc__law_row : Value} {pm__law_row : Value} {cd__law_row : Value} {ct__law_row : Value} {f__law_row : Addr} {oc__law_fault : Value} {od__law_fault : Option Addr} {an__law_fault : Option Addr} {sl__law_fault : Array (Option Value)} {kV__law_fault : Value} {dc__law_fault : Value} {pm__law_fault : Value} {cd__law_fault : Value} {ct__law_fault : Value} {f__law_fault : Addr} {oc__law_same_fault : Value} {od__law_same_fault : Option Addr} {an__law_same_fault : Option Addr} {sl__law_same_fault : Array (Option Value)} {kV__law_same_fault : Value} {dc__law_same_fault : Value} {pm__law_same_fault : Value} {cd__law_same_fault : Value} {ct__law_same_fault : Value} {f__law_same_fault : Addr} {oc__law_waiting : Value} {od__law_waiting : Option Addr} {an__law_waiting : Option Addr} {sl__law_waiting : Array (Option Value)} {kV__law_waiting : Value} {dc__law_waiting : Value} {pm__law_waiting : Value} {cd__law_waiting : Value} {ct__law_waiting : Value} {f__law_waiting : Addr} {oc__law_changed : Value} {od__law_changed : Option Addr} {an__law_changed : Option Addr} {sl__law_changed : Array (Option Value)} {kV__law_changed : Value} {dc__law_changed : Value} {pm__law_changed : Value} {cd__law_changed : Value} {ct__law_changed : Value} {f__law_changed : Addr} {oc_law : Value} {od_law : Option Addr} {an_law : Option Addr} {sl_law : Array (Option Value)} {kV_law : Value} {dc_law : Value} {pm_law : Value} {cd_law : Value} {ct_law : Value} {f_law : Addr} {t_MOST_PLANNED : Tok} {t_MOST_ROWS : Tok} {t_LATEST_START : Tok} {t_GREATEST_PART : Tok}
    (H_g_Machine : PySem.W.nsIn K mainGlobals "Machine" = some (some (.ref c_Machine)))
    (H_a_is_integer : PySem.W.nsIn K mainGlobals "is_integer" = some (some (.ref f_is_integer)))
    (H_l_is_integer : K.lookup f_is_integer = some ⟨oc_is_integer, od_is_integer, .func (PySem.W.fnOf "is_integer" "is_integer" (defArgs s_is_integer) (defBody s_is_integer) (defScope s_is_integer) .none kV_is_integer dc_is_integer pm_is_integer an_is_integer cd_is_integer ct_is_integer), sl_is_integer⟩)
    (H_c_is_integer : PySem.W.codeIn K cd_is_integer "is_integer" = true)
    (H_k_is_integer : PySem.W.keepIn K (.ref f_is_integer) = true)
    (H_a_is_between : PySem.W.nsIn K mainGlobals "is_between" = some (some (.ref f_is_between)))
    (H_l_is_between : K.lookup f_is_between = some ⟨oc_is_between, od_is_between, .func (PySem.W.fnOf "is_between" "is_between" (defArgs s_is_between) (defBody s_is_between) (defScope s_is_between) .none kV_is_between dc_is_between pm_is_between an_is_between cd_is_between ct_is_between), sl_is_between⟩)
    (H_c_is_between : PySem.W.codeIn K cd_is_between "is_between" = true)
    (H_k_is_between : PySem.W.keepIn K (.ref f_is_between) = true)
    (H_a_check_count : PySem.W.nsIn K mainGlobals "check_count" = some (some (.ref f_check_count)))
    (H_l_check_count : K.lookup f_check_count = some ⟨oc_check_count, od_check_count, .func (PySem.W.fnOf "check_count" "check_count" (defArgs s_check_count) (defBody s_check_count) (defScope s_check_count) .none kV_check_count dc_check_count pm_check_count an_check_count cd_check_count ct_check_count), sl_check_count⟩)
    (H_c_check_count : PySem.W.codeIn K cd_check_count "check_count" = true)
    (H_k_check_count : PySem.W.keepIn K (.ref f_check_count) = true)
    (H_a_is_row : PySem.W.nsIn K mainGlobals "is_row" = some (some (.ref f_is_row)))
    (H_l_is_row : K.lookup f_is_row = some ⟨oc_is_row, od_is_row, .func (PySem.W.fnOf "is_row" "is_row" (defArgs s_is_row) (defBody s_is_row) (defScope s_is_row) .none kV_is_row dc_is_row pm_is_row an_is_row cd_is_row ct_is_row), sl_is_row⟩)
    (H_c_is_row : PySem.W.codeIn K cd_is_row "is_row" = true)
    (H_k_is_row : PySem.W.keepIn K (.ref f_is_row) = true)
    (H_a_form_fault : PySem.W.nsIn K mainGlobals "form_fault" = some (some (.ref f_form_fault)))
    (H_l_form_fault : K.lookup f_form_fault = some ⟨oc_form_fault, od_form_fault, .func (PySem.W.fnOf "form_fault" "form_fault" (defArgs s_form_fault) (defBody s_form_fault) (defScope s_form_fault) .none kV_form_fault dc_form_fault pm_form_fault an_form_fault cd_form_fault ct_form_fault), sl_form_fault⟩)
    (H_c_form_fault : PySem.W.codeIn K cd_form_fault "form_fault" = true)
    (H_k_form_fault : PySem.W.keepIn K (.ref f_form_fault) = true)
    (H_a_hand_fault : PySem.W.nsIn K mainGlobals "hand_fault" = some (some (.ref f_hand_fault)))
    (H_l_hand_fault : K.lookup f_hand_fault = some ⟨oc_hand_fault, od_hand_fault, .func (PySem.W.fnOf "hand_fault" "hand_fault" (defArgs s_hand_fault) (defBody s_hand_fault) (defScope s_hand_fault) .none kV_hand_fault dc_hand_fault pm_hand_fault an_hand_fault cd_hand_fault ct_hand_fault), sl_hand_fault⟩)
    (H_c_hand_fault : PySem.W.codeIn K cd_hand_fault "hand_fault" = true)
    (H_k_hand_fault : PySem.W.keepIn K (.ref f_hand_fault) = true)
    (H_a_again_fault : PySem.W.nsIn K mainGlobals "again_fault" = some (some (.ref f_again_fault)))
    (H_l_again_fault : K.lookup f_again_fault = some ⟨oc_again_fault, od_again_fault, .func (PySem.W.fnOf "again_fault" "again_fault" (defArgs s_again_fault) (defBody s_again_fault) (defScope s_again_fault) .none kV_again_fault dc_again_fault pm_again_fault an_again_fault cd_again_fault ct_again_fault), sl_again_fault⟩)
    (H_c_again_fault : PySem.W.codeIn K cd_again_fault "again_fault" = true)
    (H_k_again_fault : PySem.W.keepIn K (.ref f_again_fault) = true)
    (H_a_nobody_fault : PySem.W.nsIn K mainGlobals "nobody_fault" = some (some (.ref f_nobody_fault)))
    (H_l_nobody_fault : K.lookup f_nobody_fault = some ⟨oc_nobody_fault, od_nobody_fault, .func (PySem.W.fnOf "nobody_fault" "nobody_fault" (defArgs s_nobody_fault) (defBody s_nobody_fault) (defScope s_nobody_fault) .none kV_nobody_fault dc_nobody_fault pm_nobody_fault an_nobody_fault cd_nobody_fault ct_nobody_fault), sl_nobody_fault⟩)
    (H_c_nobody_fault : PySem.W.codeIn K cd_nobody_fault "nobody_fault" = true)
    (H_k_nobody_fault : PySem.W.keepIn K (.ref f_nobody_fault) = true)
    (H_a_early_fault : PySem.W.nsIn K mainGlobals "early_fault" = some (some (.ref f_early_fault)))
    (H_l_early_fault : K.lookup f_early_fault = some ⟨oc_early_fault, od_early_fault, .func (PySem.W.fnOf "early_fault" "early_fault" (defArgs s_early_fault) (defBody s_early_fault) (defScope s_early_fault) .none kV_early_fault dc_early_fault pm_early_fault an_early_fault cd_early_fault ct_early_fault), sl_early_fault⟩)
    (H_c_early_fault : PySem.W.codeIn K cd_early_fault "early_fault" = true)
    (H_k_early_fault : PySem.W.keepIn K (.ref f_early_fault) = true)
    (H_a_telling_fault : PySem.W.nsIn K mainGlobals "telling_fault" = some (some (.ref f_telling_fault)))
    (H_l_telling_fault : K.lookup f_telling_fault = some ⟨oc_telling_fault, od_telling_fault, .func (PySem.W.fnOf "telling_fault" "telling_fault" (defArgs s_telling_fault) (defBody s_telling_fault) (defScope s_telling_fault) .none kV_telling_fault dc_telling_fault pm_telling_fault an_telling_fault cd_telling_fault ct_telling_fault), sl_telling_fault⟩)
    (H_c_telling_fault : PySem.W.codeIn K cd_telling_fault "telling_fault" = true)
    (H_k_telling_fault : PySem.W.keepIn K (.ref f_telling_fault) = true)
    (H_a_is_near : PySem.W.nsIn K mainGlobals "is_near" = some (some (.ref f_is_near)))
    (H_l_is_near : K.lookup f_is_near = some ⟨oc_is_near, od_is_near, .func (PySem.W.fnOf "is_near" "is_near" (defArgs s_is_near) (defBody s_is_near) (defScope s_is_near) .none kV_is_near dc_is_near pm_is_near an_is_near cd_is_near ct_is_near), sl_is_near⟩)
    (H_c_is_near : PySem.W.codeIn K cd_is_near "is_near" = true)
    (H_k_is_near : PySem.W.keepIn K (.ref f_is_near) = true)
    (H_a_near_fault : PySem.W.nsIn K mainGlobals "near_fault" = some (some (.ref f_near_fault)))
    (H_l_near_fault : K.lookup f_near_fault = some ⟨oc_near_fault, od_near_fault, .func (PySem.W.fnOf "near_fault" "near_fault" (defArgs s_near_fault) (defBody s_near_fault) (defScope s_near_fault) .none kV_near_fault dc_near_fault pm_near_fault an_near_fault cd_near_fault ct_near_fault), sl_near_fault⟩)
    (H_c_near_fault : PySem.W.codeIn K cd_near_fault "near_fault" = true)
    (H_k_near_fault : PySem.W.keepIn K (.ref f_near_fault) = true)
    (H_a_row_fault : PySem.W.nsIn K mainGlobals "row_fault" = some (some (.ref f_row_fault)))
    (H_l_row_fault : K.lookup f_row_fault = some ⟨oc_row_fault, od_row_fault, .func (PySem.W.fnOf "row_fault" "row_fault" (defArgs s_row_fault) (defBody s_row_fault) (defScope s_row_fault) .none kV_row_fault dc_row_fault pm_row_fault an_row_fault cd_row_fault ct_row_fault), sl_row_fault⟩)
    (H_c_row_fault : PySem.W.codeIn K cd_row_fault "row_fault" = true)
    (H_k_row_fault : PySem.W.keepIn K (.ref f_row_fault) = true)
    (H_a_fault : PySem.W.nsIn K mainGlobals "fault" = some (some (.ref f_fault)))
    (H_l_fault : K.lookup f_fault = some ⟨oc_fault, od_fault, .func (PySem.W.fnOf "fault" "fault" (defArgs s_fault) (defBody s_fault) (defScope s_fault) .none kV_fault dc_fault pm_fault an_fault cd_fault ct_fault), sl_fault⟩)
    (H_c_fault : PySem.W.codeIn K cd_fault "fault" = true)
    (H_k_fault : PySem.W.keepIn K (.ref f_fault) = true)
    (H_a_Machine_init : PySem.W.findIn K (.ref c_Machine) "__init__" = some (some (.ref f_Machine_init)))
    (H_i_Machine_init : PySem.W.isFn K (.ref f_Machine_init) = true)
    (H_l_Machine_init : K.lookup f_Machine_init = some ⟨oc_Machine_init, od_Machine_init, .func (PySem.W.fnOf "__init__" "Machine.__init__" (defArgs s_Machine_init) (defBody s_Machine_init) (defScope s_Machine_init) .none kV_Machine_init dc_Machine_init pm_Machine_init an_Machine_init cd_Machine_init ct_Machine_init), sl_Machine_init⟩)
    (H_c_Machine_init : PySem.W.codeIn K cd_Machine_init "Machine.__init__" = true)
    (H_k_Machine_init : PySem.W.keepIn K (.ref f_Machine_init) = true)
    (H_a__law_source : PySem.W.nsIn K mainGlobals "_law_source" = some (some (.ref f__law_source)))
    (H_l__law_source : K.lookup f__law_source = some ⟨oc__law_source, od__law_source, .func (PySem.W.fnOf "_law_source" "_law_source" (defArgs s__law_source) (defBody s__law_source) (defScope s__law_source) .none kV__law_source dc__law_source pm__law_source an__law_source cd__law_source ct__law_source), sl__law_source⟩)
    (H_c__law_source : PySem.W.codeIn K cd__law_source "_law_source" = true)
    (H_k__law_source : PySem.W.keepIn K (.ref f__law_source) = true)
    (H_a__law_draw : PySem.W.nsIn K mainGlobals "_law_draw" = some (some (.ref f__law_draw)))
    (H_l__law_draw : K.lookup f__law_draw = some ⟨oc__law_draw, od__law_draw, .func (PySem.W.fnOf "_law_draw" "_law_draw" (defArgs s__law_draw) (defBody s__law_draw) (defScope s__law_draw) .none kV__law_draw dc__law_draw pm__law_draw an__law_draw cd__law_draw ct__law_draw), sl__law_draw⟩)
    (H_c__law_draw : PySem.W.codeIn K cd__law_draw "_law_draw" = true)
    (H_k__law_draw : PySem.W.keepIn K (.ref f__law_draw) = true)
    (H_a__law_big : PySem.W.nsIn K mainGlobals "_law_big" = some (some (.ref f__law_big)))
    (H_l__law_big : K.lookup f__law_big = some ⟨oc__law_big, od__law_big, .func (PySem.W.fnOf "_law_big" "_law_big" (defArgs s__law_big) (defBody s__law_big) (defScope s__law_big) .none kV__law_big dc__law_big pm__law_big an__law_big cd__law_big ct__law_big), sl__law_big⟩)
    (H_c__law_big : PySem.W.codeIn K cd__law_big "_law_big" = true)
    (H_k__law_big : PySem.W.keepIn K (.ref f__law_big) = true)
    (H_a__law_numbers : PySem.W.nsIn K mainGlobals "_law_numbers" = some (some (.ref f__law_numbers)))
    (H_l__law_numbers : K.lookup f__law_numbers = some ⟨oc__law_numbers, od__law_numbers, .func (PySem.W.fnOf "_law_numbers" "_law_numbers" (defArgs s__law_numbers) (defBody s__law_numbers) (defScope s__law_numbers) .none kV__law_numbers dc__law_numbers pm__law_numbers an__law_numbers cd__law_numbers ct__law_numbers), sl__law_numbers⟩)
    (H_c__law_numbers : PySem.W.codeIn K cd__law_numbers "_law_numbers" = true)
    (H_k__law_numbers : PySem.W.keepIn K (.ref f__law_numbers) = true)
    (H_a__law_times : PySem.W.nsIn K mainGlobals "_law_times" = some (some (.ref f__law_times)))
    (H_l__law_times : K.lookup f__law_times = some ⟨oc__law_times, od__law_times, .func (PySem.W.fnOf "_law_times" "_law_times" (defArgs s__law_times) (defBody s__law_times) (defScope s__law_times) .none kV__law_times dc__law_times pm__law_times an__law_times cd__law_times ct__law_times), sl__law_times⟩)
    (H_c__law_times : PySem.W.codeIn K cd__law_times "_law_times" = true)
    (H_k__law_times : PySem.W.keepIn K (.ref f__law_times) = true)
    (H_a__law_is : PySem.W.nsIn K mainGlobals "_law_is" = some (some (.ref f__law_is)))
    (H_l__law_is : K.lookup f__law_is = some ⟨oc__law_is, od__law_is, .func (PySem.W.fnOf "_law_is" "_law_is" (defArgs s__law_is) (defBody s__law_is) (defScope s__law_is) .none kV__law_is dc__law_is pm__law_is an__law_is cd__law_is ct__law_is), sl__law_is⟩)
    (H_c__law_is : PySem.W.codeIn K cd__law_is "_law_is" = true)
    (H_k__law_is : PySem.W.keepIn K (.ref f__law_is) = true)
    (H_a__law_row : PySem.W.nsIn K mainGlobals "_law_row" = some (some (.ref f__law_row)))
    (H_l__law_row : K.lookup f__law_row = some ⟨oc__law_row, od__law_row, .func (PySem.W.fnOf "_law_row" "_law_row" (defArgs s__law_row) (defBody s__law_row) (defScope s__law_row) .none kV__law_row dc__law_row pm__law_row an__law_row cd__law_row ct__law_row), sl__law_row⟩)
    (H_c__law_row : PySem.W.codeIn K cd__law_row "_law_row" = true)
    (H_k__law_row : PySem.W.keepIn K (.ref f__law_row) = true)
    (H_a__law_fault : PySem.W.nsIn K mainGlobals "_law_fault" = some (some (.ref f__law_fault)))
    (H_l__law_fault : K.lookup f__law_fault = some ⟨oc__law_fault, od__law_fault, .func (PySem.W.fnOf "_law_fault" "_law_fault" (defArgs s__law_fault) (defBody s__law_fault) (defScope s__law_fault) .none kV__law_fault dc__law_fault pm__law_fault an__law_fault cd__law_fault ct__law_fault), sl__law_fault⟩)
    (H_c__law_fault : PySem.W.codeIn K cd__law_fault "_law_fault" = true)
    (H_k__law_fault : PySem.W.keepIn K (.ref f__law_fault) = true)
    (H_a__law_same_fault : PySem.W.nsIn K mainGlobals "_law_same_fault" = some (some (.ref f__law_same_fault)))
    (H_l__law_same_fault : K.lookup f__law_same_fault = some ⟨oc__law_same_fault, od__law_same_fault, .func (PySem.W.fnOf "_law_same_fault" "_law_same_fault" (defArgs s__law_same_fault) (defBody s__law_same_fault) (defScope s__law_same_fault) .none kV__law_same_fault dc__law_same_fault pm__law_same_fault an__law_same_fault cd__law_same_fault ct__law_same_fault), sl__law_same_fault⟩)
    (H_c__law_same_fault : PySem.W.codeIn K cd__law_same_fault "_law_same_fault" = true)
    (H_k__law_same_fault : PySem.W.keepIn K (.ref f__law_same_fault) = true)
    (H_a__law_waiting : PySem.W.nsIn K mainGlobals "_law_waiting" = some (some (.ref f__law_waiting)))
    (H_l__law_waiting : K.lookup f__law_waiting = some ⟨oc__law_waiting, od__law_waiting, .func (PySem.W.fnOf "_law_waiting" "_law_waiting" (defArgs s__law_waiting) (defBody s__law_waiting) (defScope s__law_waiting) .none kV__law_waiting dc__law_waiting pm__law_waiting an__law_waiting cd__law_waiting ct__law_waiting), sl__law_waiting⟩)
    (H_c__law_waiting : PySem.W.codeIn K cd__law_waiting "_law_waiting" = true)
    (H_k__law_waiting : PySem.W.keepIn K (.ref f__law_waiting) = true)
    (H_a__law_changed : PySem.W.nsIn K mainGlobals "_law_changed" = some (some (.ref f__law_changed)))
    (H_l__law_changed : K.lookup f__law_changed = some ⟨oc__law_changed, od__law_changed, .func (PySem.W.fnOf "_law_changed" "_law_changed" (defArgs s__law_changed) (defBody s__law_changed) (defScope s__law_changed) .none kV__law_changed dc__law_changed pm__law_changed an__law_changed cd__law_changed ct__law_changed), sl__law_changed⟩)
    (H_c__law_changed : PySem.W.codeIn K cd__law_changed "_law_changed" = true)
    (H_k__law_changed : PySem.W.keepIn K (.ref f__law_changed) = true)
    (H_a_law : PySem.W.nsIn K mainGlobals "law" = some (some (.ref f_law)))
    (H_l_law : K.lookup f_law = some ⟨oc_law, od_law, .func (PySem.W.fnOf "law" "law" (defArgs s_law) (defBody s_law) (defScope s_law) .none kV_law dc_law pm_law an_law cd_law ct_law), sl_law⟩)
    (H_c_law : PySem.W.codeIn K cd_law "law" = true)
    (H_k_law : PySem.W.keepIn K (.ref f_law) = true)
    (H_pg_Machine : PySem.W.plainGet K c_Machine Str.empty = true)
    (H_hd_Machine : PySem.W.hasDictIn K c_Machine = true)
    (H_po_Machine : PySem.W.plainOver K c_Machine = true)
    (H_sa_Machine : PySem.W.findIn K (.ref c_Machine) "__setattr__" = some (some (.builtin "object.__setattr__")))
    (H_mk_Machine : PySem.W.makesIn K c_Machine = true)
    (H_kc_Machine : PySem.W.keepIn K (.ref c_Machine) = true)
    (H_nF_Machine_o : PySem.W.findIn K (.ref c_Machine) "o" = some none)
    (H_nF_Machine_l : PySem.W.findIn K (.ref c_Machine) "l" = some none)
    (H_nF_Machine_g : PySem.W.findIn K (.ref c_Machine) "g" = some none)
    (H_nF_Machine_letter : PySem.W.findIn K (.ref c_Machine) "letter" = some none)
    (H_nF_Machine_gap : PySem.W.findIn K (.ref c_Machine) "gap" = some none)
    (H_n_abs : PySem.W.nsIn K mainGlobals "abs" = some none)
    (H_n_all : PySem.W.nsIn K mainGlobals "all" = some none)
    (H_n_bool : PySem.W.nsIn K mainGlobals "bool" = some none)
    (H_n_enumerate : PySem.W.nsIn K mainGlobals "enumerate" = some none)
    (H_n_int : PySem.W.nsIn K mainGlobals "int" = some none)
    (H_n_isinstance : PySem.W.nsIn K mainGlobals "isinstance" = some none)
    (H_n_len : PySem.W.nsIn K mainGlobals "len" = some none)
    (H_n_list : PySem.W.nsIn K mainGlobals "list" = some none)
    (H_n_max : PySem.W.nsIn K mainGlobals "max" = some none)
    (H_n_min : PySem.W.nsIn K mainGlobals "min" = some none)
    (H_n_range : PySem.W.nsIn K mainGlobals "range" = some none)
    (H_n_set : PySem.W.nsIn K mainGlobals "set" = some none)
    (H_n_str : PySem.W.nsIn K mainGlobals "str" = some none)
    (H_n_tuple : PySem.W.nsIn K mainGlobals "tuple" = some none)
    (H_x_MOST_PLANNED : PySem.W.nsIn K mainGlobals "MOST_PLANNED" = some (some (.int 100 t_MOST_PLANNED)))
    (H_x_MOST_ROWS : PySem.W.nsIn K mainGlobals "MOST_ROWS" = some (some (.int 400 t_MOST_ROWS)))
    (H_x_LATEST_START : PySem.W.nsIn K mainGlobals "LATEST_START" = some (some (.int 1000000000000000 t_LATEST_START)))
    (H_x_GREATEST_PART : PySem.W.nsIn K mainGlobals "GREATEST_PART" = some (some (.int 1000000000 t_GREATEST_PART)))
    : ∃ fd : FuncData, (∀ (s : Shared) (v : Value), BindsTo s fd ⟨[v], []⟩ [("_law_script", v)]) ∧ ∀ base : Heap, K.In base → base.Ns mainGlobals mg → FnOk P w K mg base CX0 9 fa fd ["_law_script"] (spLaw K) := by
  have e := hfa.symm.trans (PySem.W.mg_of X G H_a_law)
  cases e
  let a : Adr := { a_is_integer := f_is_integer, d_is_integer := PySem.W.fnOf "is_integer" "is_integer" (defArgs s_is_integer) (defBody s_is_integer) (defScope s_is_integer) .none kV_is_integer dc_is_integer pm_is_integer an_is_integer cd_is_integer ct_is_integer, a_is_between := f_is_between, d_is_between := PySem.W.fnOf "is_between" "is_between" (defArgs s_is_between) (defBody s_is_between) (defScope s_is_between) .none kV_is_between dc_is_between pm_is_between an_is_between cd_is_between ct_is_between, a_check_count := f_check_count, d_check_count := PySem.W.fnOf "check_count" "check_count" (defArgs s_check_count) (defBody s_check_count) (defScope s_check_count) .none kV_check_count dc_check_count pm_check_count an_check_count cd_check_count ct_check_count, a_is_row := f_is_row, d_is_row := PySem.W.fnOf "is_row" "is_row" (defArgs s_is_row) (defBody s_is_row) (defScope s_is_row) .none kV_is_row dc_is_row pm_is_row an_is_row cd_is_row ct_is_row, a_form_fault := f_form_fault, d_form_fault := PySem.W.fnOf "form_fault" "form_fault" (defArgs s_form_fault) (defBody s_form_fault) (defScope s_form_fault) .none kV_form_fault dc_form_fault pm_form_fault an_form_fault cd_form_fault ct_form_fault, a_hand_fault := f_hand_fault, d_hand_fault := PySem.W.fnOf "hand_fault" "hand_fault" (defArgs s_hand_fault) (defBody s_hand_fault) (defScope s_hand_fault) .none kV_hand_fault dc_hand_fault pm_hand_fault an_hand_fault cd_hand_fault ct_hand_fault, a_again_fault := f_again_fault, d_again_fault := PySem.W.fnOf "again_fault" "again_fault" (defArgs s_again_fault) (defBody s_again_fault) (defScope s_again_fault) .none kV_again_fault dc_again_fault pm_again_fault an_again_fault cd_again_fault ct_again_fault, a_nobody_fault := f_nobody_fault, d_nobody_fault := PySem.W.fnOf "nobody_fault" "nobody_fault" (defArgs s_nobody_fault) (defBody s_nobody_fault) (defScope s_nobody_fault) .none kV_nobody_fault dc_nobody_fault pm_nobody_fault an_nobody_fault cd_nobody_fault ct_nobody_fault, a_early_fault := f_early_fault, d_early_fault := PySem.W.fnOf "early_fault" "early_fault" (defArgs s_early_fault) (defBody s_early_fault) (defScope s_early_fault) .none kV_early_fault dc_early_fault pm_early_fault an_early_fault cd_early_fault ct_early_fault, a_telling_fault := f_telling_fault, d_telling_fault := PySem.W.fnOf "telling_fault" "telling_fault" (defArgs s_telling_fault) (defBody s_telling_fault) (defScope s_telling_fault) .none kV_telling_fault dc_telling_fault pm_telling_fault an_telling_fault cd_telling_fault ct_telling_fault, a_is_near := f_is_near, d_is_near := PySem.W.fnOf "is_near" "is_near" (defArgs s_is_near) (defBody s_is_near) (defScope s_is_near) .none kV_is_near dc_is_near pm_is_near an_is_near cd_is_near ct_is_near, a_near_fault := f_near_fault, d_near_fault := PySem.W.fnOf "near_fault" "near_fault" (defArgs s_near_fault) (defBody s_near_fault) (defScope s_near_fault) .none kV_near_fault dc_near_fault pm_near_fault an_near_fault cd_near_fault ct_near_fault, a_row_fault := f_row_fault, d_row_fault := PySem.W.fnOf "row_fault" "row_fault" (defArgs s_row_fault) (defBody s_row_fault) (defScope s_row_fault) .none kV_row_fault dc_row_fault pm_row_fault an_row_fault cd_row_fault ct_row_fault, a_fault := f_fault, d_fault := PySem.W.fnOf "fault" "fault" (defArgs s_fault) (defBody s_fault) (defScope s_fault) .none kV_fault dc_fault pm_fault an_fault cd_fault ct_fault, a_Machine_init := f_Machine_init, d_Machine_init := PySem.W.fnOf "__init__" "Machine.__init__" (defArgs s_Machine_init) (defBody s_Machine_init) (defScope s_Machine_init) .none kV_Machine_init dc_Machine_init pm_Machine_init an_Machine_init cd_Machine_init ct_Machine_init, a__law_source := f__law_source, d__law_source := PySem.W.fnOf "_law_source" "_law_source" (defArgs s__law_source) (defBody s__law_source) (defScope s__law_source) .none kV__law_source dc__law_source pm__law_source an__law_source cd__law_source ct__law_source, a__law_draw := f__law_draw, d__law_draw := PySem.W.fnOf "_law_draw" "_law_draw" (defArgs s__law_draw) (defBody s__law_draw) (defScope s__law_draw) .none kV__law_draw dc__law_draw pm__law_draw an__law_draw cd__law_draw ct__law_draw, a__law_big := f__law_big, d__law_big := PySem.W.fnOf "_law_big" "_law_big" (defArgs s__law_big) (defBody s__law_big) (defScope s__law_big) .none kV__law_big dc__law_big pm__law_big an__law_big cd__law_big ct__law_big, a__law_numbers := f__law_numbers, d__law_numbers := PySem.W.fnOf "_law_numbers" "_law_numbers" (defArgs s__law_numbers) (defBody s__law_numbers) (defScope s__law_numbers) .none kV__law_numbers dc__law_numbers pm__law_numbers an__law_numbers cd__law_numbers ct__law_numbers, a__law_times := f__law_times, d__law_times := PySem.W.fnOf "_law_times" "_law_times" (defArgs s__law_times) (defBody s__law_times) (defScope s__law_times) .none kV__law_times dc__law_times pm__law_times an__law_times cd__law_times ct__law_times, a__law_is := f__law_is, d__law_is := PySem.W.fnOf "_law_is" "_law_is" (defArgs s__law_is) (defBody s__law_is) (defScope s__law_is) .none kV__law_is dc__law_is pm__law_is an__law_is cd__law_is ct__law_is, a__law_row := f__law_row, d__law_row := PySem.W.fnOf "_law_row" "_law_row" (defArgs s__law_row) (defBody s__law_row) (defScope s__law_row) .none kV__law_row dc__law_row pm__law_row an__law_row cd__law_row ct__law_row, a__law_fault := f__law_fault, d__law_fault := PySem.W.fnOf "_law_fault" "_law_fault" (defArgs s__law_fault) (defBody s__law_fault) (defScope s__law_fault) .none kV__law_fault dc__law_fault pm__law_fault an__law_fault cd__law_fault ct__law_fault, a__law_same_fault := f__law_same_fault, d__law_same_fault := PySem.W.fnOf "_law_same_fault" "_law_same_fault" (defArgs s__law_same_fault) (defBody s__law_same_fault) (defScope s__law_same_fault) .none kV__law_same_fault dc__law_same_fault pm__law_same_fault an__law_same_fault cd__law_same_fault ct__law_same_fault, a__law_waiting := f__law_waiting, d__law_waiting := PySem.W.fnOf "_law_waiting" "_law_waiting" (defArgs s__law_waiting) (defBody s__law_waiting) (defScope s__law_waiting) .none kV__law_waiting dc__law_waiting pm__law_waiting an__law_waiting cd__law_waiting ct__law_waiting, a__law_changed := f__law_changed, d__law_changed := PySem.W.fnOf "_law_changed" "_law_changed" (defArgs s__law_changed) (defBody s__law_changed) (defScope s__law_changed) .none kV__law_changed dc__law_changed pm__law_changed an__law_changed cd__law_changed ct__law_changed, a_law := fa, d_law := PySem.W.fnOf "law" "law" (defArgs s_law) (defBody s_law) (defScope s_law) .none kV_law dc_law pm_law an_law cd_law ct_law, c_Machine := c_Machine }
  have F_is_integer := fun_mk (st := s_is_integer) H_l_is_integer H_c_is_integer H_k_is_integer
  have F_is_between := fun_mk (st := s_is_between) H_l_is_between H_c_is_between H_k_is_between
  have F_check_count := fun_mk (st := s_check_count) H_l_check_count H_c_check_count H_k_check_count
  have F_is_row := fun_mk (st := s_is_row) H_l_is_row H_c_is_row H_k_is_row
  have F_form_fault := fun_mk (st := s_form_fault) H_l_form_fault H_c_form_fault H_k_form_fault
  have F_hand_fault := fun_mk (st := s_hand_fault) H_l_hand_fault H_c_hand_fault H_k_hand_fault
  have F_again_fault := fun_mk (st := s_again_fault) H_l_again_fault H_c_again_fault H_k_again_fault
  have F_nobody_fault := fun_mk (st := s_nobody_fault) H_l_nobody_fault H_c_nobody_fault H_k_nobody_fault
  have F_early_fault := fun_mk (st := s_early_fault) H_l_early_fault H_c_early_fault H_k_early_fault
  have F_telling_fault := fun_mk (st := s_telling_fault) H_l_telling_fault H_c_telling_fault H_k_telling_fault
  have F_is_near := fun_mk (st := s_is_near) H_l_is_near H_c_is_near H_k_is_near
  have F_near_fault := fun_mk (st := s_near_fault) H_l_near_fault H_c_near_fault H_k_near_fault
  have F_row_fault := fun_mk (st := s_row_fault) H_l_row_fault H_c_row_fault H_k_row_fault
  have F_fault := fun_mk (st := s_fault) H_l_fault H_c_fault H_k_fault
  have F_Machine_init := fun_mk (st := s_Machine_init) H_l_Machine_init H_c_Machine_init H_k_Machine_init
  have F__law_source := fun_mk (st := s__law_source) H_l__law_source H_c__law_source H_k__law_source
  have F__law_draw := fun_mk (st := s__law_draw) H_l__law_draw H_c__law_draw H_k__law_draw
  have F__law_big := fun_mk (st := s__law_big) H_l__law_big H_c__law_big H_k__law_big
  have F__law_numbers := fun_mk (st := s__law_numbers) H_l__law_numbers H_c__law_numbers H_k__law_numbers
  have F__law_times := fun_mk (st := s__law_times) H_l__law_times H_c__law_times H_k__law_times
  have F__law_is := fun_mk (st := s__law_is) H_l__law_is H_c__law_is H_k__law_is
  have F__law_row := fun_mk (st := s__law_row) H_l__law_row H_c__law_row H_k__law_row
  have F__law_fault := fun_mk (st := s__law_fault) H_l__law_fault H_c__law_fault H_k__law_fault
  have F__law_same_fault := fun_mk (st := s__law_same_fault) H_l__law_same_fault H_c__law_same_fault H_k__law_same_fault
  have F__law_waiting := fun_mk (st := s__law_waiting) H_l__law_waiting H_c__law_waiting H_k__law_waiting
  have F__law_changed := fun_mk (st := s__law_changed) H_l__law_changed H_c__law_changed H_k__law_changed
  have F_law := fun_mk (st := s_law) H_l_law H_c_law H_k_law
  have T : Txt K mg a := {
    F_is_integer := F_is_integer,
    b_is_integer := F_is_integer.binds (ps := ["thing"]) fun _ _ _ _ _ _ us hl => match us, hl with | [_], _ => rfl,
    g_is_integer := PySem.W.mg_of X G H_a_is_integer,
    F_is_between := F_is_between,
    b_is_between := F_is_between.binds (ps := ["thing", "low", "high"]) fun _ _ _ _ _ _ us hl => match us, hl with | [_, _, _], _ => rfl,
    g_is_between := PySem.W.mg_of X G H_a_is_between,
    F_check_count := F_check_count,
    b_check_count := F_check_count.binds (ps := ["count", "low", "high"]) fun _ _ _ _ _ _ us hl => match us, hl with | [_, _, _], _ => rfl,
    g_check_count := PySem.W.mg_of X G H_a_check_count,
    F_is_row := F_is_row,
    b_is_row := F_is_row.binds (ps := ["thing", "parts"]) fun _ _ _ _ _ _ us hl => match us, hl with | [_, _], _ => rfl,
    g_is_row := PySem.W.mg_of X G H_a_is_row,
    F_form_fault := F_form_fault,
    b_form_fault := F_form_fault.binds (ps := ["thing", "most", "parts"]) fun _ _ _ _ _ _ us hl => match us, hl with | [_, _, _], _ => rfl,
    g_form_fault := PySem.W.mg_of X G H_a_form_fault,
    F_hand_fault := F_hand_fault,
    b_hand_fault := F_hand_fault.binds (ps := ["n", "pairs", "first_sender", "first_receiver"]) fun _ _ _ _ _ _ us hl => match us, hl with | [_, _, _, _], _ => rfl,
    g_hand_fault := PySem.W.mg_of X G H_a_hand_fault,
    F_again_fault := F_again_fault,
    b_again_fault := F_again_fault.binds (ps := ["keys", "taken"]) fun _ _ _ _ _ _ us hl => match us, hl with | [_, _], _ => rfl,
    g_again_fault := PySem.W.mg_of X G H_a_again_fault,
    F_nobody_fault := F_nobody_fault,
    b_nobody_fault := F_nobody_fault.binds (ps := ["wanted", "keys"]) fun _ _ _ _ _ _ us hl => match us, hl with | [_, _], _ => rfl,
    g_nobody_fault := PySem.W.mg_of X G H_a_nobody_fault,
    F_early_fault := F_early_fault,
    b_early_fault := F_early_fault.binds (ps := ["told", "roots", "letter"]) fun _ _ _ _ _ _ us hl => match us, hl with | [_, _, _], _ => rfl,
    g_early_fault := PySem.W.mg_of X G H_a_early_fault,
    F_telling_fault := F_telling_fault,
    b_telling_fault := F_telling_fault.binds (ps := ["told", "roots", "wanted", "letter"]) fun _ _ _ _ _ _ us hl => match us, hl with | [_, _, _, _], _ => rfl,
    g_telling_fault := PySem.W.mg_of X G H_a_telling_fault,
    F_is_near := F_is_near,
    b_is_near := F_is_near.binds (ps := ["times", "hand", "time", "width"]) fun _ _ _ _ _ _ us hl => match us, hl with | [_, _, _, _], _ => rfl,
    g_is_near := PySem.W.mg_of X G H_a_is_near,
    F_near_fault := F_near_fault,
    b_near_fault := F_near_fault.binds (ps := ["why", "marks", "width"]) fun _ _ _ _ _ _ us hl => match us, hl with | [_, _, _], _ => rfl,
    g_near_fault := PySem.W.mg_of X G H_a_near_fault,
    F_row_fault := F_row_fault,
    b_row_fault := F_row_fault.binds (ps := ["n", "thing"]) fun _ _ _ _ _ _ us hl => match us, hl with | [_, _], _ => rfl,
    g_row_fault := PySem.W.mg_of X G H_a_row_fault,
    F_fault := F_fault,
    b_fault := F_fault.binds (ps := ["machine", "n", "thing"]) fun _ _ _ _ _ _ us hl => match us, hl with | [_, _, _], _ => rfl,
    g_fault := PySem.W.mg_of X G H_a_fault,
    F_Machine_init := F_Machine_init,
    b_Machine_init := F_Machine_init.binds (ps := ["self", "o", "l", "g"]) fun _ _ _ _ _ _ us hl => match us, hl with | [_, _, _, _], _ => rfl,
    mk_Machine := ⟨H_mk_Machine, H_a_Machine_init, H_i_Machine_init, H_kc_Machine⟩,
    F__law_source := F__law_source,
    b__law_source := F__law_source.binds (ps := ["_law_script"]) fun _ _ _ _ _ _ us hl => match us, hl with | [_], _ => rfl,
    g__law_source := PySem.W.mg_of X G H_a__law_source,
    F__law_draw := F__law_draw,
    b__law_draw := F__law_draw.binds (ps := ["_law_source_here", "_law_limit"]) fun _ _ _ _ _ _ us hl => match us, hl with | [_, _], _ => rfl,
    g__law_draw := PySem.W.mg_of X G H_a__law_draw,
    F__law_big := F__law_big,
    b__law_big := F__law_big.binds (ps := ["_law_source_here", "_law_limit"]) fun _ _ _ _ _ _ us hl => match us, hl with | [_, _], _ => rfl,
    g__law_big := PySem.W.mg_of X G H_a__law_big,
    F__law_numbers := F__law_numbers,
    b__law_numbers := F__law_numbers.binds (ps := ["_law_source_here"]) fun _ _ _ _ _ _ us hl => match us, hl with | [_], _ => rfl,
    g__law_numbers := PySem.W.mg_of X G H_a__law_numbers,
    F__law_times := F__law_times,
    b__law_times := F__law_times.binds (ps := ["_law_numbers_here"]) fun _ _ _ _ _ _ us hl => match us, hl with | [_], _ => rfl,
    g__law_times := PySem.W.mg_of X G H_a__law_times,
    F__law_is := F__law_is,
    b__law_is := F__law_is.binds (ps := ["_law_thing", "_law_due"]) fun _ _ _ _ _ _ us hl => match us, hl with | [_, _], _ => rfl,
    g__law_is := PySem.W.mg_of X G H_a__law_is,
    F__law_row := F__law_row,
    b__law_row := F__law_row.binds (ps := ["_law_row_here"]) fun _ _ _ _ _ _ us hl => match us, hl with | [_], _ => rfl,
    g__law_row := PySem.W.mg_of X G H_a__law_row,
    F__law_fault := F__law_fault,
    b__law_fault := F__law_fault.binds (ps := ["_law_letter", "_law_gap", "_law_n", "_law_thing"]) fun _ _ _ _ _ _ us hl => match us, hl with | [_, _, _, _], _ => rfl,
    g__law_fault := PySem.W.mg_of X G H_a__law_fault,
    F__law_same_fault := F__law_same_fault,
    b__law_same_fault := F__law_same_fault.binds (ps := ["_law_told", "_law_due"]) fun _ _ _ _ _ _ us hl => match us, hl with | [_, _], _ => rfl,
    g__law_same_fault := PySem.W.mg_of X G H_a__law_same_fault,
    F__law_waiting := F__law_waiting,
    b__law_waiting := F__law_waiting.binds (ps := ["_law_source_here", "_law_letter", "_law_gap", "_law_n"]) fun _ _ _ _ _ _ us hl => match us, hl with | [_, _, _, _], _ => rfl,
    g__law_waiting := PySem.W.mg_of X G H_a__law_waiting,
    F__law_changed := F__law_changed,
    b__law_changed := F__law_changed.binds (ps := ["_law_source_here", "_law_rows", "_law_n", "_law_kind", "_law_letter", "_law_gap"]) fun _ _ _ _ _ _ us hl => match us, hl with | [_, _, _, _, _, _], _ => rfl,
    g__law_changed := PySem.W.mg_of X G H_a__law_changed,
    F_law := F_law,
    b_law := F_law.binds (ps := ["_law_script"]) fun _ _ _ _ _ _ us hl => match us, hl with | [_], _ => rfl,
    g_law := PySem.W.mg_of X G H_a_law,
    g_Machine := PySem.W.mg_of X G H_g_Machine,
    cl_Machine := ⟨H_pg_Machine, H_hd_Machine, H_po_Machine, H_sa_Machine⟩,
    nF_Machine_o := H_nF_Machine_o,
    nF_Machine_l := H_nF_Machine_l,
    nF_Machine_g := H_nF_Machine_g,
    nF_Machine_letter := H_nF_Machine_letter,
    nF_Machine_gap := H_nF_Machine_gap,
    n_abs := PySem.W.mg_none_of X G H_n_abs,
    n_all := PySem.W.mg_none_of X G H_n_all,
    n_bool := PySem.W.mg_none_of X G H_n_bool,
    n_enumerate := PySem.W.mg_none_of X G H_n_enumerate,
    n_int := PySem.W.mg_none_of X G H_n_int,
    n_isinstance := PySem.W.mg_none_of X G H_n_isinstance,
    n_len := PySem.W.mg_none_of X G H_n_len,
    n_list := PySem.W.mg_none_of X G H_n_list,
    n_max := PySem.W.mg_none_of X G H_n_max,
    n_min := PySem.W.mg_none_of X G H_n_min,
    n_range := PySem.W.mg_none_of X G H_n_range,
    n_set := PySem.W.mg_none_of X G H_n_set,
    n_str := PySem.W.mg_none_of X G H_n_str,
    n_tuple := PySem.W.mg_none_of X G H_n_tuple,
    g_MOST_PLANNED := ⟨_, PySem.W.mg_of X G H_x_MOST_PLANNED⟩,
    g_MOST_ROWS := ⟨_, PySem.W.mg_of X G H_x_MOST_ROWS⟩,
    g_LATEST_START := ⟨_, PySem.W.mg_of X G H_x_LATEST_START⟩,
    g_GREATEST_PART := ⟨_, PySem.W.mg_of X G H_x_GREATEST_PART⟩ }
  exact ⟨a.d_law, fun s v => .of_eq rfl, fun base _ _ => ok_law T⟩
theorem walk {l : PySem.W.OpenLaw} {q : Program} {loose : List Str} {XP : (Str → Option Value) → Heap → Prop} {YP : World → Heap → Prop} {d : DefRec} {K : Params → PySem.W.Frag} (hn : l.most = some 63) (hdf : d.params.defaults = [])
    (hY : ∀ (w : World) (h : Heap), YP w h → (K w.params).In h)
    (F : ∀ (w : World) (mg : Str → Option Value) (fa : Addr) (h : Heap), (K w.params).In h → h.Ns mainGlobals mg → mg d.name = some (.ref fa) →
      ∃ fd : FuncData, (∀ (s : Shared) (u : Value), BindsTo s fd ⟨[u], []⟩ [("_law_script", u)]) ∧ ∀ base : Heap, (K w.params).In base → base.Ns mainGlobals mg → FnOk l.prog w (K w.params) mg base CX0 9 fa fd ["_law_script"] (spLaw (K w.params))) :
    PySem.W.WalkO q loose XP YP l.row.toRowW d [] (fun f vs => PySem.call f vs) :=
  L2.walk_of (n := 63) (k := 9) (x := "_law_script") (CX := fun _ => CX0) (sp := fun w => spLaw (K w.params)) hn (by decide) hdf ⟨rfl, by decide, by decide⟩ hY F (fun _ _ a ns hl _ hS => ⟨a, ns, rfl, hS, hl, fun _ => rfl⟩) fun _ _ _ _ _ z => z
end My
open PySem PySem.W PyProof.Rows
set_option maxRecDepth 100000 in
set_option maxHeartbeats 0 in
theorem PySem.Challenge.cw_tellontree_k24_each_fault_alone_holds : PySem.Challenge.rw_tellontree_k24_each_fault_alone.Holds := by
  w_on; o_law; k_head; (case hw => w_witness2)
  k_fill
  refine My.walk (l := PySem.Challenge.rw_tellontree_k24_each_fault_alone) rfl rfl (fun w h Y => PySem.W.kIn_of Y) ?F
  case F =>
    intro w mg fa h KX G hmg
    refine' My.all_mk KX G hmg ?H_g_Machine ?H_a_is_integer ?H_l_is_integer ?H_c_is_integer ?H_k_is_integer ?H_a_is_between ?H_l_is_between ?H_c_is_between ?H_k_is_between ?H_a_check_count ?H_l_check_count ?H_c_check_count ?H_k_check_count ?H_a_is_row ?H_l_is_row ?H_c_is_row ?H_k_is_row ?H_a_form_fault ?H_l_form_fault ?H_c_form_fault ?H_k_form_fault ?H_a_hand_fault ?H_l_hand_fault ?H_c_hand_fault ?H_k_hand_fault ?H_a_again_fault ?H_l_again_fault ?H_c_again_fault ?H_k_again_fault ?H_a_nobody_fault ?H_l_nobody_fault ?H_c_nobody_fault ?H_k_nobody_fault ?H_a_early_fault ?H_l_early_fault ?H_c_early_fault ?H_k_early_fault ?H_a_telling_fault ?H_l_telling_fault ?H_c_telling_fault ?H_k_telling_fault ?H_a_is_near ?H_l_is_near ?H_c_is_near ?H_k_is_near ?H_a_near_fault ?H_l_near_fault ?H_c_near_fault ?H_k_near_fault ?H_a_row_fault ?H_l_row_fault ?H_c_row_fault ?H_k_row_fault ?H_a_fault ?H_l_fault ?H_c_fault ?H_k_fault ?H_a_Machine_init ?H_i_Machine_init ?H_l_Machine_init ?H_c_Machine_init ?H_k_Machine_init ?H_a__law_source ?H_l__law_source ?H_c__law_source ?H_k__law_source ?H_a__law_draw ?H_l__law_draw ?H_c__law_draw ?H_k__law_draw ?H_a__law_big ?H_l__law_big ?H_c__law_big ?H_k__law_big ?H_a__law_numbers ?H_l__law_numbers ?H_c__law_numbers ?H_k__law_numbers ?H_a__law_times ?H_l__law_times ?H_c__law_times ?H_k__law_times ?H_a__law_is ?H_l__law_is ?H_c__law_is ?H_k__law_is ?H_a__law_row ?H_l__law_row ?H_c__law_row ?H_k__law_row ?H_a__law_fault ?H_l__law_fault ?H_c__law_fault ?H_k__law_fault ?H_a__law_same_fault ?H_l__law_same_fault ?H_c__law_same_fault ?H_k__law_same_fault ?H_a__law_waiting ?H_l__law_waiting ?H_c__law_waiting ?H_k__law_waiting ?H_a__law_changed ?H_l__law_changed ?H_c__law_changed ?H_k__law_changed ?H_a_law ?H_l_law ?H_c_law ?H_k_law ?H_pg_Machine ?H_hd_Machine ?H_po_Machine ?H_sa_Machine ?H_mk_Machine ?H_kc_Machine ?H_nF_Machine_o ?H_nF_Machine_l ?H_nF_Machine_g ?H_nF_Machine_letter ?H_nF_Machine_gap ?H_n_abs ?H_n_all ?H_n_bool ?H_n_enumerate ?H_n_int ?H_n_isinstance ?H_n_len ?H_n_list ?H_n_max ?H_n_min ?H_n_range ?H_n_set ?H_n_str ?H_n_tuple ?H_x_MOST_PLANNED ?H_x_MOST_ROWS ?H_x_LATEST_START ?H_x_GREATEST_PART
    (case H_g_Machine => k_is)
    (case H_a_is_integer => k_is)
    (case H_l_is_integer => k_is)
    (case H_c_is_integer => k_is)
    (case H_k_is_integer => k_is)
    (case H_a_is_between => k_is)
    (case H_l_is_between => k_is)
    (case H_c_is_between => k_is)
    (case H_k_is_between => k_is)
    (case H_a_check_count => k_is)
    (case H_l_check_count => k_is)
    (case H_c_check_count => k_is)
    (case H_k_check_count => k_is)
    (case H_a_is_row => k_is)
    (case H_l_is_row => k_is)
    (case H_c_is_row => k_is)
    (case H_k_is_row => k_is)
    (case H_a_form_fault => k_is)
    (case H_l_form_fault => k_is)
    (case H_c_form_fault => k_is)
    (case H_k_form_fault => k_is)
    (case H_a_hand_fault => k_is)
    (case H_l_hand_fault => k_is)
    (case H_c_hand_fault => k_is)
    (case H_k_hand_fault => k_is)
    (case H_a_again_fault => k_is)
    (case H_l_again_fault => k_is)
    (case H_c_again_fault => k_is)
    (case H_k_again_fault => k_is)
    (case H_a_nobody_fault => k_is)
    (case H_l_nobody_fault => k_is)
    (case H_c_nobody_fault => k_is)
    (case H_k_nobody_fault => k_is)
    (case H_a_early_fault => k_is)
    (case H_l_early_fault => k_is)
    (case H_c_early_fault => k_is)
    (case H_k_early_fault => k_is)
    (case H_a_telling_fault => k_is)
    (case H_l_telling_fault => k_is)
    (case H_c_telling_fault => k_is)
    (case H_k_telling_fault => k_is)
    (case H_a_is_near => k_is)
    (case H_l_is_near => k_is)
    (case H_c_is_near => k_is)
    (case H_k_is_near => k_is)
    (case H_a_near_fault => k_is)
    (case H_l_near_fault => k_is)
    (case H_c_near_fault => k_is)
    (case H_k_near_fault => k_is)
    (case H_a_row_fault => k_is)
    (case H_l_row_fault => k_is)
    (case H_c_row_fault => k_is)
    (case H_k_row_fault => k_is)
    (case H_a_fault => k_is)
    (case H_l_fault => k_is)
    (case H_c_fault => k_is)
    (case H_k_fault => k_is)
    (case H_a_Machine_init => k_is)
    (case H_i_Machine_init => k_is)
    (case H_l_Machine_init => k_is)
    (case H_c_Machine_init => k_is)
    (case H_k_Machine_init => k_is)
    (case H_a__law_source => k_is)
    (case H_l__law_source => k_is)
    (case H_c__law_source => k_is)
    (case H_k__law_source => k_is)
    (case H_a__law_draw => k_is)
    (case H_l__law_draw => k_is)
    (case H_c__law_draw => k_is)
    (case H_k__law_draw => k_is)
    (case H_a__law_big => k_is)
    (case H_l__law_big => k_is)
    (case H_c__law_big => k_is)
    (case H_k__law_big => k_is)
    (case H_a__law_numbers => k_is)
    (case H_l__law_numbers => k_is)
    (case H_c__law_numbers => k_is)
    (case H_k__law_numbers => k_is)
    (case H_a__law_times => k_is)
    (case H_l__law_times => k_is)
    (case H_c__law_times => k_is)
    (case H_k__law_times => k_is)
    (case H_a__law_is => k_is)
    (case H_l__law_is => k_is)
    (case H_c__law_is => k_is)
    (case H_k__law_is => k_is)
    (case H_a__law_row => k_is)
    (case H_l__law_row => k_is)
    (case H_c__law_row => k_is)
    (case H_k__law_row => k_is)
    (case H_a__law_fault => k_is)
    (case H_l__law_fault => k_is)
    (case H_c__law_fault => k_is)
    (case H_k__law_fault => k_is)
    (case H_a__law_same_fault => k_is)
    (case H_l__law_same_fault => k_is)
    (case H_c__law_same_fault => k_is)
    (case H_k__law_same_fault => k_is)
    (case H_a__law_waiting => k_is)
    (case H_l__law_waiting => k_is)
    (case H_c__law_waiting => k_is)
    (case H_k__law_waiting => k_is)
    (case H_a__law_changed => k_is)
    (case H_l__law_changed => k_is)
    (case H_c__law_changed => k_is)
    (case H_k__law_changed => k_is)
    (case H_a_law => k_is)
    (case H_l_law => k_is)
    (case H_c_law => k_is)
    (case H_k_law => k_is)
    (case H_pg_Machine => k_is)
    (case H_hd_Machine => k_is)
    (case H_po_Machine => k_is)
    (case H_sa_Machine => k_is)
    (case H_mk_Machine => k_is)
    (case H_kc_Machine => k_is)
    (case H_nF_Machine_o => k_is)
    (case H_nF_Machine_l => k_is)
    (case H_nF_Machine_g => k_is)
    (case H_nF_Machine_letter => k_is)
    (case H_nF_Machine_gap => k_is)
    (case H_n_abs => k_is)
    (case H_n_all => k_is)
    (case H_n_bool => k_is)
    (case H_n_enumerate => k_is)
    (case H_n_int => k_is)
    (case H_n_isinstance => k_is)
    (case H_n_len => k_is)
    (case H_n_list => k_is)
    (case H_n_max => k_is)
    (case H_n_min => k_is)
    (case H_n_range => k_is)
    (case H_n_set => k_is)
    (case H_n_str => k_is)
    (case H_n_tuple => k_is)
    (case H_x_MOST_PLANNED => k_is)
    (case H_x_MOST_ROWS => k_is)
    (case H_x_LATEST_START => k_is)
    (case H_x_GREATEST_PART => k_is)
