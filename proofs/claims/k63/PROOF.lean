import PyProof.Rows.All
import Wide.All
import OpenK.AllK
import Wide.FinOn
import HandS.Base
import HandS.Call
import HandS.List
import HandS.Comp
import HandS.Iter
import HandS.Ends
import HandS.Words
import HandS.WordsList
import HandS.IsInst
import HandS.Wide
import HandS.Style
import HandS.ClsMeth
import HandS.Defaults
import HandS.MakeKwOnly
import HandS.SlotsOwn
import HandS.Dict
import HandS.Gcd
import KE.KMathGC
import KE.GoesMore
import PySem.Challenge.RW_tellontree_k63_whole_told_back_by_all_pa
set_option Elab.async false
set_option linter.all false
set_option maxRecDepth 100000
namespace My
open PySem L2
def top (i : Nat) : Stmt := PySem.Challenge.pw_tellontree_k63_whole_told_back_by_all_pa.main.body.getD i (.Pass ⟨0, 0, 0, 0⟩)
abbrev s_is_integer : Stmt := top 10
theorem sc_is_integer : FnScope ["thing"] ["thing"] (defScope s_is_integer) := ⟨rfl, rfl, rfl, by decide +kernel, rfl, by decide +kernel, by decide +kernel⟩
abbrev s_is_between : Stmt := top 11
theorem sc_is_between : FnScope ["thing", "low", "high"] ["thing", "low", "high"] (defScope s_is_between) := ⟨rfl, rfl, rfl, by decide +kernel, rfl, by decide +kernel, by decide +kernel⟩
abbrev s_wrong_in_name : Stmt := top 12
theorem sc_wrong_in_name : FnScope ["thing", "turns", "roots", "greatest", "at", "item"] ["thing", "turns", "roots"] (defScope s_wrong_in_name) := ⟨rfl, rfl, rfl, by decide +kernel, rfl, by decide +kernel, by decide +kernel⟩
abbrev s_is_sighting : Stmt := top 13
theorem sc_is_sighting : FnScope ["thing", "name", "time"] ["thing"] (defScope s_is_sighting) := ⟨rfl, rfl, rfl, by decide +kernel, rfl, by decide +kernel, by decide +kernel⟩
abbrev s_check_sightings : Stmt := top 14
theorem sc_check_sightings : FnScope ["rows", "at", "row"] ["rows"] (defScope s_check_sightings) := ⟨rfl, rfl, rfl, by decide +kernel, rfl, by decide +kernel, by decide +kernel⟩
abbrev s_sums_of : Stmt := top 17
theorem sc_sums_of : FnScope ["rows", "name", "time"] ["rows"] (defScope s_sums_of) := ⟨rfl, rfl, rfl, by decide +kernel, rfl, by decide +kernel, by decide +kernel⟩
abbrev s_fits : Stmt := top 18
theorem sc_fits : FnScope ["sums", "letter", "gap", "k", "j", "time"] ["sums", "letter", "gap"] (defScope s_fits) := ⟨rfl, rfl, rfl, by decide +kernel, rfl, by decide +kernel, by decide +kernel⟩
abbrev s_explains : Stmt := top 19
theorem sc_explains : FnScope ["rows", "letter", "gap"] ["rows", "letter", "gap"] (defScope s_explains) := ⟨rfl, rfl, rfl, by decide +kernel, rfl, by decide +kernel, by decide +kernel⟩
abbrev s_told_by_two : Stmt := top 20
theorem sc_told_by_two : FnScope ["first", "other", "sums", "k", "j", "time", "m", "i", "last", "parts", "letter", "gap"] ["first", "other", "sums"] (defScope s_told_by_two) := ⟨rfl, rfl, rfl, by decide +kernel, rfl, by decide +kernel, by decide +kernel⟩
abbrev s_told_by_line : Stmt := top 21
theorem sc_told_by_line : FnScope ["k", "j", "time", "most", "gap", "first", "count"] ["k", "j", "time"] (defScope s_told_by_line) := ⟨rfl, rfl, rfl, by decide +kernel, rfl, by decide +kernel, by decide +kernel⟩
abbrev s_told_by_multiples : Stmt := top 22
theorem sc_told_by_multiples : FnScope ["sums", "k", "j", "time", "common", "least", "worth", "m", "_", "other"] ["sums"] (defScope s_told_by_multiples) := ⟨rfl, rfl, rfl, by decide +kernel, rfl, by decide +kernel, by decide +kernel⟩
abbrev s_told_back : Stmt := top 23
theorem sc_told_back : FnScope ["rows", "sums", "k", "j", "_", "m", "i", "time", "parts"] ["rows"] (defScope s_told_back) := ⟨rfl, rfl, rfl, by decide +kernel, rfl, by decide +kernel, by decide +kernel⟩
abbrev s__law_source : Stmt := top 25
theorem sc__law_source : FnScope ["_law_script", "_law_cell"] ["_law_script"] (defScope s__law_source) := ⟨rfl, rfl, rfl, by decide +kernel, rfl, by decide +kernel, by decide +kernel⟩
abbrev s__law_draw : Stmt := top 26
theorem sc__law_draw : FnScope ["_law_source_here", "_law_limit", "_law_cell", "_law_digit", "_law_one", "_law_two", "_law_three"] ["_law_source_here", "_law_limit"] (defScope s__law_draw) := ⟨rfl, rfl, rfl, by decide +kernel, rfl, by decide +kernel, by decide +kernel⟩
abbrev s__law_integer : Stmt := top 27
theorem sc__law_integer : FnScope ["_law_thing"] ["_law_thing"] (defScope s__law_integer) := ⟨rfl, rfl, rfl, by decide +kernel, rfl, by decide +kernel, by decide +kernel⟩
abbrev s__law_same : Stmt := top 28
theorem sc__law_same : FnScope ["_law_told", "_law_due_here", "_law_at"] ["_law_told", "_law_due_here"] (defScope s__law_same) := ⟨rfl, rfl, rfl, by decide +kernel, rfl, by decide +kernel, by decide +kernel⟩
abbrev s__law_lines : Stmt := top 29
theorem sc__law_lines : FnScope ["_law_rows", "_law_name", "_law_time"] ["_law_rows"] (defScope s__law_lines) := ⟨rfl, rfl, rfl, by decide +kernel, rfl, by decide +kernel, by decide +kernel⟩
abbrev s__law_solves : Stmt := top 30
theorem sc__law_solves : FnScope ["_law_lines_here", "_law_pair", "_law_turns", "_law_total", "_law_time"] ["_law_lines_here", "_law_pair"] (defScope s__law_solves) := ⟨rfl, rfl, rfl, by decide +kernel, rfl, by decide +kernel, by decide +kernel⟩
abbrev s__law_small_rows : Stmt := top 31
theorem sc__law_small_rows : FnScope ["_law_source_here", "_law_letter", "_law_gap", "_law_drawn", "_law_rows", "_law_k", "_law_name", "_law_time", "_law_turn", "_law_item"] ["_law_source_here"] (defScope s__law_small_rows) := ⟨rfl, rfl, rfl, by decide +kernel, rfl, by decide +kernel, by decide +kernel⟩
abbrev s__law_due : Stmt := top 32
theorem sc__law_due : FnScope ["_law_rows", "_law_lines_here", "_law_most", "_law_letter", "_law_found", "_law_gap", "_law_step", "_law_line"] ["_law_rows"] (defScope s__law_due) := ⟨rfl, rfl, rfl, by decide +kernel, rfl, by decide +kernel, by decide +kernel⟩
abbrev s_law : Stmt := top 33
theorem sc_law : FnScope ["_law_script", "_law_source_here", "_law_k", "_law_rows", "_law_due_here", "_law_given"] ["_law_script"] (defScope s_law) := ⟨rfl, rfl, rfl, by decide +kernel, rfl, by decide +kernel, by decide +kernel⟩
/-- where the top has written what -/
structure Adr where
  a_is_integer : Addr
  d_is_integer : FuncData
  a_is_between : Addr
  d_is_between : FuncData
  a_wrong_in_name : Addr
  d_wrong_in_name : FuncData
  a_is_sighting : Addr
  d_is_sighting : FuncData
  a_check_sightings : Addr
  d_check_sightings : FuncData
  a_sums_of : Addr
  d_sums_of : FuncData
  a_fits : Addr
  d_fits : FuncData
  a_explains : Addr
  d_explains : FuncData
  a_told_by_two : Addr
  d_told_by_two : FuncData
  a_told_by_line : Addr
  d_told_by_line : FuncData
  a_told_by_multiples : Addr
  d_told_by_multiples : FuncData
  a_told_back : Addr
  d_told_back : FuncData
  a__law_source : Addr
  d__law_source : FuncData
  a__law_draw : Addr
  d__law_draw : FuncData
  a__law_integer : Addr
  d__law_integer : FuncData
  a__law_same : Addr
  d__law_same : FuncData
  a__law_lines : Addr
  d__law_lines : FuncData
  a__law_solves : Addr
  d__law_solves : FuncData
  a__law_small_rows : Addr
  d__law_small_rows : FuncData
  a__law_due : Addr
  d__law_due : FuncData
  a_law : Addr
  d_law : FuncData
/-- what the walk asks of the top -/
structure Txt (K : PySem.W.Frag) (mg : Str → Option Value) (a : Adr) : Prop where
  F_is_integer : Fun K "is_integer" "is_integer" s_is_integer a.a_is_integer a.d_is_integer
  b_is_integer : Binds K a.d_is_integer ["thing"] []
  g_is_integer : mg "is_integer" = some (.ref a.a_is_integer)
  F_is_between : Fun K "is_between" "is_between" s_is_between a.a_is_between a.d_is_between
  b_is_between : Binds K a.d_is_between ["thing", "low", "high"] []
  g_is_between : mg "is_between" = some (.ref a.a_is_between)
  F_wrong_in_name : Fun K "wrong_in_name" "wrong_in_name" s_wrong_in_name a.a_wrong_in_name a.d_wrong_in_name
  b_wrong_in_name : Binds K a.d_wrong_in_name ["thing", "turns", "roots"] []
  g_wrong_in_name : mg "wrong_in_name" = some (.ref a.a_wrong_in_name)
  F_is_sighting : Fun K "is_sighting" "is_sighting" s_is_sighting a.a_is_sighting a.d_is_sighting
  b_is_sighting : Binds K a.d_is_sighting ["thing"] []
  g_is_sighting : mg "is_sighting" = some (.ref a.a_is_sighting)
  F_check_sightings : Fun K "check_sightings" "check_sightings" s_check_sightings a.a_check_sightings a.d_check_sightings
  b_check_sightings : Binds K a.d_check_sightings ["rows"] []
  g_check_sightings : mg "check_sightings" = some (.ref a.a_check_sightings)
  F_sums_of : Fun K "sums_of" "sums_of" s_sums_of a.a_sums_of a.d_sums_of
  b_sums_of : Binds K a.d_sums_of ["rows"] []
  g_sums_of : mg "sums_of" = some (.ref a.a_sums_of)
  F_fits : Fun K "fits" "fits" s_fits a.a_fits a.d_fits
  b_fits : Binds K a.d_fits ["sums", "letter", "gap"] []
  g_fits : mg "fits" = some (.ref a.a_fits)
  F_explains : Fun K "explains" "explains" s_explains a.a_explains a.d_explains
  b_explains : Binds K a.d_explains ["rows", "letter", "gap"] []
  g_explains : mg "explains" = some (.ref a.a_explains)
  F_told_by_two : Fun K "told_by_two" "told_by_two" s_told_by_two a.a_told_by_two a.d_told_by_two
  b_told_by_two : Binds K a.d_told_by_two ["first", "other", "sums"] []
  g_told_by_two : mg "told_by_two" = some (.ref a.a_told_by_two)
  F_told_by_line : Fun K "told_by_line" "told_by_line" s_told_by_line a.a_told_by_line a.d_told_by_line
  b_told_by_line : Binds K a.d_told_by_line ["k", "j", "time"] []
  g_told_by_line : mg "told_by_line" = some (.ref a.a_told_by_line)
  F_told_by_multiples : Fun K "told_by_multiples" "told_by_multiples" s_told_by_multiples a.a_told_by_multiples a.d_told_by_multiples
  b_told_by_multiples : Binds K a.d_told_by_multiples ["sums"] []
  g_told_by_multiples : mg "told_by_multiples" = some (.ref a.a_told_by_multiples)
  F_told_back : Fun K "told_back" "told_back" s_told_back a.a_told_back a.d_told_back
  b_told_back : Binds K a.d_told_back ["rows"] []
  g_told_back : mg "told_back" = some (.ref a.a_told_back)
  F__law_source : Fun K "_law_source" "_law_source" s__law_source a.a__law_source a.d__law_source
  b__law_source : Binds K a.d__law_source ["_law_script"] []
  g__law_source : mg "_law_source" = some (.ref a.a__law_source)
  F__law_draw : Fun K "_law_draw" "_law_draw" s__law_draw a.a__law_draw a.d__law_draw
  b__law_draw : Binds K a.d__law_draw ["_law_source_here", "_law_limit"] []
  g__law_draw : mg "_law_draw" = some (.ref a.a__law_draw)
  F__law_integer : Fun K "_law_integer" "_law_integer" s__law_integer a.a__law_integer a.d__law_integer
  b__law_integer : Binds K a.d__law_integer ["_law_thing"] []
  g__law_integer : mg "_law_integer" = some (.ref a.a__law_integer)
  F__law_same : Fun K "_law_same" "_law_same" s__law_same a.a__law_same a.d__law_same
  b__law_same : Binds K a.d__law_same ["_law_told", "_law_due_here"] []
  g__law_same : mg "_law_same" = some (.ref a.a__law_same)
  F__law_lines : Fun K "_law_lines" "_law_lines" s__law_lines a.a__law_lines a.d__law_lines
  b__law_lines : Binds K a.d__law_lines ["_law_rows"] []
  g__law_lines : mg "_law_lines" = some (.ref a.a__law_lines)
  F__law_solves : Fun K "_law_solves" "_law_solves" s__law_solves a.a__law_solves a.d__law_solves
  b__law_solves : Binds K a.d__law_solves ["_law_lines_here", "_law_pair"] []
  g__law_solves : mg "_law_solves" = some (.ref a.a__law_solves)
  F__law_small_rows : Fun K "_law_small_rows" "_law_small_rows" s__law_small_rows a.a__law_small_rows a.d__law_small_rows
  b__law_small_rows : Binds K a.d__law_small_rows ["_law_source_here"] []
  g__law_small_rows : mg "_law_small_rows" = some (.ref a.a__law_small_rows)
  F__law_due : Fun K "_law_due" "_law_due" s__law_due a.a__law_due a.d__law_due
  b__law_due : Binds K a.d__law_due ["_law_rows"] []
  g__law_due : mg "_law_due" = some (.ref a.a__law_due)
  F_law : Fun K "law" "law" s_law a.a_law a.d_law
  b_law : Binds K a.d_law ["_law_script"] []
  g_law : mg "law" = some (.ref a.a_law)
  g_gcd : mg "gcd" = some (.builtin "math.gcd")
  n_all : mg "all" = none
  n_any : mg "any" = none
  n_bool : mg "bool" = none
  n_enumerate : mg "enumerate" = none
  n_int : mg "int" = none
  n_isinstance : mg "isinstance" = none
  n_len : mg "len" = none
  n_list : mg "list" = none
  n_max : mg "max" = none
  n_range : mg "range" = none
  n_str : mg "str" = none
  n_sum : mg "sum" = none
  n_tuple : mg "tuple" = none
  g_LONGEST_NAME : ∃ t, mg "LONGEST_NAME" = some (.int 200 t)
  g_GREATEST_ITEM : ∃ t, mg "GREATEST_ITEM" = some (.int 1000000000000000 t)
  g_MOST_SIGHTINGS : ∃ t, mg "MOST_SIGHTINGS" = some (.int 60 t)
  g_LATEST_SIGHTING : ∃ t, mg "LATEST_SIGHTING" = some (.int 100000000000000000000 t)
  g_GREATEST_TOLD : ∃ t, mg "GREATEST_TOLD" = some (.int 100000000000000000000 t)
/-! ### core: rules that the layer lacks, what a draw's source is -/
section
variable {X : Cx}
/-- xs[i], read ahead of xs[i] op= e -/
theorem gt_list : PGet X (rIxL X.K) := by
  intro pins s σ H x y v u Q I rx ry h
  obtain ⟨p, xs, i, z, rfl, rfl, hq, he, q⟩ := h
  cases rx
  obtain ⟨t, rfl⟩ := ry
  obtain ⟨its, r, pl, hz⟩ := I.list hq
  obtain ⟨j, h1, h2, h3, h4, h5⟩ := atI_get he
  obtain ⟨w, ew, rw'⟩ := r.get h2
  have hl := r.length
  have hn := line63
  have fin : EP X pins σ Q w s := ⟨z, H, I, rw', q⟩
  by_cases h0 : 0 ≤ i
  · have hj : i.toNat = j := by
      rw [seqIndex_of h0 h5] at h1
      exact Option.some.inj h1
    exact PySem.wpAny_getItem_list pl.isList h0 (by omega) (by rw [hj]; simpa using ew) fin
  · have hj : (i + (its.toArray.size : Int)).toNat = j := by
      rw [seqIndex_neg (by omega) h4] at h1
      rw [List.size_toArray, ← hl]
      exact Option.some.inj h1
    exact PySem.wpAny_getItem_list_neg pl.isList (by omega) (by rw [List.size_toArray] <;> omega) (by omega) (by rw [hj]; simpa using ew) fin
end
theorem pe_powN {X : Cx} {i j z : Int} {p q pos : Pos} {k l : Nat} (hc : CPow i j) (h : i ^ j.toNat = z) : PE X (.BinOp (.Constant (.int i) k p) .Pow (.Constant (.int j) l q) pos) (tC (.int z)) :=
  ⟨fun pins s σ H Q I g => (pe_op op_pow pe_int pe_int).run pins s σ H Q I ⟨i, j, rfl, rfl, hc, by show Q (.int (i ^ j.toNat)) H; rw [h]; exact g⟩⟩
theorem ite_tt {c A B : Prop} [Decidable c] (hc : c) (h : A) : if decide c = true then A else B := by
  rw [if_pos (decide_eq_true hc)]
  exact h
theorem ite_ff {c A B : Prop} [Decidable c] (hc : ¬ c) (h : B) : if decide c = true then A else B := by
  rw [if_neg (by rw [decide_eq_false hc]; exact Bool.false_ne_true)]
  exact h
theorem ite_d {c A B : Prop} [Decidable c] (h1 : c → A) (h2 : ¬ c → B) : if decide c = true then A else B := by
  by_cases hc : c
  · exact ite_tt hc (h1 hc)
  · exact ite_ff hc (h2 hc)
theorem ite_b {b : Bool} {A B : Prop} (h1 : b = true → A) (h2 : b = false → B) : if b = true then A else B := by
  cases b with
  | true => exact iteT (h1 rfl)
  | false => exact iteF (h2 rfl)
/-! ### readings, turn by turn -/
/-- a new object -/
def NewAt (n : Nat) (o : HO) (H : Hp) (Q : VK) : Prop := n ≤ sizeLine ∧ ∀ p, H p = none → Q (.ref p) (upd H p o)
theorem Same.new {H : Hp} {p : Addr} {o : HO} (h : H p = none) : Same H (upd H p o) := fun b u e => by rw [upd_ne (ne_of_none e h)]; exact e
theorem Same.at {H H' : Hp} {b : Addr} {o : HO} (s : Same H H') (h : H b = some o) : H' b = some o := s b o h
/-- all but what stands at p is as it was -/
def But (p : Addr) (H H' : Hp) : Prop := ∀ b o, H b = some o → b ≠ p → H' b = some o
theorem But.refl (p : Addr) (H : Hp) : But p H H := fun _ _ h _ => h
theorem But.trans {p : Addr} {H H1 H2 : Hp} (a : But p H H1) (b : But p H1 H2) : But p H H2 := fun c o h n => b c o (a c o h n) n
theorem But.of_same {p : Addr} {H H' : Hp} (h : Same H H') : But p H H' := fun b o e _ => h b o e
theorem But.upd {p : Addr} {H : Hp} {o : HO} : But p H (upd H p o) := fun b u h n => by rw [upd_ne n]; exact h
theorem But.at {p b : Addr} {H H' : Hp} {o : HO} (s : But p H H') (n : b ≠ p) (h : H b = some o) : H' b = some o := s b o h n
theorem But.new {p q : Addr} {H : Hp} {o : HO} (h : H q = none) : But p H (L2.upd H q o) := But.of_same (Same.new h)
theorem But.some {p b : Addr} {H H' : Hp} {o : HO} (s : But p H H') (h : H b = Option.some o) (n : b ≠ p) : ∃ u, H' b = Option.some u := ⟨o, s b o h n⟩
theorem _root_.L2.Same.over {H H' : Hp} {D : Addr} {o u : HO} (s : Same H H') (n : H D = none) (e : H' D = some u) (hu : True := trivial) : Same H (upd H' D o) := fun b v h => (upd_ne (ne_of_none h n)).trans (s b v h)
theorem _root_.L2.Same.made0 {H : Hp} {x dx C : Addr} (nx : H x = none) (nd : H dx = none) : Same H (L2.upd (L2.upd H dx (.own x)) x (.ins C dx [])) := fun b o e => by
  rw [upd_ne (ne_of_none e nx), upd_ne (ne_of_none e nd)]; exact e
theorem But.updNone {H H' : Hp} {x L : Addr} {o : HO} (b : But x H H') (n : H L = none) : But x H (L2.upd H' L o) := fun c u hc hn => (upd_ne (ne_of_none hc n)).trans (b c u hc hn)
theorem But.updOver {H H' : Hp} {x L : Addr} {o u : HO} (b : But x H H') (n : H L = none) (e : H' L = Option.some u) : But x H (L2.upd H' L o) := b.updNone n

theorem new_at {n : Nat} {o : HO} {H : Hp} {Q : VK} (hn : n ≤ 1000) (k : ∀ p H', H p = none → Same H H' → H' p = some o → Q (.ref p) H') : NewAt n o H Q :=
  ⟨Nat.le_trans hn (by decide), fun p hp => k p _ hp (Same.new hp) upd_same⟩
theorem new_of {o : HO} {H : Hp} {Q : VK} (k : ∀ p H', H p = none → Same H H' → H' p = some o → Q (.ref p) H') : ∀ p, H p = none → Q (.ref p) (upd H p o) := fun p hp => k p _ hp (Same.new hp) upd_same
section
variable {K : PySem.W.Frag} {σ : St} {H : Hp} {Q : VK} {ta tb tc : TE} {x y v : V} {D : Ends} {t u : TS} {QT : Bool → Hp → Prop} {QA : List V → Hp → Prop} {i j : Int} {n m : Nat}
theorem r_var (e : σ[n]? = some (some v)) (q : Q v H) : tVar n σ H Q := ⟨v, e, q⟩
theorem r_c (q : Q v H) : tC v σ H Q := q
theorem r_op {r : R2} (h : ta σ H fun x H1 => tb σ H1 fun y H2 => r x y H2 Q) : tOp r ta tb σ H Q := h
theorem r_un {r : V → Hp → VK → Prop} (h : ta σ H fun x H1 => r x H1 Q) : tUn r ta σ H Q := h
theorem r_I0 {g : Int → Int → V} (q : Q (g i j) H) : rI0 g (.int i) (.int j) H Q := ⟨i, j, rfl, rfl, q⟩
theorem r_I {C : Int → Int → Prop} {g : Int → Int → V} (c : C i j) (q : Q (g i j) H) : rI C g (.int i) (.int j) H Q := ⟨i, j, rfl, rfl, c, q⟩
theorem r_add (q : Q (.int (i + j)) H) : rAdd (.int i) (.int j) H Q := ⟨i, j, rfl, rfl, q⟩
theorem r_sub (q : Q (.int (i - j)) H) : rSub (.int i) (.int j) H Q := ⟨i, j, rfl, rfl, q⟩
theorem r_U {g : Int → V} (q : Q (g i) H) : rU g (.int i) H Q := ⟨i, rfl, q⟩
theorem r_eqI (q : Q (.bl (decide (i = j))) H) : rEq (.int i) (.int j) H Q := ⟨rfl, by
  have e : decide (V.int i = V.int j) = decide (i = j) := by
    by_cases h : i = j
    · subst h; rw [decide_eq_true rfl, decide_eq_true rfl]
    · rw [decide_eq_false h, decide_eq_false fun z => h (V.int.inj z)]
  rw [e]; exact q⟩
theorem r_neI (q : Q (.bl (!decide (i = j))) H) : rNe (.int i) (.int j) H Q := ⟨rfl, by
  have e : decide (V.int i = V.int j) = decide (i = j) := by
    by_cases h : i = j
    · subst h; rw [decide_eq_true rfl, decide_eq_true rfl]
    · rw [decide_eq_false h, decide_eq_false fun z => h (V.int.inj z)]
  rw [e]; exact q⟩
theorem r_ixL {p : Addr} {xs : List V} (h : H p = some (.lst xs)) (e : atI xs i = some v) (q : Q v H) : rIxL K (.ref p) (.int i) H Q := ⟨p, xs, i, v, rfl, rfl, SqL.of h, e, q⟩
theorem r_ixT {p : Addr} {xs : List V} (h : H p = some (.tup xs)) (e : atI xs i = some v) (q : Q v H) : rIxT K (.ref p) (.int i) H Q := ⟨p, xs, i, v, rfl, rfl, SqT.of h, e, q⟩
theorem r_test (h : ta σ H fun x H' => ∃ k, x = .bl k ∧ QT k H') : tTest ta σ H QT := h
theorem r_tB (h : ta σ H fun x H' => ∃ k, x = .bl k ∧ QT k H') : tB ta σ H QT := h
theorem r_bl {b : Bool} {R : Bool → Prop} (h : R b) : ∃ k, V.bl b = .bl k ∧ R k := ⟨b, rfl, h⟩
theorem r_not {t : TT} (h : t σ H fun c H1 => QT (!c) H1) : tNot t σ H QT := h
theorem r_and {t u : TT} (h : t σ H fun c H1 => if c = true then u σ H1 QT else QT false H1) : tAnd t u σ H QT := h
theorem r_or {t u : TT} (h : t σ H fun c H1 => if c = true then QT true H1 else u σ H1 QT) : tOr t u σ H QT := h
theorem r_notV (h : ta σ H fun x H1 => ∃ c, x = .bl c ∧ Q (.bl (!c)) H1) : tNotV ta σ H Q := h
theorem r_andV (h : ta σ H fun x H1 => ∃ c, x = .bl c ∧ if c = true then tb σ H1 Q else Q (.bl false) H1) : tAndV ta tb σ H Q := h
theorem r_orV (h : ta σ H fun x H1 => ∃ c, x = .bl c ∧ if c = true then Q (.bl true) H1 else tb σ H1 Q) : tOrV ta tb σ H Q := h
theorem r_ifE {t : TT} (h : t σ H fun c H1 => if c = true then ta σ H1 Q else tb σ H1 Q) : tIf t ta tb σ H Q := h
theorem r_seq (h : t { D with nx := u D } σ H) : tSeq t u D σ H := h
theorem r_next (h : D.nx σ H) : tNext D σ H := h
theorem r_brk (h : D.bk σ H) : tBreak D σ H := h
theorem r_cont (h : D.ct σ H) : tCont D σ H := h
theorem r_drop (h : ta σ H fun _ H1 => D.nx σ H1) : tDrop ta D σ H := h
theorem r_ret (h : ta σ H D.rt) : tRet ta D σ H := h
theorem r_ifS {c : TT} (h : c σ H fun b H1 => if b = true then t D σ H1 else u D σ H1) : tIfS c t u D σ H := h
theorem r_asg {g : TG} (h : ta σ H fun x H1 => g x σ H1 D.nx) : tAsg ta g D σ H := h
theorem r_gName {R : St → Hp → Prop} (h : R (σ.set n (some v)) H) : gName n v σ H R := h
theorem r_gSub {s : TSet} {R : St → Hp → Prop} (h : ta σ H fun o H1 => tb σ H1 fun i H2 => s o i v H2 fun H3 => R σ H3) : gSub ta tb s v σ H R := h
theorem r_setL {p : Addr} {xs : List V} {k : Nat} {R : Hp → Prop} (h : H p = some (.lst xs)) (e : ixN xs.length i = some k) (q : R (upd H p (.lst (xs.set k v)))) : rSetL (.ref p) (.int i) v H R := ⟨p, xs, i, k, rfl, rfl, h, e, q⟩
theorem r_aug {ti : TIp} (e : σ[n]? = some (some x)) (h : ta σ H fun y H1 => ti x y H1 fun z H2 => D.nx (σ.set n (some z)) H2) : tAug n ta ti D σ H := ⟨x, e, h⟩
theorem r_augS {tg : V → V → Hp → VK → Prop} {tip : TIp} {ts : TSet} (h : ta σ H fun o H1 => tb σ H1 fun i H2 => tg o i H2 fun x H3 => tc σ H3 fun y H4 => tip x y H4 fun z H5 => ts o i z H5 fun H6 => D.nx σ H6) : tAugS ta tb tc tg tip ts D σ H := h
theorem r_ip {f : Int → Int → Int} (q : Q (.int (f i j)) H) : ipI f (.int i) (.int j) H Q := ⟨i, j, rfl, rfl, q⟩
theorem r_nil (h : QA [] H) : tNil σ H QA := h
theorem r_cons {tr : TA} (h : ta σ H fun x H1 => tr σ H1 fun xs H2 => QA (x :: xs) H2) : tCons ta tr σ H QA := h
theorem r_tup {t : TA} (h : t σ H fun xs H1 => NewAt xs.length (.tup xs) H1 Q) : tTup t σ H Q := h
theorem r_lst {t : TA} (h : t σ H fun xs H1 => NewAt xs.length (.lst xs) H1 Q) : tLst t σ H Q := h
theorem r_CB {r : List V → Hp → VK → Prop} {t : TA} (h : t σ H fun vs H1 => r vs H1 Q) : tCB r t σ H Q := h
theorem r_call {sp : Sp} {dvs : List V} {E : XK} {t : TA} (h : t σ H fun vs H1 => sp (vs ++ dvs) H1 Q E) : tCall sp dvs E t σ H Q := h
theorem r_callN {k l : Nat} {sp : Sp} {gV : List V → List V → List V} {E : XK} {t tk : TA} (h : t σ H fun vs H1 => tk σ H1 fun zs H2 => vs.length = k ∧ zs.length = l ∧ sp (gV vs zs) H2 Q E) : tCallN k l sp gV E t tk σ H Q := h
theorem r_fld {p C dx : Addr} {fs : List (Str × V)} {f : Str} {R : V → Prop} (hc : Cls K C) (hn : NoAttr K C f) (hx : H p = some (.ins C dx fs)) (e : fs.lookup f = some v) (q : R v) : (∃ a C dx fs v, V.ref p = .ref a ∧ H a = some (.ins C dx fs) ∧ Cls K C ∧ NoAttr K C f ∧ fs.lookup f = some v ∧ R v) := ⟨p, C, dx, fs, v, rfl, hx, hc, hn, e, q⟩
theorem r_tFld {f : Str} (h : ta σ H fun x H1 => ∃ a C dx fs v, x = .ref a ∧ H1 a = some (.ins C dx fs) ∧ Cls K C ∧ NoAttr K C f ∧ fs.lookup f = some v ∧ Q v H1) : tFld K ta f σ H Q := h
theorem r_sl {r : V → Option Int → Option Int → Hp → VK → Prop} {tl th : TO} (h : ta σ H fun x H1 => tl σ H1 fun l H2 => th σ H2 fun u H3 => r x l u H3 Q) : tSl r ta tl th σ H Q := h
theorem r_noP {R : Option Int → Hp → Prop} (h : R none H) : tNoPart σ H R := h
theorem r_part {R : Option Int → Hp → Prop} (h : ta σ H fun x H1 => ∃ i, x = .int i ∧ R (some i) H1) : tPart ta σ H R := h
theorem r_in {R : Int → Prop} (h : R i) : ∃ k, V.int i = .int k ∧ R k := ⟨i, rfl, h⟩
theorem r_Bm {T : String} {r : V → List V → Hp → VK → Prop} {t : TA} (h : ta σ H fun x H1 => tyV K T x H1 ∧ t σ H1 fun xs H2 => r x xs H2 Q) : tBM K T r ta t σ H Q := h
theorem r_app {l : Addr} {xs : List V} (h : H l = some (.lst xs)) (hz : xs.length < sizeLine) (q : Q .non (upd H l (.lst (xs ++ [y])))) : rAppend (.ref l) [y] H Q := ⟨l, xs, y, rfl, rfl, h, hz, q⟩
end
theorem at_nat {ns : List Int} {i : Int} (h0 : 0 ≤ i) (h : i < (ns.map V.int).length) : ∃ n, atI (ns.map V.int) i = some (.int n) ∧ n ∈ ns := by
  obtain ⟨j, rfl⟩ : ∃ j : Nat, i = j := ⟨i.toNat, by omega⟩
  rw [List.length_map] at h
  have hj : j < ns.length := by omega
  exact ⟨ns[j], atI_nat (by rw [List.getElem?_map, List.getElem?_eq_getElem hj]; rfl), List.getElem_mem hj⟩
theorem fmod_nn {a b : Int} (h : 0 < b) : 0 ≤ a.fmod b := by rw [Int.fmod_eq_emod_of_nonneg a (by omega)]; exact Int.emod_nonneg a (by omega)
theorem fmod_lt {a b : Int} (h : 0 < b) : a.fmod b < b := by rw [Int.fmod_eq_emod_of_nonneg a (by omega)]; exact Int.emod_lt_of_pos a h
theorem lim_div {lim : Int} (h0 : 0 < lim) (h : lim < 2 ^ 200) : CDivW lim lim := wide_div (b := 200) h0 (by omega) (by decide) (by decide)
theorem cdiv_of {i lim : Int} (h0 : 0 < lim) (h : lim < 2 ^ 200) : CDivW i lim := ⟨h0, (lim_div h0 h).2⟩
theorem mulL {i j : Int} (h1 : -(2 ^ 64) < i) (h2 : i < 2 ^ 64) : CMul i j := Or.inl ⟨h1, h2⟩
theorem mulR {i j : Int} (h1 : -(2 ^ 64) < j) (h2 : j < 2 ^ 64) : CMul i j := Or.inr ⟨h1, h2⟩
theorem powOk {i j : Int} (h1 : 0 ≤ j) (h2 : j ≤ 1000000) (h3 : i.natAbs < 2 ^ 64) : CPow i j := ⟨h1, h2, h3⟩
theorem r_for {wi : TI} {g : TG} {tb : TS} {D : Ends} {σ : St} {H : Hp} (h : wi σ H fun J H1 => ∃ W : Nat → Nat → St → Hp → Prop, (∃ m, W 0 m σ H1) ∧ ∀ i m σ H, W i m σ H →
  (J.stop i H ∧ D.nx σ H) ∨ (J.go i H ∧ ∃ N : St → Hp → Prop, (∀ σ' H', N σ' H' → ∃ m', m' < m ∧ W (i + 1) m' σ' H') ∧ ∀ x H', J.yld i H x H' → g x σ H' fun σ2 H2 => tb { D with nx := N, ct := N, bk := D.nx } σ2 H2)) : tFor wi g tb D σ H := h
theorem r_iR1 {ta : TA} {σ : St} {H : Hp} {R : It → Hp → Prop} (h : ta σ H fun vs H1 => ∃ j : Int, vs = [.int j] ∧ -(2 ^ 62) ≤ j ∧ j < 2 ^ 62 ∧ R (Itr 0 j.toNat) H1) : iRng1 ta σ H R := h
theorem r_iR2 {ta : TA} {σ : St} {H : Hp} {R : It → Hp → Prop} (h : ta σ H fun vs H1 => ∃ i j : Int, vs = [.int i, .int j] ∧ (-(2 ^ 62) ≤ i ∧ i < 2 ^ 62 ∧ -(2 ^ 62) ≤ j ∧ j < 2 ^ 62) ∧ R (Itr i (j - i).toNat) H1) : iRng2 ta σ H R := h
theorem r_tMeth {C : Addr} {m : Str} {sp : Sp} {dvs : List V} {E : XK} {ta : TE} {t : TA} {σ : St} {H : Hp} {Q : VK} (h : ta σ H fun x H1 => ∃ a dx fs, x = .ref a ∧ H1 a = some (.ins C dx fs) ∧ fs.lookup m = none ∧ t σ H1 fun vs H2 => sp (x :: (vs ++ dvs)) H2 Q E) : tMeth C m sp dvs E ta t σ H Q := h
theorem r_meth {C p dx : Addr} {fs : List (Str × V)} {m : Str} {H : Hp} {R : Prop} (hx : H p = some (.ins C dx fs)) (hl : fs.lookup m = none) (q : R) : ∃ a dx fs, V.ref p = .ref a ∧ H a = some (.ins C dx fs) ∧ fs.lookup m = none ∧ R := ⟨p, dx, fs, rfl, hx, hl, q⟩
theorem r_iT {K : PySem.W.Frag} {tl : TE} {σ : St} {H : Hp} {R : It → Hp → Prop} (h : tl σ H fun x H1 => ∃ a, x = .ref a ∧ (∃ xs, SqT K H1 a xs) ∧ R (Itt K a) H1) : iTup K tl σ H R := h
theorem r_iL {K : PySem.W.Frag} {tl : TE} {σ : St} {H : Hp} {R : It → Hp → Prop} (h : tl σ H fun x H1 => ∃ a, x = .ref a ∧ (∃ xs, SqL K H1 a xs) ∧ R (Itl K a) H1) : iList K tl σ H R := h
theorem r_lc {wi : TI} {g : TG} {tt : TT} {te : TE} {vs : List Nat} {σ : St} {H : Hp} {Q : VK} (h : wi σ H fun J H1 => ∀ D, H1 D = none → ∃ W : Nat → Nat → Hp → Prop, (∃ m, W 0 m (upd H1 D (.lst []))) ∧ ∀ i m H, W i m H →
  (J.stop i H ∧ Q (.ref D) H) ∨ (J.go i H ∧ ∃ Nx : Hp → Prop, (∀ H', Nx H' → ∃ m', m' < m ∧ W (i + 1) m' H') ∧ ∀ x H', J.yld i H x H' → g x (wipe σ vs) H' fun σ2 H2 => wipe σ2 vs = wipe σ vs ∧ tt σ2 H2 fun b H3 =>
    if b = true then te σ2 H3 fun y H4 => ∃ acc, H4 D = some (.lst acc) ∧ acc.length < sizeLine ∧ Nx (upd H4 D (.lst (acc ++ [y]))) else Nx H3)) : tLc wi g tt te vs σ H Q := h
theorem r_isiI {K : PySem.W.Frag} {H : Hp} {Q : VK} {i : Int} {n : String} (b : Bool) (h : kitB "int" n = some b) (q : Q (.bl b) H) : rIsi K [.int i, .ty n] H Q := ⟨_, _, .type "int", .type n, b, rfl, .ty n, .base (.int i), kit_ty h, q⟩
theorem r_isiB {K : PySem.W.Frag} {H : Hp} {Q : VK} {i : Bool} {n : String} (b : Bool) (h : kitB "bool" n = some b) (q : Q (.bl b) H) : rIsi K [.bl i, .ty n] H Q := ⟨_, _, .type "bool", .type n, b, rfl, .ty n, .base (.bl i), kit_ty h, q⟩
theorem r_slL {K : PySem.W.Frag} {H : Hp} {Q : VK} {a : Addr} {xs : List V} {lo hi : Option Int} (h : SqL K H a xs) (q : ∀ p H', H p = none → Same H H' → H' p = some (.lst (cutV xs lo hi)) → Q (.ref p) H') : rSlL K (.ref a) lo hi H Q := ⟨a, xs, rfl, h, new_of q⟩
theorem r_slT {K : PySem.W.Frag} {H : Hp} {Q : VK} {a : Addr} {xs : List V} {lo hi : Option Int} (h : SqT K H a xs) (hn : ¬ (HT.sIx xs.length 0 lo = 0 ∧ HT.sIx xs.length xs.length hi = xs.length)) (q : ∀ p H', H p = none → Same H H' → H' p = some (.tup (cutV xs lo hi)) → Q (.ref p) H') : rSlT K (.ref a) lo hi H Q := ⟨a, xs, rfl, h, hn, new_of q⟩
def rListOf (K : PySem.W.Frag) : List V → Hp → VK → Prop := fun xs H Q => ∃ p ys, xs = [.ref p] ∧ (SqL K H p ys ∨ SqT K H p ys) ∧ ∀ l, H l = none → Q (.ref l) (upd H l (.lst ys))
def rTupOf (K : PySem.W.Frag) : List V → Hp → VK → Prop := fun xs H Q => ∃ p ys, xs = [.ref p] ∧ ((SqL K H p ys ∧ ∀ l, H l = none → Q (.ref l) (upd H l (.tup ys))) ∨ (SqT K H p ys ∧ Q (.ref p) H))
theorem cr_list {X : Cx} : CallR X (.type "list") (rListOf X.K) := call_list_of
theorem cr_tup {X : Cx} : CallR X (.type "tuple") (rTupOf X.K) := call_tuple_of
theorem r_listS {K : PySem.W.Frag} {H : Hp} {Q : VK} {a : Addr} {xs : List V} (h : SqL K H a xs ∨ SqT K H a xs) (q : ∀ p H', H p = none → Same H H' → H' p = some (.lst xs) → Q (.ref p) H') : rListOf K [.ref a] H Q := ⟨a, xs, rfl, h, new_of q⟩
theorem r_listL {K : PySem.W.Frag} {H : Hp} {Q : VK} {a : Addr} {xs : List V} (h : H a = some (.lst xs)) (q : ∀ p H', H p = none → Same H H' → H' p = some (.lst xs) → Q (.ref p) H') : rListOf K [.ref a] H Q := r_listS (.inl (SqL.of h)) q
theorem r_listT {K : PySem.W.Frag} {H : Hp} {Q : VK} {a : Addr} {xs : List V} (h : H a = some (.tup xs)) (q : ∀ p H', H p = none → Same H H' → H' p = some (.lst xs) → Q (.ref p) H') : rListOf K [.ref a] H Q := r_listS (.inr (SqT.of h)) q
theorem r_tupL {K : PySem.W.Frag} {H : Hp} {Q : VK} {a : Addr} {xs : List V} (h : H a = some (.lst xs)) (q : ∀ p H', H p = none → Same H H' → H' p = some (.tup xs) → Q (.ref p) H') : rTupOf K [.ref a] H Q := ⟨a, xs, rfl, .inl ⟨SqL.of h, new_of q⟩⟩
theorem r_tupT {K : PySem.W.Frag} {H : Hp} {Q : VK} {a : Addr} {xs : List V} (h : H a = some (.tup xs)) (q : Q (.ref a) H) : rTupOf K [.ref a] H Q := ⟨a, xs, rfl, .inr ⟨SqT.of h, q⟩⟩
theorem r_nF {A B : Prop} (h : A) : if (!false) = true then A else B := h
theorem r_nT {A B : Prop} (h : B) : if (!true) = true then A else B := by
  rw [if_neg (by decide)]
  exact h
theorem r_nD {c A B : Prop} [Decidable c] (h1 : ¬ c → A) (h2 : c → B) : if (!decide c) = true then A else B := by
  by_cases hc : c
  · rw [decide_eq_true hc]; exact r_nT (h2 hc)
  · rw [decide_eq_false hc]; exact r_nF (h1 hc)
theorem cut_take {xs : List V} {k : Int} (h : (xs.length : Int) ≤ k) : cutV xs none (some k) = xs := by
  have e : HT.sIx xs.length xs.length (some k) = xs.length := by
    show (if k < 0 then (k + (xs.length : Int)).toNat else min k.toNat xs.length) = xs.length
    rw [if_neg (by omega)]; omega
  unfold cutV
  rw [e]
  show (xs.drop 0).take (xs.length - 0) = xs
  simp
theorem r_yes {σ : St} {H : Hp} {R : Bool → Hp → Prop} (h : R true H) : tYes σ H R := h
theorem int_of_get {ns : List Int} {i : Nat} {y : V} (h : (ns.map V.int)[i]? = some y) : ∃ z, ns[i]? = some z ∧ y = V.int z := by
  rw [List.getElem?_map] at h
  cases e : ns[i]? with
  | none => rw [e] at h; cases h
  | some z => rw [e] at h; exact ⟨z, rfl, (Option.some.inj h).symm⟩
theorem take_more {α : Type} {l : List α} {i : Nat} {x : α} (h : l[i]? = some x) : l.take (i + 1) = l.take i ++ [x] := by
  rw [List.take_succ, h]; rfl
theorem r_chain {r r' : R2} {ta tb tc : TE} {σ : St} {H : Hp} {Q : VK} (h : ta σ H fun x H1 => tb σ H1 fun y H2 => r x y H2 fun z H3 => ∃ k, z = .bl k ∧ (if k = true then tc σ H3 fun w' H4 => r' y w' H4 Q else Q (.bl false) H3)) : tChain r r' ta tb tc σ H Q := h
theorem r_sFld {K : PySem.W.Frag} {ta tv : TE} {f : Str} {D : Ends} {σ : St} {H : Hp} (h : tv σ H fun y H1 => ta σ H1 fun x H2 => ∃ a C dx fs, x = .ref a ∧ H2 a = some (.ins C dx fs) ∧ Cls K C ∧ NoAttr K C f ∧ fs.length < 1000 ∧ D.nx σ (upd H2 a (.ins C dx (putF f y fs)))) : sFld K ta tv f D σ H := h
theorem r_put {K : PySem.W.Frag} {p C dx : Addr} {fs : List (Str × V)} {f : Str} {H : Hp} {R : Addr → Addr → Addr → List (Str × V) → Prop} (hc : Cls K C) (hn : NoAttr K C f) (hx : H p = some (.ins C dx fs)) (hl : fs.length ≤ 900) (q : R p C dx fs) :
    ∃ a C dx fs, V.ref p = .ref a ∧ H a = some (.ins C dx fs) ∧ Cls K C ∧ NoAttr K C f ∧ fs.length < 1000 ∧ R a C dx fs := ⟨p, C, dx, fs, rfl, hx, hc, hn, by omega, q⟩
theorem putF_len (f : Str) (v : V) : ∀ fs : List (Str × V), (putF f v fs).length ≤ fs.length + 1
  | [] => Nat.le_refl _
  | (g, x) :: r => by
    unfold putF
    by_cases h : g = f
    · rw [if_pos h, List.length_cons, List.length_cons]; omega
    · rw [if_neg h, List.length_cons, List.length_cons]
      have := putF_len f v r
      omega
theorem putF_le {f : Str} {v : V} {fs : List (Str × V)} {n : Nat} (h : fs.length ≤ n) : (putF f v fs).length ≤ n + 1 := Nat.le_trans (putF_len f v fs) (by omega)
def MakeAt (C : Addr) (sp : Sp) (vs : List V) (E : XK) (H : Hp) (Q : VK) : Prop := ∀ x dx, H x = none → H dx = none → dx ≠ x → sp (.ref x :: vs) (upd (upd H dx (.own x)) x (.ins C dx [])) (fun v H2 => v = .non ∧ Q (.ref x) H2) E
theorem r_make {C : Addr} {sp : Sp} {dvs : List V} {E : XK} {t : TA} {σ : St} {H : Hp} {Q : VK} (h : t σ H fun vs H1 => MakeAt C sp (vs ++ dvs) E H1 Q) : tMake C sp dvs E t σ H Q := h
def rIsNo : R2 := fun x y H Q => y = .non ∧ Q (.bl (decide (x = .non))) H
def rNotNo : R2 := fun x y H Q => y = .non ∧ Q (.bl (!decide (x = .non))) H
theorem op_isNo {X : Cx} : OpR X (compareOp .Is) rIsNo := op_isN
theorem op_notNo {X : Cx} : OpR X (compareOp .IsNot) rNotNo := op_notN
theorem r_isNn {H : Hp} {Q : VK} (q : Q (.bl true) H) : rIsNo .non .non H Q := ⟨rfl, q⟩
theorem r_isNi {H : Hp} {Q : VK} {i : Int} (q : Q (.bl false) H) : rIsNo (.int i) .non H Q := ⟨rfl, q⟩
theorem r_isNr {H : Hp} {Q : VK} {i : Addr} (q : Q (.bl false) H) : rIsNo (.ref i) .non H Q := ⟨rfl, q⟩
theorem r_notNn {H : Hp} {Q : VK} (q : Q (.bl false) H) : rNotNo .non .non H Q := ⟨rfl, q⟩
theorem r_notNi {H : Hp} {Q : VK} {i : Int} (q : Q (.bl true) H) : rNotNo (.int i) .non H Q := ⟨rfl, q⟩
theorem r_notNr {H : Hp} {Q : VK} {i : Addr} (q : Q (.bl true) H) : rNotNo (.ref i) .non H Q := ⟨rfl, q⟩
theorem r_lenS {K : PySem.W.Frag} {H : Hp} {p : Addr} {xs : List V} {R : List V → Prop} (h : SqL K H p xs ∨ SqT K H p xs) (q : R xs) : ∃ (p1 : Addr) (ys : List V), [V.ref p] = [.ref p1] ∧ (SqL K H p1 ys ∨ SqT K H p1 ys) ∧ R ys := ⟨p, xs, rfl, h, q⟩
theorem r_lenL {K : PySem.W.Frag} {H : Hp} {p : Addr} {xs : List V} {R : List V → Prop} (h : H p = some (.lst xs)) (q : R xs) : ∃ (p1 : Addr) (ys : List V), [V.ref p] = [.ref p1] ∧ (SqL K H p1 ys ∨ SqT K H p1 ys) ∧ R ys := ⟨p, xs, rfl, .inl (SqL.of h), q⟩
theorem r_lenT {K : PySem.W.Frag} {H : Hp} {p : Addr} {xs : List V} {R : List V → Prop} (h : H p = some (.tup xs)) (q : R xs) : ∃ (p1 : Addr) (ys : List V), [V.ref p] = [.ref p1] ∧ (SqL K H p1 ys ∨ SqT K H p1 ys) ∧ R ys := ⟨p, xs, rfl, .inr (SqT.of h), q⟩
theorem r_in1 {i : Int} {R : Int → Prop} (h : R i) : ∃ k, [V.int i] = [.int k] ∧ R k := ⟨i, rfl, h⟩
theorem r_in2 {i j : Int} {R : Int → Int → Prop} (h : R i j) : ∃ k l, [V.int i, V.int j] = [.int k, .int l] ∧ R k l := ⟨i, j, rfl, h⟩
/-- the source of draws at p, its cells at q -/
def SrcAt (H : Hp) (p q : Addr) : Prop := ∃ (cs : List Int) (i big cnt st : Int), H p = some (.lst [.ref q, .int i, .int big, .int cnt, .int st]) ∧ H q = some (.lst (cs.map V.int)) ∧ q ≠ p ∧ 0 ≤ i ∧ 0 ≤ big ∧ cs.length ≤ 63
theorem SrcAt.keep {H H' : Hp} {p q : Addr} (h : SrcAt H p q) (s : Same H H') : SrcAt H' p q := by
  obtain ⟨cs, i, big, cnt, st, h1, h2, h3⟩ := h
  exact ⟨cs, i, big, cnt, st, s _ _ h1, s _ _ h2, h3⟩
theorem SrcAt.upd {H : Hp} {p q x : Addr} {o : HO} (h : SrcAt H p q) (h1 : x ≠ p) (h2 : x ≠ q) : SrcAt (upd H x o) p q := by
  obtain ⟨cs, i, big, cnt, st, e1, e2, h3⟩ := h
  exact ⟨cs, i, big, cnt, st, (upd_ne h1.symm).trans e1, (upd_ne h2.symm).trans e2, h3⟩
theorem SrcAt.ne {H : Hp} {p q x : Addr} (h : SrcAt H p q) (hx : H x = none) : x ≠ p := by
  obtain ⟨cs, i, big, cnt, st, h1, _⟩ := h
  exact (ne_of_none h1 hx).symm
theorem SrcAt.neq {H : Hp} {p q x : Addr} (h : SrcAt H p q) (hx : H x = none) : x ≠ q := by
  obtain ⟨cs, i, big, cnt, st, _, h1, _⟩ := h
  exact (ne_of_none h1 hx).symm
theorem But.free {p q : Addr} {H H' : Hp} (b : But p H H') (hs : SrcAt H' p q) {x : Addr} (hx : H' x = none) : H x = none := by
  cases e : H x with
  | none => rfl
  | some o =>
    obtain ⟨u, z⟩ := b.some e (hs.ne hx)
    rw [hx] at z
    cases z
theorem seq_with {t1 t2 : TS} {D : Ends} {σ : St} {H : Hp} (P : St → Hp → Prop) (h2 : ∀ σ H, P σ H → t2 D σ H) (h1 : (∀ σ H, P σ H → t2 D σ H) → t1 { D with nx := t2 D } σ H) : tSeq t1 t2 D σ H := h1 h2
theorem pe_fldK {X : Cx} {K : PySem.W.Frag} {e : Expr} {f : Str} {pos : Pos} {ta : TE} (hK : X.K = K) (he : PE X e ta) (hb : attributeBase e f X.env (eval e X.env) = eval e X.env) : PE X (.Attribute e f pos) (tFld K ta f) := by
  subst hK; exact pe_fld he hb
theorem r_cat {H : Hp} {Q : VK} {l b : Addr} {xs zs : List V} (h1 : H l = some (.lst xs)) (h2 : H b = some (.lst zs)) (hn : xs.length + zs.length ≤ 1000) (q : ∀ p H', H p = none → Same H H' → H' p = some (.lst (xs ++ zs)) → Q (.ref p) H') : rCat (.ref l) (.ref b) H Q :=
  ⟨l, b, xs, zs, rfl, rfl, h1, h2, Nat.le_trans hn (by decide), new_of q⟩
theorem r_min {K : PySem.W.Frag} {H : Hp} {Q : VK} {l : Addr} {ns : List Int} (h1 : H l = some (.lst (ns.map V.int))) (hn : 0 < ns.length) (q : ∀ m, m ∈ ns → (∀ y, y ∈ ns → m ≤ y) → Q (.int m) H) : rMin K [.ref l] H Q :=
  ⟨l, ns, rfl, SqL.of h1, hn, q⟩
section
variable {X : Cx} {K : PySem.W.Frag}
theorem ix_listK (hK : X.K = K) : IxR X (rIxL K) := by subst hK; exact ix_list
theorem ix_tupK (hK : X.K = K) : IxR X (rIxT K) := by subst hK; exact ix_tup
theorem call_len_seqK (hK : X.K = K) : CallR X (.builtin "len") (fun xs H Q => ∃ p ys, xs = [.ref p] ∧ (SqL K H p ys ∨ SqT K H p ys) ∧ Q (.int ys.length) H) := by subst hK; exact call_len_seq
theorem call_isiK (hK : X.K = K) : CallR X (.builtin "isinstance") (rIsi K) := by subst hK; exact call_isi
theorem cr_listK (hK : X.K = K) : CallR X (.type "list") (rListOf K) := by subst hK; exact cr_list
theorem cr_tupK (hK : X.K = K) : CallR X (.type "tuple") (rTupOf K) := by subst hK; exact cr_tup
theorem pg_tupK {es : List Expr} {k n : Nat} {t : TGs} {pos : Pos} (hK : X.K = K) (hc : X.calm = true) (h : PGs X es t)
    (hn : (assignEach es X.env).length = n := by rfl) (hst : (assignEach es X.env).findIdx? (·.1) = none := by rfl) : PG X (.Tuple es k pos) (gTup K n t) := by subst hK; exact pg_tup hc h hn hst
end

local macro_rules | `(tactic| walk_at "src") => `(tactic| first | assumption | (refine' SrcAt.keep ?h ?s; (case s => assumption); (case h => walk_at "src")))
local macro_rules | `(tactic| walk_at "ne") => `(tactic| first | assumption | (apply Ne.symm; assumption) | (refine' SrcAt.ne ?a ?b; (case b => assumption); (case a => walk_at "src")))
local macro_rules | `(tactic| walk_at "hp") => `(tactic| first
  | assumption
  | with_reducible exact upd_same
  | (refine' Same.at ?s ?h; (case s => assumption); (case h => walk_at "hp"))
  | (refine' But.at ?s ?n ?h; (case s => assumption); (case n => walk_at "ne"); (case h => walk_at "hp"))
  | (rw [upd_ne (by first | assumption | (apply Ne.symm; assumption))]; walk_at "hp"))
local macro_rules | `(tactic| walk_at "side") => `(tactic| first | assumption | decide | omega | exact mulL (by omega) (by omega) | exact mulR (by omega) (by omega) | exact cdiv_of (by omega) (by omega) | exact powOk (by omega) (by omega) (by decide) | exact mulL (Int.lt_of_lt_of_le (by decide) (fmod_nn (by decide))) (Int.lt_trans (fmod_lt (by decide)) (by decide)))
local macro_rules | `(tactic| walk_at "pl") => `(tactic| ((repeat with_reducible refine putF_le ?_); with_unfolding_all exact Nat.le_of_ble_eq_true rfl))
local macro_rules | `(tactic| walk_at "lk") => `(tactic| first | assumption | (rw [lookup_putF, if_pos rfl]) | (rw [lookup_putF, if_neg (by decide +kernel)]; walk_at "lk"))
local macro_rules | `(tactic| walk_at "cls") => `(tactic| first | assumption)
/-- one turn of a reading -/
local macro_rules | `(tactic| walk_at "rd") => `(tactic| with_reducible first
  | (refine r_seq ?_; fail_if_success (refine r_ifS ?_))
  | refine r_asg ?_
  | refine r_gName ?_
  | (refine' r_var ?hv ?_; (case hv => with_unfolding_all exact rfl))
  | refine r_c ?_
  | refine r_op ?_
  | refine r_I0 ?_
  | (refine' r_I ?hc ?_; (case hc => walk_at "side"))
  | refine r_add ?_
  | refine r_sub ?_
  | refine r_eqI ?_
  | refine r_neI ?_
  | (refine' r_ixL ?hp ?he ?_; (case hp => walk_at "hp"); (case he => with_unfolding_all exact rfl))
  | (refine' r_ixT ?hp ?he ?_; (case hp => walk_at "hp"); (case he => with_unfolding_all exact rfl))
  | refine r_cons ?_
  | refine r_nil ?_
  | refine r_CB ?_
  | refine r_call ?_
  | refine r_test ?_
  | refine r_tB ?_
  | refine r_bl ?_
  | refine r_in ?_
  | refine Or.inl (r_in1 ?_)
  | refine r_in1 ?_
  | refine r_in2 ?_
  | (refine' r_lenL ?hp ?_; (case hp => walk_at "hp"))
  | (refine' r_lenT ?hp ?_; (case hp => walk_at "hp"))
  | refine r_ifS ?_
  | refine r_and ?_
  | refine r_or ?_
  | refine r_not ?_
  | refine r_andV ?_
  | refine r_orV ?_
  | refine r_notV ?_
  | refine r_ifE ?_
  | refine r_ret ?_
  | refine r_next ?_
  | refine r_drop ?_
  | refine r_gSub ?_
  | (refine' r_setL ?hp ?he ?_; (case hp => walk_at "hp"); (case he => with_unfolding_all exact rfl))
  | (refine' r_aug ?he ?_; (case he => with_unfolding_all exact rfl))
  | refine r_augS ?_
  | refine r_ip ?_
  | refine r_tup ?_
  | refine r_lst ?_
  | refine r_tFld ?_
  | (refine' r_fld ?hc ?hn ?hx ?he ?_; (case hx => walk_at "hp"); (case hc => walk_at "cls"); (case hn => walk_at "cls"); (case he => walk_at "lk"))
  | (refine' r_put ?hc ?hn ?hx ?hl ?_; (case hx => walk_at "hp"); (case hc => walk_at "cls"); (case hn => walk_at "cls"); (case hl => walk_at "pl"))
  | refine r_sl ?_
  | refine r_noP ?_
  | refine r_part ?_
  | refine r_un ?_
  | refine r_U ?_
  | refine r_Bm ?_
  | refine r_cont ?_
  | refine r_brk ?_
  | refine r_isNn ?_
  | refine r_isNi ?_
  | refine r_isNr ?_
  | refine r_notNn ?_
  | refine r_notNi ?_
  | refine r_notNr ?_
  | refine r_chain ?_
  | refine r_sFld ?_
  | refine r_make ?_
  | refine r_yes ?_
  | refine r_lc ?_
  | refine r_isiI true (by decide +kernel) ?_
  | refine r_isiI false (by decide +kernel) ?_
  | refine r_for ?_
  | refine r_iR1 ?_
  | refine r_iR2 ?_
  | refine r_iL ?_
  | refine r_tMeth ?_
  | (refine' r_meth ?hx ?hl ?_; (case hx => walk_at "hp"); (case hl => walk_at "no"))
  | refine r_iT ?_
  | refine iteT ?_
  | refine r_nF ?_
  | refine r_nT ?_
  | refine iteF ?_)
local macro_rules | `(tactic| walk_at "rdi") => `(tactic| with_reducible (refine r_seq ?_; refine r_ifS ?_))

/-! ### the law's draws -/
def spDraw : Sp := fun vs H Q _ => ∃ (p q : Addr) (lim : Int), vs = [.ref p, .int lim] ∧ SrcAt H p q ∧ 0 < lim ∧ lim < 2 ^ 200 ∧
  ∀ (r : Int) (H' : Hp), 0 ≤ r → r < lim → SrcAt H' p q → But p H H' → Q (.int r) H'
section
variable {P : Program} {w : World} {K : PySem.W.Frag} {mg : Str → Option Value} {base : Heap} {a : Adr}
theorem ok__law_draw (T : Txt K mg a) : FnOk P w K mg base CX0 1 a.a__law_draw a.d__law_draw ["_law_source_here", "_law_limit"] spDraw := by
  refine T.F__law_draw.ok sc__law_draw (fun vs H Q E h => ?_) (fun cdv A outer s H vs Q E hr h => ?_)
  · obtain ⟨p, q, lim, rfl, _⟩ := h
    rfl
  · obtain ⟨p, q, lim, rfl, ⟨cs, i, big, cnt, st, h1, h2, h3, hi, hb, hl⟩, hl0, hl1, k⟩ := h
    refine ⟨_, (pss_cons (ps_augS (pv 0) pe_int gt_list pe_int ip_add set_list)
 (pss_cons (ps_if (PW.pt (pw_and (pt_cmpR op_eq (pe_ix ix_list (pv 0) pe_int (fun _ _ => rfl)) pe_int (nomark _)) (pw_and1 (pt_cmpR op_lt (pe_ix ix_list (pv 0) pe_int (fun _ _ => rfl)) (pe_callB call_len_seq (by rfl) T.n_len (by decide +kernel) (pa_cons (pe_ix ix_list (pv 0) pe_int (fun _ _ => rfl)) pa_nil)) (nomark _))))) (pss_cons (ps_set (i := 2) sc__law_draw.nd rfl (Or.inl rfl) (pe_ix ix_list (pe_ix ix_list (pv 0) pe_int (fun _ _ => rfl)) (pe_ix ix_list (pv 0) pe_int (fun _ _ => rfl)) (fun _ _ => rfl)))
 (pss_cons (ps_augS (pv 0) pe_int gt_list pe_int ip_add set_list)
 (pss_one (ps_if (pt_cmpR op_ge (pv 2) (pe_powN (z := 1000000000000000000) ⟨by decide, by decide, by decide⟩ (by decide +kernel)) (nomark _)) (pss_one (ps_asg (pv 2) (pg_sub (pv 0) pe_int set_list)))
 (pss_one (ps_asg (pe_op op_modN (pe_callTy call_int1 (by rfl) T.n_int (by decide +kernel) (pa_cons (pe_op op_add (pe_op op_add (pe_op op_mul (pe_ix ix_list (pv 0) pe_int (fun _ _ => rfl)) pe_int) (pe_op op_mul (pv 2) pe_int)) pe_int) pa_nil)) pe_int) (pg_sub (pv 0) pe_int set_list)))))))
 pss_nil)
 (pss_cons (ps_if (pt_cmpR op_gt (pe_ix ix_list (pv 0) pe_int (fun _ _ => rfl)) pe_int (nomark _)) (pss_cons (ps_set (i := 3) sc__law_draw.nd rfl (Or.inl rfl) (pe_op op_modN (pe_callTy call_int1 (by rfl) T.n_int (by decide +kernel) (pa_cons (pe_ix ix_list (pv 0) pe_int (fun _ _ => rfl)) pa_nil)) (pv 1)))
 (pss_cons (ps_asg (pe_op op_fdivW (pe_ix ix_list (pv 0) pe_int (fun _ _ => rfl)) (pv 1)) (pg_sub (pv 0) pe_int set_list))
 (pss_one (ps_ret (pv 3)))))
 pss_nil)
 (pss_cons (ps_set (i := 4) sc__law_draw.nd rfl (Or.inl rfl) (pe_op op_modN (pe_callTy call_int1 (by rfl) T.n_int (by decide +kernel) (pa_cons (pe_op op_mul (pe_op op_add (pe_op op_add (pe_ix ix_list (pv 0) pe_int (fun _ _ => rfl)) (pe_op op_mul pe_int (pe_ix ix_list (pv 0) pe_int (fun _ _ => rfl)))) pe_int) pe_int) pa_nil)) pe_int))
 (pss_cons (ps_set (i := 5) sc__law_draw.nd rfl (Or.inl rfl) (pe_op op_modN (pe_callTy call_int1 (by rfl) T.n_int (by decide +kernel) (pa_cons (pe_op op_mul (pv 4) (pe_op op_add (pe_op op_fdivW (pv 4) pe_int) pe_int)) pa_nil)) pe_int))
 (pss_cons (ps_set (i := 6) sc__law_draw.nd rfl (Or.inl rfl) (pe_op op_modN (pe_callTy call_int1 (by rfl) T.n_int (by decide +kernel) (pa_cons (pe_op op_mul (pv 5) (pe_op op_add (pe_op op_fdivW (pv 5) pe_int) pe_int)) pa_nil)) pe_int))
 (pss_one (ps_ret (pe_op op_modN (pe_callTy call_int1 (by rfl) T.n_int (by decide +kernel) (pa_cons (pe_op op_fdivW (pv 6) pe_int) pa_nil)) (pv 1)))))))))), ?_⟩
    -- src[3] += 1
    repeat walk_at "rd"
    with_reducible refine seq_with (fun σ H' => ∃ (i big cnt st : Int) (v : Option V), σ = [some (.ref p), some (.int lim), v, none, none, none, none] ∧ H' p = some (.lst [.ref q, .int i, .int big, .int cnt, .int st]) ∧ H' q = some (.lst (cs.map V.int)) ∧ But p H H' ∧ 0 ≤ i ∧ 0 ≤ big) ?_ (fun rest => ?_)
    · clear h1 h2 hi hb
      rintro σ H' ⟨i, big, cnt, st, v, rfl, hp, hq, bt, hi, hb⟩
      walk_at "rdi"
      repeat walk_at "rd"
      refine ite_d (fun hc => ?_) (fun hc => ?_)
      · repeat walk_at "rd"
        exact k _ _ (fmod_nn hl0) (fmod_lt hl0) ⟨cs, i, _, cnt, st, upd_same, (upd_ne h3).trans hq, h3, hi, Int.ediv_nonneg hb (by omega), hl⟩ (bt.trans But.upd)
      · repeat walk_at "rd"
        exact k _ _ (fmod_nn hl0) (fmod_lt hl0) ⟨cs, i, _, cnt, st, hp, hq, h3, hi, hb, hl⟩ bt
    · have nq : H q ≠ none := by rw [h2]; intro z; cases z
      have hp1 : upd H p (HO.lst ([V.ref q, V.int i, V.int big, V.int cnt, V.int st].set (Int.toNat 3) (V.int (cnt + 1)))) p = some (.lst [.ref q, .int i, .int big, .int (cnt + 1), .int st]) := upd_same
      have hq1 : upd H p (HO.lst ([V.ref q, V.int i, V.int big, V.int cnt, V.int st].set (Int.toNat 3) (V.int (cnt + 1)))) q = some (.lst (cs.map V.int)) := (upd_ne h3).trans h2
      have bt1 : But p H (upd H p (HO.lst ([V.ref q, V.int i, V.int big, V.int cnt, V.int st].set (Int.toNat 3) (V.int (cnt + 1))))) := But.upd
      generalize upd H p (HO.lst ([V.ref q, V.int i, V.int big, V.int cnt, V.int st].set (Int.toNat 3) (V.int (cnt + 1)))) = H1 at hp1 hq1 bt1 ⊢
      clear h1 h2
      have no : ∀ (v : Option V), _ := fun v => rest [some (.ref p), some (.int lim), v, none, none, none, none] H1 ⟨i, big, cnt + 1, st, v, rfl, hp1, hq1, bt1, hi, hb⟩
      repeat walk_at "rd"
      refine ite_d (fun hc => ?_) (fun hc => ?_)
      · repeat walk_at "rd"
        refine ite_d (fun hc2 => ?_) (fun hc2 => ?_)
        · obtain ⟨c, hc3, _⟩ := at_nat (ns := cs) hi hc2
          repeat walk_at "rd"
          refine r_ixL hq1 hc3 ?_
          repeat walk_at "rd"
          refine ite_d (fun hc4 => ?_) (fun hc4 => ?_)
          · repeat walk_at "rd"
            exact rest _ _ ⟨i + 1, c, cnt + 1, st, _, rfl, upd_same, (upd_ne h3).trans ((upd_ne h3).trans hq1), (bt1.trans But.upd).trans But.upd, by omega, by omega⟩
          · repeat walk_at "rd"
            exact rest _ _ ⟨i + 1, big, cnt + 1, _, _, rfl, upd_same, (upd_ne h3).trans ((upd_ne h3).trans hq1), (bt1.trans But.upd).trans But.upd, by omega, by omega⟩
        · ((repeat walk_at "rd"); exact no none)
      · ((repeat walk_at "rd"); exact no none)

def spBig : Sp := fun vs H Q _ => ∃ (p q : Addr) (lim : Int), vs = [.ref p, .int lim] ∧ SrcAt H p q ∧ 0 < lim ∧
  ∀ (r : Int) (H' : Hp), 0 ≤ r → r < lim → SrcAt H' p q → But p H H' → Q (.int r) H'
end

/-! ### the machine's numbers, its times, whether a thing is an int -/
/-- o, l, g of a machine, at t -/
structure NumAt (H : Hp) (t : Addr) (o l g : Int) : Prop where
  at_ : H t = some (.tup [.int o, .int l, .int g])
  o0 : 0 ≤ o
  o9 : o ≤ 1000000000
  l0 : 0 ≤ l
  l9 : l ≤ 1000000000
  g1 : 1 ≤ g
  g9 : g ≤ 1000000000
  pos : 0 < 2 * o + l
theorem NumAt.keep {H H' : Hp} {t : Addr} {o l g : Int} (N : NumAt H t o l g) (h : H' t = H t) : NumAt H' t o l g := { N with at_ := h.trans N.at_ }
def spNumbers : Sp := fun vs H Q _ => ∃ (p q : Addr), vs = [.ref p] ∧ SrcAt H p q ∧ ∀ (t : Addr) (o l g : Int) (H' : Hp), NumAt H' t o l g → H t = none → SrcAt H' p q → But p H H' → Q (.ref t) H'
def gapOf (o g : Int) : Int := if g > o then g else o
def spSource (K : PySem.W.Frag) : Sp := fun vs H Q _ => ∃ (b : Addr) (ns : List Int), vs = [.ref b] ∧ SqL K H b (ns.map V.int) ∧ ns.length ≤ 63 ∧ ∀ (p q : Addr) (H' : Hp), SrcAt H' p q → H p = none → H q = none → Same H H' → Q (.ref p) H'
def spWide : Sp := fun vs H Q _ => ∃ (p q : Addr) (lim : Int), vs = [.ref p, .int lim] ∧ SrcAt H p q ∧ 0 < lim ∧ lim < 2 ^ 200 ∧ ∀ (r : Int) (H' : Hp), 0 ≤ r → r < lim → SrcAt H' p q → But p H H' → Q (.int r) H'
section
variable {P : Program} {w : World} {K : PySem.W.Frag} {mg : Str → Option Value} {base : Heap} {a : Adr}
theorem ok__law_source (T : Txt K mg a) : FnOk P w K mg base CX0 1 a.a__law_source a.d__law_source ["_law_script"] (spSource K) := by
  refine T.F__law_source.ok sc__law_source (fun vs H Q E h => ?_) (fun cdv A outer s H vs Q E hr h => ?_)
  · obtain ⟨i, j, rfl, _⟩ := h
    rfl
  · obtain ⟨b, ns, rfl, hS, hl, k⟩ := h
    refine ⟨_, (pss_one (ps_ret (pe_lst (pa_cons (pe_lc (own := [("_law_cell", 1)]) (g := gName 1) (tt := tYes) rfl sc__law_source.nd (pi_list (pe_slice sl_list (pv 0) po_none (po_some pe_int))) (blkOk_by (own := [("_law_cell", 1)]) (N := ["_law_script", "_law_cell"]) (sc := defScope s__law_source) (by decide +kernel)) (fun _ _ _ _ _ => (pg_name (i := 1) sc__law_source.nd rfl (Or.inl rfl))) (fun _ _ _ _ _ => pts_nil) (fun _ _ _ _ _ => (pe_callTy call_int1 (by rfl) T.n_int (by decide +kernel) (pa_cons (pv 1) pa_nil)))) (pa_cons pe_int (pa_cons pe_int (pa_cons pe_int (pa_cons pe_int pa_nil)))))))), ?_⟩
    repeat walk_at "rd"
    refine r_slL hS (fun p0 H1 n0 s1 e0 => ?_)
    rw [cut_take (by rw [List.length_map]; omega)] at e0
    refine ⟨p0, rfl, ⟨_, SqL.of e0⟩, fun D hD => lc_list (K := K) (a := p0) (xs := ns.map V.int) (fun i H' => H' D = some (.lst ((ns.take i).map V.int)) ∧ H' p0 = some (.lst (ns.map V.int)) ∧ Same H H') ?_ (fun i H' _ h => SqL.of h.2.1) ?_ ?_⟩
    · exact ⟨upd_same, (upd_ne (ne_of_none e0 hD)).trans e0, s1.trans (Same.new hD)⟩
    · rintro i x H2 hi ⟨h1, h2, h3⟩
      obtain ⟨z, hz, rfl⟩ := int_of_get hi
      repeat walk_at "rd"
      refine ⟨rfl, ?_⟩
      repeat walk_at "rd"
      have nD : H D = none := s1.free hD
      refine ⟨_, h1, small1000 (by rw [List.length_map, List.length_take]; omega), ?_, (upd_ne (ne_of_none e0 hD)).trans h2, h3.over nD h1⟩
      rw [upd_same, take_more hz, List.map_append]
      rfl
    · rintro H2 ⟨h1, h2, h3⟩
      repeat walk_at "rd"
      refine new_at (Nat.le_of_ble_eq_true rfl) (fun p H3 np s3 e3 => ?_)
      rw [List.length_map, List.take_length] at h1
      exact k p D _ ⟨ns, 0, 0, 0, 7, e3, s3 _ _ h1, ne_of_none h1 np, by decide, by decide, hl⟩ (h3.free np) (s1.free hD) (h3.trans s3)
end

/-! ### integers -/
/-- whether the value is an int and no bool -/
def IntV (K : PySem.W.Frag) (H : Hp) (x : V) (b : Bool) : Prop := ∃ (t : Value) (b1 b2 : Bool), TyX K H x t ∧ PySem.W.kitOne K t (.type "int") = some b1 ∧ PySem.W.kitOne K t (.type "bool") = some b2 ∧ b = (b1 && !b2)
theorem IntV.int {K : PySem.W.Frag} {H : Hp} {i : Int} : IntV K H (.int i) true := ⟨_, true, false, .base (.int i), kit_ty (by decide +kernel), kit_ty (by decide +kernel), rfl⟩
theorem r_isi {K : PySem.W.Frag} {H : Hp} {Q : VK} {x : V} {t : Value} {n : String} {b : Bool} (ty : TyX K H x t) (h : PySem.W.kitOne K t (.type n) = some b) (q : Q (.bl b) H) : rIsi K [x, .ty n] H Q := ⟨_, _, t, .type n, b, rfl, .ty n, ty, h, q⟩
def spIsInteger (K : PySem.W.Frag) : Sp := fun vs H Q _ => ∃ (x : V) (b : Bool), vs = [x] ∧ IntV K H x b ∧ Q (.bl b) H
def spBetween (K : PySem.W.Frag) : Sp := fun vs H Q _ => ∃ (x : V) (lo hi : Int) (b : Bool), vs = [x, .int lo, .int hi] ∧ IntV K H x b ∧ (b = false → Q (.bl false) H) ∧ (b = true → ∃ i, x = .int i ∧ Q (.bl (decide (lo ≤ i ∧ i ≤ hi))) H)
theorem r_between {K : PySem.W.Frag} {H : Hp} {Q : VK} {E : XK} {i lo hi : Int} (q : Q (.bl (decide (lo ≤ i ∧ i ≤ hi))) H) : spBetween K [.int i, .int lo, .int hi] H Q E := ⟨_, lo, hi, true, rfl, IntV.int, (fun z => Bool.noConfusion z), fun _ => ⟨i, rfl, q⟩⟩
section
variable {P : Program} {w : World} {K : PySem.W.Frag} {mg : Str → Option Value} {base : Heap} {a : Adr}
theorem ok_is_integer (T : Txt K mg a) : FnOk P w K mg base CX0 1 a.a_is_integer a.d_is_integer ["thing"] (spIsInteger K) := by
  refine T.F_is_integer.ok sc_is_integer (fun vs H Q E h => ?_) (fun cdv A outer s H vs Q E hr h => ?_)
  · obtain ⟨x, b, rfl, _⟩ := h
    rfl
  · obtain ⟨x, b, rfl, ⟨t, b1, b2, ty, h1, h2, rfl⟩, k⟩ := h
    refine ⟨_, (pss_one (ps_ret (pe_and (pe_callB call_isi (by rfl) T.n_isinstance (by decide +kernel) (pa_cons (pv 0) (pa_cons (pe_bltn (v := .ty "int") (u := .type "int") (by rfl) T.n_int (by decide +kernel) rfl) pa_nil))) (pe_one (pe_not (pe_callB call_isi (by rfl) T.n_isinstance (by decide +kernel) (pa_cons (pv 0) (pa_cons (pe_bltn (v := .ty "bool") (u := .type "bool") (by rfl) T.n_bool (by decide +kernel) rfl) pa_nil)))))))), ?_⟩
    repeat walk_at "rd"
    refine r_isi ty h1 ?_
    refine ⟨b1, rfl, ?_⟩
    cases b1 with
    | false => exact iteF k
    | true =>
      repeat walk_at "rd"
      refine r_isi ty h2 ?_
      exact ⟨b2, rfl, k⟩
theorem ok_is_between (T : Txt K mg a) : FnOk P w K mg base CX0 2 a.a_is_between a.d_is_between ["thing", "low", "high"] (spBetween K) := by
  refine T.F_is_between.ok sc_is_between (fun vs H Q E h => ?_) (fun cdv A outer s H vs Q E hr h => ?_)
  · obtain ⟨x, lo, hi, b, rfl, _⟩ := h
    rfl
  · obtain ⟨x, lo, hi, b, rfl, iv, k0, k1⟩ := h
    refine ⟨_, (pss_one (ps_ret (pe_and (pe_call (ok_is_integer T) (hr.mono (by decide)) (by rfl) T.g_is_integer T.F_is_integer.kp T.b_is_integer .nil pass0 (pa_cons (pv 0) pa_nil)) (pe_one (pe_chain op_le op_le (pv 1) (pv 0) (pv 2)))))), ?_⟩
    repeat walk_at "rd"
    refine ⟨x, b, rfl, iv, ?_⟩
    refine ⟨b, rfl, ?_⟩
    cases b with
    | false => exact iteF (k0 rfl)
    | true =>
      obtain ⟨i, rfl, q⟩ := k1 rfl
      repeat walk_at "rd"
      refine ite_d (fun h1 => ?_) (fun h1 => ?_)
      · repeat walk_at "rd"
        rw [decide_eq_decide.mpr (show lo ≤ i ∧ i ≤ hi ↔ i ≤ hi from ⟨fun h => h.2, fun h => ⟨h1, h⟩⟩)] at q
        exact q
      · rw [decide_eq_false (show ¬ (lo ≤ i ∧ i ≤ hi) from fun h => h1 h.1)] at q
        exact q
end

/-! ### own rules: C(..) by a local name, x op y by an own def, targets in a tuple -/
/-- the slot n holds the class at C: a new instance -/
def tMakeL (n : Nat) (C : Addr) (sp : Sp) (dvs : List V) (E : XK) (t : TA) : TE := fun σ H Q => σ[n]? = some (some (.ref C)) ∧ tMake C sp dvs E t σ H Q
/-- x op y, x an instance with a dict, y of a known type -/
def rOwnD (K : PySem.W.Frag) (C : Addr) (sp : Sp) (E : XK) : R2 := fun x y H Q => ∃ m dx fs tb, x = .ref m ∧ H m = some (.ins C dx fs) ∧ TyX K H y tb ∧ PySem.W.notFirst K C tb = true ∧ sp [x, y] H Q E
section
variable {X : Cx} {CX : CXT} {k i : Nat} {f C : Addr} {fd : FuncData} {ps : List Str} {sp : Sp} {dvs : List V} {ds : List Value} {E : XK} {x : Str} {p pos : Pos} {e : Expr} {es : List Expr} {t : TA}
theorem pe_makeL (M : Mk X.K C f) (F : FnOk X.prog X.w X.K X.mg X.base CX k f fd ps sp) (hr : Room (k + 1) X.A) (hN : X.N[i]? = some x) (hv : Vis X.env.scope x) (hb : Binds X.K fd ps ds) (hd : Vals dvs ds) (hx : Passes CX X E) (ha : PA X (e :: es) t)
    (hdb : (x == ("__debug__" : Str)) = false := by decide) (hcd : (x == ("__classdict__" : Str)) = false := by decide)
    (he : starEach (e :: es) X.env = (false, eval e X.env) :: starEach es X.env := by rfl) (hpl : (backTo pos (starEach es X.env)).any (·.1) = false := by rfl) : PE X (.Call (.Name x p) (e :: es) [] pos) (tMakeL i C sp dvs E t) := by
  refine ⟨fun pins s σ H Q I h => wpAny_Call_Name_kw (thn ((pe_var (pos := p) hN hv hdb hcd).run pins s σ H (fun v H1 => v = .ref C ∧ H1 = H) I ⟨.ref C, h.1, rfl, rfl⟩) fun u s1 g => ?_)⟩
  obtain ⟨v, H1, J, r1, rfl, rfl⟩ := g
  cases r1
  exact PySem.W.callWith_K (h₀ := X.base) J.ok.mod.kin M.kp (thn (ha.run pos pins s1 σ _ _ J h.2) fun us s2 ⟨vs, H2, J2, r, q⟩ => ⟨J2.kIn, run_make M F hr hb hd hx J2 r q⟩) he hpl
theorem op_ownD {op : CmpOp} {g : Addr} {n : Nat} (hop : ∀ a b, compareOp op a b = richCompare op a b) (hs : PySem.W.findIn X.K (.ref C) (cmpInfo op).2.1 = some (some (.ref g))) (hf : PySem.W.isFn X.K (.ref g) = true) (F : FnR X.prog X.w X.K X.mg X.base CX n g sp)
    (hr : Room n X.A) (hx : Passes CX X E) : OpR X (compareOp op) (rOwnD X.K C sp E) := by
  intro pins s σ H x y v u Q I rx ry h
  obtain ⟨m, dx, fs, tb, rfl, hm, ty, hn, q⟩ := h
  obtain rfl : v = Value.ref m := rx
  obtain ⟨mA, J, _⟩ := ins_get I.hok hm
  obtain ⟨od, J, _⟩ := J.look
  obtain ⟨Pk, Z, pz, _⟩ := kit_of I ry ty
  obtain ⟨mF, hF⟩ := I.fr
  rw [hop]
  refine PySem.W.cmp_K (op := op) (tb := tb) hr.units0 hF I.ok.mod.kin J (Z.ty _ _ I.kIn pz) hn hs hf ?_
  refine wpAny_mono (wpAny_call (run_fnR (us := [.ref m, u]) (vs := [.ref m, y]) F hr hx I (.cons rfl (.cons ry .nil)) q)) (fun w s' z => ?_) fun _ _ x => x
  exact (let ⟨z', H', I', rz, qz⟩ := z; SlX.cmpback rz ⟨z', H', I', rz, qz⟩)
end
theorem kit_self {K : PySem.W.Frag} {C : Addr} : PySem.W.kitOne K (.ref C) (.ref C) = some true := by
  unfold PySem.W.kitOne
  rw [if_pos (by simp)]
theorem kit_no {K : PySem.W.Frag} {C : Addr} {n : String} (h1 : PySem.W.isClsIn K C = true) (h2 : PySem.W.typeIn K (.ref C) = some (.type "type")) (h3 : PySem.W.subIn K (.type n) (.ref C) = some false) : PySem.W.kitOne K (.type n) (.ref C) = some false := by
  have e : ((PySem.W.clsIn K C).isSome && PySem.W.typeIn K (.ref C) == some (.type "type")) = true := by
    rw [show (PySem.W.clsIn K C).isSome = true from h1, h2]
    rfl
  unfold PySem.W.kitOne
  rw [if_neg (by simp)]
  show (if ((PySem.W.clsIn K C).isSome && PySem.W.typeIn K (.ref C) == some (.type "type")) = true then PySem.W.subIn K (.type n) (.ref C) else none) = some false
  rw [if_pos e]
  exact h3
theorem nf_self {K : PySem.W.Frag} {C : Addr} : PySem.W.notFirst K C (.ref C) = true := by
  unfold PySem.W.notFirst
  simp
theorem nf_no {K : PySem.W.Frag} {C : Addr} {n : String} (h3 : PySem.W.subIn K (.type n) (.ref C) = some false) : PySem.W.notFirst K C (.type n) = true := by
  unfold PySem.W.notFirst
  rw [h3]
  simp
section
variable {K : PySem.W.Frag} {σ : St} {H : Hp} {Q : VK} {R : St → Hp → Prop} {n : Nat} {v : V} {vs : List V}
theorem r_gTup {t : TGs} {p : Addr} (h : H p = some (.tup vs)) (hl : vs.length = n) (q : t vs σ H R) : gTup K n t (.ref p) σ H R := ⟨p, vs, rfl, SqT.of h, hl, q⟩
theorem r_gCons {t : TG} {u : TGs} (h : t v σ H fun σ' H' => u vs σ' H' R) : gCons t u (v :: vs) σ H R := ⟨v, vs, rfl, h⟩
theorem r_gNil (h : R σ H) : gNil [] σ H R := ⟨rfl, h⟩
theorem r_nDT {c A B : Prop} [Decidable c] (hc : c) (h : B) : if (!decide c) = true then A else B := r_nD (fun z => absurd hc z) fun _ => h
theorem r_neB {a b : Bool} (q : Q (.bl (!decide (a = b))) H) : rNe (.bl a) (.bl b) H Q := ⟨rfl, by
  have e : decide (V.bl a = V.bl b) = decide (a = b) := by cases a <;> cases b <;> decide
  rw [e]; exact q⟩
theorem r_isB {a b : Bool} (q : Q (.bl (decide (a = b))) H) : rIsB (.bl a) (.bl b) H Q := ⟨a, b, rfl, rfl, q⟩
theorem r_notB {a b : Bool} (q : Q (.bl (!decide (a = b))) H) : rNotB (.bl a) (.bl b) H Q := ⟨a, b, rfl, rfl, q⟩
theorem r_dnew (k : ∀ p H', H p = none → Same H H' → H' p = some (.dK []) → Q (.ref p) H') : tDNewK σ H Q := new_of k
theorem r_makeL {C : Addr} {sp : Sp} {dvs : List V} {E : XK} {t : TA} (e : σ[n]? = some (some (.ref C))) (h : tMake C sp dvs E t σ H Q) : tMakeL n C sp dvs E t σ H Q := ⟨e, h⟩
theorem r_cmeth {C : Addr} {sp : Sp} {E : XK} {t : TA} (h : t σ H fun vs H2 => sp (.ref C :: vs) H2 Q E) : ClX.tCMeth C sp E (tC (.ref C)) t σ H Q := ⟨rfl, h⟩
theorem eq_ints {xs ys : List Int} : PyData.eqvAll (xs.map PyData.int) (ys.map PyData.int) = decide (xs = ys) := by
  induction xs generalizing ys with
  | nil => cases ys <;> rfl
  | cons x xs ih =>
    cases ys with
    | nil => rfl
    | cons y ys =>
      show (PyData.eqv (.int x) (.int y) && PyData.eqvAll (xs.map PyData.int) (ys.map PyData.int)) = _
      rw [ih]
      show ((x == y) && decide (xs = ys)) = _
      by_cases h : x = y
      · subst h; simp
      · simp [h]
theorem dp_ints (xs : List Int) : DpAll K H (xs.map V.int) (xs.map PyData.int) := by
  induction xs with
  | nil => exact .nil
  | cons x xs ih => exact .cons (.int x) ih
/-- == of two tuples of ints -/
theorem r_eqT {p q : Addr} {xs ys : List Int} (h1 : H p = some (.tup (xs.map V.int))) (h2 : H q = some (.tup (ys.map V.int))) (s1 : SeqAt.shaped (.tuple (xs.map PyData.int)) = true) (s2 : SeqAt.shaped (.tuple (ys.map PyData.int)) = true)
    (k : Q (.bl (decide (xs = ys))) H) : rEqD K (.ref p) (.ref q) H Q := ⟨_, _, .tup (SqT.of h1) (dp_ints xs), .tup (SqT.of h2) (dp_ints ys), s1, s2, by
  show Q (.bl (PyData.eqvAll (xs.map PyData.int) (ys.map PyData.int))) H
  rw [eq_ints]; exact k⟩
end

local macro_rules | `(tactic| walk_at "rd") => `(tactic| with_reducible first
  | (refine' r_gTup ?hp ?hl ?_; (case hp => walk_at "hp"); (case hl => with_unfolding_all exact rfl))
  | refine r_gCons ?_
  | refine r_gNil ?_
  | refine r_nDT rfl ?_
  | refine r_neB ?_
  | refine r_isB ?_
  | refine r_notB ?_
  | refine r_cmeth ?_
  | (refine' r_makeL ?he ?_; (case he => with_unfolding_all exact rfl))
  | refine r_isiB true (by decide +kernel) ?_
  | refine r_isiB false (by decide +kernel) ?_
  | refine r_callN ?_
  | refine r_andV ?_)

/-! ### enumerate over a tuple -/
open PySem.AutoSeq1 (wpAny_loadPart') in
theorem en_newT (p : Addr) (its : Array Value) (n : Nat) (dd : Option Addr) (sl : Array (Option Value)) :
    Meets (Builtin.«enumerate.__new__» ⟨[.type "enumerate", .ref p], []⟩) (fun _ R s => s.heap.get? p = some { cls := .type "tuple", dict := dd, data := .seq its n, slots := sl } ∧
      R (.ok (.ret (.ref (s.heap.push { cls := .type "tuple_iterator", data := .fields #[.ref p, .int 0 0] }).objs.size)))
        { s with heap := (s.heap.push { cls := .type "tuple_iterator", data := .fields #[.ref p, .int 0 0] }).push { cls := .type "enumerate", data := .fields #[.none, .bool false, .ref s.heap.objs.size, rawInt 0, .none, .none] } }) :=
  .of_wp fun prog w A R s h => by
    obtain ⟨hp, g, d, tk, os⟩ := s
    obtain ⟨hl, h⟩ := h
    have hsub := sub_enumerate
    have hT : Heap.IsTuple (Shared.heap ⟨hp, g, d, tk, os⟩) p its := ⟨_, hl, rfl, n, rfl⟩
    wp_walk using wpAny_loadPart' hl
    refine wpAny_stack_any fun st => wpAny_pure ?_
    split
    · rename_i c _ _ _ _ _
      cases (c == Value.type "enumerate") <;> (wp_walk using wpAny_loadPart' hl, wpAny_pyIter_tuple hT; exact ⟨_, rfl, h⟩)
    · wp_walk using wpAny_loadPart' hl, wpAny_pyIter_tuple hT
      exact ⟨_, rfl, h⟩
theorem en_callT {prog : Program} {w : World} {A : Around} {E : Value → Shared → Prop} {s : Shared} {p : Addr} {its : Array Value} {Q : Value → Shared → Prop} (hT : s.heap.IsTuple p its)
    (h : ∀ h', IsEnum h' (s.heap.objs.size + 1) s.heap.objs.size 0 .none → h'.IsTupleIter s.heap.objs.size p 0 → h'.objs.size = s.heap.objs.size + 2 →
      (∀ b o, s.heap.get? b = some o → h'.get? b = some o) → Q (.ref (s.heap.objs.size + 1)) { s with heap := h' }) : wpAny (model prog w) A (call (.type "enumerate") [.ref p]) Q E s := by
  obtain ⟨⟨c, dct, dt, sl⟩, hl, hc, n, hd⟩ := hT
  simp only at hc hd
  subst hc hd
  refine callType_new F.called_enumerate (by decide) (F.typeCall_enumerate_1 _) (F.newCall_enumerate_1 _) (fun obj => F.args_object_init_2 obj _) F.entry_enumerate_new (en_newT p its n dct sl) ⟨hl, ?_⟩
  generalize hg : s.heap.push { cls := .type "tuple_iterator", data := .fields #[.ref p, .int 0 0] } = g
  have hz : g.objs.size = s.heap.objs.size + 1 := by rw [← hg]; exact Heap.size_push ..
  show _ ∧ _
  rw [hz]
  have he : IsEnum (g.push { cls := .type "enumerate", data := .fields #[.none, .bool false, .ref s.heap.objs.size, rawInt 0, .none, .none] }) (s.heap.objs.size + 1) s.heap.objs.size 0 .none := by
    have q := Heap.get?_push_size g (o := { cls := .type "enumerate", data := .fields #[.none, .bool false, .ref s.heap.objs.size, rawInt 0, .none, .none] }) rfl
    rw [hz] at q
    exact q
  have hi : g.get? s.heap.objs.size = some { cls := .type "tuple_iterator", data := .fields #[.ref p, .int 0 0] } := by rw [← hg]; exact Heap.get?_push_size _ rfl
  refine ⟨⟨_, he, rfl⟩, h _ he ⟨_, Heap.get?_push_of_some _ hi, rfl, rfl⟩ (by rw [Heap.size_push, hz]) fun b o x => Heap.get?_push_of_some _ ?_⟩
  rw [← hg]
  exact Heap.get?_push_of_some _ x
/-- the tuple at a, each item in a new pair -/
def IteT (K : PySem.W.Frag) (a : Addr) : It :=
  ⟨fun i H => ∃ (xs : List V) (x : V), SqT K H a xs ∧ xs[i]? = some x, fun i H v H' => ∃ T x, v = .ref T ∧ H T = none ∧ H' = upd H T (.tup [.int (i : Nat), x]) ∧ ∀ xs, SqT K H a xs → xs[i]? = some x, fun i H => ∃ xs : List V, SqT K H a xs ∧ xs.length ≤ i⟩
theorem turn_enT {P : Program} {w : World} {K : PySem.W.Frag} {elts : List Expr} {kk : Nat} {tpos : Pos} (a e it : Addr) :
    Turn P w K (.Tuple elts kk tpos) (IteT K a) [e, it] e (fun i h => (∃ old, IsEnum h e it ((i : Nat) : Int) old) ∧ h.IsTupleIter it a i ∧ e ≠ it ∧ e ≠ a ∧ a ≠ it) where
  mem := by simp
  obj := fun i h st b hb => by
    obtain ⟨⟨old, he⟩, ⟨o, ho, hc, hd⟩, _⟩ := st
    rcases (by simpa using hb : b = e ∨ b = it) with z | z
    · rw [z]; exact ⟨_, he, fun v q => nomatch q⟩
    · rw [z]; exact ⟨o, ho, fun v q => by rw [hd] at q; cases q⟩
  keep := fun i h h' st k => let ⟨⟨old, he⟩, hi, hne⟩ := st; ⟨⟨old, k e (by simp) _ he⟩, hi.at fun o q => k it (by simp) o q, hne⟩
  item := by
    intro X hP hw hK hc i pins s σ H E I hf st hg
    subst hP hw hK
    obtain ⟨⟨old, he⟩, hit, hne, hea, hai⟩ := st
    obtain ⟨xs, x, hq, hx⟩ := hg
    obtain ⟨its, rv, p, hz⟩ := I.tuple hq
    obtain ⟨u, hu, ru⟩ := rv.get hx
    have hel : e < s.heap.objs.size := Heap.lt_size he
    have hil : it < s.heap.objs.size := by obtain ⟨_, q, _⟩ := hit; exact Heap.lt_size q
    have pT : s.heap.IsTuple a its.toArray := p
    have hlt : i < its.toArray.size := by
      have := (List.getElem?_eq_some_iff.mp hu).1
      simpa using this
    refine wpAny_pyNext_enum_itemD (Draws.tuple (A := X.A.in1) (show X.A.in1.handled = none from I.ok.hd hc) it a hai its.toArray) he ⟨hit, pT⟩ hlt hne (by simp [hne, hea]) fun v h' tk hv ho hst hT hsz hk => ?_
    have ev : v = u := by
      have q : its[i]? = some v := by simpa using hv
      rw [hu] at q
      exact (Option.some.inj q).symm
    subst ev
    refine ⟨_, rfl, wpAny_letOwnedTupleGo_enum (s := { s with heap := h', toks := tk + 1 }) ho fun h'' he' sb => ?_⟩
    have hT2 : h''.get? s.heap.objs.size = some { cls := .type "tuple", data := .seq #[.int i tk, v] } := (sb.2 _ (Nat.ne_of_gt hel)).trans hT
    have new : ObjOk X.prog X.w (upd H s.heap.objs.size (.tup [.int (i : Nat), x])) h'' s.heap.objs.size (.tup [.int (i : Nat), x]) :=
      ⟨by show 2 ≤ sizeLine; decide, [.int i tk, v], .cons ⟨_, rfl⟩ (.cons ru .nil), ⟨_, hT2, rfl, _, rfl⟩⟩
    have I1 : Inv X pins σ (upd H s.heap.objs.size (.tup [.int (i : Nat), x])) { s with heap := h'', toks := tk + 1 } :=
      I.turnedNew (ch := [e, it]) (fun b ob hb q => (sb.2 b (fun z => hb (by simp [z]))).trans (hk b ob (fun z => hb (by simp [z])) (fun z => hb (by simp [z])) q)) hf (Nat.le_refl _) new
    refine ⟨.ref s.heap.objs.size, _, I1, rfl, ⟨_, x, rfl, I.hok.fresh (Nat.le_refl _), rfl, fun ys hy => by rw [I.tuple_inj hy hq]; exact hx⟩, ⟨⟨v, ?_⟩, hst.1.at fun o q => (sb.2 it (Ne.symm hne)).trans q, hne, hea, hai⟩, fun b hb => ?_⟩
    · rw [show ((i + 1 : Nat) : Int) = (i : Int) + 1 by omega]; exact he'
    · have hb' : b < s.heap.objs.size := by
        rcases (by simpa using hb : b = e ∨ b = it) with z | z
        · rw [z]; exact hel
        · rw [z]; exact hil
      rw [upd_ne (Nat.ne_of_lt hb')]
      exact (hf b hb).1
  done := by
    intro X hP hw hK hc i pins s σ H E I hf st hg
    subst hP hw hK
    obtain ⟨⟨old, he⟩, hit, hne, hea, hai⟩ := st
    obtain ⟨xs, hq, hx⟩ := hg
    obtain ⟨its, rv, p, hz⟩ := I.tuple hq
    obtain ⟨f0, f1, f2, f3, f4, f5⟩ := hf it (by simp)
    have hl := rv.length
    have pT : s.heap.IsTuple a its.toArray := p
    unfold pyNext
    have hTy : s.TypeIs (.ref e) "enumerate" := ⟨_, he, rfl⟩
    refine wpAny_bind (wpAny_attempt (wpAny_callSpecial?_slot (name := Str.ofString "__next__") hTy F.slot_enumerate_next (wpAny_call_entry F.slot_enumerate_next hTy F.entry_enumerate_next ?_ (F.args_enumerate_next_1 _))))
    show wpAny _ _ (field (.ref e) 2 >>= _) _ _ _
    refine wpAny_bind (wpAny_field he rfl (x := .ref it) rfl ?_)
    refine wpAny_bind (wpAny_nextOf_tuple_end (I.ok.hd hc) hit pT (by simp; omega) fun h' x he' hx' => ?_)
    obtain ⟨o, ho, hcl⟩ := hx'
    refine wpAny_bind (wpAny_isInstance (T := "StopIteration") (b := true) ⟨o, ho, hcl⟩ isSubtype_stop ?_)
    exact wpAny_pure ⟨rfl, I.turned (t' := s.toks) (fun b o hb q => he' b o hb q) f0 f1 f3 f4 f5⟩
  self := fun A i s Q E st h => let ⟨⟨_, he⟩, _⟩ := st; wpAny_pyIter_enum he h
def iEnumS (K : PySem.W.Frag) (ta : TA) : TI := fun σ H R => ta σ H fun vs H1 => ∃ a xs, vs = [.ref a] ∧ ((SqL K H1 a xs ∧ R (Ite K a) H1) ∨ (SqT K H1 a xs ∧ R (IteT K a) H1))
theorem pi_enumS {X : Cx} {e : Expr} {ta : TA} {p pos tpos : Pos} {elts : List Expr} {kk : Nat} (hg : Gl X "enumerate") (hm : X.mg "enumerate" = none) (ha : PA X [e] ta) (hs : starEach [e] X.env = [(false, eval e X.env)] := by rfl) :
    PI X (.Tuple elts kk tpos) (.Call (.Name "enumerate" p) [e] [] pos) (iEnumS X.K ta) := by
  refine ⟨fun pins s σ H R I h => PyProof.Rows.Call_ (ld_blt I hg hm PyProof.Rows.boot_enumerate (PyProof.Rows.callWith_type1 (thn (ha.run pos pins s σ H _ I h) fun us s1 g => ?_) hs rfl))⟩
  obtain ⟨vs, H1, I1, r1, a, xs, rfl, g⟩ := g
  cases r1 with
  | cons r rr =>
    cases rr
    cases r
    have fresh : ∀ b ∈ [s1.heap.objs.size + 1, s1.heap.objs.size], s1.heap.objs.size ≤ b := fun b hb => by
      rcases (by simpa using hb : b = s1.heap.objs.size + 1 ∨ b = s1.heap.objs.size) with z | z <;> omega
    rcases g with ⟨hq, q⟩ | ⟨hq, q⟩
    · obtain ⟨its, rv, p', hz⟩ := I1.list hq
      refine call_enumerate_list p'.isList fun h' he hit hsz hk => wpAny_pyIter_enum he ?_
      exact ⟨s1.heap.objs.size + 1, [s1.heap.objs.size + 1, s1.heap.objs.size], _, _, H1, rfl, I1.kept (t' := s1.toks) hk, turn_enum a (s1.heap.objs.size + 1) s1.heap.objs.size, ⟨⟨.none, he⟩, hit, Nat.succ_ne_self _⟩, fun b hb => I1.fpOk (fresh b hb) (I1.hok.fresh (fresh b hb)), q⟩
    · obtain ⟨its, rv, p', hz⟩ := I1.tuple hq
      have pT : s1.heap.IsTuple a its.toArray := p'
      have hal : a < s1.heap.objs.size := by obtain ⟨o, ho, _⟩ := pT; exact Heap.lt_size ho
      refine en_callT pT fun h' he hit hsz hk => wpAny_pyIter_enum he ?_
      exact ⟨s1.heap.objs.size + 1, [s1.heap.objs.size + 1, s1.heap.objs.size], _, _, H1, rfl, I1.kept (t' := s1.toks) hk, turn_enT a (s1.heap.objs.size + 1) s1.heap.objs.size, ⟨⟨.none, he⟩, hit, Nat.succ_ne_self _, Nat.ne_of_gt (Nat.lt_succ_of_lt hal), Nat.ne_of_lt hal⟩, fun b hb => I1.fpOk (fresh b hb) (I1.hok.fresh (fresh b hb)), q⟩
theorem for_en {K : PySem.W.Frag} {a : Addr} {xs : List V} {g : TG} {tb : TS} {D : Ends} {σ : St} {H : Hp} (J : It) (Sq : Hp → List V → Prop) (hJ : J = Ite K a ∧ Sq = (fun H ys => SqL K H a ys) ∨ J = IteT K a ∧ Sq = (fun H ys => SqT K H a ys)) (Pv : Nat → St → Hp → Prop) (h0 : Pv 0 σ H) (hl : ∀ i σ H, i ≤ xs.length → Pv i σ H → Sq H xs)
    (hs : ∀ i x σ H T H', xs[i]? = some x → Pv i σ H → H T = none → H' = upd H T (.tup [.int (i : Nat), x]) → g (.ref T) σ H' fun σ2 H2 => tb { D with nx := Pv (i + 1), ct := Pv (i + 1), bk := D.nx } σ2 H2) (hd : ∀ σ H, Pv xs.length σ H → D.nx σ H) :
    ∃ W : Nat → Nat → St → Hp → Prop, (∃ m, W 0 m σ H) ∧ ∀ i m σ H, W i m σ H →
      (J.stop i H ∧ D.nx σ H) ∨ (J.go i H ∧ ∃ N : St → Hp → Prop, (∀ σ' H', N σ' H' → ∃ m', m' < m ∧ W (i + 1) m' σ' H') ∧ ∀ x H', J.yld i H x H' → g x σ H' fun σ2 H2 => tb { D with nx := N, ct := N, bk := D.nx } σ2 H2) := by
  refine ⟨fun i m σ H => m = xs.length - i ∧ i ≤ xs.length ∧ Pv i σ H, ⟨xs.length, by simp, Nat.zero_le _, h0⟩, ?_⟩
  rintro i m σ H ⟨rfl, hi, pv⟩
  have sq := hl i σ H hi pv
  by_cases hlt : i < xs.length
  · have hx : xs[i]? = some xs[i] := List.getElem?_eq_getElem hlt
    have hgo : J.go i H := by
      rcases hJ with ⟨rfl, rfl⟩ | ⟨rfl, rfl⟩
      · exact ⟨xs, _, sq, hx⟩
      · exact ⟨xs, _, sq, hx⟩
    refine .inr ⟨hgo, Pv (i + 1), fun σ' H' q => ⟨xs.length - (i + 1), by omega, rfl, hlt, q⟩, fun x H' y => ?_⟩
    have hy : ∃ T z, x = .ref T ∧ H T = none ∧ H' = upd H T (.tup [.int (i : Nat), z]) ∧ xs[i]? = some z := by
      rcases hJ with ⟨rfl, rfl⟩ | ⟨rfl, rfl⟩
      · obtain ⟨T, z, e1, e2, e3, e4⟩ := y; exact ⟨T, z, e1, e2, e3, e4 xs sq⟩
      · obtain ⟨T, z, e1, e2, e3, e4⟩ := y; exact ⟨T, z, e1, e2, e3, e4 xs sq⟩
    obtain ⟨T, z, rfl, e2, rfl, e4⟩ := hy
    exact hs i z σ H T _ e4 pv e2 rfl
  · have e : i = xs.length := by omega
    subst e
    refine .inl ⟨?_, hd σ H pv⟩
    rcases hJ with ⟨rfl, rfl⟩ | ⟨rfl, rfl⟩
    · exact ⟨xs, sq, Nat.le_refl _⟩
    · exact ⟨xs, sq, Nat.le_refl _⟩
theorem r_enS {K : PySem.W.Frag} {r : Addr} {xs : List V} {ta : TA} {g : TG} {tb : TS} {D : Ends} {σ : St} {H : Hp} (ha : ∀ QA : List V → Hp → Prop, QA [.ref r] H → ta σ H QA) (hq : SqL K H r xs ∨ SqT K H r xs) (Pv : Nat → St → Hp → Prop) (h0 : Pv 0 σ H) (hl : ∀ i σ H', Pv i σ H' → Same H H')
    (hs : ∀ i x σ H T H', xs[i]? = some x → Pv i σ H → H T = none → H' = upd H T (.tup [.int (i : Nat), x]) → g (.ref T) σ H' fun σ2 H2 => tb { D with nx := Pv (i + 1), ct := Pv (i + 1), bk := D.nx } σ2 H2) (hd : ∀ σ H, Pv xs.length σ H → D.nx σ H) :
    iEnumS K ta σ H fun J H1 => ∃ W : Nat → Nat → St → Hp → Prop, (∃ m, W 0 m σ H1) ∧ ∀ i m σ H, W i m σ H →
      (J.stop i H ∧ D.nx σ H) ∨ (J.go i H ∧ ∃ N : St → Hp → Prop, (∀ σ' H', N σ' H' → ∃ m', m' < m ∧ W (i + 1) m' σ' H') ∧ ∀ x H', J.yld i H x H' → g x σ H' fun σ2 H2 => tb { D with nx := N, ct := N, bk := D.nx } σ2 H2) := by
  refine ha _ ⟨r, xs, rfl, ?_⟩
  rcases hq with hq | hq
  · exact .inl ⟨hq, for_en _ _ (.inl ⟨rfl, rfl⟩) Pv h0 (fun i σ H' _ pv => Same.seq (hl i σ H' pv) hq) hs hd⟩
  · refine .inr ⟨hq, for_en _ _ (.inr ⟨rfl, rfl⟩) Pv h0 (fun i σ H' _ pv => ?_) hs hd⟩
    have s := hl i σ H' pv
    rcases hq with (h | ⟨o, h⟩) | h
    · exact .inl (.inl (s _ _ h))
    · exact .inl (.inr ⟨o, s _ _ h⟩)
    · exact .inr h

/-! ### sum of a tuple of ints -/
def rSumT (K : PySem.W.Frag) : List V → Hp → VK → Prop := fun vs H Q => ∃ (a : Addr) (ns : List Int), vs = [V.ref a] ∧ SqT K H a (ns.map V.int) ∧ Q (.int ns.sum) H
open PySem.W PyProof.Rows in
theorem cr_sumT {X : Cx} (hc : X.calm = true) : CallR X (.builtin "sum") (rSumT X.K) := by
  intro pins s σ H vs us Q I r h
  obtain ⟨a, ns, rfl, hs, q⟩ := h
  obtain ⟨its, rv, hl, _⟩ := I.tuple hs
  rw [Vals.ref1 r]
  have hi := rv.ints
  obtain ⟨xs, hx⟩ := hi.allInts.items
  have hn : numsOf its.toArray.toList = ns := by rw [show its.toArray.toList = its from rfl, hi.numsOf]
  rw [hx] at hl hn
  rw [nums_intItems] at hn
  refine ktm_sumG (I.ok.hd hc) hl fun h' tk t' hk => ?_
  rw [preSum_eq, List.take_of_length_le (by simp), hn]
  exact ⟨.int _, H, I.kept hk, ⟨_, rfl⟩, q⟩

/-! ### lines k * D + j * G = t -/
abbrev L3 := Int × Int × Int
def Solves (ls : List L3) (D G : Int) : Prop := ∀ l, l ∈ ls → l.1 * D + l.2.1 * G = l.2.2
/-- what lines of sightings are like -/
def LineIn (l : L3) : Prop := 0 ≤ l.1 ∧ l.1 ≤ 199 ∧ 0 ≤ l.2.1 ∧ l.2.1 ≤ 200000000000000000 ∧ (l.1 = 0 → l.2.1 = 0) ∧ 0 ≤ l.2.2 ∧ l.2.2 ≤ 100000000000000000000 ∧ l.2.2 ≤ (l.1 + l.2.1 + 1) * 1000000000
def LinesIn (ls : List L3) : Prop := ∀ l, l ∈ ls → LineIn l
def Zero (l : L3) : Prop := l.1 = 0 ∧ l.2.1 = 0 ∧ l.2.2 = 0
def Unl (a b : L3) : Prop := a.1 * b.2.1 ≠ b.1 * a.2.1
def Par (ls : List L3) : Prop := ∀ a b, a ∈ ls → b ∈ ls → a.1 * b.2.1 = b.1 * a.2.1
def No (ls : List L3) : Prop := ∀ D G : Int, 1 ≤ D → 1 ≤ G → ¬ Solves ls D G
def pos1 (l : L3) : Bool := decide (l.1 > 0)
def gcdI (a b : Int) : Int := ((Nat.gcd a.natAbs b.natAbs : Nat) : Int)
structure OneOk (ls : List L3) (D G : Int) : Prop where
  sol : Solves ls D G
  d1 : 1 ≤ D
  g1 : 1 ≤ G
  up : ∃ l, l ∈ ls ∧ 0 < l.1
  only : Par (ls.filter pos1) → ∀ l, (ls.filter pos1).head? = some l → D ≤ l.2.1 / gcdI l.1 l.2.1 ∧ G ≤ l.1 / gcdI l.1 l.2.1
structure LineOk (ls : List L3) (D G e f : Int) (c : Option Int) : Prop where
  sol : Solves ls D G
  d1 : 1 ≤ D
  g1 : 1 ≤ G
  up : ∃ l, l ∈ ls ∧ 0 < l.1
  par : Par ls
  one : gcdI e f = 1
  step : ∀ l, l ∈ ls → l.1 * e + l.2.1 * f = 0
  free : c = none → e = 0 ∧ f = 1 ∧ G = 1
  many : ∀ m, c = some m → 2 ≤ m ∧ m ≤ 1000000000000000000000 ∧ 1 ≤ e ∧ e ≤ 1000000000000000000 ∧ -1000 ≤ f ∧ f ≤ 1000 ∧ D ≤ e ∧ 1 ≤ G + (m - 1) * f ∧ G + (m - 1) * f + f < 1
theorem solves_step {ls : List L3} {D G e f m : Int} (h : Solves ls D G) (hs : ∀ l, l ∈ ls → l.1 * e + l.2.1 * f = 0) : Solves ls (D + m * e) (G + m * f) := fun l hl => by
  have h1 := h l hl
  have h2 := hs l hl
  have e1 : l.1 * (D + m * e) + l.2.1 * (G + m * f) = (l.1 * D + l.2.1 * G) + m * (l.1 * e + l.2.1 * f) := by
    rw [Int.mul_add, Int.mul_add, Int.mul_add, Int.mul_left_comm l.1 m e, Int.mul_left_comm l.2.1 m f]
    omega
  rw [e1, h1, h2, Int.mul_zero]
  omega
/-- of two unlike lines: at most one pair -/
theorem cramer {a b : L3} {D G : Int} (h1 : a.1 * D + a.2.1 * G = a.2.2) (h2 : b.1 * D + b.2.1 * G = b.2.2) : a.2.2 * b.2.1 - b.2.2 * a.2.1 = D * (a.1 * b.2.1 - b.1 * a.2.1) ∧ a.1 * b.2.2 - b.1 * a.2.2 = G * (a.1 * b.2.1 - b.1 * a.2.1) := by
  obtain ⟨k, j, t⟩ := a
  obtain ⟨m, i, u⟩ := b
  dsimp only at *
  subst h1
  subst h2
  constructor
  · rw [Int.add_mul, Int.add_mul, Int.mul_sub]
    rw [show k * D * i = D * (k * i) by rw [Int.mul_comm k D, Int.mul_assoc], show m * D * j = D * (m * j) by rw [Int.mul_comm m D, Int.mul_assoc], show i * G * j = j * G * i by rw [Int.mul_comm (i * G) j, Int.mul_comm i G, ← Int.mul_assoc]]
    omega
  · rw [Int.mul_add, Int.mul_add, Int.mul_sub]
    rw [show k * (i * G) = G * (k * i) by rw [← Int.mul_assoc, Int.mul_comm], show m * (j * G) = G * (m * j) by rw [← Int.mul_assoc, Int.mul_comm], show k * (m * D) = m * (k * D) by rw [Int.mul_left_comm]]
    omega
theorem ediv_of {x d y : Int} (hd : d ≠ 0) (h : x = y * d) : x / d = y := by
  rw [h]; exact Int.mul_ediv_cancel y hd
/-- the common divisor of a line -/
structure Com (k j c p q : Int) : Prop where
  c1 : 1 ≤ c
  hk : k = c * p
  hj : j = c * q
  p1 : 1 ≤ p
  q0 : 0 ≤ q
  co : ∀ m i : Int, k * i = m * j → 0 ≤ m → ∃ n, m = p * n ∧ i = q * n ∧ 0 ≤ n
  gc : gcdI p q = 1
theorem com_of {k j : Int} (hk : 0 < k) (hj : 0 ≤ j) : Com k j (gcdI k j) (k / gcdI k j) (j / gcdI k j) := by
  obtain ⟨K, rfl⟩ : ∃ K : Nat, k = K := ⟨k.toNat, by omega⟩
  obtain ⟨J, rfl⟩ : ∃ J : Nat, j = J := ⟨j.toNat, by omega⟩
  have e : gcdI (K : Int) (J : Int) = ((Nat.gcd K J : Nat) : Int) := rfl
  rw [e]
  have hK : 0 < K := by omega
  obtain ⟨C, hC⟩ : ∃ C, Nat.gcd K J = C := ⟨_, rfl⟩
  have hC0 : 0 < C := by rw [← hC]; exact Nat.gcd_pos_of_pos_left _ hK
  obtain ⟨p, hp⟩ : C ∣ K := by rw [← hC]; exact Nat.gcd_dvd_left _ _
  obtain ⟨q, hq⟩ : C ∣ J := by rw [← hC]; exact Nat.gcd_dvd_right _ _
  have hco : Nat.gcd p q = 1 := by
    have h1 : Nat.gcd (C * p) (C * q) = C * Nat.gcd p q := Nat.gcd_mul_left C p q
    rw [← hp, ← hq, hC] at h1
    exact (Nat.eq_of_mul_eq_mul_left hC0 (show C * 1 = C * Nat.gcd p q by omega)).symm
  rw [hC, hp, hq]
  have e1 : ((C * p : Nat) : Int) / (C : Int) = p := by rw [Int.natCast_mul]; exact Int.mul_ediv_cancel_left _ (by omega)
  have e2 : ((C * q : Nat) : Int) / (C : Int) = q := by rw [Int.natCast_mul]; exact Int.mul_ediv_cancel_left _ (by omega)
  rw [e1, e2]
  have hp0 : 0 < p := by
    rcases Nat.eq_zero_or_pos p with h | h
    · rw [h] at hp; omega
    · exact h
  refine ⟨by omega, Int.natCast_mul .., Int.natCast_mul .., by omega, by omega, fun m i h m0 => ?_, by show ((Nat.gcd p q : Nat) : Int) = 1; rw [hco]; rfl⟩
  obtain ⟨M, rfl⟩ : ∃ M : Nat, m = M := ⟨m.toNat, by omega⟩
  rw [Int.natCast_mul, Int.natCast_mul, Int.mul_assoc, Int.mul_left_comm (M : Int)] at h
  have h2 : (p : Int) * i = M * q := Int.eq_of_mul_eq_mul_left (show (C : Int) ≠ 0 by omega) h
  have hi0 : 0 ≤ i := by
    by_cases c : 0 ≤ i
    · exact c
    · have h3 : (p : Int) * i < 0 := Int.mul_neg_of_pos_of_neg (by omega) (by omega)
      have h4 : 0 ≤ (M : Int) * q := Int.mul_nonneg (by omega) (by omega)
      omega
  obtain ⟨I, rfl⟩ : ∃ I : Nat, i = I := ⟨i.toNat, by omega⟩
  have h3 : p * I = M * q := by
    have : ((p * I : Nat) : Int) = ((M * q : Nat) : Int) := by rw [Int.natCast_mul, Int.natCast_mul]; exact h2
    exact Int.ofNat.inj this
  have h4 : p ∣ M := (Nat.Coprime.dvd_of_dvd_mul_right (n := q) hco ⟨I, h3.symm⟩)
  obtain ⟨n, rfl⟩ := h4
  refine ⟨n, Int.natCast_mul .., ?_, by omega⟩
  have h5 : p * I = p * (q * n) := by rw [h3, Nat.mul_assoc, Nat.mul_comm n q]
  have := Nat.eq_of_mul_eq_mul_left hp0 h5
  rw [this]; exact Int.natCast_mul ..
theorem No.zero {ls : List L3} {l : L3} (hl : l ∈ ls) (h1 : l.1 = 0) (h2 : l.2.1 = 0) (h3 : l.2.2 ≠ 0) : No ls := fun D G _ _ h => by
  have := h l hl
  rw [h1, h2, Int.zero_mul, Int.zero_mul] at this
  omega
/-- the lines that are not (0, 0, 0) -/
def nz (l : L3) : Bool := decide (l ≠ (0, 0, 0))
theorem nz_iff {l : L3} : nz l = true ↔ l ≠ (0, 0, 0) := decide_eq_true_iff
theorem solves_nz {ls : List L3} {D G : Int} : Solves (ls.filter nz) D G ↔ Solves ls D G := by
  constructor
  · intro h l hl
    by_cases c : nz l = true
    · exact h l (List.mem_filter.mpr ⟨hl, c⟩)
    · have : l = (0, 0, 0) := Classical.byContradiction fun z => c (nz_iff.mpr z)
      rw [this]
      show 0 * D + 0 * G = 0
      simp
  · exact fun h l hl => h l (List.mem_filter.mp hl).1
theorem No.nz {ls : List L3} (h : No (ls.filter nz)) : No ls := fun D G d g hs => h D G d g (solves_nz.mpr hs)
theorem fdiv_of {x d y : Int} (hd : d ≠ 0) (h : x = y * d) : x.fdiv d = y := by
  rw [h]; exact Int.mul_fdiv_cancel y hd
/-- two unlike lines: what is told by them -/
theorem two_pair {ls : List L3} {a b : L3} {D G : Int} (ha : a ∈ ls) (hb : b ∈ ls) (hu : a.1 * b.2.1 - b.1 * a.2.1 ≠ 0) (hs : Solves ls D G) : (a.2.2 * b.2.1 - b.2.2 * a.2.1).fdiv (a.1 * b.2.1 - b.1 * a.2.1) = D ∧ (a.1 * b.2.2 - b.1 * a.2.2).fdiv (a.1 * b.2.1 - b.1 * a.2.1) = G := by
  obtain ⟨h1, h2⟩ := cramer (hs a ha) (hs b hb)
  exact ⟨fdiv_of hu h1, fdiv_of hu h2⟩
/-- one line: the pairs on it -/
theorem line_low {p q t D G : Int} (hq : 0 < q) (h : p * D + q * G = t) (hD : 1 ≤ D) (hp : 1 ≤ p) : G ≤ (t - p) / q := by
  rw [Int.le_ediv_iff_mul_le hq, Int.mul_comm]
  have : p * 1 ≤ p * D := Int.mul_le_mul_of_nonneg_left hD (by omega)
  omega
theorem line_high {p q t D G : Int} (hq : 0 < q) (h : p * D + q * G = t) (hp : 1 ≤ p) (hG : (t - p) / q - p < G) : D ≤ q := by
  have h1 := Int.lt_ediv_add_one_mul_self (t - p) hq
  have h2 : ((t - p) / q + 1) * q ≤ (G + p) * q := Int.mul_le_mul_of_nonneg_right (by omega) (by omega)
  have h3 : (G + p) * q = q * G + p * q := by rw [Int.add_mul, Int.mul_comm G]
  have h4 : p * D < p * (q + 1) := by rw [Int.mul_add, Int.mul_one]; omega
  have := Int.lt_of_mul_lt_mul_left h4 (by omega)
  omega
/-- among p gaps in a row one fits -/
theorem line_hit {p q t D G : Int} (hp : 1 ≤ p) (hq : 0 < q) (h : p * D + q * G = t) (hD : 1 ≤ D) (hG : 1 ≤ G) (m : Int) (hm : (t - p) / q = m) : ∃ g, (if m - p > 0 then m - p else 0) < g ∧ g ≤ m ∧ (t - q * g) % p = 0 := by
  have hle := line_low hq h hD hp
  rw [hm] at hle
  -- G lifted by a multiple of p
  have h1 := Int.ediv_mul_le (m - G) (show p ≠ 0 by omega)
  have h2 := Int.lt_ediv_add_one_mul_self (m - G) (show 0 < p by omega)
  have h0 : 0 ≤ (m - G) / p := Int.ediv_nonneg (by omega) (by omega)
  have h3 : 0 ≤ (m - G) / p * p := Int.mul_nonneg h0 (by omega)
  refine ⟨G + (m - G) / p * p, by rw [Int.add_mul] at h2; split <;> omega, by omega, ?_⟩
  have e : t - q * (G + (m - G) / p * p) = p * (D - q * ((m - G) / p)) := by
    rw [Int.mul_add, Int.mul_sub, ← h, ← Int.mul_assoc q, Int.mul_comm _ p, ← Int.mul_assoc p q]
    omega
  rw [e, Int.mul_emod_right]
/-- all lines are multiples of the first -/
theorem mult_solves {ls : List L3} {k j c p q w D G : Int} (hc : Com k j c p q) (hi : LinesIn ls) (hpar : ∀ l, l ∈ ls → k * l.2.1 = l.1 * j) (hw : ∀ l, l ∈ ls → w * (l.1 / p) = l.2.2) (h : p * D + q * G = w) : Solves ls D G := fun l hl => by
  obtain ⟨n, h1, h2, h3⟩ := hc.co l.1 l.2.1 (hpar l hl) (hi l hl).1
  have h4 := hw l hl
  rw [h1, Int.mul_ediv_cancel_left _ (show p ≠ 0 by have := hc.p1; omega)] at h4
  rw [← h4, ← h, h1, h2, Int.add_mul]
  rw [Int.mul_right_comm p n D, Int.mul_right_comm q n G]
theorem mult_of {ls : List L3} {k j t c p q D G : Int} (hc : Com k j c p q) (hi : LinesIn ls) (hpar : ∀ l, l ∈ ls → k * l.2.1 = l.1 * j) (hm : ((k, j, t) : L3) ∈ ls) (h : Solves ls D G) : p * D + q * G = t / c ∧ ∀ l, l ∈ ls → t / c * (l.1 / p) = l.2.2 := by
  have h1 := h _ hm
  dsimp only at h1
  have e : t = (p * D + q * G) * c := by
    rw [← h1, hc.hk, hc.hj, Int.add_mul, Int.mul_comm _ c, Int.mul_comm _ c, Int.mul_assoc, Int.mul_assoc]
  have e2 : t / c = p * D + q * G := by rw [e]; exact Int.mul_ediv_cancel _ (by have := hc.c1; omega)
  refine ⟨e2.symm, fun l hl => ?_⟩
  obtain ⟨n, g1, g2, g3⟩ := hc.co l.1 l.2.1 (hpar l hl) (hi l hl).1
  have g4 := h l hl
  rw [e2, ← g4, g1, g2, Int.mul_ediv_cancel_left _ (show p ≠ 0 by have := hc.p1; omega), Int.add_mul]
  rw [Int.mul_right_comm p n D, Int.mul_right_comm q n G]
inductive Told
  | any
  | no
  | one (D G : Int)
  | line (D G e f : Int) (c : Option Int)
structure OnLine (p q w D G e f : Int) (c : Option Int) : Prop where
  sol : p * D + q * G = w
  d1 : 1 ≤ D
  g1 : 1 ≤ G
  one : gcdI e f = 1
  step : p * e + q * f = 0
  free : c = none → e = 0 ∧ f = 1 ∧ G = 1
  many : ∀ m, c = some m → 2 ≤ m ∧ m ≤ 1000000000000000000000 ∧ 1 ≤ e ∧ e ≤ 1000000000000000000 ∧ -1000 ≤ f ∧ f ≤ 1000 ∧ D ≤ e ∧ 1 ≤ G + (m - 1) * f ∧ G + (m - 1) * f + f < 1
/-- what is told of one line -/
def LineTold (p q w : Int) : Told → Prop
  | .any => False
  | .no => ∀ D G : Int, 1 ≤ D → 1 ≤ G → p * D + q * G ≠ w
  | .one D G => p * D + q * G = w ∧ 1 ≤ D ∧ 1 ≤ G ∧ D ≤ q ∧ G ≤ p
  | .line D G e f c => OnLine p q w D G e f c
def ToldOk (ls : List L3) : Told → Prop
  | .any => ∀ l, l ∈ ls → l = (0, 0, 0)
  | .no => No ls ∧ ∃ l, l ∈ ls ∧ l ≠ (0, 0, 0)
  | .one D G => OneOk ls D G
  | .line D G e f c => LineOk ls D G e f c
theorem pos_of_nz {l : L3} (hi : LineIn l) (h1 : 0 < l.1) : nz l = true := nz_iff.mpr fun z => by rw [z] at h1; exact absurd h1 (by decide)
theorem gcdI_comm (a b : Int) : gcdI a b = gcdI b a := by unfold gcdI; rw [Nat.gcd_comm]
theorem gcdI_neg (a b : Int) : gcdI a (-b) = gcdI a b := by unfold gcdI; rw [Int.natAbs_neg]
/-- what is told of the common line, told of all lines -/
theorem told_mult {ls : List L3} {k j t c p q : Int} {r : Told} (hi : LinesIn ls) (hc : Com k j c p q) (hpos : ∀ l, l ∈ ls.filter nz → 0 < l.1) (hpar : ∀ l, l ∈ ls.filter nz → k * l.2.1 = l.1 * j) (hm : ((k, j, t) : L3) ∈ ls.filter nz) (hw : ∀ l, l ∈ ls.filter nz → t / c * (l.1 / p) = l.2.2) (h : LineTold p q (t / c) r) : ToldOk ls r := by
  have hif : LinesIn (ls.filter nz) := fun l hl => hi l (List.mem_filter.mp hl).1
  have hk : 0 < k := hpos _ hm
  have mfull := (List.mem_filter.mp hm).1
  have hfil : ls.filter pos1 = ls.filter nz := by
    refine List.filter_congr fun l hl => ?_
    by_cases c1 : nz l = true
    · rw [c1]
      exact decide_eq_true (hpos l (List.mem_filter.mpr ⟨hl, c1⟩))
    · have e : l = (0, 0, 0) := Classical.byContradiction fun z => c1 (nz_iff.mpr z)
      rw [e]; decide
  have mult : ∀ l, l ∈ ls → ∃ n, l.1 = p * n ∧ l.2.1 = q * n ∧ 0 ≤ n := fun l hl => by
    by_cases c1 : nz l = true
    · have hf := List.mem_filter.mpr ⟨hl, c1⟩
      exact hc.co l.1 l.2.1 (hpar l hf) (hi l hl).1
    · have e : l = (0, 0, 0) := Classical.byContradiction fun z => c1 (nz_iff.mpr z)
      rw [e]
      exact ⟨0, by simp, by simp, Int.le_refl _⟩
  have sol : ∀ D G : Int, p * D + q * G = t / c → Solves ls D G := fun D G h => solves_nz.mp (mult_solves hc hif hpar hw h)
  cases r with
  | any => exact h.elim
  | no =>
    refine ⟨fun D G d g hs => h D G d g (mult_of hc hif hpar hm (solves_nz.mpr hs)).1, _, mfull, fun z => ?_⟩
    have : k = 0 := congrArg Prod.fst z
    omega
  | one D G =>
    obtain ⟨h1, h2, h3, h4, h5⟩ := h
    refine ⟨sol D G h1, h2, h3, ⟨_, mfull, hk⟩, fun _ l hl => ?_⟩
    have hl1 : l ∈ ls.filter pos1 := List.mem_of_head? hl
    have hlp : 0 < l.1 := of_decide_eq_true (List.mem_filter.mp hl1).2
    obtain ⟨n, g1, g2, g3⟩ := mult l (List.mem_filter.mp hl1).1
    have hn : 1 ≤ n := by
      by_cases z : n = 0
      · rw [z, Int.mul_zero] at g1; omega
      · omega
    have eg : gcdI l.1 l.2.1 = n := by
      rw [g1, g2]
      have := hc.gc
      unfold gcdI at this ⊢
      rw [Int.natAbs_mul, Int.natAbs_mul, Nat.gcd_mul_right, Int.ofNat.inj (show ((Nat.gcd p.natAbs q.natAbs : Nat) : Int) = ((1 : Nat) : Int) from this), Nat.one_mul]
      omega
    rw [eg, g1, g2, Int.mul_ediv_cancel _ (show n ≠ 0 by omega), Int.mul_ediv_cancel _ (show n ≠ 0 by omega)]
    exact ⟨h4, h5⟩
  | line D G e f m =>
    refine ⟨sol D G h.sol, h.d1, h.g1, ⟨_, mfull, hk⟩, fun a b ha hb => ?_, h.one, fun l hl => ?_, h.free, h.many⟩
    · obtain ⟨n, g1, g2, _⟩ := mult a ha
      obtain ⟨i, f1, f2, _⟩ := mult b hb
      rw [g1, g2, f1, f2, Int.mul_assoc, Int.mul_assoc, Int.mul_left_comm n q i, Int.mul_left_comm i q n, Int.mul_comm n i]
    · obtain ⟨n, g1, g2, _⟩ := mult l hl
      rw [g1, g2, Int.mul_right_comm, Int.mul_right_comm q, ← Int.add_mul, h.step, Int.zero_mul]

theorem lay_ints : ∀ xs : List Int, PyData.canLayAll0 (xs.map PyData.int) = true
  | [] => rfl
  | x :: xs => by
    show (true && PyData.canLayAll0 (xs.map PyData.int)) = true
    rw [lay_ints xs]; rfl
theorem dep_ints : ∀ xs : List Int, PyData.depthAll (xs.map PyData.int) ≤ 1
  | [] => by decide
  | x :: xs => by
    have := dep_ints xs
    show max (PyData.depth (.int x)) (PyData.depthAll (xs.map PyData.int)) ≤ 1
    have h : PyData.depth (.int x) ≤ 1 := Nat.zero_le 1
    exact Nat.max_le.mpr ⟨h, this⟩
theorem sh_tints (xs : List Int) : SeqAt.shaped (.tuple (xs.map PyData.int)) = true := by
  have h1 := lay_ints xs
  have h2 := dep_ints xs
  have h3 : (PyData.tuple (xs.map PyData.int)).depth ≤ 64 := by
    show _ + _ ≤ 64
    omega
  show (PyData.canLayAll0 (xs.map PyData.int) && decide ((PyData.tuple (xs.map PyData.int)).depth ≤ 64)) = true
  rw [h1, decide_eq_true h3]; rfl
theorem r_neT0 {K : PySem.W.Frag} {H : Hp} {Q : VK} {p q : Addr} {xs : List Int} (h1 : H p = some (.tup (xs.map V.int))) (h2 : H q = some (.tup (xs.map V.int))) (k : Q (.bl false) H) : rNeD K (.ref p) (.ref q) H Q := by
  refine ⟨_, _, .tup (SqT.of h1) (dp_ints xs), .tup (SqT.of h2) (dp_ints xs), sh_tints xs, sh_tints xs, ?_⟩
  rw [show PyData.eqv (.tuple (xs.map PyData.int)) (.tuple (xs.map PyData.int)) = true from (eq_ints (xs := xs) (ys := xs)).trans (by simp)]
  exact k

/-! ### sightings, in a list or a tuple -/
theorem not_whole (z : V) (zs : List V) : ¬ (HT.sIx (z :: zs).length 0 (some 1) = 0 ∧ HT.sIx (z :: zs).length (z :: zs).length none = (z :: zs).length) := by
  intro h
  have h := h.1
  simp [HT.sIx] at h
theorem cut_one (z : V) (zs : List V) : cutV (z :: zs) (some 1) none = zs := by
  unfold cutV
  simp [HT.sIx]
theorem r_isiTu {K : PySem.W.Frag} {H : Hp} {Q : VK} {p : Addr} {xs : List V} {n : String} (b : Bool) (h : H p = some (.tup xs)) (hk : kitB "tuple" n = some b) (q : Q (.bl b) H) : rIsi K [.ref p, .ty n] H Q := r_isi (.base (.tup h)) (kit_ty hk) q
theorem sl_tupK {X : Cx} {K : PySem.W.Frag} (hK : X.K = K) : SlR X (rSlT K) := by subst hK; exact sl_tup
theorem cr_sumTK {X : Cx} {K : PySem.W.Frag} (hK : X.K = K) (hc : X.calm = true) : CallR X (.builtin "sum") (rSumT K) := by subst hK; exact cr_sumT hc
theorem op_neDK {X : Cx} {K : PySem.W.Frag} (hK : X.K = K) (hu : X.A.units + 64 < cLine) : OpR X (compareOp .NotEq) (rNeD K) := by subst hK; exact op_neD hu
def iSeq (K : PySem.W.Frag) (tl : TE) : TI := fun σ H R => iList K tl σ H R ∨ iTup K tl σ H R
theorem pi_seq {X : Cx} {tg l : Expr} {tl : TE} (hl : PE X l tl) : PI X tg l (iSeq X.K tl) := ⟨fun pins s σ H R I h => h.elim ((pi_list hl).run pins s σ H R I) ((pi_tup hl).run pins s σ H R I)⟩
/-- xs, in a list or a tuple -/
def SeqV (H : Hp) (p : Addr) (xs : List V) : Prop := H p = some (.lst xs) ∨ H p = some (.tup xs)
theorem SeqV.keep {H H' : Hp} {p : Addr} {xs : List V} (h : SeqV H p xs) (s : Same H H') : SeqV H' p xs := h.imp (s _ _) (s _ _)
theorem SeqV.sq {K : PySem.W.Frag} {H : Hp} {p : Addr} {xs : List V} (h : SeqV H p xs) : SqL K H p xs ∨ SqT K H p xs := h.imp SqL.of SqT.of
abbrev Row := List Int × Int
def lineOf (r : Row) : L3 := (r.1.length, r.1.sum, r.2)
structure RowOk (r : Row) : Prop where
  len : r.1.length ≤ 199
  items : ∀ z, z ∈ r.1 → 0 ≤ z ∧ z ≤ 1000000000000000
  t0 : 0 ≤ r.2
  t9 : r.2 ≤ 100000000000000000000
  small : r.2 ≤ ((r.1.length : Int) + r.1.sum + 1) * 1000000000
def RowAt (H : Hp) (x : V) (r : Row) : Prop := ∃ t p : Addr, x = .ref t ∧ H t = some (.tup [.ref p, .int r.2]) ∧ H p = some (.tup (.int 0 :: r.1.map V.int))
theorem RowAt.keep {H H' : Hp} {x : V} {r : Row} (h : RowAt H x r) (s : Same H H') : RowAt H' x r := let ⟨t, p, e, h1, h2⟩ := h; ⟨t, p, e, s _ _ h1, s _ _ h2⟩
def RowsAt (H : Hp) (xs : List V) (rs : List Row) : Prop := xs.length = rs.length ∧ ∀ (i : Nat) (r : Row), rs[i]? = some r → ∃ x, xs[i]? = some x ∧ RowAt H x r
theorem RowsAt.keep {H H' : Hp} {xs : List V} {rs : List Row} (h : RowsAt H xs rs) (s : Same H H') : RowsAt H' xs rs := ⟨h.1, fun i r hr => let ⟨x, e, z⟩ := h.2 i r hr; ⟨x, e, z.keep s⟩⟩
theorem RowsAt.get {H : Hp} {xs : List V} {rs : List Row} {i : Nat} {x : V} (h : RowsAt H xs rs) (hx : xs[i]? = some x) : ∃ r, rs[i]? = some r ∧ RowAt H x r := by
  obtain ⟨r, hr⟩ : ∃ r, rs[i]? = some r := ⟨_, List.getElem?_eq_getElem (by have := (List.getElem?_eq_some_iff.mp hx).1; rw [h.1] at this; exact this)⟩
  obtain ⟨y, e, z⟩ := h.2 i r hr
  obtain rfl : x = y := Option.some.inj (hx.symm.trans e)
  exact ⟨r, hr, z⟩
theorem sum_rng : ∀ zs : List Int, (∀ z, z ∈ zs → 0 ≤ z ∧ z ≤ 1000000000000000) → 0 ≤ zs.sum ∧ zs.sum ≤ zs.length * 1000000000000000
  | [], _ => ⟨Int.le_refl _, by simp⟩
  | z :: zs, h => by
    obtain ⟨h1, h2⟩ := sum_rng zs fun y hy => h y (List.mem_cons_of_mem _ hy)
    have h3 := h z (List.mem_cons_self ..)
    rw [List.sum_cons, List.length_cons, Int.natCast_add, Int.add_mul]
    omega
theorem RowOk.line {r : Row} (h : RowOk r) : LineIn (lineOf r) := by
  have h1 := sum_rng r.1 h.items
  have h2 := h.len
  refine ⟨by show (0 : Int) ≤ (r.1.length : Int); omega, by show ((r.1.length : Nat) : Int) ≤ 199; omega, h1.1, by show r.1.sum ≤ _; omega, fun e => ?_, h.t0, h.t9, h.small⟩
  have e : ((r.1.length : Nat) : Int) = 0 := e
  have : r.1 = [] := List.length_eq_zero_iff.mp (by omega)
  show r.1.sum = 0
  rw [this]; rfl
def triV (l : L3) : List V := [.int l.1, .int l.2.1, .int l.2.2]
def TrisAt (H : Hp) (xs : List V) (ls : List L3) : Prop := xs.length = ls.length ∧ ∀ (i : Nat) (l : L3), ls[i]? = some l → ∃ t : Addr, xs[i]? = some (.ref t) ∧ H t = some (.tup (triV l))
theorem TrisAt.keep {H H' : Hp} {xs : List V} {ls : List L3} (h : TrisAt H xs ls) (s : Same H H') : TrisAt H' xs ls := ⟨h.1, fun i g hg => let ⟨t, e, z⟩ := h.2 i g hg; ⟨t, e, s _ _ z⟩⟩
theorem TrisAt.upd {H : Hp} {L : Addr} {zs xs : List V} {o : HO} {ls : List L3} (h : TrisAt H xs ls) (e : H L = some (.lst zs)) : TrisAt (L2.upd H L o) xs ls := ⟨h.1, fun i g hg => let ⟨t, e1, z⟩ := h.2 i g hg; ⟨t, e1, (upd_ne (fun y => by rw [y, e] at z; cases z)).trans z⟩⟩
theorem TrisAt.nil {H : Hp} : TrisAt H [] [] := ⟨rfl, fun i g h => by simp at h⟩
theorem TrisAt.snoc {H : Hp} {xs : List V} {ls : List L3} {t : Addr} {g : L3} (h : TrisAt H xs ls) (e : H t = some (.tup (triV g))) : TrisAt H (xs ++ [.ref t]) (ls ++ [g]) := ⟨by rw [List.length_append, List.length_append, h.1]; rfl, fun i g' hg => by
  by_cases hi : i < ls.length
  · rw [List.getElem?_append_left hi] at hg
    rw [List.getElem?_append_left (by rw [h.1]; exact hi)]
    exact h.2 i g' hg
  · have hl := (List.getElem?_eq_some_iff.mp hg).1
    rw [List.length_append, List.length_singleton] at hl
    obtain rfl : i = ls.length := by omega
    rw [List.getElem?_append_right (Nat.le_refl _), Nat.sub_self] at hg
    obtain rfl : g = g' := by simpa using hg
    exact ⟨t, by rw [← h.1, List.getElem?_append_right (Nat.le_refl _), Nat.sub_self]; rfl, e⟩⟩
theorem TrisAt.get {H : Hp} {xs : List V} {ls : List L3} {i : Nat} {x : V} (h : TrisAt H xs ls) (hx : xs[i]? = some x) : ∃ (t : Addr) (l : L3), x = .ref t ∧ ls[i]? = some l ∧ H t = some (.tup [.int l.1, .int l.2.1, .int l.2.2]) := by
  obtain ⟨l, hl⟩ : ∃ l, ls[i]? = some l := ⟨_, List.getElem?_eq_getElem (by have := (List.getElem?_eq_some_iff.mp hx).1; rw [h.1] at this; exact this)⟩
  obtain ⟨t, e, z⟩ := h.2 i l hl
  exact ⟨t, l, Option.some.inj (hx.symm.trans e), hl, z⟩
def spWrongN : Sp := fun vs H Q _ => ∃ (p r : Addr) (zs : List Int), vs = [.ref p, .non, .ref r] ∧ H p = some (.tup (.int 0 :: zs.map V.int)) ∧ H r = some (.tup [.int 0]) ∧ zs.length ≤ 199 ∧ (∀ z, z ∈ zs → 0 ≤ z ∧ z ≤ 1000000000000000) ∧ ∀ H', Same H H' → Q .non H'
def spIsSight : Sp := fun vs H Q _ => ∃ (x : V) (r : Row), vs = [x] ∧ RowAt H x r ∧ RowOk r ∧ ∀ H', Same H H' → Q (.bl true) H'
def spCheckS : Sp := fun vs H Q _ => ∃ (p : Addr) (xs : List V) (rs : List Row), vs = [.ref p] ∧ SeqV H p xs ∧ RowsAt H xs rs ∧ (∀ r, r ∈ rs → RowOk r) ∧ rs.length ≤ 60 ∧ ∀ H', Same H H' → Q .non H'
def spSums : Sp := fun vs H Q _ => ∃ (p : Addr) (xs : List V) (rs : List Row), vs = [.ref p] ∧ SeqV H p xs ∧ RowsAt H xs rs ∧ (∀ r, r ∈ rs → RowOk r) ∧ rs.length ≤ 60 ∧ ∀ q ys H', Same H H' → H' q = some (.lst ys) → TrisAt H' ys (rs.map lineOf) → Q (.ref q) H'
def spFits : Sp := fun vs H Q _ => ∃ (p : Addr) (xs : List V) (ls : List L3) (D G : Int), vs = [.ref p, .int D, .int G] ∧ H p = some (.lst xs) ∧ TrisAt H xs ls ∧ LinesIn ls ∧ ∀ b : Bool, (b = true ↔ Solves ls D G) → Q (.bl b) H
section
variable {P : Program} {w : World} {K : PySem.W.Frag} {mg : Str → Option Value} {base : Heap} {a : Adr}
theorem ok_wrong_in_name (T : Txt K mg a) : FnOk P w K mg base CX0 4 a.a_wrong_in_name a.d_wrong_in_name ["thing", "turns", "roots"] spWrongN := by
  refine T.F_wrong_in_name.ok sc_wrong_in_name (fun vs H Q E h => ?_) (fun cdv A outer s H vs Q E hr h => ?_)
  · obtain ⟨p, r, zs, rfl, _⟩ := h
    rfl
  · obtain ⟨p, r, zs, rfl, ep, er, hl, hz, k⟩ := h
    refine ⟨_, (pss_cons (ps_if (PW.pt (pw_or (pt_not (pt_val (pe_callB call_isi (by rfl) T.n_isinstance (by decide +kernel) (pa_cons (pv 0) (pa_cons (pe_bltn (v := .ty "tuple") (u := .type "tuple") (by rfl) T.n_tuple (by decide +kernel) rfl) pa_nil))))) (pw_or1 (pt_not (pt_chain op_le op_le pe_int (pe_callB call_len_seq (by rfl) T.n_len (by decide +kernel) (pa_cons (pv 0) pa_nil)) (pe_glob (v := .int 200) (by rfl) T.g_LONGEST_NAME.choose_spec ⟨_, rfl⟩)))))) (pss_one (ps_ret (pe_un un_neg pe_int)))
 pss_nil)
 (pss_cons (ps_set (i := 3) sc_wrong_in_name.nd rfl (Or.inl rfl) (pe_ifExp (pt_cmpR op_isNo (pv 1) pe_non (nomark _)) (pe_glob (v := .int 1000000000000000) (by rfl) T.g_GREATEST_ITEM.choose_spec ⟨_, rfl⟩) (pe_op op_sub (pv 1) pe_int)))
 (pss_cons (ps_for (by exact PassesOwn.never) rfl (pi_enumS (by rfl) T.n_enumerate (pa_cons (pv 0) pa_nil)) (pg_tup (by rfl) (pgs_cons (pg_name (i := 4) sc_wrong_in_name.nd rfl (Or.inl rfl)) (pgs_cons (pg_name (i := 5) sc_wrong_in_name.nd rfl (Or.inl rfl)) pgs_nil)))
 (pss_one (ps_if (pt_not (pt_val (pe_call (ok_is_between T) (hr.mono (by decide)) (by rfl) T.g_is_between T.F_is_between.kp T.b_is_between .nil pass0 (pa_cons (pv 5) (pa_cons pe_int (pa_cons (pe_ifExp (pt_cmpR op_eq (pv 4) pe_int (nomark _)) (pe_op op_sub (pe_callB call_len_seq (by rfl) T.n_len (by decide +kernel) (pa_cons (pv 2) pa_nil)) pe_int) (pv 3)) pa_nil)))))) (pss_one (ps_ret (pv 4)))
 pss_nil)))
 (pss_one (ps_ret pe_non))))), ?_⟩
    walk_at "rdi"
    repeat walk_at "rd"
    refine r_isiTu true ep (by decide +kernel) ?_
    repeat walk_at "rd"
    have hlen : ((V.int 0 :: zs.map V.int).length : Int) = zs.length + 1 := by rw [List.length_cons, List.length_map]; omega
    rw [hlen]
    refine ite_tt (by omega) ?_
    repeat walk_at "rd"
    refine r_nDT (by omega) ?_
    repeat walk_at "rd"
    refine r_enS (xs := .int 0 :: zs.map V.int) (by intro QA q; (repeat walk_at "rd"); exact q) (.inr (SqT.of ep)) (fun i σ H1 => ∃ v5 v6 : Option V, σ = [some (.ref p), some .non, some (.ref r), some (.int 1000000000000000), v5, v6] ∧ Same H H1) ⟨_, _, rfl, Same.refl _⟩ (fun i σ H' ⟨_, _, _, s⟩ => s) ?_ ?_
    · rintro i x σ H2 u2 H3 hx ⟨v5, v6, rfl, s2⟩ nu2 rfl
      have s3 : Same H (upd H2 u2 (.tup [.int (i : Nat), x])) := s2.trans (Same.new nu2)
      have er := s3 _ _ er
      obtain ⟨z, hz1, rfl⟩ := int_of_get (ns := 0 :: zs) hx
      repeat walk_at "rd"
      refine ite_d (fun i0 => ?_) (fun i0 => ?_)
      · obtain rfl : i = 0 := by omega
        obtain rfl : 0 = z := by simpa using hz1
        repeat walk_at "rd"
        refine r_between ?_
        repeat walk_at "rd"
        refine r_nDT (by decide) ?_
        repeat first | exact ⟨_, _, rfl, s3⟩ | walk_at "rd"
      · have hzz : z ∈ zs := by
          cases i with
          | zero => exact absurd rfl i0
          | succ i => exact List.mem_iff_getElem?.mpr ⟨i, by simpa using hz1⟩
        repeat walk_at "rd"
        refine r_between ?_
        repeat walk_at "rd"
        refine r_nDT (hz z hzz) ?_
        repeat first | exact ⟨_, _, rfl, s3⟩ | walk_at "rd"
    · rintro σ H2 ⟨v5, v6, rfl, s2⟩
      repeat first | exact k _ s2 | walk_at "rd"
theorem ok_is_sighting (T : Txt K mg a) : FnOk P w K mg base CX0 5 a.a_is_sighting a.d_is_sighting ["thing"] spIsSight := by
  refine T.F_is_sighting.ok sc_is_sighting (fun vs H Q E h => ?_) (fun cdv A outer s H vs Q E hr h => ?_)
  · obtain ⟨x, r, rfl, _⟩ := h
    rfl
  · obtain ⟨x, r, rfl, ⟨t, p, rfl, e1, e2⟩, hok, k⟩ := h
    refine ⟨_, (pss_cons (ps_if (PW.pt (pw_or (pt_not (pt_val (pe_callB call_isi (by rfl) T.n_isinstance (by decide +kernel) (pa_cons (pv 0) (pa_cons (pe_bltn (v := .ty "tuple") (u := .type "tuple") (by rfl) T.n_tuple (by decide +kernel) rfl) pa_nil))))) (pw_or1 (pt_cmpR op_ne (pe_callB call_len_seq (by rfl) T.n_len (by decide +kernel) (pa_cons (pv 0) pa_nil)) pe_int (nomark _))))) (pss_one (ps_ret pe_bl))
 pss_nil)
 (pss_cons (ps_asg (pv 0) (pg_tup (by rfl) (pgs_cons (pg_name (i := 1) sc_is_sighting.nd rfl (Or.inl rfl)) (pgs_cons (pg_name (i := 2) sc_is_sighting.nd rfl (Or.inl rfl)) pgs_nil))))
 (pss_one (ps_ret (pe_and (pe_cmpR op_isNo (pe_call (ok_wrong_in_name T) (hr.mono (by decide)) (by rfl) T.g_wrong_in_name T.F_wrong_in_name.kp T.b_wrong_in_name .nil pass0 (pa_cons (pv 1) (pa_cons pe_non (pa_cons (pe_tup (pa_cons pe_int pa_nil)) pa_nil)))) pe_non (nomark _)) (pe_one (pe_call (ok_is_between T) (hr.mono (by decide)) (by rfl) T.g_is_between T.F_is_between.kp T.b_is_between .nil pass0 (pa_cons (pv 2) (pa_cons pe_int (pa_cons (pe_glob (v := .int 100000000000000000000) (by rfl) T.g_LATEST_SIGHTING.choose_spec ⟨_, rfl⟩) pa_nil)))))))))), ?_⟩
    walk_at "rdi"
    repeat walk_at "rd"
    refine r_isiTu true e1 (by decide +kernel) ?_
    repeat walk_at "rd"
    refine new_at (Nat.le_of_ble_eq_true rfl) (fun u H1 nu s1 eu => ?_)
    repeat walk_at "rd"
    refine ⟨p, u, r.1, rfl, s1 _ _ e2, eu, hok.len, hok.items, fun H2 s2 => ?_⟩
    repeat walk_at "rd"
    refine r_between ?_
    rw [decide_eq_true (show 0 ≤ r.2 ∧ r.2 ≤ 100000000000000000000 from ⟨hok.t0, hok.t9⟩)]
    exact k _ (s1.trans s2)
theorem ok_check_sightings (T : Txt K mg a) : FnOk P w K mg base CX0 6 a.a_check_sightings a.d_check_sightings ["rows"] spCheckS := by
  refine T.F_check_sightings.ok sc_check_sightings (fun vs H Q E h => ?_) (fun cdv A outer s H vs Q E hr h => ?_)
  · obtain ⟨p, xs, rs, rfl, _⟩ := h
    rfl
  · obtain ⟨p, xs, rs, rfl, ep, hA, hok, hl, k⟩ := h
    refine ⟨_, (pss_cons (ps_if (PW.pt (pw_or (pt_not (pt_val (pe_callB call_isiT (by rfl) T.n_isinstance (by decide +kernel) (pa_cons (pv 0) (pa_cons (pe_tup (pa_cons (pe_bltn (v := .ty "list") (u := .type "list") (by rfl) T.n_list (by decide +kernel) rfl) (pa_cons (pe_bltn (v := .ty "tuple") (u := .type "tuple") (by rfl) T.n_tuple (by decide +kernel) rfl) pa_nil))) pa_nil))))) (pw_or1 (pt_cmpR op_gt (pe_callB call_len_seq (by rfl) T.n_len (by decide +kernel) (pa_cons (pv 0) pa_nil)) (pe_glob (v := .int 60) (by rfl) T.g_MOST_SIGHTINGS.choose_spec ⟨_, rfl⟩) (nomark _))))) (pss_one ps_never)
 pss_nil)
 (pss_one (ps_for (by exact PassesOwn.never) rfl (pi_enumS (by rfl) T.n_enumerate (pa_cons (pv 0) pa_nil)) (pg_tup (by rfl) (pgs_cons (pg_name (i := 1) sc_check_sightings.nd rfl (Or.inl rfl)) (pgs_cons (pg_name (i := 2) sc_check_sightings.nd rfl (Or.inl rfl)) pgs_nil)))
 (pss_one (ps_if (pt_not (pt_val (pe_call (ok_is_sighting T) (hr.mono (by decide)) (by rfl) T.g_is_sighting T.F_is_sighting.kp T.b_is_sighting .nil pass0 (pa_cons (pv 2) pa_nil)))) (pss_one ps_never)
 pss_nil))))), ?_⟩
    walk_at "rdi"
    repeat walk_at "rd"
    refine new_at (Nat.le_of_ble_eq_true rfl) (fun u H1 nu s1 e1 => ?_)
    have ep1 := ep.keep s1
    have hk : ∃ t, TyX K H1 (.ref p) t ∧ PySem.W.kitAny K t [.type "list", .type "tuple"] = some true := by
      rcases ep1 with h | h
      · exact ⟨_, .base (.lst h), kitAny_cons (b := true) (kit_ty (by decide +kernel)) (fun z => Bool.noConfusion z) fun _ => rfl⟩
      · exact ⟨_, .base (.tup h), kitAny_cons (b := false) (kit_ty (by decide +kernel)) (fun _ => kitAny_cons (b := true) (kit_ty (by decide +kernel)) (fun z => Bool.noConfusion z) fun _ => rfl) (fun z => Bool.noConfusion z)⟩
    obtain ⟨ty_, tyx, hk⟩ := hk
    repeat walk_at "rd"
    refine ⟨_, u, [.ty "list", .ty "tuple"], ty_, [.type "list", .type "tuple"], true, rfl, e1, .cons (.ty _) (.cons (.ty _) .nil), tyx, hk, ?_⟩
    repeat walk_at "rd"
    refine r_lenS ep1.sq ?_
    repeat walk_at "rd"
    refine ite_ff (by have := hA.1; omega) ?_
    repeat walk_at "rd"
    refine r_enS (xs := xs) (by intro QA q; (repeat walk_at "rd"); exact q) ep1.sq (fun i σ H2 => ∃ v1 v2 : Option V, σ = [some (.ref p), v1, v2] ∧ Same H1 H2) ⟨_, _, rfl, Same.refl _⟩ (fun i σ H' ⟨_, _, _, s⟩ => s) ?_ ?_
    · rintro i x σ H2 u2 H3 hx ⟨v1, v2, rfl, s2⟩ nu2 rfl
      have s3 : Same H1 (upd H2 u2 (.tup [.int (i : Nat), x])) := s2.trans (Same.new nu2)
      obtain ⟨r, hr1, hR⟩ := (hA.keep (s1.trans s3)).get hx
      repeat walk_at "rd"
      refine ⟨x, r, rfl, hR, hok r (List.mem_iff_getElem?.mpr ⟨i, hr1⟩), fun H4 s4 => ?_⟩
      repeat first | exact ⟨_, _, rfl, s3.trans s4⟩ | walk_at "rd"
    · rintro σ H2 ⟨v1, v2, rfl, s2⟩
      repeat first | exact k _ (s1.trans s2) | walk_at "rd"
theorem ok_sums_of (T : Txt K mg a) : FnOk P w K mg base CX0 1 a.a_sums_of a.d_sums_of ["rows"] spSums := by
  refine T.F_sums_of.ok sc_sums_of (fun vs H Q E h => ?_) (fun cdv A outer s H vs Q E hr h => ?_)
  · obtain ⟨p, xs, rs, rfl, _⟩ := h
    rfl
  · obtain ⟨p, xs, rs, rfl, ep, hA, hok, hl, k⟩ := h
    refine ⟨_, (pss_one (ps_ret (pe_lc (own := [("name", 1), ("time", 2)]) (g := gTup K 2 (gCons (gName 1) (gCons (gName 2) (gNil)))) (tt := tYes) rfl sc_sums_of.nd (pi_seq (pv 0)) (blkOk_by (own := [("name", 1), ("time", 2)]) (N := ["rows", "name", "time"]) (sc := defScope s_sums_of) (by decide +kernel)) (fun _ _ _ _ _ => (pg_tupK (K := K) (n := 2) rfl (by rfl) (pgs_cons (pg_name (i := 1) sc_sums_of.nd rfl (Or.inl rfl)) (pgs_cons (pg_name (i := 2) sc_sums_of.nd rfl (Or.inl rfl)) pgs_nil)))) (fun _ _ _ _ _ => pts_nil) (fun _ _ _ _ _ => (pe_tup (pa_cons (pe_op op_sub (pe_callB (call_len_seqK (K := K) rfl) (by rfl) T.n_len (by decide +kernel) (pa_cons (pv 1) pa_nil)) pe_int) (pa_cons (pe_callB (cr_sumTK (K := K) rfl rfl) (by rfl) T.n_sum (by decide +kernel) (pa_cons (pe_slice (sl_tupK (K := K) rfl) (pv 1) (po_some pe_int) po_none) pa_nil)) (pa_cons (pv 2) pa_nil)))))))), ?_⟩
    repeat walk_at "rd"
    rcases ep with ep | ep
    · refine .inl ?_
      repeat walk_at "rd"
      refine ⟨p, rfl, ⟨_, SqL.of ep⟩, fun L hL => lc_list (K := K) (a := p) (xs := xs) (fun i H' => ∃ acc : List V, H' L = some (.lst acc) ∧ TrisAt H' acc ((rs.take i).map lineOf) ∧ H' p = some (.lst xs) ∧ Same H H') ?_ (fun i H' _ ⟨_, _, _, h, _⟩ => SqL.of h) ?_ ?_⟩
      · exact ⟨[], upd_same, TrisAt.nil, (upd_ne (ne_of_none ep hL)).trans ep, Same.new hL⟩
      · rintro i y H6 hi ⟨acc, h1, h2, h3, h4⟩
        obtain ⟨r, hr1, t, q, rfl, e1, e2⟩ := (hA.keep h4).get hi
        have hi9 : i < 60 := by have := (List.getElem?_eq_some_iff.mp hi).1; have := hA.1; omega
        have hok1 := hok r (List.mem_iff_getElem?.mpr ⟨i, hr1⟩)
        repeat walk_at "rd"
        refine ⟨rfl, ?_⟩
        repeat walk_at "rd"
        rw [show ((V.int 0 :: r.1.map V.int).length : Int) - 1 = r.1.length by rw [List.length_cons, List.length_map]; omega]
        refine r_slT (SqT.of e2) (not_whole _ _) (fun q7 H7 n7 s7 e7 => ?_)
        rw [cut_one] at e7
        repeat walk_at "rd"
        refine ⟨q7, r.1, rfl, SqT.of e7, ?_⟩
        repeat walk_at "rd"
        refine new_at (Nat.le_of_ble_eq_true rfl) (fun q8 H8 n8 s8 e8 => ?_)
        have s78 := s7.trans s8
        refine ⟨_, s78 _ _ h1, small1000 (by have := h2.1; rw [List.length_map, List.length_take] at this; omega), acc ++ [.ref q8], upd_same, ?_, (upd_ne (ne_of_none ep hL)).trans (s78 _ _ h3), (h4.trans s78).over hL (s78 _ _ h1)⟩
        rw [take_more hr1, List.map_append]
        exact ((h2.keep s78).snoc (g := lineOf r) e8).upd (s78 _ _ h1)
      · rintro H6 ⟨acc, h1, h2, h3, h4⟩
        rw [hA.1, List.take_length] at h2
        repeat first | exact k L acc H6 h4 h1 h2 | walk_at "rd"
    · refine .inr ?_
      repeat walk_at "rd"
      refine ⟨p, rfl, ⟨_, SqT.of ep⟩, fun L hL => lc_tup (K := K) (a := p) (xs := xs) (fun i H' => ∃ acc : List V, H' L = some (.lst acc) ∧ TrisAt H' acc ((rs.take i).map lineOf) ∧ H' p = some (.tup xs) ∧ Same H H') ?_ (fun i H' _ ⟨_, _, _, h, _⟩ => SqT.of h) ?_ ?_⟩
      · exact ⟨[], upd_same, TrisAt.nil, (upd_ne (ne_of_none ep hL)).trans ep, Same.new hL⟩
      · rintro i y H6 hi ⟨acc, h1, h2, h3, h4⟩
        obtain ⟨r, hr1, t, q, rfl, e1, e2⟩ := (hA.keep h4).get hi
        have hi9 : i < 60 := by have := (List.getElem?_eq_some_iff.mp hi).1; have := hA.1; omega
        have hok1 := hok r (List.mem_iff_getElem?.mpr ⟨i, hr1⟩)
        repeat walk_at "rd"
        refine ⟨rfl, ?_⟩
        repeat walk_at "rd"
        rw [show ((V.int 0 :: r.1.map V.int).length : Int) - 1 = r.1.length by rw [List.length_cons, List.length_map]; omega]
        refine r_slT (SqT.of e2) (not_whole _ _) (fun q7 H7 n7 s7 e7 => ?_)
        rw [cut_one] at e7
        repeat walk_at "rd"
        refine ⟨q7, r.1, rfl, SqT.of e7, ?_⟩
        repeat walk_at "rd"
        refine new_at (Nat.le_of_ble_eq_true rfl) (fun q8 H8 n8 s8 e8 => ?_)
        have s78 := s7.trans s8
        refine ⟨_, s78 _ _ h1, small1000 (by have := h2.1; rw [List.length_map, List.length_take] at this; omega), acc ++ [.ref q8], upd_same, ?_, (upd_ne (ne_of_none ep hL)).trans (s78 _ _ h3), (h4.trans s78).over hL (s78 _ _ h1)⟩
        rw [take_more hr1, List.map_append]
        exact ((h2.keep s78).snoc (g := lineOf r) e8).upd (s78 _ _ h1)
      · rintro H6 ⟨acc, h1, h2, h3, h4⟩
        rw [hA.1, List.take_length] at h2
        repeat first | exact k L acc H6 h4 h1 h2 | walk_at "rd"
theorem ok_fits (T : Txt K mg a) : FnOk P w K mg base CX0 1 a.a_fits a.d_fits ["sums", "letter", "gap"] spFits := by
  refine T.F_fits.ok sc_fits (fun vs H Q E h => ?_) (fun cdv A outer s H vs Q E hr h => ?_)
  · obtain ⟨p, xs, ls, D, G, rfl, _⟩ := h
    rfl
  · obtain ⟨p, xs, ls, D, G, rfl, ep, hA, hl, k⟩ := h
    refine ⟨_, (pss_cons (ps_for (by exact PassesOwn.never) rfl (pi_list (pv 0)) (pg_tup (by rfl) (pgs_cons (pg_name (i := 3) sc_fits.nd rfl (Or.inl rfl)) (pgs_cons (pg_name (i := 4) sc_fits.nd rfl (Or.inl rfl)) (pgs_cons (pg_name (i := 5) sc_fits.nd rfl (Or.inl rfl)) pgs_nil))))
 (pss_one (ps_if (pt_cmpR op_ne (pe_op op_add (pe_op op_mul (pv 3) (pv 1)) (pe_op op_mul (pv 4) (pv 2))) (pv 5) (nomark _)) (pss_one (ps_ret pe_bl))
 pss_nil)))
 (pss_one (ps_ret pe_bl))), ?_⟩
    repeat walk_at "rd"
    refine ⟨p, rfl, ⟨_, SqL.of ep⟩, for_list (K := K) (a := p) (xs := xs) (fun i σ H' => ∃ v3 v4 v5 : Option V, σ = [some (.ref p), some (.int D), some (.int G), v3, v4, v5] ∧ H' = H ∧ Solves (ls.take i) D G) ⟨_, _, _, rfl, rfl, fun l hl => by simp at hl⟩ (fun i σ H' _ ⟨_, _, _, _, e, _⟩ => by rw [e]; exact SqL.of ep) ?_ ?_⟩
    · rintro i x σ H2 hi ⟨v3, v4, v5, rfl, rfl, hs⟩
      obtain ⟨t, l, rfl, hl1, et⟩ := hA.get hi
      obtain ⟨a0, a1, a2, a3, _, _, _, _⟩ := hl l (List.mem_iff_getElem?.mpr ⟨i, hl1⟩)
      repeat walk_at "rd"
      refine r_nD (fun hc => ?_) (fun hc => ?_)
      · repeat walk_at "rd"
        exact k false ⟨fun z => Bool.noConfusion z, fun h => absurd (h l (List.mem_iff_getElem?.mpr ⟨i, hl1⟩)) hc⟩
      · repeat first | exact ⟨_, _, _, rfl, rfl, fun l' hl' => by
          rw [take_more hl1] at hl'
          rcases List.mem_append.mp hl' with h | h
          · exact hs l' h
          · rw [List.mem_singleton] at h
            subst h
            exact hc⟩ | walk_at "rd"
    · rintro σ H2 ⟨v3, v4, v5, rfl, rfl, hs⟩
      rw [hA.1, List.take_length] at hs
      repeat first | exact k true ⟨fun _ => hs, fun _ => rfl⟩ | walk_at "rd"
end

/-! ### told_back -/
def CDivX (_ j : Int) : Prop := j ≠ 0 ∧ j.natAbs.log2 < 9000
open PySem.Spec PyProof.Rows in
theorem op_fdivX {X : Cx} : OpR X (binaryOp .FloorDiv) (rI CDivX fun i j => .int (i.fdiv j)) := opI fun i j _ _ _ _ _ hc q => floordiv_int hc.1 q (.inl (PyProof.noPylong_of_log2 hc.2))
theorem r_fdivX {H : Hp} {Q : VK} {i j : Int} (h : j ≠ 0) (h1 : -(2 ^ 100) < j) (h2 : j < 2 ^ 100) (q : Q (.int (i.fdiv j)) H) : rI CDivX (fun i j => .int (i.fdiv j)) (.int i) (.int j) H Q := ⟨i, j, rfl, rfl, ⟨h, Nat.lt_of_lt_of_le (PySem.Flt.log2_lt_of (k := 100) (by decide) (by omega)) (by decide)⟩, q⟩
def optV : Option Int → V
  | none => .non
  | some m => .int m
def ToldAt (H : Hp) (p : Addr) : Told → Prop
  | .any => H p = some (.tup [.str "any"])
  | .no => H p = some (.tup [.str "none"])
  | .one D G => ∃ q, H p = some (.tup [.str "one", .ref q]) ∧ H q = some (.tup [.int D, .int G])
  | .line D G e f c => ∃ q r, H p = some (.tup [.str "line", .ref q, .ref r, optV c]) ∧ H q = some (.tup [.int D, .int G]) ∧ H r = some (.tup [.int e, .int f])
def TwoTold (ls : List L3) : Told → Prop
  | .no => No ls
  | .one D G => Solves ls D G ∧ 1 ≤ D ∧ 1 ≤ G
  | _ => False
def spTwo : Sp := fun vs H Q _ => ∃ (a b p : Addr) (l m : L3) (xs : List V) (fs : List L3), vs = [.ref a, .ref b, .ref p] ∧ H a = some (.tup [.int l.1, .int l.2.1, .int l.2.2]) ∧ H b = some (.tup [.int m.1, .int m.2.1, .int m.2.2]) ∧ H p = some (.lst xs) ∧ TrisAt H xs fs ∧ LinesIn fs ∧ l ∈ fs ∧ m ∈ fs ∧ l.1 * m.2.1 - m.1 * l.2.1 ≠ 0 ∧
  ∀ p' r H', TwoTold fs r → Same H H' → ToldAt H' p' r → Q (.ref p') H'
def spLine : Sp := fun vs H Q _ => ∃ p q w : Int, vs = [.int p, .int q, .int w] ∧ 1 ≤ p ∧ p ≤ 199 ∧ 0 ≤ q ∧ q ≤ 200000000000000000 ∧ 0 ≤ w ∧ w ≤ 100000000000000000000 ∧ w ≤ (p + q + 1) * 1000000000 ∧ gcdI p q = 1 ∧ ∀ p' r H', LineTold p q w r → Same H H' → ToldAt H' p' r → Q (.ref p') H'
def tTru (K : PySem.W.Frag) (ta : TE) : TT := fun σ H Q => ta σ H fun x H' => ∃ k, TruV K x H' k ∧ Q k H'
theorem pt_tru {X : Cx} {a : Expr} {ta : TE} (ha : PE X a ta) (he : ∀ whole, isTrue a X.env whole = (do let v ← whole; standAt a.pos; holding [v] (truthy v)) := by intro _; rfl) : PT X a (tTru X.K ta) := pt_truth ha he
def spMult : Sp := fun vs H Q _ => ∃ (p : Addr) (xs : List V) (ls : List L3) (f : L3), vs = [.ref p] ∧ H p = some (.lst xs) ∧ TrisAt H xs (ls.filter nz) ∧ LinesIn ls ∧ (ls.filter nz)[0]? = some f ∧ (∀ l, l ∈ ls.filter nz → 0 < l.1) ∧ (∀ l, l ∈ ls.filter nz → f.1 * l.2.1 = l.1 * f.2.1) ∧ ∀ p' r H', ToldOk ls r → Same H H' → ToldAt H' p' r → Q (.ref p') H'
def spBack : Sp := fun vs H Q _ => ∃ (p : Addr) (xs : List V) (rs : List Row), vs = [.ref p] ∧ SeqV H p xs ∧ RowsAt H xs rs ∧ (∀ r, r ∈ rs → RowOk r) ∧ rs.length ≤ 60 ∧ ∀ p' r H', ToldOk (rs.map lineOf) r → Same H H' → ToldAt H' p' r → Q (.ref p') H'
theorem r_iR3 {ta : TA} {σ : St} {H : Hp} {R : It → Hp → Prop} (h : ta σ H fun vs H1 => ∃ (i j c : Int) (n : Nat), vs = [.int i, .int j, .int c] ∧ RgC i j c n ∧ R (Itc i c n) H1) : iRng3 ta σ H R := h
section
variable {P : Program} {w : World} {K : PySem.W.Frag} {mg : Str → Option Value} {base : Heap} {a : Adr}
set_option maxHeartbeats 0 in
theorem ok_told_by_two (T : Txt K mg a) : FnOk P w K mg base CX0 2 a.a_told_by_two a.d_told_by_two ["first", "other", "sums"] spTwo := by
  refine T.F_told_by_two.ok sc_told_by_two (fun vs H Q E h => ?_) (fun cdv A outer s H vs Q E hr h => ?_)
  · obtain ⟨x, y, p, l, m, xs, fs, rfl, _⟩ := h
    rfl
  · obtain ⟨x, y, p, l, m, xs, fs, rfl, e1, e2, e3, hA, hi, hl, hm, hu, k⟩ := h
    obtain ⟨a0, a1, a2, a3, _, a4, a5⟩ := hi l hl
    obtain ⟨b0, b1, b2, b3, _, b4, b5⟩ := hi m hm
    have m1 : 0 ≤ l.1 * m.2.1 ∧ l.1 * m.2.1 ≤ 199 * 200000000000000000 := ⟨Int.mul_nonneg a0 b2, Int.mul_le_mul a1 b3 b2 (by decide)⟩
    have m2 : 0 ≤ m.1 * l.2.1 ∧ m.1 * l.2.1 ≤ 199 * 200000000000000000 := ⟨Int.mul_nonneg b0 a2, Int.mul_le_mul b1 a3 a2 (by decide)⟩
    refine ⟨_, (pss_cons (ps_asg (pv 0) (pg_tup (by rfl) (pgs_cons (pg_name (i := 3) sc_told_by_two.nd rfl (Or.inl rfl)) (pgs_cons (pg_name (i := 4) sc_told_by_two.nd rfl (Or.inl rfl)) (pgs_cons (pg_name (i := 5) sc_told_by_two.nd rfl (Or.inl rfl)) pgs_nil)))))
 (pss_cons (ps_asg (pv 1) (pg_tup (by rfl) (pgs_cons (pg_name (i := 6) sc_told_by_two.nd rfl (Or.inl rfl)) (pgs_cons (pg_name (i := 7) sc_told_by_two.nd rfl (Or.inl rfl)) (pgs_cons (pg_name (i := 8) sc_told_by_two.nd rfl (Or.inl rfl)) pgs_nil)))))
 (pss_cons (ps_set (i := 9) sc_told_by_two.nd rfl (Or.inl rfl) (pe_op op_sub (pe_op op_mul (pv 3) (pv 7)) (pe_op op_mul (pv 6) (pv 4))))
 (pss_cons (ps_set (i := 10) sc_told_by_two.nd rfl (Or.inl rfl) (pe_op op_fdivX (pe_op op_sub (pe_op op_mul (pv 5) (pv 7)) (pe_op op_mul (pv 8) (pv 4))) (pv 9)))
 (pss_cons (ps_set (i := 11) sc_told_by_two.nd rfl (Or.inl rfl) (pe_op op_fdivX (pe_op op_sub (pe_op op_mul (pv 3) (pv 8)) (pe_op op_mul (pv 6) (pv 5))) (pv 9)))
 (pss_cons (ps_if (PW.pt (pw_or (pt_cmpR op_lt (pv 10) pe_int (nomark _)) (pw_or (pt_cmpR op_lt (pv 11) pe_int (nomark _)) (pw_or1 (pt_not (pt_val (pe_call (ok_fits T) (hr.mono (by decide)) (by rfl) T.g_fits T.F_fits.kp T.b_fits .nil pass0 (pa_cons (pv 2) (pa_cons (pv 10) (pa_cons (pv 11) pa_nil)))))))))) (pss_one (ps_ret (pe_tup (pa_cons pe_str pa_nil))))
 pss_nil)
 (pss_one (ps_ret (pe_tup (pa_cons pe_str (pa_cons (pe_tup (pa_cons (pv 10) (pa_cons (pv 11) pa_nil))) pa_nil))))))))))), ?_⟩
    repeat walk_at "rd"
    refine r_fdivX hu (by omega) (by omega) ?_
    repeat walk_at "rd"
    refine r_fdivX hu (by omega) (by omega) ?_
    repeat walk_at "rd"
    obtain ⟨D, hD⟩ : ∃ D, (l.2.2 * m.2.1 - m.2.2 * l.2.1).fdiv (l.1 * m.2.1 - m.1 * l.2.1) = D := ⟨_, rfl⟩
    obtain ⟨G, hG⟩ : ∃ G, (l.1 * m.2.2 - m.1 * l.2.2).fdiv (l.1 * m.2.1 - m.1 * l.2.1) = G := ⟨_, rfl⟩
    have huniq : ∀ D' G', Solves fs D' G' → D' = D ∧ G' = G := fun D' G' hs => by
      have := two_pair hl hm hu hs
      exact ⟨by rw [← this.1, hD], by rw [← this.2, hG]⟩
    rw [hD, hG]
    have no : (∀ D' G', Solves fs D' G' → 1 ≤ D' → 1 ≤ G' → False) → ∀ p' H', Same H H' → H' p' = some (.tup [.str "none"]) → Q (.ref p') H' := fun h p' H' s' e => k p' .no H' (fun D' G' d g hs => h D' G' hs d g) s' e
    repeat first | walk_at "rd" | walk_at "rdi"
    refine ite_d (fun hc => ?_) (fun hc => ?_)
    · repeat walk_at "rd"
      refine new_at (Nat.le_of_ble_eq_true rfl) (fun u H1 nu s1 e1 => ?_)
      exact no (fun D' G' hs d g => by have := (huniq D' G' hs).1; omega) u H1 s1 e1
    · repeat first | walk_at "rd" | walk_at "rdi"
      refine ite_d (fun hc2 => ?_) (fun hc2 => ?_)
      · repeat walk_at "rd"
        refine new_at (Nat.le_of_ble_eq_true rfl) (fun u H1 nu s1 e1 => ?_)
        exact no (fun D' G' hs d g => by have := (huniq D' G' hs).2; omega) u H1 s1 e1
      · repeat first | walk_at "rd" | walk_at "rdi"
        refine ⟨p, xs, fs, D, G, rfl, e3, hA, hi, fun b hb => ?_⟩
        cases b with
        | false =>
          repeat walk_at "rd"
          refine new_at (Nat.le_of_ble_eq_true rfl) (fun u H1 nu s1 e1 => ?_)
          exact no (fun D' G' hs d g => by
            obtain ⟨z1, z2⟩ := huniq D' G' hs
            rw [z1, z2] at hs
            exact Bool.false_ne_true (hb.mpr hs)) u H1 s1 e1
        | true =>
          repeat walk_at "rd"
          refine new_at (Nat.le_of_ble_eq_true rfl) (fun u H1 nu s1 e1 => ?_)
          repeat walk_at "rd"
          refine new_at (Nat.le_of_ble_eq_true rfl) (fun v H2 nv s2 e2 => ?_)
          exact k v (.one D G) H2 ⟨hb.mp rfl, by omega, by omega⟩ (s1.trans s2) ⟨u, e2, s2 _ _ e1⟩
set_option maxHeartbeats 0 in
theorem ok_told_by_line (T : Txt K mg a) : FnOk P w K mg base CX0 1 a.a_told_by_line a.d_told_by_line ["k", "j", "time"] spLine := by
  refine T.F_told_by_line.ok sc_told_by_line (fun vs H Q E h => ?_) (fun cdv A outer s H vs Q E hr h => ?_)
  · obtain ⟨p, q, w, rfl, _⟩ := h
    rfl
  · obtain ⟨p, q, t, rfl, p1, p9, q0, q9, t0, t9, ts, hg0, k⟩ := h
    refine ⟨_, (pss_cons (ps_if (pt_cmpR op_eq (pv 1) pe_int (nomark _)) (pss_one (ps_ret (pe_ifExp (pt_cmpR op_gt (pv 2) pe_int (nomark _)) (pe_tup (pa_cons pe_str (pa_cons (pe_tup (pa_cons (pv 2) (pa_cons pe_int pa_nil))) (pa_cons (pe_tup (pa_cons pe_int (pa_cons pe_int pa_nil))) (pa_cons pe_non pa_nil))))) (pe_tup (pa_cons pe_str pa_nil)))))
 pss_nil)
 (pss_cons (ps_set (i := 3) sc_told_by_line.nd rfl (Or.inl rfl) (pe_op op_fdivW (pe_op op_sub (pv 2) (pv 0)) (pv 1)))
 (pss_cons (ps_for (by exact PassesOwn.never) rfl (pi_range3 (by rfl) T.n_range (pa_cons (pv 3) (pa_cons (pe_callB (call_max2 rfl) (by rfl) T.n_max (by decide +kernel) (pa_cons pe_int (pa_cons (pe_op op_sub (pv 3) (pv 0)) pa_nil))) (pa_cons (pe_un un_neg pe_int) pa_nil)))) (pg_name (i := 4) sc_told_by_line.nd rfl (Or.inl rfl))
 (pss_one (ps_if (pt_cmpR op_eq (pe_op op_modN (pe_op op_sub (pv 2) (pe_op op_mul (pv 1) (pv 4))) (pv 0)) pe_int (nomark _)) (pss_cons (ps_set (i := 5) sc_told_by_line.nd rfl (Or.inl rfl) (pe_tup (pa_cons (pe_op op_fdivW (pe_op op_sub (pv 2) (pe_op op_mul (pv 1) (pv 4))) (pv 0)) (pa_cons (pv 4) pa_nil))))
 (pss_cons (ps_set (i := 6) sc_told_by_line.nd rfl (Or.inl rfl) (pe_op op_add (pe_op op_fdivW (pe_op op_sub (pv 4) pe_int) (pv 0)) pe_int))
 (pss_one (ps_ret (pe_ifExp (pt_cmpR op_eq (pv 6) pe_int (nomark _)) (pe_tup (pa_cons pe_str (pa_cons (pv 5) pa_nil))) (pe_tup (pa_cons pe_str (pa_cons (pv 5) (pa_cons (pe_tup (pa_cons (pv 1) (pa_cons (pe_un un_neg (pv 0)) pa_nil))) (pa_cons (pv 6) pa_nil))))))))))
 pss_nil)))
 (pss_one (ps_ret (pe_tup (pa_cons pe_str pa_nil))))))), ?_⟩
    repeat first | walk_at "rd" | walk_at "rdi"
    refine ite_d (fun hc => ?_) (fun hc => ?_)
    · subst hc
      have hp : p = 1 := by
        unfold gcdI at hg0
        rw [show (0 : Int).natAbs = 0 from rfl, Nat.gcd_zero_right] at hg0
        omega
      subst hp
      repeat first | walk_at "rd" | walk_at "rdi"
      refine ite_d (fun hc => ?_) (fun hc => ?_)
      · repeat walk_at "rd"
        refine new_at (Nat.le_of_ble_eq_true rfl) (fun u H1 nu s1 e1 => ?_)
        repeat walk_at "rd"
        refine new_at (Nat.le_of_ble_eq_true rfl) (fun v H2 nv s2 e2 => ?_)
        repeat walk_at "rd"
        refine new_at (Nat.le_of_ble_eq_true rfl) (fun x H3 nx s3 e3 => ?_)
        exact k x (.line t 1 0 1 none) H3 ⟨by omega, by omega, by omega, rfl, by omega, fun _ => ⟨rfl, rfl, rfl⟩, fun m e => nomatch e⟩ ((s1.trans s2).trans s3) ⟨u, v, e3, s3 _ _ (s2 _ _ e1), s3 _ _ e2⟩
      · repeat walk_at "rd"
        refine new_at (Nat.le_of_ble_eq_true rfl) (fun u H1 nu s1 e1 => ?_)
        exact k u .no H1 (fun D G d g => by omega) s1 e1
    · have q1 : 1 ≤ q := by omega
      repeat walk_at "rd"
      obtain ⟨most, hmost⟩ : ∃ m, (t - p) / q = m := ⟨_, rfl⟩
      rw [hmost]
      have hle1 : most * q ≤ t - p := by rw [← hmost]; exact Int.ediv_mul_le _ (by omega)
      have hm9 : most ≤ 1000000000000 := by
        by_cases c : most ≤ 1000000000000
        · exact c
        · have : 1000000000001 * q ≤ most * q := Int.mul_le_mul_of_nonneg_right (by omega) (by omega)
          omega
      have hm0 : -200 ≤ most := by
        rw [← hmost]
        have := Int.le_ediv_of_mul_le (a := -200) (b := t - p) (c := q) (by omega) (by omega)
        exact this
      refine r_iR3 ?_
      repeat walk_at "rd"
      obtain ⟨mx, hmx, x1, x2⟩ : ∃ mx, (if most - p > 0 then most - p else 0) = mx ∧ most - p ≤ mx ∧ 0 ≤ mx := ⟨_, rfl, by split <;> omega, by split <;> omega⟩
      have x3 : mx ≤ 1000000000000 := by rw [← hmx]; split <;> omega
      rw [hmx]
      refine ⟨most, mx, -1, (most - mx).toNat, rfl, RgC.neg (by omega) (by omega) (by omega) (by omega), for_rangeC (lo := most) (c := -1) (n := (most - mx).toNat) (fun i σ H' => ∃ v4 v5 v6 : Option V, σ = [some (.int p), some (.int q), some (.int t), some (.int most), v4, v5, v6] ∧ H' = H ∧ ∀ g, most - i < g → g ≤ most → (t - q * g) % p ≠ 0) ⟨_, _, _, rfl, rfl, fun g h1 h2 => by omega⟩ ?_ ?_⟩
      · rintro i σ H1 hi ⟨v4, v5, v6, rfl, rfl, hno⟩
        obtain ⟨g, hg⟩ : ∃ g, most - (i : Int) = g := ⟨_, rfl⟩
        rw [show most + (i : Nat) * -1 = g by omega]
        have g1 : mx < g := by omega
        have g2 : g ≤ most := by omega
        repeat first | walk_at "rd" | walk_at "rdi"
        rw [Int.fmod_eq_emod_of_nonneg _ (show 0 ≤ p by omega)]
        refine ite_d (fun hc => ?_) (fun hc => ?_)
        · have hd : p * ((t - q * g) / p) = t - q * g := Int.mul_ediv_cancel' (Int.dvd_of_emod_eq_zero hc)
          obtain ⟨D, hD⟩ : ∃ D, (t - q * g) / p = D := ⟨_, rfl⟩
          obtain ⟨c, hcc⟩ : ∃ c, (g - 1) / p = c := ⟨_, rfl⟩
          have hsol : p * D + q * g = t := by rw [hD] at hd; omega
          have hqg : q * g ≤ t - p := by
            have : g * q ≤ most * q := Int.mul_le_mul_of_nonneg_right g2 (by omega)
            rw [Int.mul_comm g q] at this
            omega
          have hD1 : 1 ≤ D := by
            rw [hD] at hd
            have : p * 1 ≤ p * D := by omega
            exact Int.le_of_mul_le_mul_left this (by omega)
          have hDq : D ≤ q := line_high (by omega) hsol p1 (by rw [hmost]; omega)
          have c1 := Int.ediv_mul_le (g - 1) (show p ≠ 0 by omega)
          have c2 := Int.lt_ediv_add_one_mul_self (g - 1) (show 0 < p by omega)
          have c0 : 0 ≤ (g - 1) / p := Int.ediv_nonneg (by omega) (by omega)
          rw [hcc] at c0 c1 c2
          repeat walk_at "rd"
          rw [hD]
          refine new_at (Nat.le_of_ble_eq_true rfl) (fun u H2 nu s1 e1 => ?_)
          repeat first | walk_at "rd" | walk_at "rdi"
          rw [hcc]
          refine ite_d (fun hc1 => ?_) (fun hc1 => ?_)
          · repeat walk_at "rd"
            refine new_at (Nat.le_of_ble_eq_true rfl) (fun v H3 nv s2 e2 => ?_)
            have : c = 0 := by omega
            subst this
            exact k v (.one D g) H3 ⟨hsol, hD1, by omega, hDq, by omega⟩ (s1.trans s2) ⟨u, e2, s2 _ _ e1⟩
          · repeat walk_at "rd"
            refine new_at (Nat.le_of_ble_eq_true rfl) (fun v H3 nv s2 e2 => ?_)
            repeat walk_at "rd"
            refine new_at (Nat.le_of_ble_eq_true rfl) (fun x H4 nx s3 e3 => ?_)
            have hc9 : c ≤ 1000000000000 := by
              have : c * 1 ≤ c * p := Int.mul_le_mul_of_nonneg_left p1 c0
              omega
            refine k x (.line D g q (-p) (some (c + 1))) H4 ⟨hsol, hD1, by omega, by rw [gcdI_neg, gcdI_comm]; exact hg0, by rw [Int.mul_neg, Int.mul_comm q p]; omega, (fun e => nomatch e), fun m e => ?_⟩ ((s1.trans s2).trans s3) ⟨u, v, e3, s3 _ _ (s2 _ _ e1), s3 _ _ e2⟩
            obtain rfl : c + 1 = m := Option.some.inj e
            rw [show c + 1 - 1 = c by omega, Int.mul_neg]
            rw [Int.add_mul] at c2
            refine ⟨by omega, by omega, q1, by omega, by omega, by omega, hDq, by omega, by omega⟩
        · repeat first | exact ⟨_, _, _, rfl, rfl, fun g' h1 h2 => by
            by_cases e : g' = g
            · rw [e]; exact hc
            · exact hno g' (by omega) h2⟩ | walk_at "rd"
      · rintro σ H1 ⟨v4, v5, v6, rfl, rfl, hno⟩
        repeat walk_at "rd"
        refine new_at (Nat.le_of_ble_eq_true rfl) (fun u H1 nu s1 e1 => ?_)
        refine k u .no H1 (fun D G d g h => ?_) s1 e1
        obtain ⟨g', y1, y2, y3⟩ := line_hit p1 (by omega) h d g most hmost
        rw [hmx] at y1
        exact hno g' (by omega) y2 y3
set_option maxHeartbeats 0 in
theorem ok_told_by_multiples (T : Txt K mg a) : FnOk P w K mg base CX0 2 a.a_told_by_multiples a.d_told_by_multiples ["sums"] spMult := by
  refine T.F_told_by_multiples.ok sc_told_by_multiples (fun vs H Q E h => ?_) (fun cdv A outer s H vs Q E hr h => ?_)
  · obtain ⟨p, xs, ls, f, rfl, _⟩ := h
    rfl
  · obtain ⟨p, xs, ls, ⟨k, j, t⟩, rfl, ep, hA, hi, hf, hpos, hpar, kk⟩ := h
    have hm : ((k, j, t) : L3) ∈ ls.filter nz := List.mem_iff_getElem?.mpr ⟨0, hf⟩
    have hk : 0 < k := hpos _ hm
    obtain ⟨a0, a1, a2, a3, _, a4, a5, a6⟩ := hi _ (List.mem_filter.mp hm).1
    dsimp only at a0 a1 a2 a3 a4 a5 a6
    have hc := com_of hk a2
    obtain ⟨c, hcd⟩ : ∃ c, gcdI k j = c := ⟨_, rfl⟩
    rw [hcd] at hc
    obtain ⟨p1, hp1⟩ : ∃ p1, k / c = p1 := ⟨_, rfl⟩
    obtain ⟨q1, hq1⟩ : ∃ q1, j / c = q1 := ⟨_, rfl⟩
    obtain ⟨t1, ht1⟩ : ∃ t1, t / c = t1 := ⟨_, rfl⟩
    rw [hp1, hq1] at hc
    have c1 := hc.c1
    have hp0 := hc.p1
    have hq0 := hc.q0
    have hpk : p1 ≤ k := by
      have : 1 * p1 ≤ c * p1 := Int.mul_le_mul_of_nonneg_right c1 (by omega)
      have := hc.hk; omega
    have hqj : q1 ≤ j := by
      have : 1 * q1 ≤ c * q1 := Int.mul_le_mul_of_nonneg_right c1 (by omega)
      have := hc.hj; omega
    have hck : c ≤ k := by
      have : c * 1 ≤ c * p1 := Int.mul_le_mul_of_nonneg_left hp0 (by omega)
      have := hc.hk; omega
    have ht0 : 0 ≤ t1 := by rw [← ht1]; exact Int.ediv_nonneg a4 (by omega)
    have htt : t1 * c ≤ t := by rw [← ht1]; exact Int.ediv_mul_le _ (by omega)
    have ht9 : t1 ≤ t := by
      have : t1 * 1 ≤ t1 * c := Int.mul_le_mul_of_nonneg_left c1 ht0
      omega
    have hts : t1 ≤ (p1 + q1 + 1) * 1000000000 := by
      by_cases z : t1 ≤ (p1 + q1 + 1) * 1000000000
      · exact z
      · have h1 : ((p1 + q1 + 1) * 1000000000 + 1) * c ≤ t1 * c := Int.mul_le_mul_of_nonneg_right (by omega) (by omega)
        have h2 : ((p1 + q1 + 1) * 1000000000 + 1) * c = (c * p1 + c * q1 + c) * 1000000000 + c := by
          rw [Int.add_mul, Int.one_mul, Int.mul_right_comm, Int.add_mul (p1 + q1), Int.add_mul p1, Int.one_mul, Int.mul_comm p1, Int.mul_comm q1]
        rw [← hc.hk, ← hc.hj] at h2
        omega
    refine ⟨_, (pss_cons (ps_asg (pe_ix ix_list (pv 0) pe_int (fun _ _ => rfl)) (pg_tup (by rfl) (pgs_cons (pg_name (i := 1) sc_told_by_multiples.nd rfl (Or.inl rfl)) (pgs_cons (pg_name (i := 2) sc_told_by_multiples.nd rfl (Or.inl rfl)) (pgs_cons (pg_name (i := 3) sc_told_by_multiples.nd rfl (Or.inl rfl)) pgs_nil)))))
 (pss_cons (ps_set (i := 4) sc_told_by_multiples.nd rfl (Or.inl rfl) (pe_callBfun cr_gcd (by rfl) T.g_gcd (pa_cons (pv 1) (pa_cons (pv 2) pa_nil))))
 (pss_cons (ps_set (i := 5) sc_told_by_multiples.nd rfl (Or.inl rfl) (pe_op op_fdivW (pv 1) (pv 4)))
 (pss_cons (ps_set (i := 6) sc_told_by_multiples.nd rfl (Or.inl rfl) (pe_op op_fdivW (pv 3) (pv 4)))
 (pss_cons (ps_for (by exact PassesOwn.never) rfl (pi_list (pv 0)) (pg_tup (by rfl) (pgs_cons (pg_name (i := 7) sc_told_by_multiples.nd rfl (Or.inl rfl)) (pgs_cons (pg_name (i := 8) sc_told_by_multiples.nd rfl (Or.inl rfl)) (pgs_cons (pg_name (i := 9) sc_told_by_multiples.nd rfl (Or.inl rfl)) pgs_nil))))
 (pss_one (ps_if (pt_cmpR op_ne (pe_op op_mul (pv 6) (pe_op op_fdivW (pv 7) (pv 5))) (pv 9) (nomark _)) (pss_one (ps_ret (pe_tup (pa_cons pe_str pa_nil))))
 pss_nil)))
 (pss_one (ps_ret (pe_call (ok_told_by_line T) (hr.mono (by decide)) (by rfl) T.g_told_by_line T.F_told_by_line.kp T.b_told_by_line .nil pass0 (pa_cons (pv 5) (pa_cons (pe_op op_fdivW (pv 2) (pv 4)) (pa_cons (pv 6) pa_nil))))))))))), ?_⟩
    repeat walk_at "rd"
    obtain ⟨tr, ea, et⟩ := hA.2 0 _ hf
    have et : H tr = some (.tup [.int k, .int j, .int t]) := et
    refine r_ixL ep (v := .ref tr) (atI_nat (j := 0) ea) ?_
    repeat walk_at "rd"
    refine ⟨k, j, rfl, ?_⟩
    have eg : ((Nat.gcd k.natAbs j.natAbs : Nat) : Int) = c := hcd
    rw [eg]
    have dc : CDivW k c ∧ CDivW t c ∧ CDivW j c := by
      have : CDivW k c := wide_div (b := 64) (by omega) (by omega) (by decide) (by decide)
      exact ⟨this, this, this⟩
    repeat walk_at "rd"
    rw [hp1]
    repeat walk_at "rd"
    rw [ht1]
    repeat walk_at "rd"
    refine ⟨p, rfl, ⟨_, SqL.of ep⟩, for_list (K := K) (a := p) (xs := xs) (fun i σ H' => ∃ v7 v8 v9 : Option V, σ = [some (.ref p), some (.int k), some (.int j), some (.int t), some (.int c), some (.int p1), some (.int t1), v7, v8, v9] ∧ H' = H ∧ ∀ l, l ∈ (ls.filter nz).take i → t1 * (l.1 / p1) = l.2.2) ⟨_, _, _, rfl, rfl, fun l hl => by simp at hl⟩ (fun i σ H' _ ⟨_, _, _, _, e, _⟩ => by rw [e]; exact SqL.of ep) ?_ ?_⟩
    · rintro i x σ H2 hx ⟨v7, v8, v9, rfl, rfl, hs⟩
      obtain ⟨tl, l, rfl, hl1, etl⟩ := hA.get hx
      have hlm : l ∈ ls.filter nz := List.mem_iff_getElem?.mpr ⟨i, hl1⟩
      obtain ⟨b0, b1, b2, b3, _, b4, b5, b6⟩ := hi _ (List.mem_filter.mp hlm).1
      have d0 : 0 ≤ l.1 / p1 := Int.ediv_nonneg b0 (by omega)
      have d9 : l.1 / p1 ≤ 199 := by
        have h1 := Int.ediv_mul_le l.1 (show p1 ≠ 0 by omega)
        have h2 : l.1 / p1 * 1 ≤ l.1 / p1 * p1 := Int.mul_le_mul_of_nonneg_left hp0 d0
        omega
      repeat first | walk_at "rd" | walk_at "rdi"
      refine r_nD (fun hne => ?_) (fun heq => ?_)
      · repeat walk_at "rd"
        refine new_at (Nat.le_of_ble_eq_true rfl) (fun u H1 nu s1 e1 => ?_)
        refine kk u .no H1 ⟨fun D G d g hsol => ?_, _, (List.mem_filter.mp hm).1, nz_iff.mp (List.mem_filter.mp hm).2⟩ s1 e1
        have := (mult_of hc (fun l hl => hi l (List.mem_filter.mp hl).1) hpar hm (solves_nz.mpr hsol)).2 l hlm
        rw [ht1] at this
        exact hne this
      · repeat first | exact ⟨_, _, _, rfl, rfl, fun l' hl' => by
          rw [take_more hl1] at hl'
          rcases List.mem_append.mp hl' with h | h
          · exact hs l' h
          · rw [List.mem_singleton] at h
            subst h
            exact heq⟩ | walk_at "rd"
    · rintro σ H2 ⟨v7, v8, v9, rfl, rfl, hs⟩
      rw [hA.1, List.take_length] at hs
      repeat walk_at "rd"
      rw [hq1]
      refine ⟨p1, q1, t1, rfl, hp0, by omega, hq0, by omega, ht0, by omega, hts, hc.gc, fun p' r H' hT s' e' => ?_⟩
      rw [← ht1] at hT hs
      exact kk p' r H' (told_mult hi hc hpos hpar hm hs hT) s' e'
theorem r_neT3 {K : PySem.W.Frag} {H : Hp} {Q : VK} {p q : Addr} {xs ys : List Int} (h1 : H p = some (.tup (xs.map V.int))) (h2 : H q = some (.tup (ys.map V.int))) (k : Q (.bl (!decide (xs = ys))) H) : rNeD K (.ref p) (.ref q) H Q := by
  refine ⟨_, _, .tup (SqT.of h1) (dp_ints xs), .tup (SqT.of h2) (dp_ints ys), sh_tints xs, sh_tints ys, ?_⟩
  rw [show PyData.eqv (.tuple (xs.map PyData.int)) (.tuple (ys.map PyData.int)) = decide (xs = ys) from eq_ints (xs := xs) (ys := ys)]
  exact k
set_option maxHeartbeats 0 in
theorem ok_told_back (T : Txt K mg a) : FnOk P w K mg base CX0 7 a.a_told_back a.d_told_back ["rows"] spBack := by
  refine T.F_told_back.ok sc_told_back (fun vs H Q E h => ?_) (fun cdv A outer s H vs Q E hr h => ?_)
  · obtain ⟨p, xs, rs, rfl, _⟩ := h
    rfl
  · obtain ⟨p, xs, rs, rfl, ep, hR, hok, hl, kk⟩ := h
    have hi : LinesIn (rs.map lineOf) := fun l hl => by
      obtain ⟨r, hr, rfl⟩ := List.mem_map.mp hl
      exact (hok r hr).line
    refine ⟨_, (pss_cons (ps_expr (pe_call (ok_check_sightings T) (hr.mono (by decide)) (by rfl) T.g_check_sightings T.F_check_sightings.kp T.b_check_sightings .nil pass0 (pa_cons (pv 0) pa_nil)))
 (pss_cons (ps_setLc (i := 1) (own := [("parts", 8)]) (g := gName 8) rfl sc_told_back.nd rfl rfl (sw_true rfl rfl rfl (by decide +kernel)) (pi_list (pe_call (ok_sums_of T) (hr.mono (by decide)) (by rfl) T.g_sums_of T.F_sums_of.kp T.b_sums_of .nil pass0 (pa_cons (pv 0) pa_nil))) (blkOk_by (own := [("parts", 8)]) (N := ["rows", "sums", "k", "j", "_", "m", "i", "time", "parts"]) (sc := defScope s_told_back) (by decide +kernel)) (fun _ _ _ _ _ => (pg_name (i := 8) sc_told_back.nd rfl (Or.inl rfl))) (fun _ _ _ _ _ => pts_one (pt_cmpR (op_neDK (K := K) rfl hr.units) (pv 8) (pe_tup (pa_cons pe_int (pa_cons pe_int (pa_cons pe_int pa_nil)))) (nomark _))) (fun _ _ _ _ _ => (pv 8)))
 (pss_cons (ps_if (pt_not (pt_tru (pv 1))) (pss_one (ps_ret (pe_tup (pa_cons pe_str pa_nil))))
 pss_nil)
 (pss_cons (ps_asg (pe_ix ix_list (pv 1) pe_int (fun _ _ => rfl)) (pg_tup (by rfl) (pgs_cons (pg_name (i := 2) sc_told_back.nd rfl (Or.inl rfl)) (pgs_cons (pg_name (i := 3) sc_told_back.nd rfl (Or.inl rfl)) (pgs_cons (pg_name (i := 4) sc_told_back.nd rfl (Or.inl rfl)) pgs_nil)))))
 (pss_cons (ps_for (by exact PassesOwn.never) rfl (pi_list (pv 1)) (pg_tup (by rfl) (pgs_cons (pg_name (i := 5) sc_told_back.nd rfl (Or.inl rfl)) (pgs_cons (pg_name (i := 6) sc_told_back.nd rfl (Or.inl rfl)) (pgs_cons (pg_name (i := 7) sc_told_back.nd rfl (Or.inl rfl)) pgs_nil))))
 (pss_cons (ps_if (pt_cmpR op_eq (pv 5) pe_int (nomark _)) (pss_one (ps_ret (pe_tup (pa_cons pe_str pa_nil))))
 pss_nil)
 (pss_one (ps_if (pt_cmpR op_ne (pe_op op_mul (pv 2) (pv 6)) (pe_op op_mul (pv 5) (pv 3)) (nomark _)) (pss_one (ps_ret (pe_call (ok_told_by_two T) (hr.mono (by decide)) (by rfl) T.g_told_by_two T.F_told_by_two.kp T.b_told_by_two .nil pass0 (pa_cons (pe_ix ix_list (pv 1) pe_int (fun _ _ => rfl)) (pa_cons (pe_tup (pa_cons (pv 5) (pa_cons (pv 6) (pa_cons (pv 7) pa_nil)))) (pa_cons (pv 1) pa_nil))))))
 pss_nil))))
 (pss_one (ps_ret (pe_call (ok_told_by_multiples T) (hr.mono (by decide)) (by rfl) T.g_told_by_multiples T.F_told_by_multiples.kp T.b_told_by_multiples .nil pass0 (pa_cons (pv 1) pa_nil))))))))), ?_⟩
    repeat walk_at "rd"
    refine ⟨p, xs, rs, rfl, ep, hR, hok, hl, fun H1 s1 => ?_⟩
    repeat walk_at "rd"
    refine ⟨p, xs, rs, rfl, ep.keep s1, hR.keep s1, hok, hl, fun q ys H2 s2 eq hA => ?_⟩
    have s12 := s1.trans s2
    have hll : (rs.map lineOf).length ≤ 60 := by rw [List.length_map]; exact hl
    generalize rs.map lineOf = ls at hi hA kk hll
    repeat walk_at "rd"
    refine ⟨q, rfl, ⟨_, SqL.of eq⟩, fun L hL => lc_list (K := K) (a := q) (xs := ys) (fun i H' => ∃ acc : List V, H' L = some (.lst acc) ∧ acc.length ≤ i ∧ TrisAt H' acc ((ls.take i).filter nz) ∧ H' q = some (.lst ys) ∧ Same H2 H') ?_ (fun i H' _ ⟨_, _, _, _, h, _⟩ => SqL.of h) ?_ ?_⟩
    · exact ⟨[], upd_same, Nat.le_refl _, TrisAt.nil, (upd_ne (ne_of_none eq hL)).trans eq, Same.new hL⟩
    · rintro i y H6 hiy ⟨acc, h1, h2, h3, h4, h5⟩
      obtain ⟨t, l, rfl, hl1, et⟩ := (hA.keep h5).get hiy
      have hi9 : i < 60 := by have := (List.getElem?_eq_some_iff.mp hl1).1; omega
      repeat walk_at "rd"
      refine ⟨rfl, ?_⟩
      repeat walk_at "rd"
      refine new_at (Nat.le_of_ble_eq_true rfl) (fun q8 H8 n8 s8 e8 => ?_)
      refine r_neT3 (xs := [l.1, l.2.1, l.2.2]) (ys := [0, 0, 0]) (s8 _ _ et) e8 ?_
      have hf : (ls.take (i + 1)).filter nz = (ls.take i).filter nz ++ (if nz l = true then [l] else []) := by
        rw [take_more hl1, List.filter_append]
        congr 1
        by_cases c : nz l = true
        · rw [if_pos c, List.filter_cons_of_pos c]; rfl
        · rw [if_neg c, List.filter_cons_of_neg c]; rfl
      have e0 : (!decide ([l.1, l.2.1, l.2.2] = [0, 0, 0])) = nz l := by
        obtain ⟨z1, z2, z3⟩ := l
        show (!decide ([z1, z2, z3] = [0, 0, 0])) = decide ((z1, z2, z3) ≠ (0, 0, 0))
        rw [Bool.eq_iff_iff, Bool.not_eq_true', decide_eq_false_iff_not, decide_eq_true_iff]
        simp
      rw [e0]
      have h1 := s8 _ _ h1
      refine ⟨_, rfl, ite_b (fun hc => ?_) (fun hc => ?_)⟩
      · rw [if_pos hc] at hf
        repeat walk_at "rd"
        refine ⟨_, h1, small1000 (by omega), acc ++ [.ref t], upd_same, by rw [List.length_append, List.length_singleton]; omega, by rw [hf]; exact ((h3.keep s8).snoc (s8 _ _ et)).upd h1, (upd_ne (ne_of_none eq hL)).trans (s8 _ _ h4), (h5.trans s8).over hL h1⟩
      · rw [hc, if_neg Bool.false_ne_true, List.append_nil] at hf
        exact ⟨acc, h1, by omega, by rw [hf]; exact h3.keep s8, s8 _ _ h4, h5.trans s8⟩
    · rintro H6 ⟨acc, h1, h2, h3, h4, h5⟩
      rw [hA.1, List.take_length] at h3
      have s16 := s12.trans h5
      repeat walk_at "rd"
      refine ⟨.ref L, rfl, !acc.isEmpty, .inl ⟨acc, SqL.of h1, rfl⟩, ?_⟩
      cases hfe : ls.filter nz with
      | nil =>
        rw [hfe] at h3
        obtain rfl : acc = [] := List.length_eq_zero_iff.mp h3.1
        repeat walk_at "rd"
        refine new_at (Nat.le_of_ble_eq_true rfl) (fun u H7 nu s7 e7 => ?_)
        refine kk u .any H7 (fun l hl => Classical.byContradiction fun z => ?_) (s16.trans s7) e7
        have : l ∈ ls.filter nz := List.mem_filter.mpr ⟨hl, nz_iff.mpr z⟩
        rw [hfe] at this
        cases this
      | cons f fs =>
        have hne : acc.isEmpty = false := by
          have := h3.1
          rw [hfe] at this
          cases acc with
          | nil => cases this
          | cons _ _ => rfl
        rw [hne]
        have hf0 : (ls.filter nz)[0]? = some f := by rw [hfe]; rfl
        obtain ⟨tf, eaf, etf⟩ := h3.2 0 f hf0
        have etf : H6 tf = some (.tup [.int f.1, .int f.2.1, .int f.2.2]) := etf
        have hfm : f ∈ ls.filter nz := by rw [hfe]; exact List.mem_cons_self ..
        clear hfe fs
        rw [if_neg (show ¬ ((!!false) = true) by decide)]
        repeat walk_at "rd"
        refine r_ixL h1 (v := .ref tf) (atI_nat (j := 0) eaf) ?_
        repeat walk_at "rd"
        obtain ⟨f0, f1, f2, f3, _, f4, f5, f6⟩ := hi f (List.mem_filter.mp hfm).1
        refine ⟨L, rfl, ⟨_, SqL.of h1⟩, for_list (K := K) (a := L) (xs := acc) (fun i σ H' => ∃ v5 v6 v7 v8 : Option V, σ = [some (.ref p), some (.ref L), some (.int f.1), some (.int f.2.1), some (.int f.2.2), v5, v6, v7, v8] ∧ H' = H6 ∧ ∀ l, l ∈ (ls.filter nz).take i → 0 < l.1 ∧ f.1 * l.2.1 = l.1 * f.2.1) ⟨_, _, _, _, rfl, rfl, fun l hl => by simp at hl⟩ (fun i σ H' _ ⟨_, _, _, _, _, e, _⟩ => by rw [e]; exact SqL.of h1) ?_ ?_⟩
        · rintro i x σ H7 hx ⟨v5, v6, v7, v8, rfl, rfl, hs⟩
          obtain ⟨tl, l, rfl, hl1, etl⟩ := h3.get hx
          have hlm : l ∈ ls.filter nz := List.mem_iff_getElem?.mpr ⟨i, hl1⟩
          obtain ⟨b0, b1, b2, b3, b7, b4, b5, b6⟩ := hi _ (List.mem_filter.mp hlm).1
          repeat first | walk_at "rd" | walk_at "rdi"
          refine ite_d (fun hc => ?_) (fun hc => ?_)
          · repeat walk_at "rd"
            refine new_at (Nat.le_of_ble_eq_true rfl) (fun u H8 nu s8 e8 => ?_)
            have hz := nz_iff.mp (List.mem_filter.mp hlm).2
            refine kk u .no H8 ⟨No.zero (List.mem_filter.mp hlm).1 hc (b7 hc) (fun z => hz (Prod.ext hc (Prod.ext (b7 hc) z))), l, (List.mem_filter.mp hlm).1, hz⟩ (s16.trans s8) e8
          · repeat first | walk_at "rd" | walk_at "rdi"
            refine r_nD (fun hne2 => ?_) (fun heq => ?_)
            · repeat walk_at "rd"
              refine r_ixL h1 (v := .ref tf) (atI_nat (j := 0) eaf) ?_
              repeat walk_at "rd"
              refine new_at (Nat.le_of_ble_eq_true rfl) (fun u H8 nu s8 e8 => ?_)
              repeat walk_at "rd"
              have hif : LinesIn (ls.filter nz) := fun l hl => hi l (List.mem_filter.mp hl).1
              refine ⟨tf, u, L, f, l, acc, ls.filter nz, rfl, s8 _ _ etf, e8, s8 _ _ h1, h3.keep s8, hif, hfm, hlm, by omega, fun p' r H9 hT s9 e9 => ?_⟩
              refine kk p' r H9 ?_ ((s16.trans s8).trans s9) e9
              cases r with
              | any => exact hT.elim
              | no => exact ⟨No.nz hT, l, (List.mem_filter.mp hlm).1, nz_iff.mp (List.mem_filter.mp hlm).2⟩
              | one D G =>
                obtain ⟨t1, t2, t3⟩ := hT
                refine ⟨solves_nz.mp t1, t2, t3, ⟨l, (List.mem_filter.mp hlm).1, by omega⟩, fun hpar => absurd ?_ hne2⟩
                have hf1 : 0 < f.1 := by
                  by_cases z : 0 < f.1
                  · exact z
                  · have e1 : f.1 = 0 := by omega
                    have := (hi f (List.mem_filter.mp hfm).1).2.2.2.2.1 e1
                    rw [e1, this] at hne2
                    simp at hne2
                exact hpar f l (List.mem_filter.mpr ⟨(List.mem_filter.mp hfm).1, decide_eq_true hf1⟩) (List.mem_filter.mpr ⟨(List.mem_filter.mp hlm).1, decide_eq_true (show l.1 > 0 by omega)⟩)
              | line D G e f c => exact hT.elim
            · repeat first | exact ⟨_, _, _, _, rfl, rfl, fun l' hl' => by
                rw [take_more hl1] at hl'
                rcases List.mem_append.mp hl' with h | h
                · exact hs l' h
                · rw [List.mem_singleton] at h
                  subst h
                  exact ⟨by omega, heq⟩⟩ | walk_at "rd"
        · rintro σ H7 ⟨v5, v6, v7, v8, rfl, rfl, hs⟩
          rw [h3.1, List.take_length] at hs
          repeat walk_at "rd"
          exact ⟨L, acc, ls, f, rfl, h1, h3, hi, hf0, fun l hl => (hs l hl).1, fun l hl => (hs l hl).2, fun p' r H8 hT s8 e8 => kk p' r H8 hT (s16.trans s8) e8⟩
end

/-! ### the law of k63: lines, pairs that solve them; explains -/
def spSolvesL : Sp := fun vs H Q _ => ∃ (p u : Addr) (xs : List V) (ls : List L3) (D G : Int), vs = [.ref p, .ref u] ∧ H p = some (.lst xs) ∧ TrisAt H xs ls ∧ LinesIn ls ∧ H u = some (.tup [.int D, .int G]) ∧ ∀ b : Bool, (b = true ↔ Solves ls D G ∧ 1 ≤ D ∧ 1 ≤ G) → Q (.bl b) H
def spLinesL : Sp := fun vs H Q _ => ∃ (p : Addr) (xs : List V) (rs : List Row), vs = [.ref p] ∧ H p = some (.lst xs) ∧ RowsAt H xs rs ∧ (∀ r, r ∈ rs → RowOk r) ∧ rs.length ≤ 60 ∧ ∀ q ys H', Same H H' → H' q = some (.lst ys) → TrisAt H' ys (rs.map lineOf) → Q (.ref q) H'
def spExplains : Sp := fun vs H Q _ => ∃ (p : Addr) (xs : List V) (rs : List Row) (D G : Int), vs = [.ref p, .int D, .int G] ∧ SeqV H p xs ∧ RowsAt H xs rs ∧ (∀ r, r ∈ rs → RowOk r) ∧ rs.length ≤ 60 ∧ (1 ≤ D ∧ D ≤ 100000000000000000000) ∧ (1 ≤ G ∧ G ≤ 100000000000000000000) ∧ ∀ (b : Bool) (H' : Hp), (b = true ↔ Solves (rs.map lineOf) D G) → Same H H' → Q (.bl b) H'
section
variable {P : Program} {w : World} {K : PySem.W.Frag} {mg : Str → Option Value} {base : Heap} {a : Adr}
theorem ok__law_integer (T : Txt K mg a) : FnOk P w K mg base CX0 1 a.a__law_integer a.d__law_integer ["_law_thing"] (spIsInteger K) := by
  refine T.F__law_integer.ok sc__law_integer (fun vs H Q E h => ?_) (fun cdv A outer s H vs Q E hr h => ?_)
  · obtain ⟨x, b, rfl, _⟩ := h
    rfl
  · obtain ⟨x, b, rfl, ⟨t, b1, b2, ty, h1, h2, rfl⟩, k⟩ := h
    refine ⟨_, (pss_one (ps_ret (pe_and (pe_callB call_isi (by rfl) T.n_isinstance (by decide +kernel) (pa_cons (pv 0) (pa_cons (pe_bltn (v := .ty "int") (u := .type "int") (by rfl) T.n_int (by decide +kernel) rfl) pa_nil))) (pe_one (pe_not (pe_callB call_isi (by rfl) T.n_isinstance (by decide +kernel) (pa_cons (pv 0) (pa_cons (pe_bltn (v := .ty "bool") (u := .type "bool") (by rfl) T.n_bool (by decide +kernel) rfl) pa_nil)))))))), ?_⟩
    repeat walk_at "rd"
    refine r_isi ty h1 ?_
    refine ⟨b1, rfl, ?_⟩
    cases b1 with
    | false => exact iteF k
    | true =>
      repeat walk_at "rd"
      refine r_isi ty h2 ?_
      exact ⟨b2, rfl, k⟩
theorem ok__law_lines (T : Txt K mg a) : FnOk P w K mg base CX0 1 a.a__law_lines a.d__law_lines ["_law_rows"] spLinesL := by
  refine T.F__law_lines.ok sc__law_lines (fun vs H Q E h => ?_) (fun cdv A outer s H vs Q E hr h => ?_)
  · obtain ⟨p, xs, rs, rfl, _⟩ := h
    rfl
  · obtain ⟨p, xs, rs, rfl, ep, hA, hok, hl, k⟩ := h
    refine ⟨_, (pss_one (ps_ret (pe_lc (own := [("_law_name", 1), ("_law_time", 2)]) (g := gTup K 2 (gCons (gName 1) (gCons (gName 2) (gNil)))) (tt := tYes) rfl sc__law_lines.nd (pi_list (pv 0)) (blkOk_by (own := [("_law_name", 1), ("_law_time", 2)]) (N := ["_law_rows", "_law_name", "_law_time"]) (sc := defScope s__law_lines) (by decide +kernel)) (fun _ _ _ _ _ => (pg_tupK (K := K) (n := 2) rfl (by rfl) (pgs_cons (pg_name (i := 1) sc__law_lines.nd rfl (Or.inl rfl)) (pgs_cons (pg_name (i := 2) sc__law_lines.nd rfl (Or.inl rfl)) pgs_nil)))) (fun _ _ _ _ _ => pts_nil) (fun _ _ _ _ _ => (pe_tup (pa_cons (pe_op op_sub (pe_callB (call_len_seqK (K := K) rfl) (by rfl) T.n_len (by decide +kernel) (pa_cons (pv 1) pa_nil)) pe_int) (pa_cons (pe_callB (cr_sumTK (K := K) rfl rfl) (by rfl) T.n_sum (by decide +kernel) (pa_cons (pv 1) pa_nil)) (pa_cons (pv 2) pa_nil)))))))), ?_⟩
    repeat walk_at "rd"
    refine ⟨p, rfl, ⟨_, SqL.of ep⟩, fun L hL => lc_list (K := K) (a := p) (xs := xs) (fun i H' => ∃ acc : List V, H' L = some (.lst acc) ∧ TrisAt H' acc ((rs.take i).map lineOf) ∧ H' p = some (.lst xs) ∧ Same H H') ?_ (fun i H' _ ⟨_, _, _, h, _⟩ => SqL.of h) ?_ ?_⟩
    · exact ⟨[], upd_same, TrisAt.nil, (upd_ne (ne_of_none ep hL)).trans ep, Same.new hL⟩
    · rintro i y H6 hi ⟨acc, h1, h2, h3, h4⟩
      obtain ⟨r, hr1, t, q, rfl, e1, e2⟩ := (hA.keep h4).get hi
      have hi9 : i < 60 := by have := (List.getElem?_eq_some_iff.mp hi).1; have := hA.1; omega
      have hok1 := hok r (List.mem_iff_getElem?.mpr ⟨i, hr1⟩)
      repeat walk_at "rd"
      refine ⟨rfl, ?_⟩
      repeat walk_at "rd"
      rw [show ((V.int 0 :: r.1.map V.int).length : Int) - 1 = r.1.length by rw [List.length_cons, List.length_map]; omega]
      refine ⟨q, 0 :: r.1, rfl, SqT.of e2, ?_⟩
      rw [show (0 :: r.1).sum = r.1.sum by rw [List.sum_cons]; omega]
      repeat walk_at "rd"
      refine new_at (Nat.le_of_ble_eq_true rfl) (fun q8 H8 n8 s78 e8 => ?_)
      refine ⟨_, s78 _ _ h1, small1000 (by have := h2.1; rw [List.length_map, List.length_take] at this; omega), acc ++ [.ref q8], upd_same, ?_, (upd_ne (ne_of_none ep hL)).trans (s78 _ _ h3), (h4.trans s78).over hL (s78 _ _ h1)⟩
      rw [take_more hr1, List.map_append]
      exact ((h2.keep s78).snoc (g := lineOf r) e8).upd (s78 _ _ h1)
    · rintro H6 ⟨acc, h1, h2, h3, h4⟩
      rw [hA.1, List.take_length] at h2
      repeat first | exact k L acc H6 h4 h1 h2 | walk_at "rd"
theorem ok__law_solves (T : Txt K mg a) : FnOk P w K mg base CX0 1 a.a__law_solves a.d__law_solves ["_law_lines_here", "_law_pair"] spSolvesL := by
  refine T.F__law_solves.ok sc__law_solves (fun vs H Q E h => ?_) (fun cdv A outer s H vs Q E hr h => ?_)
  · obtain ⟨p, u, xs, ls, D, G, rfl, _⟩ := h
    rfl
  · obtain ⟨p, u, xs, ls, D, G, rfl, ep, hA, hl, eu, k⟩ := h
    refine ⟨_, (pss_cons (ps_for (by exact PassesOwn.never) rfl (pi_list (pv 0)) (pg_tup (by rfl) (pgs_cons (pg_name (i := 2) sc__law_solves.nd rfl (Or.inl rfl)) (pgs_cons (pg_name (i := 3) sc__law_solves.nd rfl (Or.inl rfl)) (pgs_cons (pg_name (i := 4) sc__law_solves.nd rfl (Or.inl rfl)) pgs_nil))))
 (pss_one (ps_if (pt_cmpR op_ne (pe_op op_add (pe_op op_mul (pv 2) (pe_ix ix_tup (pv 1) pe_int (fun _ _ => rfl))) (pe_op op_mul (pv 3) (pe_ix ix_tup (pv 1) pe_int (fun _ _ => rfl)))) (pv 4) (nomark _)) (pss_one (ps_ret pe_bl))
 pss_nil)))
 (pss_one (ps_ret (pe_and (pe_cmpR op_ge (pe_ix ix_tup (pv 1) pe_int (fun _ _ => rfl)) pe_int (nomark _)) (pe_one (pe_cmpR op_ge (pe_ix ix_tup (pv 1) pe_int (fun _ _ => rfl)) pe_int (nomark _))))))), ?_⟩
    repeat walk_at "rd"
    refine ⟨p, rfl, ⟨_, SqL.of ep⟩, for_list (K := K) (a := p) (xs := xs) (fun i σ H' => ∃ v3 v4 v5 : Option V, σ = [some (.ref p), some (.ref u), v3, v4, v5] ∧ H' = H ∧ Solves (ls.take i) D G) ⟨_, _, _, rfl, rfl, fun l hl => by simp at hl⟩ (fun i σ H' _ ⟨_, _, _, _, e, _⟩ => by rw [e]; exact SqL.of ep) ?_ ?_⟩
    · rintro i x σ H2 hi ⟨v3, v4, v5, rfl, rfl, hs⟩
      obtain ⟨t, l, rfl, hl1, et⟩ := hA.get hi
      obtain ⟨a0, a1, a2, a3, _, _, _, _⟩ := hl l (List.mem_iff_getElem?.mpr ⟨i, hl1⟩)
      repeat walk_at "rd"
      refine r_nD (fun hc => ?_) (fun hc => ?_)
      · repeat walk_at "rd"
        exact k false ⟨fun z => Bool.noConfusion z, fun h => absurd (h.1 l (List.mem_iff_getElem?.mpr ⟨i, hl1⟩)) hc⟩
      · repeat first | exact ⟨_, _, _, rfl, rfl, fun l' hl' => by
          rw [take_more hl1] at hl'
          rcases List.mem_append.mp hl' with h | h
          · exact hs l' h
          · rw [List.mem_singleton] at h
            subst h
            exact hc⟩ | walk_at "rd"
    · rintro σ H2 ⟨v3, v4, v5, rfl, rfl, hs⟩
      rw [hA.1, List.take_length] at hs
      repeat walk_at "rd"
      refine ite_d (fun hc => ?_) (fun hc => ?_)
      · repeat walk_at "rd"
        exact k _ ⟨fun h => ⟨hs, hc, of_decide_eq_true h⟩, fun h => decide_eq_true h.2.2⟩
      · exact k false ⟨fun z => Bool.noConfusion z, fun h => absurd h.2.1 hc⟩
theorem ok_explains (T : Txt K mg a) : FnOk P w K mg base CX0 7 a.a_explains a.d_explains ["rows", "letter", "gap"] spExplains := by
  refine T.F_explains.ok sc_explains (fun vs H Q E h => ?_) (fun cdv A outer s H vs Q E hr h => ?_)
  · obtain ⟨p, xs, rs, D, G, rfl, _⟩ := h
    rfl
  · obtain ⟨p, xs, rs, D, G, rfl, ep, hR, hok, hl, hD, hG, k⟩ := h
    have hi : LinesIn (rs.map lineOf) := fun l hl => by
      obtain ⟨r, hr, rfl⟩ := List.mem_map.mp hl
      exact (hok r hr).line
    refine ⟨_, (pss_cons (ps_expr (pe_call (ok_check_sightings T) (hr.mono (by decide)) (by rfl) T.g_check_sightings T.F_check_sightings.kp T.b_check_sightings .nil pass0 (pa_cons (pv 0) pa_nil)))
 (pss_cons (ps_if (pt_not (pt_val (pe_call (ok_is_between T) (hr.mono (by decide)) (by rfl) T.g_is_between T.F_is_between.kp T.b_is_between .nil pass0 (pa_cons (pv 1) (pa_cons pe_int (pa_cons (pe_glob (v := .int 100000000000000000000) (by rfl) T.g_GREATEST_TOLD.choose_spec ⟨_, rfl⟩) pa_nil)))))) (pss_one ps_never)
 pss_nil)
 (pss_cons (ps_if (pt_not (pt_val (pe_call (ok_is_between T) (hr.mono (by decide)) (by rfl) T.g_is_between T.F_is_between.kp T.b_is_between .nil pass0 (pa_cons (pv 2) (pa_cons pe_int (pa_cons (pe_glob (v := .int 100000000000000000000) (by rfl) T.g_GREATEST_TOLD.choose_spec ⟨_, rfl⟩) pa_nil)))))) (pss_one ps_never)
 pss_nil)
 (pss_one (ps_ret (pe_call (ok_fits T) (hr.mono (by decide)) (by rfl) T.g_fits T.F_fits.kp T.b_fits .nil pass0 (pa_cons (pe_call (ok_sums_of T) (hr.mono (by decide)) (by rfl) T.g_sums_of T.F_sums_of.kp T.b_sums_of .nil pass0 (pa_cons (pv 0) pa_nil)) (pa_cons (pv 1) (pa_cons (pv 2) pa_nil))))))))), ?_⟩
    repeat walk_at "rd"
    refine ⟨p, xs, rs, rfl, ep, hR, hok, hl, fun H1 s1 => ?_⟩
    repeat first | walk_at "rd" | walk_at "rdi"
    refine r_between ?_
    repeat walk_at "rd"
    refine r_nDT hD ?_
    repeat first | walk_at "rd" | walk_at "rdi"
    refine r_between ?_
    repeat walk_at "rd"
    refine r_nDT hG ?_
    repeat first | walk_at "rd" | walk_at "rdi"
    refine ⟨p, xs, rs, rfl, ep.keep s1, hR.keep s1, hok, hl, fun q ys H2 s2 eq hA => ?_⟩
    repeat walk_at "rd"
    refine ⟨q, ys, rs.map lineOf, D, G, rfl, eq, hA, hi, fun b hb => ?_⟩
    exact k b H2 hb (s1.trans s2)
end

/-! ### what is told are all the pairs -/
theorem com_diff {k j c p q D G D' G' : Int} (hc : Com k j c p q) (h : k * D + j * G = k * D' + j * G') : (∃ n, 0 ≤ n ∧ D' = D + n * q ∧ G' = G - n * p) ∨ ∃ n, 1 ≤ n ∧ D' = D - n * q ∧ G' = G + n * p := by
  by_cases c1 : G' ≤ G
  · obtain ⟨n, h1, h2, h3⟩ := hc.co (G - G') (D' - D) (by rw [Int.mul_sub, Int.sub_mul, Int.mul_comm G j, Int.mul_comm G' j]; omega) (by omega)
    exact .inl ⟨n, h3, by rw [Int.mul_comm n q]; omega, by rw [Int.mul_comm n p]; omega⟩
  · obtain ⟨n, h1, h2, h3⟩ := hc.co (G' - G) (D - D') (by rw [Int.mul_sub, Int.sub_mul, Int.mul_comm G j, Int.mul_comm G' j]; omega) (by omega)
    refine .inr ⟨n, ?_, by rw [Int.mul_comm n q]; omega, by rw [Int.mul_comm n p]; omega⟩
    by_cases z : n = 0
    · rw [z, Int.mul_zero] at h1; omega
    · omega
theorem one_only {ls : List L3} {D G D' G' : Int} (hi : LinesIn ls) (h : OneOk ls D G) (hs : Solves ls D' G') (d : 1 ≤ D') (g : 1 ≤ G') : D' = D ∧ G' = G := by
  obtain ⟨l0, hl0, hp0⟩ := h.up
  have hl0p : l0 ∈ ls.filter pos1 := List.mem_filter.mpr ⟨hl0, decide_eq_true hp0⟩
  by_cases hpar : Par (ls.filter pos1)
  · obtain ⟨f, hf⟩ : ∃ f, (ls.filter pos1).head? = some f := by
      cases e : ls.filter pos1 with
      | nil => rw [e] at hl0p; cases hl0p
      | cons f fs => exact ⟨f, rfl⟩
    obtain ⟨o1, o2⟩ := h.only hpar f hf
    have hfm := List.mem_of_head? hf
    have hfl := (List.mem_filter.mp hfm).1
    have hf1 : 0 < f.1 := of_decide_eq_true (List.mem_filter.mp hfm).2
    have hc := com_of hf1 (hi f hfl).2.2.1
    have hp := hc.p1
    have hq := hc.q0
    rcases com_diff hc ((h.sol f hfl).trans (hs f hfl).symm) with ⟨n, n0, e1, e2⟩ | ⟨n, n1, e1, e2⟩
    · by_cases z : n = 0
      · rw [z, Int.zero_mul] at e1 e2; omega
      · have : 1 * (f.1 / gcdI f.1 f.2.1) ≤ n * (f.1 / gcdI f.1 f.2.1) := Int.mul_le_mul_of_nonneg_right (by omega) (by omega)
        omega
    · have : 1 * (f.2.1 / gcdI f.1 f.2.1) ≤ n * (f.2.1 / gcdI f.1 f.2.1) := Int.mul_le_mul_of_nonneg_right n1 hq
      omega
  · obtain ⟨a, b, ha, hb, hu⟩ : ∃ a b, a ∈ ls.filter pos1 ∧ b ∈ ls.filter pos1 ∧ a.1 * b.2.1 ≠ b.1 * a.2.1 := Classical.byContradiction fun z => hpar fun a b ha hb => Classical.byContradiction fun y => z ⟨a, b, ha, hb, y⟩
    have ha' := (List.mem_filter.mp ha).1
    have hb' := (List.mem_filter.mp hb).1
    obtain ⟨h1, h2⟩ := two_pair ha' hb' (by omega) h.sol
    obtain ⟨h3, h4⟩ := two_pair ha' hb' (by omega) hs
    exact ⟨h3.symm.trans h1, h4.symm.trans h2⟩
theorem line_only {ls : List L3} {D G D' G' e f m : Int} (hi : LinesIn ls) (h : LineOk ls D G e f (some m)) (hs : Solves ls D' G') (d : 1 ≤ D') (g : 1 ≤ G') : ∃ n : Int, 0 ≤ n ∧ n < m ∧ D' = D + n * e ∧ G' = G + n * f := by
  obtain ⟨l0, hl0, hp0⟩ := h.up
  obtain ⟨m1, _, e1, _, _, _, hDe, hl, hh⟩ := h.many m rfl
  have hf : f < 0 := by omega
  have hc := com_of hp0 (hi l0 hl0).2.2.1
  obtain ⟨p, hp⟩ : ∃ p, l0.1 / gcdI l0.1 l0.2.1 = p := ⟨_, rfl⟩
  obtain ⟨q, hq⟩ : ∃ q, l0.2.1 / gcdI l0.1 l0.2.1 = q := ⟨_, rfl⟩
  rw [hp, hq] at hc
  have hp1 := hc.p1
  have hq0 := hc.q0
  obtain ⟨n, h1, h2, h3⟩ := hc.co (-f) e (by have := h.step l0 hl0; rw [Int.neg_mul, Int.mul_comm f]; omega) (by omega)
  have hn : n = 1 := by
    have hone := h.one
    have hgc := hc.gc
    rw [← gcdI_neg, h1, h2, gcdI_comm] at hone
    unfold gcdI at hone hgc
    rw [Int.natAbs_mul, Int.natAbs_mul, Nat.gcd_mul_right, Int.ofNat.inj (show ((Nat.gcd p.natAbs q.natAbs : Nat) : Int) = ((1 : Nat) : Int) from hgc), Nat.one_mul] at hone
    omega
  rw [hn, Int.mul_one] at h1 h2
  obtain rfl : f = -p := by omega
  subst h2
  rcases com_diff hc ((h.sol l0 hl0).trans (hs l0 hl0).symm) with ⟨n', n0, x1, x2⟩ | ⟨n', n1, x1, x2⟩
  · refine ⟨n', n0, ?_, x1, by rw [Int.mul_neg]; omega⟩
    by_cases z : n' < m
    · exact z
    · have : m * p ≤ n' * p := Int.mul_le_mul_of_nonneg_right (by omega) (by omega)
      rw [Int.mul_neg, Int.sub_mul] at hh
      omega
  · have : 1 * e ≤ n' * e := Int.mul_le_mul_of_nonneg_right n1 (by omega)
    omega
/-- some answer is right for a line -/
theorem line_told_ex {p q w : Int} (hp : 1 ≤ p) (hp9 : p ≤ 199) (hq : 0 ≤ q) (hq9 : q ≤ 200000000000000000) (hw : w ≤ 100000000000000000000) (hg : gcdI p q = 1) : ∃ r, LineTold p q w r := by
  by_cases hs : ∃ D G : Int, 1 ≤ D ∧ 1 ≤ G ∧ p * D + q * G = w
  · obtain ⟨D0, G0, d0, g0, e0⟩ := hs
    by_cases hq0 : q = 0
    · subst hq0
      have hp1 : p = 1 := by
        unfold gcdI at hg
        rw [show (0 : Int).natAbs = 0 from rfl, Nat.gcd_zero_right] at hg
        omega
      exact ⟨.line D0 1 0 1 none, ⟨by omega, d0, by decide, rfl, by omega, fun _ => ⟨rfl, rfl, rfl⟩, fun m e => nomatch e⟩⟩
    · have hq1 : 1 ≤ q := by omega
      -- D0 brought into 1..q
      obtain ⟨i, hi⟩ : ∃ i, (D0 - 1) / q = i := ⟨_, rfl⟩
      have i0 : 0 ≤ i := by rw [← hi]; exact Int.ediv_nonneg (by omega) (by omega)
      have h1 := Int.ediv_mul_le (D0 - 1) (show q ≠ 0 by omega)
      have h2 := Int.lt_ediv_add_one_mul_self (D0 - 1) (show 0 < q by omega)
      rw [hi] at h1 h2
      rw [Int.add_mul, Int.one_mul] at h2
      obtain ⟨D, hD⟩ : ∃ D, D0 - i * q = D := ⟨_, rfl⟩
      obtain ⟨G, hG⟩ : ∃ G, G0 + i * p = G := ⟨_, rfl⟩
      have hip : 0 ≤ i * p := Int.mul_nonneg i0 (by omega)
      have hsol : p * D + q * G = w := by
        rw [← hD, ← hG, Int.mul_sub, Int.mul_add, ← e0, show p * (i * q) = q * (i * p) by rw [Int.mul_left_comm, Int.mul_left_comm q i p, Int.mul_comm p q]]
        omega
      obtain ⟨c, hc⟩ : ∃ c, (G - 1) / p = c := ⟨_, rfl⟩
      have c1 := Int.ediv_mul_le (G - 1) (show p ≠ 0 by omega)
      have c2 := Int.lt_ediv_add_one_mul_self (G - 1) (show 0 < p by omega)
      have c0 : 0 ≤ (G - 1) / p := Int.ediv_nonneg (by omega) (by omega)
      rw [hc] at c0 c1 c2
      rw [Int.add_mul, Int.one_mul] at c2
      by_cases z : c = 0
      · subst z
        exact ⟨.one D G, hsol, by omega, by omega, by omega, by omega⟩
      · have hqG : q * G ≤ w := by
          have : 0 ≤ p * D := Int.mul_nonneg (by omega) (by omega)
          omega
        have hG9 : G ≤ w := by
          have : 1 * G ≤ q * G := Int.mul_le_mul_of_nonneg_right hq1 (by omega)
          omega
        have hc9 : c ≤ G := by
          have : c * 1 ≤ c * p := Int.mul_le_mul_of_nonneg_left hp c0
          omega
        refine ⟨.line D G q (-p) (some (c + 1)), ⟨hsol, by omega, by omega, by rw [gcdI_neg, gcdI_comm]; exact hg, by rw [Int.mul_neg, Int.mul_comm q p]; omega, (fun e => nomatch e), fun m e => ?_⟩⟩
        obtain rfl : c + 1 = m := Option.some.inj e
        rw [show c + 1 - 1 = c by omega, Int.mul_neg]
        exact ⟨by omega, by omega, hq1, by omega, by omega, by omega, by omega, by omega, by omega⟩
  · exact ⟨.no, fun D G d g h => hs ⟨D, G, d, g, h⟩⟩
/-- some answer is right for any lines -/
theorem told_ex {ls : List L3} (hi : LinesIn ls) : ∃ r, ToldOk ls r := by
  cases hfe : ls.filter nz with
  | nil =>
    refine ⟨.any, fun l hl => Classical.byContradiction fun z => ?_⟩
    have : l ∈ ls.filter nz := List.mem_filter.mpr ⟨hl, nz_iff.mpr z⟩
    rw [hfe] at this
    cases this
  | cons f fs =>
    have hfm : f ∈ ls.filter nz := by rw [hfe]; exact List.mem_cons_self ..
    have hfl := (List.mem_filter.mp hfm).1
    have hfz := nz_iff.mp (List.mem_filter.mp hfm).2
    by_cases hpos : ∀ l, l ∈ ls.filter nz → 0 < l.1
    · by_cases hpar : ∀ l, l ∈ ls.filter nz → f.1 * l.2.1 = l.1 * f.2.1
      · obtain ⟨k, j, t⟩ := f
        have hk := hpos _ hfm
        obtain ⟨a0, a1, a2, a3, _, a4, a5, _⟩ := hi _ hfl
        dsimp only at hk a0 a1 a2 a3 a4 a5
        have hc := com_of hk a2
        have c1 := hc.c1
        have hpk : k / gcdI k j ≤ k := Int.ediv_le_self _ (by omega)
        have hqj : j / gcdI k j ≤ j := Int.ediv_le_self _ a2
        have htt : t / gcdI k j ≤ t := Int.ediv_le_self _ a4
        by_cases hw : ∀ l, l ∈ ls.filter nz → t / gcdI k j * (l.1 / (k / gcdI k j)) = l.2.2
        · obtain ⟨r, hr⟩ := line_told_ex (w := t / gcdI k j) hc.p1 (by omega) hc.q0 (by omega) (by omega) hc.gc
          exact ⟨r, told_mult hi hc hpos hpar hfm hw hr⟩
        · refine ⟨.no, fun D G d g hsol => hw (mult_of hc (fun l hl => hi l (List.mem_filter.mp hl).1) hpar hfm (solves_nz.mpr hsol)).2, _, hfl, hfz⟩
      · by_cases hs : ∃ D G : Int, 1 ≤ D ∧ 1 ≤ G ∧ Solves ls D G
        · obtain ⟨D, G, d, g, hsol⟩ := hs
          refine ⟨.one D G, hsol, d, g, ⟨f, hfl, hpos f hfm⟩, fun hp => absurd (fun l hl => ?_) hpar⟩
          exact hp f l (List.mem_filter.mpr ⟨hfl, decide_eq_true (hpos f hfm)⟩) (List.mem_filter.mpr ⟨(List.mem_filter.mp hl).1, decide_eq_true (hpos l hl)⟩)
        · exact ⟨.no, fun D G d g h => hs ⟨D, G, d, g, h⟩, f, hfl, hfz⟩
    · obtain ⟨l, hl, hl1⟩ : ∃ l, l ∈ ls.filter nz ∧ ¬ 0 < l.1 := Classical.byContradiction fun z => hpos fun l hl => Classical.byContradiction fun y => z ⟨l, hl, y⟩
      have hll := (List.mem_filter.mp hl).1
      have hlz := nz_iff.mp (List.mem_filter.mp hl).2
      obtain ⟨a0, _, _, _, a1, _⟩ := hi l hll
      have e1 : l.1 = 0 := by omega
      exact ⟨.no, No.zero hll e1 (a1 e1) (fun z => hlz (Prod.ext e1 (Prod.ext (a1 e1) z))), l, hll, hlz⟩
theorem line_two {ls : List L3} {D G e f : Int} {c : Option Int} (h : LineOk ls D G e f c) : Solves ls (D + e) (G + f) ∧ 1 ≤ D + e ∧ 1 ≤ G + f := by
  have hs := solves_step (m := 1) h.sol h.step
  rw [Int.one_mul, Int.one_mul] at hs
  have d := h.d1
  have g := h.g1
  cases c with
  | none => obtain ⟨e0, f1, g1⟩ := h.free rfl; exact ⟨hs, by omega, by omega⟩
  | some m =>
    obtain ⟨m1, _, e1, _, _, _, _, hl, hh⟩ := h.many m rfl
    refine ⟨hs, by omega, ?_⟩
    have : (m - 1) * f ≤ 1 * f := Int.mul_le_mul_of_nonpos_right (by omega) (by omega)
    omega
theorem one_line {ls : List L3} {D G D' G' e f : Int} {c : Option Int} (hi : LinesIn ls) (h : OneOk ls D G) (k : LineOk ls D' G' e f c) : False := by
  obtain ⟨s2, d2, g2⟩ := line_two k
  have h1 := one_only hi h k.sol k.d1 k.g1
  have h2 := one_only hi h s2 d2 g2
  have he : e = 0 := by omega
  have hf : f = 0 := by omega
  have := k.one
  rw [he, hf] at this
  exact absurd this (by decide)
theorem line_line {ls : List L3} {D G e f m D' G' e' f' m' : Int} (hi : LinesIn ls) (h : LineOk ls D G e f (some m)) (k : LineOk ls D' G' e' f' (some m')) : D = D' ∧ G = G' ∧ e = e' ∧ f = f' ∧ m = m' := by
  obtain ⟨a1, _, a2, _, _, _, _, a3, a4⟩ := h.many m rfl
  obtain ⟨b1, _, b2, _, _, _, _, b3, b4⟩ := k.many m' rfl
  obtain ⟨n, n0, _, x1, x2⟩ := line_only hi h k.sol k.d1 k.g1
  obtain ⟨n', n0', _, y1, y2⟩ := line_only hi k h.sol h.d1 h.g1
  have p1 : 0 ≤ n * e := Int.mul_nonneg n0 (by omega)
  have p2 : 0 ≤ n' * e' := Int.mul_nonneg n0' (by omega)
  have hD : D = D' := by omega
  have hn : n = 0 := by
    have : n * e = 0 := by omega
    rcases Int.mul_eq_zero.mp this with z | z
    · exact z
    · omega
  rw [hn, Int.zero_mul] at x2
  obtain ⟨s2, d2, g2⟩ := line_two k
  obtain ⟨t2, c2, f2⟩ := line_two h
  obtain ⟨a, a0, _, u1, u2⟩ := line_only hi h s2 d2 g2
  obtain ⟨b, b0, _, v1, v2⟩ := line_only hi k t2 c2 f2
  have ha1 : 1 ≤ a := by
    by_cases z : a = 0
    · rw [z, Int.zero_mul] at u1; omega
    · omega
  have hb1 : 1 ≤ b := by
    by_cases z : b = 0
    · rw [z, Int.zero_mul] at v1; omega
    · omega
  have q1 : 1 * e ≤ a * e := Int.mul_le_mul_of_nonneg_right ha1 (by omega)
  have q2 : 1 * e' ≤ b * e' := Int.mul_le_mul_of_nonneg_right hb1 (by omega)
  have he : e = e' := by omega
  have ha : a = 1 := by
    have z0 : (a - 1) * e = 0 := by rw [Int.sub_mul]; omega
    rcases Int.mul_eq_zero.mp z0 with z | z
    · omega
    · omega
  rw [ha, Int.one_mul] at u2
  have hf : f = f' := by omega
  refine ⟨hD, by omega, he, hf, ?_⟩
  subst hf
  have hG : G' = G := by omega
  rw [hG] at b3 b4
  have hf0 : f < 0 := by omega
  by_cases c1 : m < m'
  · have : (m' - 1) * f ≤ m * f := Int.mul_le_mul_of_nonpos_right (by omega) (by omega)
    rw [Int.sub_mul] at a4
    omega
  · by_cases c2 : m' < m
    · have : (m - 1) * f ≤ m' * f := Int.mul_le_mul_of_nonpos_right (by omega) (by omega)
      rw [Int.sub_mul] at b4
      omega
    · omega
/-- only one answer is right -/
theorem told_unique {ls : List L3} {r r' : Told} (hi : LinesIn ls) (h : ToldOk ls r) (k : ToldOk ls r') : r = r' := by
  have zero : (∀ l, l ∈ ls → l = (0, 0, 0)) → ¬ ∃ l, l ∈ ls ∧ 0 < l.1 := fun z ⟨l, hl, h⟩ => by rw [z l hl] at h; exact absurd h (by decide)
  cases r with
  | any =>
    cases r' with
    | any => rfl
    | no => obtain ⟨l, hl, hz⟩ := k.2; exact absurd (h l hl) hz
    | one D G => exact absurd k.up (zero h)
    | line D G e f c => exact absurd k.up (zero h)
  | no =>
    cases r' with
    | any => obtain ⟨l, hl, hz⟩ := h.2; exact absurd (k l hl) hz
    | no => rfl
    | one D G => exact absurd k.sol (h.1 D G k.d1 k.g1)
    | line D G e f c => exact absurd k.sol (h.1 D G k.d1 k.g1)
  | one D G =>
    cases r' with
    | any => exact absurd h.up (zero k)
    | no => exact absurd h.sol (k.1 D G h.d1 h.g1)
    | one D' G' => obtain ⟨rfl, rfl⟩ := one_only hi h k.sol k.d1 k.g1; rfl
    | line D' G' e f c => exact (one_line hi h k).elim
  | line D G e f c =>
    cases r' with
    | any => exact absurd h.up (zero k)
    | no => exact absurd h.sol (k.1 D G h.d1 h.g1)
    | one D' G' => exact (one_line hi k h).elim
    | line D' G' e' f' c' =>
      obtain ⟨l, hl, hl1⟩ := h.up
      cases c with
      | none =>
        obtain ⟨rfl, rfl, rfl⟩ := h.free rfl
        have h1 := h.step l hl
        have hj : l.2.1 = 0 := by rw [Int.mul_zero, Int.mul_one] at h1; omega
        cases c' with
        | none =>
          obtain ⟨rfl, rfl, rfl⟩ := k.free rfl
          have h2 := (h.sol l hl).trans (k.sol l hl).symm
          have : D = D' := Int.eq_of_mul_eq_mul_left (show l.1 ≠ 0 by omega) (by omega)
          rw [this]
        | some m =>
          have h2 := k.step l hl
          have h3 := k.many m rfl
          rw [hj, Int.zero_mul] at h2
          rcases Int.mul_eq_zero.mp (show l.1 * e' = 0 by omega) with z | z
          · omega
          · omega
      | some m =>
        cases c' with
        | none =>
          obtain ⟨rfl, rfl, rfl⟩ := k.free rfl
          have h1 := k.step l hl
          have hj : l.2.1 = 0 := by rw [Int.mul_zero, Int.mul_one] at h1; omega
          have h2 := h.step l hl
          have h3 := h.many m rfl
          rw [hj, Int.zero_mul] at h2
          rcases Int.mul_eq_zero.mp (show l.1 * e = 0 by omega) with z | z
          · omega
          · omega
        | some m' => obtain ⟨rfl, rfl, rfl, rfl, rfl⟩ := line_line hi h k; rfl
/-- where the pairs lie -/
theorem sol_box {ls : List L3} {most D G : Int} (hi : LinesIn ls) (hm : ∀ l, l ∈ ls → l.2.2 ≤ most) (hs : Solves ls D G) (d : 1 ≤ D) (g : 1 ≤ G) : ((∃ l, l ∈ ls ∧ 0 < l.1) → D ≤ most) ∧ ((∃ l, l ∈ ls ∧ 0 < l.2.1) → G ≤ most) := by
  refine ⟨fun ⟨l, hl, h⟩ => ?_, fun ⟨l, hl, h⟩ => ?_⟩
  · have h1 := hs l hl
    have h2 := hm l hl
    have h3 : 1 * D ≤ l.1 * D := Int.mul_le_mul_of_nonneg_right (by omega) (by omega)
    have h4 : 0 ≤ l.2.1 * G := Int.mul_nonneg (hi l hl).2.2.1 (by omega)
    omega
  · have h1 := hs l hl
    have h2 := hm l hl
    have h3 : 1 * G ≤ l.2.1 * G := Int.mul_le_mul_of_nonneg_right (by omega) (by omega)
    have h4 : 0 ≤ l.1 * D := Int.mul_nonneg (hi l hl).1 (by omega)
    omega

/-! ### rows, as the heap changes -/
theorem tup_but {H H' : Hp} {p q f : Addr} {xs : List V} (e : H f = some (.tup xs)) (hs : SrcAt H p q) (b : But p H H') : H' f = some (.tup xs) := b _ _ e (fun z => by
  obtain ⟨cs, i, big, cnt, st, h1, _⟩ := hs
  rw [z, h1] at e; cases e)
theorem lst_ne {H : Hp} {p f : Addr} {xs ys : List V} (e : H f = some (.tup xs)) (h : H p = some (.lst ys)) : f ≠ p := fun z => by rw [z, h] at e; cases e
theorem RowAt.but {H H' : Hp} {x : V} {r : Row} {p q : Addr} (h : RowAt H x r) (hs : SrcAt H p q) (b : But p H H') : RowAt H' x r := let ⟨t, z, e, h1, h2⟩ := h; ⟨t, z, e, tup_but h1 hs b, tup_but h2 hs b⟩
theorem RowsAt.but {H H' : Hp} {xs : List V} {rs : List Row} {p q : Addr} (h : RowsAt H xs rs) (hs : SrcAt H p q) (b : But p H H') : RowsAt H' xs rs := ⟨h.1, fun i r hr => let ⟨x, e, z⟩ := h.2 i r hr; ⟨x, e, z.but hs b⟩⟩
theorem RowAt.upd {H : Hp} {L : Addr} {ys : List V} {o : HO} {x : V} {r : Row} (h : RowAt H x r) (e : H L = some (.lst ys)) : RowAt (L2.upd H L o) x r := let ⟨t, z, e0, h1, h2⟩ := h; ⟨t, z, e0, (upd_ne (lst_ne h1 e)).trans h1, (upd_ne (lst_ne h2 e)).trans h2⟩
theorem RowsAt.upd {H : Hp} {L : Addr} {ys xs : List V} {o : HO} {rs : List Row} (h : RowsAt H xs rs) (e : H L = some (.lst ys)) : RowsAt (L2.upd H L o) xs rs := ⟨h.1, fun i r hr => let ⟨x, e1, z⟩ := h.2 i r hr; ⟨x, e1, z.upd e⟩⟩
theorem RowsAt.nil {H : Hp} : RowsAt H [] [] := ⟨rfl, fun i r h => by simp at h⟩
theorem RowsAt.snoc {H : Hp} {xs : List V} {rs : List Row} {x : V} {r : Row} (h : RowsAt H xs rs) (hx : RowAt H x r) : RowsAt H (xs ++ [x]) (rs ++ [r]) := ⟨by rw [List.length_append, List.length_append, h.1]; rfl, fun i r' hr => by
  by_cases hi : i < rs.length
  · rw [List.getElem?_append_left hi] at hr
    rw [List.getElem?_append_left (by rw [h.1]; exact hi)]
    exact h.2 i r' hr
  · have hl := (List.getElem?_eq_some_iff.mp hr).1
    rw [List.length_append, List.length_singleton] at hl
    obtain rfl : i = rs.length := by omega
    rw [List.getElem?_append_right (Nat.le_refl _), Nat.sub_self] at hr
    obtain rfl : r = r' := by simpa using hr
    exact ⟨x, by rw [← h.1, List.getElem?_append_right (Nat.le_refl _), Nat.sub_self]; rfl, hx⟩⟩
theorem RowsAt.set {H : Hp} {xs : List V} {rs : List Row} {x : V} {r : Row} {i : Nat} (h : RowsAt H xs rs) (hx : RowAt H x r) : RowsAt H (xs.set i x) (rs.set i r) := ⟨by rw [List.length_set, List.length_set, h.1], fun j r' hr => by
  rw [List.getElem?_set] at hr ⊢
  by_cases c : i = j
  · rw [if_pos c] at hr ⊢
    split at hr
    · rename_i hlt
      rw [if_pos (by rw [h.1]; exact hlt)]
      obtain rfl := Option.some.inj hr
      exact ⟨x, rfl, hx⟩
    · cases hr
  · rw [if_neg c] at hr ⊢
    exact h.2 j r' hr⟩
def ItIn (zs : List Int) : Prop := ∀ z, z ∈ zs → 0 ≤ z ∧ z ≤ 1000000000000000
theorem ItIn.app {xs ys : List Int} (h : ItIn xs) (k : ItIn ys) : ItIn (xs ++ ys) := fun z hz => (List.mem_append.mp hz).elim (h z) (k z)
theorem r_catA {K : PySem.W.Frag} {H : Hp} {Q : VK} {a b : Addr} {xs ys : List V} (h1 : H a = some (.tup xs)) (h2 : H b = some (.tup ys)) (n1 : xs ≠ []) (hl : xs.length + ys.length ≤ 1000) (q : ∀ p H', Same H H' → H' p = some (.tup (xs ++ ys)) → Q (.ref p) H') : rCatT K (.ref a) (.ref b) H Q := by
  refine ⟨a, b, xs, ys, rfl, rfl, SqT.of h1, SqT.of h2, n1, Nat.le_trans hl (by decide), fun he => ?_, fun _ p hp => q p _ (Same.new hp) upd_same⟩
  subst he
  exact q a H (Same.refl H) (by rw [List.append_nil]; exact h1)

/-! ### the law of k63: small rows -/
structure RowS (r : Row) : Prop where
  ok : RowOk r
  t9 : r.2 ≤ 100
def SmallIn (zs : List Int) : Prop := ∀ z, z ∈ zs → 0 ≤ z ∧ z ≤ 2
theorem sum_small : ∀ zs : List Int, SmallIn zs → 0 ≤ zs.sum ∧ zs.sum ≤ zs.length * 2
  | [], _ => ⟨Int.le_refl _, by simp⟩
  | z :: zs, h => by
    obtain ⟨h1, h2⟩ := sum_small zs fun y hy => h y (List.mem_cons_of_mem _ hy)
    have h3 := h z (List.mem_cons_self ..)
    rw [List.sum_cons, List.length_cons, Int.natCast_add, Int.add_mul]
    omega
theorem row_small {zs : List Int} {t : Int} (hl : zs.length ≤ 3) (hz : SmallIn zs) (h0 : 0 ≤ t) (h9 : t ≤ 100) : RowS (zs, t) := by
  have hs := sum_small zs hz
  exact ⟨⟨by show zs.length ≤ 199; omega, fun z h => by have := hz z h; omega, h0, by show t ≤ _; omega, by show t ≤ ((zs.length : Int) + zs.sum + 1) * 1000000000; omega⟩, h9⟩
structure Sm (p q L : Addr) (H0 : Hp) (xs : List V) (rs : List Row) (H : Hp) : Prop where
  hs : SrcAt H p q
  b : But p H0 H
  eL : H L = some (.lst xs)
  hR : RowsAt H xs rs
theorem Sm.keep {p q L : Addr} {H0 H H' : Hp} {xs : List V} {rs : List Row} (h : Sm p q L H0 xs rs H) (s : Same H H') : Sm p q L H0 xs rs H' := ⟨h.hs.keep s, h.b.trans (But.of_same s), s _ _ h.eL, h.hR.keep s⟩
theorem Sm.but {p q L : Addr} {H0 H H' : Hp} {xs : List V} {rs : List Row} (h : Sm p q L H0 xs rs H) (hs : SrcAt H' p q) (b : But p H H') (n : L ≠ p) : Sm p q L H0 xs rs H' := ⟨hs, h.b.trans b, b _ _ h.eL n, h.hR.but h.hs b⟩
theorem Sm.upd {p q L M : Addr} {H0 H : Hp} {xs ys : List V} {rs : List Row} {o : HO} (h : Sm p q L H0 xs rs H) (e : H M = some (.lst ys)) (n1 : M ≠ p) (n2 : M ≠ q) (n3 : M ≠ L) (n0 : H0 M = none) : Sm p q L H0 xs rs (L2.upd H M o) := ⟨h.hs.upd n1 n2, h.b.updNone n0, (upd_ne n3.symm).trans h.eL, h.hR.upd e⟩
def spSmall : Sp := fun vs H Q _ => ∃ p q : Addr, vs = [.ref p] ∧ SrcAt H p q ∧ ∀ (L : Addr) (xs : List V) (rs : List Row) (H' : Hp), (∀ r, r ∈ rs → RowS r) → rs.length ≤ 4 → H' L = some (.lst xs) → RowsAt H' xs rs → SrcAt H' p q → But p H H' → Q (.ref L) H'
section
variable {P : Program} {w : World} {K : PySem.W.Frag} {mg : Str → Option Value} {base : Heap} {a : Adr}
set_option maxHeartbeats 0 in
theorem ok__law_small_rows (T : Txt K mg a) : FnOk P w K mg base CX0 3 a.a__law_small_rows a.d__law_small_rows ["_law_source_here"] spSmall := by
  refine T.F__law_small_rows.ok sc__law_small_rows (fun vs H Q E h => ?_) (fun cdv A outer s H vs Q E hr h => ?_)
  · obtain ⟨p, q, rfl, _⟩ := h
    rfl
  · obtain ⟨p, q, rfl, hs, k⟩ := h
    refine ⟨_, (pss_cons (ps_set (i := 1) sc__law_small_rows.nd rfl (Or.inl rfl) (pe_op op_add pe_int (pe_call (ok__law_draw T) (hr.mono (by decide)) (by rfl) T.g__law_draw T.F__law_draw.kp T.b__law_draw .nil pass0 (pa_cons (pv 0) (pa_cons pe_int pa_nil)))))
 (pss_cons (ps_set (i := 2) sc__law_small_rows.nd rfl (Or.inl rfl) (pe_op op_add pe_int (pe_call (ok__law_draw T) (hr.mono (by decide)) (by rfl) T.g__law_draw T.F__law_draw.kp T.b__law_draw .nil pass0 (pa_cons (pv 0) (pa_cons pe_int pa_nil)))))
 (pss_cons (ps_set (i := 3) sc__law_small_rows.nd rfl (Or.inl rfl) (pe_cmpR op_eq (pe_call (ok__law_draw T) (hr.mono (by decide)) (by rfl) T.g__law_draw T.F__law_draw.kp T.b__law_draw .nil pass0 (pa_cons (pv 0) (pa_cons pe_int pa_nil))) pe_int (nomark _)))
 (pss_cons (ps_set (i := 4) sc__law_small_rows.nd rfl (Or.inl rfl) (pe_lst pa_nil))
 (pss_cons (ps_for (by exact PassesOwn.never) rfl (pi_range1 (by rfl) T.n_range (pa_cons (pe_call (ok__law_draw T) (hr.mono (by decide)) (by rfl) T.g__law_draw T.F__law_draw.kp T.b__law_draw .nil pass0 (pa_cons (pv 0) (pa_cons pe_int pa_nil))) pa_nil)) (pg_name (i := 5) sc__law_small_rows.nd rfl (Or.inl rfl))
 (pss_cons (ps_set (i := 6) sc__law_small_rows.nd rfl (Or.inl rfl) (pe_callTy cr_tup (by rfl) T.n_tuple (by decide +kernel) (pa_cons (pe_op op_cat (pe_lst (pa_cons pe_int pa_nil)) (pe_lc (own := [("_law_turn", 8)]) (g := gName 8) (tt := tYes) rfl sc__law_small_rows.nd (pi_range1 (by rfl) T.n_range (pa_cons (pe_call (ok__law_draw T) (hr.mono (by decide)) (by rfl) T.g__law_draw T.F__law_draw.kp T.b__law_draw .nil pass0 (pa_cons (pv 0) (pa_cons pe_int pa_nil))) pa_nil)) (blkOk_by (own := [("_law_turn", 8)]) (N := ["_law_source_here", "_law_letter", "_law_gap", "_law_drawn", "_law_rows", "_law_k", "_law_name", "_law_time", "_law_turn", "_law_item"]) (sc := defScope s__law_small_rows) (by decide +kernel)) (fun _ _ _ _ _ => (pg_name (i := 8) sc__law_small_rows.nd rfl (Or.inl rfl))) (fun _ _ _ _ _ => pts_nil) (fun _ _ _ _ _ => (pe_call (ok__law_draw T) (hr.mono (by decide)) (by rfl) T.g__law_draw T.F__law_draw.kp T.b__law_draw .nil pass0 (pa_cons (pv 0) (pa_cons pe_int pa_nil)))))) pa_nil)))
 (pss_cons (ps_if (pt_cmpR op_eq (pe_call (ok__law_draw T) (hr.mono (by decide)) (by rfl) T.g__law_draw T.F__law_draw.kp T.b__law_draw .nil pass0 (pa_cons (pv 0) (pa_cons pe_int pa_nil))) pe_int (nomark _)) (pss_one (ps_set (i := 6) sc__law_small_rows.nd rfl (Or.inl rfl) (pe_callTy cr_tup (by rfl) T.n_tuple (by decide +kernel) (pa_cons (pe_lc (own := [("_law_item", 9)]) (g := gName 9) (tt := tYes) rfl sc__law_small_rows.nd (pi_tup (pv 6)) (blkOk_by (own := [("_law_item", 9)]) (N := ["_law_source_here", "_law_letter", "_law_gap", "_law_drawn", "_law_rows", "_law_k", "_law_name", "_law_time", "_law_turn", "_law_item"]) (sc := defScope s__law_small_rows) (by decide +kernel)) (fun _ _ _ _ _ => (pg_name (i := 9) sc__law_small_rows.nd rfl (Or.inl rfl))) (fun _ _ _ _ _ => pts_nil) (fun _ _ _ _ _ => pe_int)) pa_nil))))
 pss_nil)
 (pss_cons (ps_set (i := 7) sc__law_small_rows.nd rfl (Or.inl rfl) (pe_op op_add (pe_op op_mul (pe_op op_sub (pe_callB call_len_seq (by rfl) T.n_len (by decide +kernel) (pa_cons (pv 6) pa_nil)) pe_int) (pv 1)) (pe_op op_mul (pe_callB (cr_sumT rfl) (by rfl) T.n_sum (by decide +kernel) (pa_cons (pv 6) pa_nil)) (pv 2))))
 (pss_cons (ps_if (PW.pt (pw_and (pt_val (pv 3)) (pw_and1 (pt_cmpR op_eq (pe_call (ok__law_draw T) (hr.mono (by decide)) (by rfl) T.g__law_draw T.F__law_draw.kp T.b__law_draw .nil pass0 (pa_cons (pv 0) (pa_cons pe_int pa_nil))) pe_int (nomark _))))) (pss_one (ps_set (i := 7) sc__law_small_rows.nd rfl (Or.inl rfl) (pe_call (ok__law_draw T) (hr.mono (by decide)) (by rfl) T.g__law_draw T.F__law_draw.kp T.b__law_draw .nil pass0 (pa_cons (pv 0) (pa_cons pe_int pa_nil)))))
 pss_nil)
 (pss_one (ps_expr (pe_bm PySem.F.plainAttrs_list PySem.F.slot_list_append PySem.F.type_list_append mt_append (pv 4) (pa_cons (pe_tup (pa_cons (pv 6) (pa_cons (pv 7) pa_nil))) pa_nil)))))))))
 (pss_one (ps_ret (pv 4)))))))), ?_⟩
    repeat walk_at "rd"
    refine ⟨p, q, 5, rfl, hs, by decide, by decide, fun D1 H1 D0 D9 hs1 b1 => ?_⟩
    obtain ⟨D, hD⟩ : ∃ D, 1 + D1 = D := ⟨_, rfl⟩
    repeat walk_at "rd"
    refine ⟨p, q, 5, rfl, hs1, by decide, by decide, fun G1 H2 G0 G9 hs2 b2 => ?_⟩
    obtain ⟨G, hG⟩ : ∃ G, 1 + G1 = G := ⟨_, rfl⟩
    repeat walk_at "rd"
    refine ⟨p, q, 4, rfl, hs2, by decide, by decide, fun e H3 e0 e1 hs3 b3 => ?_⟩
    repeat first | walk_at "rd" | walk_at "rdi"
    refine new_at (Nat.zero_le _) (fun L H4 nL s4 eL => ?_)
    have nLp := hs3.ne nL
    have nLq := hs3.neq nL
    have b3a := (b1.trans b2).trans b3
    have nLH : H L = none := b3a.free hs3 nL
    have S : Sm p q L H [] [] H4 := ⟨hs3.keep s4, b3a.trans (But.of_same s4), eL, RowsAt.nil⟩
    clear hs1 hs2 hs3 b1 b2 b3 b3a eL s4 nL
    have hDr : 1 ≤ D ∧ D ≤ 5 := by omega
    have hGr : 1 ≤ G ∧ G ≤ 5 := by omega
    rw [hD, hG]
    clear hD hG D0 D9 G0 G9
    repeat walk_at "rd"
    refine ⟨p, q, 5, rfl, S.hs, by decide, by decide, fun many H5 m0 m9 hs5 b5 => ?_⟩
    have S := S.but hs5 b5 nLp
    clear hs5 b5
    repeat walk_at "rd"
    refine ⟨by omega, by omega, for_range (lo := 0) (n := many.toNat) (fun i σ H' => ∃ (v5 v6 v7 : Option V) (xs : List V) (rs : List Row), σ = [some (.ref p), some (.int D), some (.int G), some (.bl (decide (e = 0))), some (.ref L), v5, v6, v7, none, none] ∧ Sm p q L H xs rs H' ∧ rs.length = i ∧ ∀ r, r ∈ rs → RowS r) ⟨_, _, _, [], [], rfl, S, rfl, fun r hr => nomatch hr⟩ ?_ ?_⟩
    · clear S
      rintro i σ H8 hi ⟨v5, v6, v7, xs, rs, rfl, S, hlen, hnew⟩
      repeat walk_at "rd"
      refine new_at (Nat.le_of_ble_eq_true rfl) (fun Z H9 nZ s9 eZ => ?_)
      have nZp := S.hs.ne nZ
      have nZL : Z ≠ L := (ne_of_none S.eL nZ).symm
      have S := S.keep s9
      repeat walk_at "rd"
      refine ⟨p, q, 4, rfl, S.hs, by decide, by decide, fun c H10 c0 c1 hs10 b10 => ?_⟩
      have eZ := b10 _ _ eZ nZp
      have S := S.but hs10 b10 nLp
      clear hs10 b10
      repeat walk_at "rd"
      refine ⟨by omega, by omega, fun M hM => ?_⟩
      have nMp := S.hs.ne hM
      have nMq := S.hs.neq hM
      have nML : M ≠ L := (ne_of_none S.eL hM).symm
      have nMH : H M = none := S.b.free S.hs hM
      refine lc_range (lo := 0) (n := c.toNat) (fun j H' => ∃ zs : List Int, H' M = some (.lst (zs.map V.int)) ∧ zs.length = j ∧ SmallIn zs ∧ H' Z = some (.lst [.int 0]) ∧ Sm p q L H xs rs H') ?_ ?_ ?_
      · exact ⟨[], upd_same, rfl, (fun z hz => nomatch hz), (upd_ne (ne_of_none eZ hM)).trans eZ, S.keep (Same.new hM)⟩
      · rintro j H11 hj ⟨zs, g1, g2, g3, g4, S⟩
        repeat walk_at "rd"
        refine ⟨rfl, ?_⟩
        repeat walk_at "rd"
        refine ⟨p, q, 3, rfl, S.hs, by decide, by decide, fun z H12 z0 z1 hs12 b12 => ?_⟩
        have g1 := b12 _ _ g1 nMp
        have g4 := b12 _ _ g4 nZp
        have S := S.but hs12 b12 nLp
        refine ⟨_, g1, small1000 (by rw [List.length_map]; omega), zs ++ [z], by rw [upd_same, List.map_append]; rfl, by rw [List.length_append, List.length_singleton, g2], fun y hy => ?_, (upd_ne (ne_of_none eZ hM)).trans g4, S.upd g1 nMp nMq nML nMH⟩
        rcases List.mem_append.mp hy with hy | hy
        · exact g3 y hy
        · rw [List.mem_singleton] at hy
          subst hy
          omega
      · rintro H11 ⟨zs, g1, g2, g3, g4, S⟩
        repeat walk_at "rd"
        refine r_cat (xs := [.int 0]) g4 g1 (by rw [List.length_singleton, List.length_map]; omega) (fun q5 H12 n12 s12 e12 => ?_)
        have S := S.keep s12
        clear g1 g4 nMp nMq nML nMH
        repeat walk_at "rd"
        refine r_tupL e12 (fun y H13 n13 s13 ey => ?_)
        have S := S.keep s13
        have ey : H13 y = some (.tup (.int 0 :: zs.map V.int)) := ey
        have hzl : zs.length ≤ 3 := by omega
        clear e12 s12 s13 n12 n13 g2
        repeat walk_at "rd"
        with_reducible refine seq_with (fun σ H' => ∃ (v7 : Option V) (y : Addr) (zs : List Int), σ = [some (.ref p), some (.int D), some (.int G), some (.bl (decide (e = 0))), some (.ref L), some (.int (0 + (i : Nat))), some (.ref y), v7, none, none] ∧ Sm p q L H xs rs H' ∧ H' y = some (.tup (.int 0 :: zs.map V.int)) ∧ zs.length ≤ 3 ∧ SmallIn zs) ?_ (fun rest => ?_)
        · clear S ey hzl g3
          rintro σ H14 ⟨v7, y, zs, rfl, S, ey, hzl, hzi⟩
          have hsr := sum_small zs hzi
          repeat walk_at "rd"
          refine ⟨y, 0 :: zs, rfl, SqT.of ey, ?_⟩
          rw [show ((V.int 0 :: zs.map V.int).length : Int) - 1 = zs.length by rw [List.length_cons, List.length_map]; omega, show (0 :: zs).sum = zs.sum by rw [List.sum_cons]; omega]
          have m1 : 0 ≤ (zs.length : Int) * D := Int.mul_nonneg (by omega) (by omega)
          have m2 : 0 ≤ zs.sum * G := Int.mul_nonneg hsr.1 (by omega)
          have m3 : (zs.length : Int) * D ≤ zs.length * 5 := Int.mul_le_mul_of_nonneg_left (by omega) (by omega)
          have m4 : zs.sum * G ≤ zs.sum * 5 := Int.mul_le_mul_of_nonneg_left (by omega) (by omega)
          repeat walk_at "rd"
          with_reducible refine seq_with (fun σ H' => ∃ (y : Addr) (zs : List Int) (t : Int), σ = [some (.ref p), some (.int D), some (.int G), some (.bl (decide (e = 0))), some (.ref L), some (.int (0 + (i : Nat))), some (.ref y), some (.int t), none, none] ∧ Sm p q L H xs rs H' ∧ H' y = some (.tup (.int 0 :: zs.map V.int)) ∧ RowS (zs, t)) ?_ (fun rest => ?_)
          · clear S ey hzl hzi hsr m1 m2 m3 m4
            rintro σ H15 ⟨y, zs, t, rfl, S, ey, hN⟩
            have eL := S.eL
            repeat walk_at "rd"
            refine ⟨.inl ⟨rfl, _, SqL.of eL⟩, ?_⟩
            repeat walk_at "rd"
            refine new_at (Nat.le_of_ble_eq_true rfl) (fun u H16 nu s16 eu => ?_)
            have S := S.keep s16
            repeat walk_at "rd"
            refine r_app S.eL (small1000 (by rw [S.hR.1]; omega)) ?_
            refine ⟨_, _, _, xs ++ [.ref u], rs ++ [(zs, t)], rfl, ⟨S.hs.upd nLp nLq, S.b.updNone nLH, upd_same, (S.hR.snoc ⟨u, y, rfl, eu, s16 _ _ ey⟩).upd S.eL⟩, by rw [List.length_append, List.length_singleton, hlen], fun r hr => ?_⟩
            rcases List.mem_append.mp hr with hr | hr
            · exact hnew r hr
            · rw [List.mem_singleton] at hr
              subst hr
              exact hN
          · have stay := rest _ _ ⟨y, zs, _, rfl, S, ey, row_small hzl hzi (show 0 ≤ (zs.length : Int) * D + zs.sum * G by omega) (by omega)⟩
            repeat first | walk_at "rd" | walk_at "rdi"
            refine ite_d (fun hc => ?_) (fun hc => ?_)
            · repeat walk_at "rd"
              refine ⟨p, q, 2, rfl, S.hs, by decide, by decide, fun d H15 d0 d1 hs15 b15 => ?_⟩
              have ey := tup_but ey S.hs b15
              have S := S.but hs15 b15 nLp
              clear hs15 b15 stay
              repeat first | walk_at "rd" | walk_at "rdi"
              refine ite_d (fun hc => ?_) (fun hc => ?_)
              · repeat walk_at "rd"
                refine ⟨p, q, 31, rfl, S.hs, by decide, by decide, fun t H16 t0 t1 hs16 b16 => ?_⟩
                have ey := tup_but ey S.hs b16
                have S := S.but hs16 b16 nLp
                repeat first | exact rest _ _ ⟨y, zs, t, rfl, S, ey, row_small hzl hzi t0 (by omega)⟩ | walk_at "rd"
              · repeat first | exact rest _ _ ⟨y, zs, _, rfl, S, ey, row_small hzl hzi (show 0 ≤ (zs.length : Int) * D + zs.sum * G by omega) (by omega)⟩ | walk_at "rd"
            · repeat first | exact stay | walk_at "rd"
        · repeat first | walk_at "rd" | walk_at "rdi"
          refine ⟨p, q, 5, rfl, S.hs, by decide, by decide, fun d H14 d0 d1 hs14 b14 => ?_⟩
          have ey := tup_but ey S.hs b14
          have S := S.but hs14 b14 nLp
          clear hs14 b14
          repeat first | walk_at "rd" | walk_at "rdi"
          refine ite_d (fun hc => ?_) (fun hc => ?_)
          · repeat walk_at "rd"
            refine ⟨y, rfl, ⟨_, SqT.of ey⟩, fun M hM => ?_⟩
            have nMp := S.hs.ne hM
            have nMq := S.hs.neq hM
            have nML : M ≠ L := (ne_of_none S.eL hM).symm
            have nMH : H M = none := S.b.free S.hs hM
            refine lc_tup (K := K) (a := y) (xs := .int 0 :: zs.map V.int) (fun j H' => H' M = some (.lst ((List.replicate j (0 : Int)).map V.int)) ∧ H' y = some (.tup (.int 0 :: zs.map V.int)) ∧ Sm p q L H xs rs H') ?_ (fun j H' _ h => SqT.of h.2.1) ?_ ?_
            · exact ⟨upd_same, (upd_ne (ne_of_none ey hM)).trans ey, S.keep (Same.new hM)⟩
            · rintro j x H15 hj ⟨g1, g2, S⟩
              have hj9 : j < 4 := by
                have := (List.getElem?_eq_some_iff.mp hj).1
                rw [List.length_cons, List.length_map] at this
                omega
              repeat walk_at "rd"
              refine ⟨rfl, ?_⟩
              repeat walk_at "rd"
              refine ⟨_, g1, small1000 (by rw [List.length_map, List.length_replicate]; omega), by rw [upd_same, List.replicate_succ', List.map_append]; rfl, (upd_ne (ne_of_none ey hM)).trans g2, S.upd g1 nMp nMq nML nMH⟩
            · rintro H15 ⟨g1, g2, S⟩
              repeat walk_at "rd"
              refine r_tupL g1 (fun y2 H16 n16 s16 ey2 => ?_)
              have S := S.keep s16
              have ey2 : H16 y2 = some (.tup (.int 0 :: (List.replicate zs.length (0 : Int)).map V.int)) := by rw [ey2, List.length_cons, List.length_map]; rfl
              have hz0 : SmallIn (List.replicate zs.length (0 : Int)) := fun z hz => by rw [List.eq_of_mem_replicate hz]; exact ⟨by decide, by decide⟩
              have hl0 : (List.replicate zs.length (0 : Int)).length ≤ 3 := by rw [List.length_replicate]; exact hzl
              repeat first | exact rest _ _ ⟨_, y2, _, rfl, S, ey2, hl0, hz0⟩ | walk_at "rd"
          · repeat first | exact rest _ _ ⟨_, y, zs, rfl, S, ey, hzl, g3⟩ | walk_at "rd"
    · clear S
      rintro σ H8 ⟨v5, v6, v7, xs, rs, rfl, S, hlen, hnew⟩
      repeat first | exact k L xs rs H8 hnew (by omega) S.eL S.hR S.hs S.b | walk_at "rd"
end

/-! ### comprehensions over lines -/
theorem lc_tri {K : PySem.W.Frag} {a : Addr} {xs : List V} {ls : List L3} {g : TG} {tt : TT} {te : TE} {vs : List Nat} {σ : St} {H : Hp} {D : Addr} {Qd : Hp → Prop} (f : L3 → V) (hl : ls.length ≤ 900) (ep : H a = some (.lst xs)) (hA : TrisAt H xs ls) (hD : H D = none)
    (hs : ∀ (l : L3) (t : Addr) (H' : Hp) (R : V → Hp → Prop) (R2 : Hp → Prop), l ∈ ls → H' t = some (.tup [.int l.1, .int l.2.1, .int l.2.2]) → R (f l) H' → g (.ref t) (wipe σ vs) H' fun σ2 H2 => wipe σ2 vs = wipe σ vs ∧ tt σ2 H2 fun b H3 => if b = true then te σ2 H3 R else R2 H3)
    (hd : ∀ H', Same H H' → H' D = some (.lst (ls.map f)) → Qd H') :
    ∃ W : Nat → Nat → Hp → Prop, (∃ m, W 0 m (upd H D (.lst []))) ∧ ∀ i m H, W i m H →
      ((Itl K a).stop i H ∧ Qd H) ∨ ((Itl K a).go i H ∧ ∃ Nx : Hp → Prop, (∀ H', Nx H' → ∃ m', m' < m ∧ W (i + 1) m' H') ∧ ∀ x H', (Itl K a).yld i H x H' → g x (wipe σ vs) H' fun σ2 H2 => wipe σ2 vs = wipe σ vs ∧ tt σ2 H2 fun b H3 =>
        if b = true then te σ2 H3 fun y H4 => ∃ acc, H4 D = some (.lst acc) ∧ acc.length < sizeLine ∧ Nx (upd H4 D (.lst (acc ++ [y]))) else Nx H3) := by
  refine lc_list (K := K) (a := a) (xs := xs) (fun i H' => H' D = some (.lst ((ls.take i).map f)) ∧ H' a = some (.lst xs) ∧ Same H H') ?_ (fun i H' _ h => SqL.of h.2.1) ?_ ?_
  · exact ⟨upd_same, (upd_ne (ne_of_none ep hD)).trans ep, Same.new hD⟩
  · rintro i y H6 hiy ⟨g1, g2, g3⟩
    obtain ⟨t, l, rfl, hl1, et⟩ := (hA.keep g3).get hiy
    refine hs l t H6 _ _ (List.mem_iff_getElem?.mpr ⟨i, hl1⟩) et ⟨_, g1, small1000 (by rw [List.length_map, List.length_take]; omega), ?_, (upd_ne (ne_of_none ep hD)).trans g2, g3.over hD g1⟩
    rw [upd_same, take_more hl1, List.map_append]
    rfl
  · rintro H6 ⟨g1, g2, g3⟩
    rw [hA.1, List.take_length] at g1
    exact hd H6 g3 g1

/-! ### pairs in their order -/
theorem pw_ext {α : Type} {R : α → α → Prop} (irr : ∀ x, ¬ R x x) (asy : ∀ x y, R x y → R y x → False) {l l' : List α} (h : l.Pairwise R) (h' : l'.Pairwise R) (m : ∀ x, x ∈ l ↔ x ∈ l') : l = l' := by
  have nd : ∀ k : List α, k.Pairwise R → k.Nodup := fun k hk => by
    unfold List.Nodup
    refine hk.imp ?_
    intro x y r e
    subst e
    exact irr _ r
  have n := nd l h
  have n' := nd l' h'
  exact List.Perm.eq_of_pairwise (fun x y _ _ h1 h2 => (asy x y h1 h2).elim) h h' ((List.perm_ext_iff_of_nodup n n').mpr m)
def LexP (x y : Int × Int) : Prop := x.1 < y.1 ∨ (x.1 = y.1 ∧ x.2 < y.2)
theorem lexP_irr (x : Int × Int) : ¬ LexP x x := by unfold LexP; omega
theorem lexP_asy (x y : Int × Int) : LexP x y → LexP y x → False := by unfold LexP; omega
/-- what the pairs found tell -/
theorem found_told {ls : List L3} {ps : List (Int × Int)} {most : Int} (hi : LinesIn ls) (up : ∃ l, l ∈ ls ∧ 0 < l.1) (uj : ∃ l, l ∈ ls ∧ 0 < l.2.1) (hm : ∀ l, l ∈ ls → l.2.2 ≤ most) (hp : ps.Pairwise LexP)
    (hmem : ∀ D G : Int, (D, G) ∈ ps ↔ Solves ls D G ∧ 1 ≤ D ∧ D ≤ most ∧ 1 ≤ G ∧ G ≤ most) :
    (ps = [] → ToldOk ls .no) ∧ (∀ g, ps = [g] → ToldOk ls (.one g.1 g.2)) ∧ ∀ g h t, ps = g :: h :: t → ToldOk ls (.line g.1 g.2 (h.1 - g.1) (h.2 - g.2) (some (ps.length : Int))) := by
  have hmem' : ∀ D G : Int, (D, G) ∈ ps ↔ Solves ls D G ∧ 1 ≤ D ∧ 1 ≤ G := fun D G => by
    refine (hmem D G).trans ⟨fun ⟨a, b, _, c, _⟩ => ⟨a, b, c⟩, fun ⟨a, b, c⟩ => ?_⟩
    obtain ⟨h1, h2⟩ := sol_box hi hm a b c
    exact ⟨a, b, h1 up, c, h2 uj⟩
  obtain ⟨l0, hl0, hl1⟩ := up
  obtain ⟨j0, hj0, hj1⟩ := uj
  obtain ⟨r, hr⟩ := told_ex hi
  have notany : r ≠ .any := fun e => by rw [e] at hr; have := hr l0 hl0; rw [this] at hl1; exact absurd hl1 (by decide)
  have notno : ∀ g, g ∈ ps → r ≠ .no := fun g hg e => by
    rw [e] at hr
    obtain ⟨a, b, c⟩ := (hmem' g.1 g.2).mp hg
    exact hr.1 _ _ b c a
  refine ⟨fun e => ⟨fun D G d g hs => ?_, l0, hl0, fun z => by rw [z] at hl1; exact absurd hl1 (by decide)⟩, fun g e => ?_, fun g h t e => ?_⟩
  · have := (hmem' D G).mpr ⟨hs, d, g⟩
    rw [e] at this
    cases this
  · have hg : g ∈ ps := by rw [e]; exact List.mem_cons_self ..
    cases r with
    | any => exact absurd rfl notany
    | no => exact absurd rfl (notno g hg)
    | one D G =>
      obtain ⟨a, b, c⟩ := (hmem' g.1 g.2).mp hg
      obtain ⟨e1, e2⟩ := one_only hi hr a b c
      rw [e1, e2]; exact hr
    | line D G e' f c =>
      obtain ⟨a, b, c'⟩ := line_two hr
      have h1 := (hmem' _ _).mpr ⟨hr.sol, hr.d1, hr.g1⟩
      have h2 := (hmem' _ _).mpr ⟨a, b, c'⟩
      rw [e, List.mem_singleton] at h1 h2
      have h3 := h1.trans h2.symm
      have he : e' = 0 := by have := congrArg Prod.fst h3; dsimp only at this; omega
      have hf : f = 0 := by have := congrArg Prod.snd h3; dsimp only at this; omega
      have := hr.one
      rw [he, hf] at this
      exact absurd this (by decide)
  · have hg : g ∈ ps := by rw [e]; exact List.mem_cons_self ..
    have hh : h ∈ ps := by rw [e]; exact List.mem_cons_of_mem _ (List.mem_cons_self ..)
    have hgh : LexP g h := by rw [e] at hp; exact (List.pairwise_cons.mp hp).1 h (List.mem_cons_self ..)
    obtain ⟨a, b, c⟩ := (hmem' g.1 g.2).mp hg
    obtain ⟨a2, b2, c2⟩ := (hmem' h.1 h.2).mp hh
    cases r with
    | any => exact absurd rfl notany
    | no => exact absurd rfl (notno g hg)
    | one D G =>
      obtain ⟨e1, e2⟩ := one_only hi hr a b c
      obtain ⟨e3, e4⟩ := one_only hi hr a2 b2 c2
      unfold LexP at hgh
      omega
    | line D G e' f c =>
      cases c with
      | none =>
        obtain ⟨x1, x2, x3⟩ := hr.free rfl
        have := hr.step j0 hj0
        rw [x1, x2] at this
        omega
      | some m =>
        obtain ⟨m1, _, e1, _, _, _, hDe, hl, hh'⟩ := hr.many m rfl
        have hf : f < 0 := by omega
        have hq : ps = (List.range m.toNat).map fun n : Nat => (D + n * e', G + n * f) := by
          refine pw_ext lexP_irr lexP_asy hp ?_ ?_
          · rw [List.pairwise_map]
            refine List.pairwise_lt_range.imp fun {x y} hxy => .inl ?_
            have : ((x : Int) + 1) * e' ≤ y * e' := Int.mul_le_mul_of_nonneg_right (by omega) (by omega)
            rw [Int.add_mul] at this
            show D + x * e' < D + y * e'
            omega
          · rintro ⟨x, y⟩
            rw [hmem', List.mem_map]
            constructor
            · rintro ⟨p1, p2, p3⟩
              obtain ⟨n, n0, n1, y1, y2⟩ := line_only hi hr p1 p2 p3
              refine ⟨n.toNat, List.mem_range.mpr (by omega), ?_⟩
              rw [show ((n.toNat : Nat) : Int) = n by omega, ← y1, ← y2]
            · rintro ⟨n, hn, hxy⟩
              have hn := List.mem_range.mp hn
              obtain ⟨rfl, rfl⟩ := Prod.mk.inj hxy
              refine ⟨solves_step hr.sol hr.step, ?_, ?_⟩
              · have : 0 ≤ (n : Int) * e' := Int.mul_nonneg (by omega) (by omega)
                have := hr.d1
                omega
              · have : (m - 1) * f ≤ n * f := Int.mul_le_mul_of_nonpos_right (by omega) (by omega)
                omega
        obtain ⟨k, hk⟩ : ∃ k, m.toNat = k + 2 := ⟨m.toNat - 2, by omega⟩
        have hlen : (ps.length : Int) = m := by rw [hq, List.length_map, List.length_range]; omega
        rw [hlen]
        rw [hk] at hq
        have h0 : ps[0]? = some (D, G) := by
          rw [hq, List.getElem?_map, List.getElem?_range (by omega)]
          simp
        have h1 : ps[1]? = some (D + e', G + f) := by
          rw [hq, List.getElem?_map, List.getElem?_range (by omega)]
          simp
        rw [e] at h0 h1
        obtain rfl : g = (D, G) := Option.some.inj h0
        obtain rfl : h = (D + e', G + f) := Option.some.inj h1
        dsimp only
        rw [show D + e' - D = e' by omega, show G + f - G = f by omega]
        exact hr
/-- pairs, in the heap -/
def PairsAt (H : Hp) (xs : List V) (ps : List (Int × Int)) : Prop := xs.length = ps.length ∧ ∀ (i : Nat) (g : Int × Int), ps[i]? = some g → ∃ t : Addr, xs[i]? = some (.ref t) ∧ H t = some (.tup [.int g.1, .int g.2])
theorem PairsAt.keep {H H' : Hp} {xs : List V} {ls : List (Int × Int)} (h : PairsAt H xs ls) (s : Same H H') : PairsAt H' xs ls := ⟨h.1, fun i g hg => let ⟨t, e, z⟩ := h.2 i g hg; ⟨t, e, s _ _ z⟩⟩
theorem PairsAt.upd {H : Hp} {L : Addr} {zs xs : List V} {o : HO} {ls : List (Int × Int)} (h : PairsAt H xs ls) (e : H L = some (.lst zs)) : PairsAt (L2.upd H L o) xs ls := ⟨h.1, fun i g hg => let ⟨t, e1, z⟩ := h.2 i g hg; ⟨t, e1, (upd_ne (fun y => by rw [y, e] at z; cases z)).trans z⟩⟩
theorem PairsAt.nil {H : Hp} : PairsAt H [] [] := ⟨rfl, fun i g h => by simp at h⟩
theorem PairsAt.snoc {H : Hp} {xs : List V} {ls : List (Int × Int)} {t : Addr} {g : Int × Int} (h : PairsAt H xs ls) (e : H t = some (.tup [.int g.1, .int g.2])) : PairsAt H (xs ++ [.ref t]) (ls ++ [g]) := ⟨by rw [List.length_append, List.length_append, h.1]; rfl, fun i g' hg => by
  by_cases hi : i < ls.length
  · rw [List.getElem?_append_left hi] at hg
    rw [List.getElem?_append_left (by rw [h.1]; exact hi)]
    exact h.2 i g' hg
  · have hl := (List.getElem?_eq_some_iff.mp hg).1
    rw [List.length_append, List.length_singleton] at hl
    obtain rfl : i = ls.length := by omega
    rw [List.getElem?_append_right (Nat.le_refl _), Nat.sub_self] at hg
    obtain rfl : g = g' := by simpa using hg
    exact ⟨t, by rw [← h.1, List.getElem?_append_right (Nat.le_refl _), Nat.sub_self]; rfl, e⟩⟩

/-! ### compares of strings -/
theorem r_eqStr {H : Hp} {Q : VK} {x y : Str} (b : Bool) (h : decide (V.str x = V.str y) = b) (q : Q (.bl b) H) : rEq (.str x) (.str y) H Q := ⟨rfl, by rw [h]; exact q⟩
theorem r_neStr {H : Hp} {Q : VK} {x y : Str} (b : Bool) (h : decide (V.str x = V.str y) = b) (q : Q (.bl (!b)) H) : rNe (.str x) (.str y) H Q := ⟨rfl, by rw [h]; exact q⟩
theorem r_isNs {H : Hp} {Q : VK} {s : Str} (q : Q (.bl false) H) : rIsNo (.str s) .non H Q := ⟨rfl, q⟩
theorem r_notNs {H : Hp} {Q : VK} {s : Str} (q : Q (.bl true) H) : rNotNo (.str s) .non H Q := ⟨rfl, q⟩

/-! ### the law of k63: what is due -/
theorem r_max {K : PySem.W.Frag} {H : Hp} {Q : VK} {l : Addr} {ns : List Int} (h1 : H l = some (.lst (ns.map V.int))) (hn : 0 < ns.length) (q : ∀ m, m ∈ ns → (∀ y, y ∈ ns → y ≤ m) → Q (.int m) H) : rMax K [.ref l] H Q :=
  ⟨l, ns, rfl, SqL.of h1, hn, q⟩
def spDue : Sp := fun vs H Q _ => ∃ (p : Addr) (xs : List V) (rs : List Row), vs = [.ref p] ∧ H p = some (.lst xs) ∧ RowsAt H xs rs ∧ (∀ r, r ∈ rs → RowS r) ∧ rs.length ≤ 60 ∧ ∀ p' r H', ToldOk (rs.map lineOf) r → Same H H' → ToldAt H' p' r → Q (.ref p') H'
section
variable {P : Program} {w : World} {K : PySem.W.Frag} {mg : Str → Option Value} {base : Heap} {a : Adr}
set_option maxHeartbeats 0 in
theorem ok__law_due (T : Txt K mg a) : FnOk P w K mg base CX0 2 a.a__law_due a.d__law_due ["_law_rows"] spDue := by
  refine T.F__law_due.ok sc__law_due (fun vs H Q E h => ?_) (fun cdv A outer s H vs Q E hr h => ?_)
  · obtain ⟨p, xs, rs, rfl, _⟩ := h
    rfl
  · obtain ⟨p0, xs0, rs, rfl, ep, hR, hok, hl, k⟩ := h
    have hi : LinesIn (rs.map lineOf) := fun l hl => by
      obtain ⟨r, hr, rfl⟩ := List.mem_map.mp hl
      exact (hok r hr).ok.line
    have ht9 : ∀ l, l ∈ rs.map lineOf → l.2.2 ≤ 100 := fun l hl => by
      obtain ⟨r, hr, rfl⟩ := List.mem_map.mp hl
      exact (hok r hr).t9
    refine ⟨_, (pss_cons (ps_set (i := 1) sc__law_due.nd rfl (Or.inr rfl) (pe_call (ok__law_lines T) (hr.mono (by decide)) (by rfl) T.g__law_lines T.F__law_lines.kp T.b__law_lines .nil pass0 (pa_cons (pv 0) pa_nil)))
 (pss_cons (ps_if (pt_val (pe_callB (cr_any rfl) (by rfl) T.n_any (by decide +kernel) (pa_cons (pe_lc (own := [("_law_line", 7)]) (g := gName 7) (tt := tYes) rfl sc__law_due.nd (pi_list (pv 1)) (blkOk_by (own := [("_law_line", 7)]) (N := ["_law_rows", "_law_lines_here", "_law_most", "_law_letter", "_law_found", "_law_gap", "_law_step", "_law_line"]) (sc := defScope s__law_due) (by decide +kernel)) (fun _ _ _ _ _ => (pg_name (i := 7) sc__law_due.nd rfl (Or.inl rfl))) (fun _ _ _ _ _ => pts_nil) (fun _ _ _ _ _ => (pe_and (pe_cmpR op_eq (pe_ix (ix_tupK (K := K) rfl) (pv 7) pe_int (fun _ _ => rfl)) pe_int (nomark _)) (pe_one (pe_cmpR op_gt (pe_ix (ix_tupK (K := K) rfl) (pv 7) pe_int (fun _ _ => rfl)) pe_int (nomark _)))))) pa_nil))) (pss_one (ps_ret (pe_tup (pa_cons pe_str pa_nil))))
 pss_nil)
 (pss_cons (ps_if (pt_val (pe_callB (cr_all rfl) (by rfl) T.n_all (by decide +kernel) (pa_cons (pe_lc (own := [("_law_line", 7)]) (g := gName 7) (tt := tYes) rfl sc__law_due.nd (pi_list (pv 1)) (blkOk_by (own := [("_law_line", 7)]) (N := ["_law_rows", "_law_lines_here", "_law_most", "_law_letter", "_law_found", "_law_gap", "_law_step", "_law_line"]) (sc := defScope s__law_due) (by decide +kernel)) (fun _ _ _ _ _ => (pg_name (i := 7) sc__law_due.nd rfl (Or.inl rfl))) (fun _ _ _ _ _ => pts_nil) (fun _ _ _ _ _ => (pe_cmpR op_eq (pe_ix (ix_tupK (K := K) rfl) (pv 7) pe_int (fun _ _ => rfl)) pe_int (nomark _)))) pa_nil))) (pss_one (ps_ret (pe_tup (pa_cons pe_str pa_nil))))
 pss_nil)
 (pss_cons (ps_set (i := 2) sc__law_due.nd rfl (Or.inl rfl) (pe_callB (cr_max rfl) (by rfl) T.n_max (by decide +kernel) (pa_cons (pe_lc (own := [("_law_line", 7)]) (g := gName 7) (tt := tYes) rfl sc__law_due.nd (pi_list (pv 1)) (blkOk_by (own := [("_law_line", 7)]) (N := ["_law_rows", "_law_lines_here", "_law_most", "_law_letter", "_law_found", "_law_gap", "_law_step", "_law_line"]) (sc := defScope s__law_due) (by decide +kernel)) (fun _ _ _ _ _ => (pg_name (i := 7) sc__law_due.nd rfl (Or.inl rfl))) (fun _ _ _ _ _ => pts_nil) (fun _ _ _ _ _ => (pe_ix (ix_tupK (K := K) rfl) (pv 7) pe_int (fun _ _ => rfl)))) pa_nil)))
 (pss_cons (ps_if (pt_val (pe_callB (cr_all rfl) (by rfl) T.n_all (by decide +kernel) (pa_cons (pe_lc (own := [("_law_line", 7)]) (g := gName 7) (tt := tYes) rfl sc__law_due.nd (pi_list (pv 1)) (blkOk_by (own := [("_law_line", 7)]) (N := ["_law_rows", "_law_lines_here", "_law_most", "_law_letter", "_law_found", "_law_gap", "_law_step", "_law_line"]) (sc := defScope s__law_due) (by decide +kernel)) (fun _ _ _ _ _ => (pg_name (i := 7) sc__law_due.nd rfl (Or.inl rfl))) (fun _ _ _ _ _ => pts_nil) (fun _ _ _ _ _ => (pe_cmpR op_eq (pe_ix (ix_tupK (K := K) rfl) (pv 7) pe_int (fun _ _ => rfl)) pe_int (nomark _)))) pa_nil))) (pss_cons (ps_setLc (i := 4) (own := [("_law_letter", 3)]) (g := gName 3) rfl sc__law_due.nd rfl rfl (sw_true rfl rfl rfl (by decide +kernel)) (pi_range2 (by rfl) T.n_range (pa_cons pe_int (pa_cons (pe_op op_add (pv 2) pe_int) pa_nil))) (blkOk_by (own := [("_law_letter", 3)]) (N := ["_law_rows", "_law_lines_here", "_law_most", "_law_letter", "_law_found", "_law_gap", "_law_step", "_law_line"]) (sc := defScope s__law_due) (by decide +kernel)) (fun _ _ _ _ _ => (pg_name (i := 3) sc__law_due.nd rfl (Or.inl rfl))) (fun _ _ _ _ _ => pts_one (pt_val (pe_call (ok__law_solves T) (hr.mono (by decide)) (by rfl) T.g__law_solves T.F__law_solves.kp T.b__law_solves .nil pass0 (pa_cons (pv 1) (pa_cons (pe_tup (pa_cons (pv 3) (pa_cons pe_int pa_nil))) pa_nil))))) (fun _ _ _ _ _ => (pv 3)))
 (pss_cons (ps_if (pt_cmpR op_eq (pe_callB call_len_seq (by rfl) T.n_len (by decide +kernel) (pa_cons (pv 4) pa_nil)) pe_int (nomark _)) (pss_one (ps_ret (pe_tup (pa_cons pe_str pa_nil))))
 pss_nil)
 (pss_one (ps_ret (pe_tup (pa_cons pe_str (pa_cons (pe_tup (pa_cons (pe_ix ix_list (pv 4) pe_int (fun _ _ => rfl)) (pa_cons pe_int pa_nil))) (pa_cons (pe_tup (pa_cons pe_int (pa_cons pe_int pa_nil))) (pa_cons pe_non pa_nil)))))))))
 pss_nil)
 (pss_cons (ps_set (i := 4) sc__law_due.nd rfl (Or.inl rfl) (pe_lst pa_nil))
 (pss_cons (ps_for (by exact PassesOwn.never) rfl (pi_range2 (by rfl) T.n_range (pa_cons pe_int (pa_cons (pe_op op_add (pv 2) pe_int) pa_nil))) (pg_name (i := 3) sc__law_due.nd rfl (Or.inl rfl))
 (pss_one (ps_for (by exact PassesOwn.never) rfl (pi_range2 (by rfl) T.n_range (pa_cons pe_int (pa_cons (pe_op op_add (pv 2) pe_int) pa_nil))) (pg_name (i := 5) sc__law_due.nd rfl (Or.inl rfl))
 (pss_one (ps_if (pt_val (pe_call (ok__law_solves T) (hr.mono (by decide)) (by rfl) T.g__law_solves T.F__law_solves.kp T.b__law_solves .nil pass0 (pa_cons (pv 1) (pa_cons (pe_tup (pa_cons (pv 3) (pa_cons (pv 5) pa_nil))) pa_nil)))) (pss_one (ps_expr (pe_bm PySem.F.plainAttrs_list PySem.F.slot_list_append PySem.F.type_list_append mt_append (pv 4) (pa_cons (pe_tup (pa_cons (pv 3) (pa_cons (pv 5) pa_nil))) pa_nil))))
 pss_nil)))))
 (pss_cons (ps_if (pt_cmpR op_eq (pe_callB call_len_seq (by rfl) T.n_len (by decide +kernel) (pa_cons (pv 4) pa_nil)) pe_int (nomark _)) (pss_one (ps_ret (pe_tup (pa_cons pe_str pa_nil))))
 pss_nil)
 (pss_cons (ps_if (pt_cmpR op_eq (pe_callB call_len_seq (by rfl) T.n_len (by decide +kernel) (pa_cons (pv 4) pa_nil)) pe_int (nomark _)) (pss_one (ps_ret (pe_tup (pa_cons pe_str (pa_cons (pe_ix ix_list (pv 4) pe_int (fun _ _ => rfl)) pa_nil)))))
 pss_nil)
 (pss_cons (ps_set (i := 6) sc__law_due.nd rfl (Or.inl rfl) (pe_tup (pa_cons (pe_op op_sub (pe_ix ix_tup (pe_ix ix_list (pv 4) pe_int (fun _ _ => rfl)) pe_int (fun _ _ => rfl)) (pe_ix ix_tup (pe_ix ix_list (pv 4) pe_int (fun _ _ => rfl)) pe_int (fun _ _ => rfl))) (pa_cons (pe_op op_sub (pe_ix ix_tup (pe_ix ix_list (pv 4) pe_int (fun _ _ => rfl)) pe_int (fun _ _ => rfl)) (pe_ix ix_tup (pe_ix ix_list (pv 4) pe_int (fun _ _ => rfl)) pe_int (fun _ _ => rfl))) pa_nil))))
 (pss_one (ps_ret (pe_tup (pa_cons pe_str (pa_cons (pe_ix ix_list (pv 4) pe_int (fun _ _ => rfl)) (pa_cons (pv 6) (pa_cons (pe_callB call_len_seq (by rfl) T.n_len (by decide +kernel) (pa_cons (pv 4) pa_nil)) pa_nil))))))))))))))))), ?_⟩
    repeat walk_at "rd"
    refine ⟨p0, xs0, rs, rfl, ep, hR, fun r hr => (hok r hr).ok, hl, fun p xs H1 s1 e1 hA => ?_⟩
    have hll : (rs.map lineOf).length ≤ 60 := by rw [List.length_map]; exact hl
    generalize rs.map lineOf = ls at hi ht9 hA k hll
    clear hR hok hl
    have k : ∀ p' r H', ToldOk ls r → Same H1 H' → ToldAt H' p' r → Q (.ref p') H' := fun p' r H' h1 h2 h3 => k p' r H' h1 (s1.trans h2) h3
    repeat first | walk_at "rd" | walk_at "rdi"
    refine ⟨p, rfl, ⟨_, SqL.of e1⟩, fun L hL => lc_tri (K := K) (fun l => .bl (decide (l.1 = 0) && decide (l.2.2 > 0))) (by omega) e1 hA hL (fun l t H' R R2 hlm et kR => ?_) (fun H2 s2 e2 => ?_)⟩
    · repeat walk_at "rd"
      refine ⟨rfl, ?_⟩
      repeat walk_at "rd"
      refine ite_d (fun hc => ?_) (fun hc => ?_)
      · repeat walk_at "rd"
        rw [decide_eq_true hc] at kR
        exact kR
      · rw [decide_eq_false hc] at kR
        exact kR
    repeat walk_at "rd"
    refine ⟨L, ls.map fun l => decide (l.1 = 0) && decide (l.2.2 > 0), rfl, SqL.of (by rw [e2, List.map_map]; rfl), ?_⟩
    repeat walk_at "rd"
    refine ite_b (fun hc => ?_) (fun hc => ?_)
    · repeat walk_at "rd"
      refine new_at (Nat.le_of_ble_eq_true rfl) (fun u H3 nu s3 e3 => ?_)
      obtain ⟨b, hb, hb2⟩ := List.any_eq_true.mp hc
      obtain ⟨l, hl, rfl⟩ := List.mem_map.mp hb
      have hb3 : (decide (l.1 = 0) && decide (l.2.2 > 0)) = true := hb2
      rw [Bool.and_eq_true, decide_eq_true_eq, decide_eq_true_eq] at hb3
      exact k u .no H3 ⟨No.zero hl hb3.1 ((hi l hl).2.2.2.2.1 hb3.1) (by omega), l, hl, fun z => by rw [z] at hb3; exact absurd hb3.2 (by decide)⟩ (s2.trans s3) e3
    have hno : ∀ l, l ∈ ls → l.1 = 0 → l.2.2 = 0 := fun l hl h1 => by
      have h2 := List.any_eq_false.mp hc _ (List.mem_map.mpr ⟨l, hl, rfl⟩)
      have h3 : ¬ (decide (l.1 = 0) && decide (l.2.2 > 0)) = true := h2
      rw [Bool.and_eq_true, decide_eq_true_eq, decide_eq_true_eq] at h3
      have h4 := (hi l hl).2.2.2.2.2.1
      omega
    have k : ∀ p' r H', ToldOk ls r → Same H2 H' → ToldAt H' p' r → Q (.ref p') H' := fun p' r H' h1 h2 h3 => k p' r H' h1 (s2.trans h2) h3
    have e1 := s2 _ _ e1
    have hA := hA.keep s2
    clear hc e2 hL s2 L
    repeat first | walk_at "rd" | walk_at "rdi"
    refine ⟨p, rfl, ⟨_, SqL.of e1⟩, fun L hL => lc_tri (K := K) (fun l => .bl (decide (l.1 = 0))) (by omega) e1 hA hL (fun l t H' R R2 hlm et kR => ?_) (fun H3 s3 e3 => ?_)⟩
    · repeat walk_at "rd"
      refine ⟨rfl, ?_⟩
      repeat walk_at "rd"
      exact kR
    repeat walk_at "rd"
    refine ⟨L, ls.map fun l => decide (l.1 = 0), rfl, SqL.of (by rw [e3, List.map_map]; rfl), ?_⟩
    repeat walk_at "rd"
    refine ite_b (fun hc => ?_) (fun hc => ?_)
    · repeat walk_at "rd"
      refine new_at (Nat.le_of_ble_eq_true rfl) (fun u H4 nu s4 e4 => ?_)
      refine k u .any H4 (fun l hl => ?_) (s3.trans s4) e4
      have h1 : decide (l.1 = 0) = true := List.all_eq_true.mp hc _ (List.mem_map.mpr ⟨l, hl, rfl⟩)
      have h1 := of_decide_eq_true h1
      exact Prod.ext h1 (Prod.ext ((hi l hl).2.2.2.2.1 h1) (hno l hl h1))
    have up : ∃ l, l ∈ ls ∧ 0 < l.1 := by
      obtain ⟨b, hb, hb2⟩ := List.all_eq_false.mp hc
      obtain ⟨l, hl, rfl⟩ := List.mem_map.mp hb
      have h1 : ¬ decide (l.1 = 0) = true := hb2
      rw [decide_eq_true_eq] at h1
      have := (hi l hl).1
      exact ⟨l, hl, by omega⟩
    have k : ∀ p' r H', ToldOk ls r → Same H3 H' → ToldAt H' p' r → Q (.ref p') H' := fun p' r H' h1 h2 h3 => k p' r H' h1 (s3.trans h2) h3
    have e1 := s3 _ _ e1
    have hA := hA.keep s3
    clear hc e3 hL s3 L
    repeat first | walk_at "rd" | walk_at "rdi"
    refine ⟨p, rfl, ⟨_, SqL.of e1⟩, fun L hL => lc_tri (K := K) (fun l => .int l.2.2) (by omega) e1 hA hL (fun l t H' R R2 hlm et kR => ?_) (fun H4 s4 e4 => ?_)⟩
    · repeat walk_at "rd"
      refine ⟨rfl, ?_⟩
      repeat walk_at "rd"
      exact kR
    repeat walk_at "rd"
    refine r_max (ns := ls.map fun l => l.2.2) (by rw [e4, List.map_map]; rfl) (by rw [List.length_map]; obtain ⟨l, hl, _⟩ := up; exact List.length_pos_of_mem hl) (fun most hmm hmx => ?_)
    have hm : ∀ l, l ∈ ls → l.2.2 ≤ most := fun l hl => hmx _ (List.mem_map.mpr ⟨l, hl, rfl⟩)
    have hm9 : 0 ≤ most ∧ most ≤ 100 := by
      obtain ⟨l, hl, rfl⟩ := List.mem_map.mp hmm
      exact ⟨(hi l hl).2.2.2.2.2.1, ht9 l hl⟩
    have k : ∀ p' r H', ToldOk ls r → Same H4 H' → ToldAt H' p' r → Q (.ref p') H' := fun p' r H' h1 h2 h3 => k p' r H' h1 (s4.trans h2) h3
    have e1 := s4 _ _ e1
    have hA := hA.keep s4
    clear hmm hmx e4 hL s4 L
    repeat first | walk_at "rd" | walk_at "rdi"
    refine ⟨p, rfl, ⟨_, SqL.of e1⟩, fun L hL => lc_tri (K := K) (fun l => .bl (decide (l.2.1 = 0))) (by omega) e1 hA hL (fun l t H' R R2 hlm et kR => ?_) (fun H5 s5 e5 => ?_)⟩
    · repeat walk_at "rd"
      refine ⟨rfl, ?_⟩
      repeat walk_at "rd"
      exact kR
    repeat walk_at "rd"
    refine ⟨L, ls.map fun l => decide (l.2.1 = 0), rfl, SqL.of (by rw [e5, List.map_map]; rfl), ?_⟩
    have k : ∀ p' r H', ToldOk ls r → Same H5 H' → ToldAt H' p' r → Q (.ref p') H' := fun p' r H' h1 h2 h3 => k p' r H' h1 (s5.trans h2) h3
    have e1 := s5 _ _ e1
    have hA := hA.keep s5
    repeat walk_at "rd"
    refine ite_b (fun hc => ?_) (fun hc => ?_)
    · have hj : ∀ l, l ∈ ls → l.2.1 = 0 := fun l hl => of_decide_eq_true (show decide (l.2.1 = 0) = true from List.all_eq_true.mp hc _ (List.mem_map.mpr ⟨l, hl, rfl⟩))
      clear hc e5 hL s5 L
      repeat walk_at "rd"
      refine ⟨by omega, fun M hM => ?_⟩
      refine lc_range (lo := 1) (n := (most + 1 - 1).toNat) (fun i H' => ∃ ns : List Int, H' M = some (.lst (ns.map V.int)) ∧ ns.length ≤ i ∧ (∀ z, z ∈ ns → Solves ls z 1 ∧ 1 ≤ z) ∧ (∀ z, Solves ls z 1 → 1 ≤ z → z < 1 + i → z ∈ ns) ∧ H' p = some (.lst xs) ∧ Same H5 H') ?_ ?_ ?_
      · exact ⟨[], upd_same, Nat.le_refl _, (fun z hz => nomatch hz), fun z _ h1 h2 => absurd h2 (by omega), (upd_ne (ne_of_none e1 hM)).trans e1, Same.new hM⟩
      · rintro i H6 hin ⟨ns, g1, g2, g3, g4, g5, g6⟩
        repeat walk_at "rd"
        refine ⟨rfl, ?_⟩
        repeat walk_at "rd"
        refine new_at (Nat.le_of_ble_eq_true rfl) (fun u H7 nu s7 e7 => ?_)
        repeat walk_at "rd"
        refine ⟨p, u, xs, ls, 1 + i, 1, rfl, s7 _ _ g5, (hA.keep g6).keep s7, hi, e7, fun b hb => ?_⟩
        have g1 := s7 _ _ g1
        refine ⟨b, rfl, ite_b (fun hc => ?_) (fun hc => ?_)⟩
        · subst hc
          repeat walk_at "rd"
          refine ⟨_, g1, by rw [sizeLine_eq, List.length_map]; omega, ns ++ [1 + (i : Int)], by rw [upd_same, List.map_append]; rfl, by rw [List.length_append, List.length_singleton]; omega, fun z hz => ?_, fun z h1 h2 h3 => ?_, (upd_ne (ne_of_none e1 hM)).trans (s7 _ _ g5), (g6.trans s7).over hM g1⟩
          · rcases List.mem_append.mp hz with hz | hz
            · exact g3 z hz
            · rw [List.mem_singleton] at hz
              subst hz
              exact ⟨(hb.mp rfl).1, (hb.mp rfl).2.1⟩
          · by_cases c : z < 1 + i
            · exact List.mem_append_left _ (g4 z h1 h2 c)
            · exact List.mem_append_right _ (List.mem_singleton.mpr (by omega))
        · subst hc
          refine ⟨ns, g1, by omega, g3, fun z h1 h2 h3 => ?_, s7 _ _ g5, g6.trans s7⟩
          by_cases c : z < 1 + i
          · exact g4 z h1 h2 c
          · exact absurd (hb.mpr (by rw [show 1 + (i : Int) = z by omega]; exact ⟨h1, h2, by decide⟩)) Bool.false_ne_true
      · rintro H6 ⟨ns, g1, g2, g3, g4, g5, g6⟩
        repeat first | walk_at "rd" | walk_at "rdi"
        refine ite_d (fun hc => ?_) (fun hc => ?_)
        · repeat walk_at "rd"
          refine new_at (Nat.le_of_ble_eq_true rfl) (fun u H7 nu s7 e7 => ?_)
          obtain ⟨l, hl, hl1⟩ := up
          refine k u .no H7 ⟨fun D G d g hs => ?_, l, hl, fun z => by rw [z] at hl1; exact absurd hl1 (by decide)⟩ (g6.trans s7) e7
          have hb := (sol_box hi hm hs d g).1 ⟨l, hl, hl1⟩
          have hz := g4 D (fun l hl => by have := hs l hl; rw [hj l hl] at this ⊢; omega) d (by omega)
          rw [List.length_map] at hc
          obtain rfl : ns = [] := List.length_eq_zero_iff.mp (by omega)
          cases hz
        · cases ns with
          | nil => exact absurd rfl hc
          | cons z zs =>
            obtain ⟨z1, z2⟩ := g3 z (List.mem_cons_self ..)
            repeat walk_at "rd"
            refine r_ixL g1 (v := .int z) (atI_nat (j := 0) rfl) ?_
            repeat walk_at "rd"
            refine new_at (Nat.le_of_ble_eq_true rfl) (fun u H7 nu s7 e7 => ?_)
            repeat walk_at "rd"
            refine new_at (Nat.le_of_ble_eq_true rfl) (fun v H8 nv s8 e8 => ?_)
            repeat walk_at "rd"
            refine new_at (Nat.le_of_ble_eq_true rfl) (fun x H9 nx s9 e9 => ?_)
            refine k x (.line z 1 0 1 none) H9 ⟨z1, z2, by decide, up, fun a b ha hb => by rw [hj a ha, hj b hb, Int.mul_zero, Int.mul_zero], rfl, fun l hl => by rw [hj l hl]; omega, fun _ => ⟨rfl, rfl, rfl⟩, fun m e => nomatch e⟩ (((g6.trans s7).trans s8).trans s9) ⟨u, v, e9, s9 _ _ (s8 _ _ e7), s9 _ _ e8⟩
    have uj : ∃ l, l ∈ ls ∧ 0 < l.2.1 := by
      obtain ⟨b, hb, hb2⟩ := List.all_eq_false.mp hc
      obtain ⟨l, hl, rfl⟩ := List.mem_map.mp hb
      have h1 : ¬ decide (l.2.1 = 0) = true := hb2
      rw [decide_eq_true_eq] at h1
      have := (hi l hl).2.2.1
      exact ⟨l, hl, by omega⟩
    clear hc e5 hL s5 L
    obtain ⟨n, hn⟩ : ∃ n : Nat, most = n := ⟨most.toNat, by omega⟩
    subst hn
    repeat first | walk_at "rd" | walk_at "rdi"
    refine new_at (Nat.zero_le _) (fun L H6 nL s6 e6 => ?_)
    have nLp : L ≠ p := (ne_of_none e1 nL).symm
    let Pv : Nat → Nat → Hp → Prop := fun i j H' => ∃ (vs : List V) (ps : List (Int × Int)), H' L = some (.lst vs) ∧ PairsAt H' vs ps ∧ ps.length ≤ i * n + j ∧ ps.Pairwise LexP ∧ (∀ g : Int × Int, g ∈ ps → Solves ls g.1 g.2 ∧ 1 ≤ g.1 ∧ g.1 ≤ n ∧ 1 ≤ g.2 ∧ g.2 ≤ n ∧ (g.1 < 1 + i ∨ (g.1 = 1 + i ∧ g.2 < 1 + j))) ∧ (∀ g : Int × Int, Solves ls g.1 g.2 → 1 ≤ g.1 → 1 ≤ g.2 → g.2 ≤ n → (g.1 < 1 + i ∨ (g.1 = 1 + i ∧ g.2 < 1 + j)) → g ∈ ps) ∧ H' p = some (.lst xs) ∧ Same H5 H'
    have row : ∀ i H', Pv i n H' → Pv (i + 1) 0 H' := fun i H' ⟨vs, ps, h1, h2, h3, h4, h5, h6, h7, h8⟩ => ⟨vs, ps, h1, h2, by rw [Nat.succ_mul]; omega, h4, fun g hg => by have := h5 g hg; exact ⟨this.1, by omega, by omega, by omega, by omega, by omega⟩, fun g a b c d e => h6 g a b c d (by omega), h7, h8⟩
    repeat walk_at "rd"
    rw [show ((n : Int) + 1 - 1).toNat = n by omega]
    refine ⟨by omega, for_range (lo := 1) (n := n) (fun i σ H' => ∃ v3 v5 v6 v7 : Option V, σ = [some (.ref p0), some (.ref p), some (.int n), v3, some (.ref L), v5, v6, v7] ∧ Pv i 0 H') ⟨_, _, _, _, rfl, [], [], e6, PairsAt.nil, Nat.zero_le _, List.Pairwise.nil, (fun g hg => nomatch hg), fun g _ _ _ _ z => absurd z (by omega), s6 _ _ e1, s6⟩ ?_ ?_⟩
    · clear e6 s6
      rintro i σ H7 hin ⟨v3, v5, v6, v7, rfl, hP⟩
      repeat walk_at "rd"
      rw [show ((n : Int) + 1 - 1).toNat = n by omega]
      refine ⟨by omega, for_range (lo := 1) (n := n) (fun j σ H' => ∃ v5 v6 v7 : Option V, σ = [some (.ref p0), some (.ref p), some (.int n), some (.int (1 + (i : Nat))), some (.ref L), v5, v6, v7] ∧ Pv i j H') ⟨_, _, _, rfl, hP⟩ ?_ ?_⟩
      · clear hP
        rintro j σ H8 hjn ⟨v5, v6, v7, rfl, vs, ps, h1, h2, h3, h4, h5, h6, h7, h8⟩
        repeat first | walk_at "rd" | walk_at "rdi"
        refine new_at (Nat.le_of_ble_eq_true rfl) (fun u H9 nu s9 e9 => ?_)
        repeat walk_at "rd"
        refine ⟨p, u, xs, ls, 1 + i, 1 + j, rfl, s9 _ _ h7, (hA.keep h8).keep s9, hi, e9, fun b hb => ?_⟩
        refine ⟨b, rfl, ite_b (fun hc => ?_) (fun hc => ?_)⟩
        · subst hc
          obtain ⟨q1, q2, q3⟩ := hb.mp rfl
          have h1 := s9 _ _ h1
          repeat walk_at "rd"
          refine ⟨.inl ⟨rfl, _, SqL.of h1⟩, ?_⟩
          repeat walk_at "rd"
          refine new_at (Nat.le_of_ble_eq_true rfl) (fun z H10 nz s10 e10 => ?_)
          have h1 := s10 _ _ h1
          have hb9 : i * n + j < 100 * 100 := by
            have a1 : (i + 1) * n ≤ 100 * 100 := Nat.mul_le_mul (by omega) (by omega)
            rw [Nat.succ_mul] at a1
            omega
          repeat walk_at "rd"
          refine r_app h1 (by rw [sizeLine_eq, h2.1]; omega) ?_
          have s19 := s9.trans s10
          refine ⟨_, _, _, rfl, vs ++ [.ref z], ps ++ [(1 + (i : Int), 1 + (j : Int))], upd_same, ((h2.keep s19).snoc (g := (1 + (i : Int), 1 + (j : Int))) e10).upd h1, by rw [List.length_append, List.length_singleton]; omega, ?_, fun g hg => ?_, fun g a b c d e => ?_, (upd_ne nLp.symm).trans (s19 _ _ h7), (h8.trans s19).over nL h1⟩
          · rw [List.pairwise_append]
            refine ⟨h4, List.pairwise_singleton _ _, fun x hx y hy => ?_⟩
            rw [List.mem_singleton] at hy
            subst hy
            exact (h5 x hx).2.2.2.2.2
          · rcases List.mem_append.mp hg with hg | hg
            · have := h5 g hg; exact ⟨this.1, by omega, by omega, by omega, by omega, by omega⟩
            · rw [List.mem_singleton] at hg
              subst hg
              exact ⟨q1, by dsimp only; omega, by dsimp only; omega, by dsimp only; omega, by dsimp only; omega, .inr ⟨rfl, by dsimp only; omega⟩⟩
          · by_cases cc : g.1 = 1 + i ∧ g.2 = 1 + j
            · exact List.mem_append_right _ (List.mem_singleton.mpr (Prod.ext cc.1 cc.2))
            · exact List.mem_append_left _ (h6 g a b c d (by omega))
        · subst hc
          repeat walk_at "rd"
          refine ⟨_, _, _, rfl, vs, ps, s9 _ _ h1, h2.keep s9, by omega, h4, fun g hg => ?_, fun g a b c d e => ?_, s9 _ _ h7, h8.trans s9⟩
          · have := h5 g hg; exact ⟨this.1, by omega, by omega, by omega, by omega, by omega⟩
          · by_cases cc : g.1 = 1 + i ∧ g.2 = 1 + j
            · exact absurd (hb.mpr (by rw [← cc.1, ← cc.2]; exact ⟨a, b, c⟩)) Bool.false_ne_true
            · exact h6 g a b c d (by omega)
      · rintro σ H8 ⟨v5, v6, v7, rfl, hP⟩
        exact ⟨_, _, _, _, rfl, row i H8 hP⟩
    · clear e6 s6
      rintro σ H7 ⟨v3, v5, v6, v7, rfl, vs, ps, h1, h2, h3, h4, h5, h6, h7, h8⟩
      obtain ⟨f0, f1, f2⟩ := found_told hi up uj hm h4 fun D G => ⟨fun hg => by have := h5 _ hg; exact ⟨this.1, this.2.1, this.2.2.1, this.2.2.2.1, this.2.2.2.2.1⟩, fun ⟨a, b, c, d, e⟩ => h6 (D, G) a b d e (.inl (by dsimp only; omega))⟩
      clear h3 h4 h5 h6
      repeat first | walk_at "rd" | walk_at "rdi"
      refine ite_d (fun hc => ?_) (fun hc => ?_)
      · repeat walk_at "rd"
        refine new_at (Nat.le_of_ble_eq_true rfl) (fun u H8 nu s8 e8 => ?_)
        rw [h2.1] at hc
        exact k u .no H8 (f0 (List.length_eq_zero_iff.mp (by omega))) (h8.trans s8) e8
      cases ps with
      | nil => exact absurd (by rw [h2.1]; rfl) hc
      | cons g t =>
        obtain ⟨u, eu, hu⟩ := h2.2 0 g rfl
        have e0 : atI vs 0 = some (.ref u) := atI_nat (j := 0) eu
        repeat first | walk_at "rd" | walk_at "rdi"
        refine ite_d (fun hc1 => ?_) (fun hc1 => ?_)
        · obtain rfl : t = [] := List.length_eq_zero_iff.mp (by have := h2.1; rw [List.length_cons] at this; omega)
          repeat walk_at "rd"
          refine r_ixL h1 e0 ?_
          repeat walk_at "rd"
          refine new_at (Nat.le_of_ble_eq_true rfl) (fun z H8 nz s8 e8 => ?_)
          exact k z (.one g.1 g.2) H8 (f1 g rfl) (h8.trans s8) ⟨u, e8, s8 _ _ hu⟩
        · cases t with
          | nil => exact absurd (by rw [h2.1]; rfl) hc1
          | cons h t =>
            obtain ⟨u2, eu2, hu2⟩ := h2.2 1 h rfl
            have e01 : atI vs 1 = some (.ref u2) := atI_nat (j := 1) eu2
            repeat walk_at "rd"
            refine r_ixL h1 e01 ?_
            repeat walk_at "rd"
            refine r_ixL h1 e0 ?_
            repeat walk_at "rd"
            refine r_ixL h1 e01 ?_
            repeat walk_at "rd"
            refine r_ixL h1 e0 ?_
            repeat walk_at "rd"
            refine new_at (Nat.le_of_ble_eq_true rfl) (fun v H8 nv s8 e8 => ?_)
            repeat walk_at "rd"
            refine r_ixL (s8 _ _ h1) e0 ?_
            repeat walk_at "rd"
            refine new_at (Nat.le_of_ble_eq_true rfl) (fun z H9 nz s9 e9 => ?_)
            rw [h2.1] at e9
            exact k z (.line g.1 g.2 (h.1 - g.1) (h.2 - g.2) (some ((g :: h :: t).length : Int))) H9 (f2 g h t rfl) ((h8.trans s8).trans s9) ⟨u, v, e9, s9 _ _ (s8 _ _ hu), s9 _ _ e8⟩
end

/-! ### the same values, in two places: none, ints, texts, tuples of such -/
inductive Leaf : V → Prop
  | non : Leaf .non
  | int (i : Int) : Leaf (.int i)
  | str (s : Str) : Leaf (.str s)
def SamA (R : V → V → Prop) : List V → List V → Prop
  | [], [] => True
  | x :: xs, y :: ys => R x y ∧ SamA R xs ys
  | _, _ => False
theorem SamA.len {R : V → V → Prop} : ∀ {xs ys : List V}, SamA R xs ys → xs.length = ys.length
  | [], [], _ => rfl
  | _ :: _, _ :: _, h => congrArg (· + 1) h.2.len
  | [], _ :: _, h => h.elim
  | _ :: _, [], h => h.elim
theorem SamA.get {R : V → V → Prop} : ∀ {xs ys : List V} {i : Nat} {x y : V}, SamA R xs ys → xs[i]? = some x → ys[i]? = some y → R x y
  | [], [], _, _, _, _, h, _ => by simp at h
  | x :: xs, y :: ys, 0, _, _, h, h1, h2 => by
    obtain rfl := Option.some.inj h1
    obtain rfl := Option.some.inj h2
    exact h.1
  | x :: xs, y :: ys, i + 1, _, _, h, h1, h2 => h.2.get (i := i) h1 h2
  | [], _ :: _, _, _, _, h, _, _ => h.elim
  | _ :: _, [], _, _, _, h, _, _ => h.elim
def SamV : Nat → Hp → V → V → Prop
  | 0, _, _, _ => False
  | n + 1, H, v, w => (v = w ∧ Leaf v) ∨ ∃ (p q : Addr) (xs ys : List V), v = .ref p ∧ w = .ref q ∧ H p = some (.tup xs) ∧ H q = some (.tup ys) ∧ xs.length ≤ 1000 ∧ SamA (SamV n H) xs ys
def spSame (n : Nat) : Sp := fun vs H Q _ => ∃ v w : V, vs = [v, w] ∧ SamV n H v w ∧ Q (.bl true) H
section
variable {P : Program} {w : World} {K : PySem.W.Frag} {mg : Str → Option Value} {base : Heap} {a : Adr}
theorem no__law_same (T : Txt K mg a) : FnOk P w K mg base CX0 2 a.a__law_same a.d__law_same ["_law_told", "_law_due_here"] (spSame 0) := by
  refine T.F__law_same.ok sc__law_same (fun vs H Q E h => ?_) (fun cdv A outer s H vs Q E hr h => ?_)
  · obtain ⟨_, _, _, h, _⟩ := h; exact h.elim
  · obtain ⟨_, _, _, h, _⟩ := h; exact h.elim
theorem same_step (T : Txt K mg a) {n m : Nat} (hc : FnOk P w K mg base CX0 (m + 2) a.a__law_same a.d__law_same ["_law_told", "_law_due_here"] (spSame n)) : FnOk P w K mg base CX0 (m + 3) a.a__law_same a.d__law_same ["_law_told", "_law_due_here"] (spSame (n + 1)) := by
  have ok__law_same : Txt K mg a → FnOk P w K mg base CX0 (m + 2) a.a__law_same a.d__law_same ["_law_told", "_law_due_here"] (spSame n) := fun _ => hc
  refine T.F__law_same.ok sc__law_same (fun vs H Q E h => ?_) (fun cdv A outer s H vs Q E hr h => ?_)
  · obtain ⟨v, w, rfl, _⟩ := h
    rfl
  · obtain ⟨v, w, rfl, hs, k⟩ := h
    refine ⟨_, (pss_cons (ps_if (pt_cmpR op_isNo (pv 1) pe_non (nomark _)) (pss_one (ps_ret (pe_cmpR op_isNo (pv 0) pe_non (nomark _))))
 pss_nil)
 (pss_cons (ps_if (pt_val (pe_callB call_isi (by rfl) T.n_isinstance (by decide +kernel) (pa_cons (pv 1) (pa_cons (pe_bltn (v := .ty "bool") (u := .type "bool") (by rfl) T.n_bool (by decide +kernel) rfl) pa_nil)))) (pss_one (ps_ret (pe_and (pe_callB call_isi (by rfl) T.n_isinstance (by decide +kernel) (pa_cons (pv 0) (pa_cons (pe_bltn (v := .ty "bool") (u := .type "bool") (by rfl) T.n_bool (by decide +kernel) rfl) pa_nil))) (pe_one (pe_cmpR op_eq (pv 0) (pv 1) (nomark _))))))
 pss_nil)
 (pss_cons (ps_if (pt_val (pe_callB call_isi (by rfl) T.n_isinstance (by decide +kernel) (pa_cons (pv 1) (pa_cons (pe_bltn (v := .ty "int") (u := .type "int") (by rfl) T.n_int (by decide +kernel) rfl) pa_nil)))) (pss_one (ps_ret (pe_and (pe_call (ok__law_integer T) (hr.mono (by omega)) (by rfl) T.g__law_integer T.F__law_integer.kp T.b__law_integer .nil pass0 (pa_cons (pv 0) pa_nil)) (pe_one (pe_cmpR op_eq (pv 0) (pv 1) (nomark _))))))
 pss_nil)
 (pss_cons (ps_if (pt_val (pe_callB call_isi (by rfl) T.n_isinstance (by decide +kernel) (pa_cons (pv 1) (pa_cons (pe_bltn (v := .ty "str") (u := .type "str") (by rfl) T.n_str (by decide +kernel) rfl) pa_nil)))) (pss_one (ps_ret (pe_and (pe_callB call_isi (by rfl) T.n_isinstance (by decide +kernel) (pa_cons (pv 0) (pa_cons (pe_bltn (v := .ty "str") (u := .type "str") (by rfl) T.n_str (by decide +kernel) rfl) pa_nil))) (pe_one (pe_cmpR op_eq (pv 0) (pv 1) (nomark _))))))
 pss_nil)
 (pss_cons (ps_if (PW.pt (pw_and (pt_val (pe_callB call_isi (by rfl) T.n_isinstance (by decide +kernel) (pa_cons (pv 1) (pa_cons (pe_bltn (v := .ty "list") (u := .type "list") (by rfl) T.n_list (by decide +kernel) rfl) pa_nil)))) (pw_and1 (pt_not (pt_val (pe_callB call_isi (by rfl) T.n_isinstance (by decide +kernel) (pa_cons (pv 0) (pa_cons (pe_bltn (v := .ty "list") (u := .type "list") (by rfl) T.n_list (by decide +kernel) rfl) pa_nil)))))))) (pss_one (ps_ret pe_bl))
 pss_nil)
 (pss_cons (ps_if (PW.pt (pw_and (pt_val (pe_callB call_isi (by rfl) T.n_isinstance (by decide +kernel) (pa_cons (pv 1) (pa_cons (pe_bltn (v := .ty "tuple") (u := .type "tuple") (by rfl) T.n_tuple (by decide +kernel) rfl) pa_nil)))) (pw_and1 (pt_not (pt_val (pe_callB call_isi (by rfl) T.n_isinstance (by decide +kernel) (pa_cons (pv 0) (pa_cons (pe_bltn (v := .ty "tuple") (u := .type "tuple") (by rfl) T.n_tuple (by decide +kernel) rfl) pa_nil)))))))) (pss_one (ps_ret pe_bl))
 pss_nil)
 (pss_cons (ps_if (pt_cmpR op_ne (pe_callB call_len_seq (by rfl) T.n_len (by decide +kernel) (pa_cons (pv 0) pa_nil)) (pe_callB call_len_seq (by rfl) T.n_len (by decide +kernel) (pa_cons (pv 1) pa_nil)) (nomark _)) (pss_one (ps_ret pe_bl))
 pss_nil)
 (pss_cons (ps_for (by exact PassesOwn.never) rfl (pi_range1 (by rfl) T.n_range (pa_cons (pe_callB call_len_seq (by rfl) T.n_len (by decide +kernel) (pa_cons (pv 1) pa_nil)) pa_nil)) (pg_name (i := 2) sc__law_same.nd rfl (Or.inl rfl))
 (pss_one (ps_if (pt_not (pt_val (pe_call (ok__law_same T) (hr.mono (by omega)) (by rfl) T.g__law_same T.F__law_same.kp T.b__law_same .nil pass0 (pa_cons (pe_ix ix_seq (pv 0) (pv 2) (fun _ _ => rfl)) (pa_cons (pe_ix ix_seq (pv 1) (pv 2) (fun _ _ => rfl)) pa_nil))))) (pss_one (ps_ret pe_bl))
 pss_nil)))
 (pss_one (ps_ret pe_bl)))))))))), ?_⟩
    rcases hs with ⟨rfl, lf⟩ | ⟨p, q, xs, ys, rfl, rfl, hp, hq, hl, hx⟩
    · cases lf with
      | non =>
        repeat first | walk_at "rd" | walk_at "rdi"
        exact k
      | int i =>
        repeat first | walk_at "rd" | walk_at "rdi"
        refine ⟨_, true, rfl, IntV.int, ?_⟩
        repeat first | walk_at "rd" | walk_at "rdi"
        rw [decide_eq_true rfl]
        exact k
      | str s =>
        repeat first | refine r_isNs ?_ | refine r_isi (n := "bool") (b := false) (.base (.str _)) (kit_ty (by decide +kernel)) ?_ | refine r_isi (n := "int") (b := false) (.base (.str _)) (kit_ty (by decide +kernel)) ?_ | refine r_isi (n := "str") (b := true) (.base (.str _)) (kit_ty (by decide +kernel)) ?_ | walk_at "rd" | walk_at "rdi"
        refine r_eqStr true (decide_eq_true rfl) ?_
        exact k
    · repeat first | refine r_isiTu false hq (by decide +kernel) ?_ | refine r_isiTu true hq (by decide +kernel) ?_ | refine r_isiTu true hp (by decide +kernel) ?_ | walk_at "rd" | walk_at "rdi"
      refine r_nDT (show ((xs.length : Nat) : Int) = ys.length by rw [hx.len]) ?_
      have hyl := hx.len
      repeat first | walk_at "rd" | walk_at "rdi"
      refine ⟨by omega, by omega, ?_⟩
      rw [Int.toNat_natCast]
      refine for_range (lo := 0) (n := ys.length) (fun i σ H' => ∃ v : Option V, σ = [some (.ref p), some (.ref q), v] ∧ H' = H) ⟨_, rfl, rfl⟩ ?_ ?_
      · rintro i σ H1 hi ⟨v, rfl, rfl⟩
        have g1 : xs[i]? = some xs[i] := List.getElem?_eq_getElem (by omega)
        have g2 : ys[i]? = some ys[i] := List.getElem?_eq_getElem hi
        have a1 : atI xs (0 + (i : Int)) = some xs[i] := by rw [show 0 + (i : Int) = i by omega]; exact atI_nat g1
        have a2 : atI ys (0 + (i : Int)) = some ys[i] := by rw [show 0 + (i : Int) = i by omega]; exact atI_nat g2
        repeat first | walk_at "rd" | walk_at "rdi"
        refine Or.inr (Or.inl (r_ixT hp a1 ?_))
        repeat walk_at "rd"
        refine Or.inr (Or.inl (r_ixT hq a2 ?_))
        repeat walk_at "rd"
        refine ⟨_, _, rfl, hx.get g1 g2, ?_⟩
        repeat first | exact ⟨_, rfl, rfl⟩ | walk_at "rd" | walk_at "rdi"
      · rintro σ H1 ⟨v, rfl, rfl⟩
        repeat walk_at "rd"
        exact k
theorem ok__law_same (T : Txt K mg a) : FnOk P w K mg base CX0 5 a.a__law_same a.d__law_same ["_law_told", "_law_due_here"] (spSame 3) := same_step T (same_step T (same_step T (no__law_same T)))
end

/-! ### the law of k63 -/
theorem opt_leaf (c : Option Int) : Leaf (optV c) := by
  cases c with
  | none => exact .non
  | some m => exact .int m
theorem pair_sam {H : Hp} {u v : Addr} {D G : Int} (h : H u = some (.tup [.int D, .int G])) (k : H v = some (.tup [.int D, .int G])) : SamV 2 H (.ref u) (.ref v) := .inr ⟨u, v, _, _, rfl, rfl, h, k, Nat.le_of_ble_eq_true rfl, .inl ⟨rfl, .int _⟩, .inl ⟨rfl, .int _⟩, trivial⟩
theorem told_sam {H : Hp} {p q : Addr} {r : Told} (h : ToldAt H p r) (k : ToldAt H q r) : SamV 3 H (.ref p) (.ref q) := by
  cases r with
  | any => exact .inr ⟨p, q, _, _, rfl, rfl, h, k, Nat.le_of_ble_eq_true rfl, .inl ⟨rfl, .str _⟩, trivial⟩
  | no => exact .inr ⟨p, q, _, _, rfl, rfl, h, k, Nat.le_of_ble_eq_true rfl, .inl ⟨rfl, .str _⟩, trivial⟩
  | one D G =>
    obtain ⟨u, h1, h2⟩ := h
    obtain ⟨v, k1, k2⟩ := k
    exact .inr ⟨p, q, _, _, rfl, rfl, h1, k1, Nat.le_of_ble_eq_true rfl, .inl ⟨rfl, .str _⟩, pair_sam h2 k2, trivial⟩
  | line D G e f c =>
    obtain ⟨u, u2, h1, h2, h3⟩ := h
    obtain ⟨v, v2, k1, k2, k3⟩ := k
    exact .inr ⟨p, q, _, _, rfl, rfl, h1, k1, Nat.le_of_ble_eq_true rfl, .inl ⟨rfl, .str _⟩, pair_sam h2 k2, pair_sam h3 k3, .inl ⟨rfl, opt_leaf c⟩, trivial⟩
theorem mem_twice {ls : List L3} {l : L3} : l ∈ ls ++ ls ↔ l ∈ ls := by rw [List.mem_append, or_self]
theorem told_twice {ls : List L3} {r : Told} (h : ToldOk ls r) : ToldOk (ls ++ ls) r := by
  have hs : ∀ D G, Solves (ls ++ ls) D G ↔ Solves ls D G := fun D G => ⟨fun z l hl => z l (mem_twice.mpr hl), fun z l hl => z l (mem_twice.mp hl)⟩
  cases r with
  | any => exact fun l hl => h l (mem_twice.mp hl)
  | no => exact ⟨fun D G d g z => h.1 D G d g ((hs D G).mp z), by obtain ⟨l, hl, hz⟩ := h.2; exact ⟨l, mem_twice.mpr hl, hz⟩⟩
  | one D G =>
    have h : OneOk ls D G := h
    refine ⟨(hs D G).mpr h.sol, h.d1, h.g1, by obtain ⟨l, hl, hz⟩ := h.up; exact ⟨l, mem_twice.mpr hl, hz⟩, fun hp l hl => ?_⟩
    refine h.only (fun a b ha hb => hp a b ?_ ?_) l ?_
    · rw [List.filter_append]; exact List.mem_append_left _ ha
    · rw [List.filter_append]; exact List.mem_append_left _ hb
    · rw [List.filter_append] at hl
      cases e : ls.filter pos1 with
      | nil => rw [e] at hl; exact hl
      | cons x t => rw [e] at hl; exact hl
  | line D G e f c =>
    have h : LineOk ls D G e f c := h
    exact ⟨(hs D G).mpr h.sol, h.d1, h.g1, by obtain ⟨l, hl, hz⟩ := h.up; exact ⟨l, mem_twice.mpr hl, hz⟩, fun a b ha hb => h.par a b (mem_twice.mp ha) (mem_twice.mp hb), h.one, fun l hl => h.step l (mem_twice.mp hl), h.free, h.many⟩
theorem one_box {ls : List L3} {D G : Int} (hi : LinesIn ls) (ht : ∀ l, l ∈ ls → l.2.2 ≤ 100) (h : OneOk ls D G) : D ≤ 100 ∧ G ≤ 100 := by
  obtain ⟨h1, h2⟩ := sol_box hi ht h.sol h.d1 h.g1
  refine ⟨h1 h.up, ?_⟩
  by_cases c : ∃ l, l ∈ ls ∧ 0 < l.2.1
  · exact h2 c
  · exfalso
    have hj : ∀ l, l ∈ ls → l.2.1 = 0 := fun l hl => by
      have := (hi l hl).2.2.1
      by_cases z : 0 < l.2.1
      · exact absurd ⟨l, hl, z⟩ c
      · omega
    obtain ⟨l0, hl0, hp0⟩ := h.up
    have hl0p : l0 ∈ ls.filter pos1 := List.mem_filter.mpr ⟨hl0, decide_eq_true hp0⟩
    cases e : ls.filter pos1 with
    | nil => rw [e] at hl0p; cases hl0p
    | cons x t =>
      have hx : x ∈ ls := (List.mem_filter.mp (show x ∈ ls.filter pos1 by rw [e]; exact List.mem_cons_self ..)).1
      have h3 := h.only (fun a b ha hb => by rw [hj a (List.mem_filter.mp ha).1, hj b (List.mem_filter.mp hb).1, Int.mul_zero, Int.mul_zero]) x (by rw [e]; rfl)
      rw [hj x hx, Int.zero_ediv] at h3
      have := h.d1
      omega
/-! lists of rows, equal -/
def rowD (r : Row) : PyData := .tuple [.tuple (.int 0 :: r.1.map PyData.int), .int r.2]
theorem eqv_ints : ∀ xs : List Int, PyData.eqvAll (xs.map PyData.int) (xs.map PyData.int) = true
  | [] => rfl
  | x :: xs => by
    show (PyData.eqv (.int x) (.int x) && PyData.eqvAll (xs.map PyData.int) (xs.map PyData.int)) = true
    rw [eqv_ints xs]
    simp [PyData.eqv]
theorem eqv_row (r : Row) : PyData.eqv (rowD r) (rowD r) = true := by
  unfold rowD
  simp [PyData.eqv, PyData.eqvAll, eqv_ints]
theorem eqv_rows : ∀ rs : List Row, PyData.eqvAll (rs.map rowD) (rs.map rowD) = true
  | [] => rfl
  | r :: rs => by
    show (PyData.eqv (rowD r) (rowD r) && PyData.eqvAll (rs.map rowD) (rs.map rowD)) = true
    rw [eqv_rows rs, eqv_row]; rfl
theorem lay_rows : ∀ rs : List Row, PyData.canLayAll0 (rs.map rowD) = true
  | [] => rfl
  | r :: rs => by
    have h : PyData.canLayAll0 (PyData.int 0 :: r.1.map PyData.int) = true := lay_ints (0 :: r.1)
    show ((PyData.canLayAll0 (PyData.int 0 :: r.1.map PyData.int) && (true && true)) && PyData.canLayAll0 (rs.map rowD)) = true
    rw [lay_rows rs, h]; rfl
theorem dep_row (r : Row) : (rowD r).depth ≤ 3 := by
  have h : PyData.depthAll (PyData.int 0 :: r.1.map PyData.int) ≤ 1 := dep_ints (0 :: r.1)
  show max (PyData.depthAll (PyData.int 0 :: r.1.map PyData.int) + 1) (max 0 0) + 1 ≤ 3
  omega
theorem dep_rows : ∀ rs : List Row, PyData.depthAll (rs.map rowD) ≤ 3
  | [] => by decide
  | r :: rs => by
    have := dep_rows rs
    have := dep_row r
    show max (rowD r).depth (PyData.depthAll (rs.map rowD)) ≤ 3
    omega
theorem sh_rows (rs : List Row) : SeqAt.shaped (.list (rs.map rowD)) = true := by
  have h3 := dep_rows rs
  show (PyData.canLayAll0 (rs.map rowD) && decide (PyData.depthAll (rs.map rowD) + 1 ≤ 64)) = true
  rw [lay_rows, decide_eq_true (by omega)]; rfl
theorem dp_row {K : PySem.W.Frag} {H : Hp} {x : V} {r : Row} (h : RowAt H x r) : Dp K H x (rowD r) := by
  obtain ⟨t, p, rfl, h1, h2⟩ := h
  exact .tup (SqT.of h1) (.cons (.tup (SqT.of h2) (.cons (.int 0) (dp_ints r.1))) (.cons (.int r.2) .nil))
theorem dp_rows {K : PySem.W.Frag} {H : Hp} : ∀ {xs : List V} {rs : List Row}, RowsAt H xs rs → DpAll K H xs (rs.map rowD)
  | [], [], _ => .nil
  | x :: xs, r :: rs, h => by
    obtain ⟨y, e, hy⟩ := h.2 0 r rfl
    obtain rfl : x = y := Option.some.inj e
    exact .cons (dp_row hy) (dp_rows ⟨by have := h.1; simpa using this, fun i r' hr => h.2 (i + 1) r' hr⟩)
  | [], _ :: _, h => absurd h.1 (by simp)
  | _ :: _, [], h => absurd h.1 (by simp)
theorem r_neRows {K : PySem.W.Frag} {H : Hp} {Q : VK} {p q : Addr} {xs : List V} {rs : List Row} (h1 : H p = some (.lst xs)) (h2 : H q = some (.lst xs)) (hR : RowsAt H xs rs) (k : Q (.bl false) H) : rNeD K (.ref p) (.ref q) H Q := by
  refine ⟨_, _, .lst (SqL.of h1) (dp_rows hR), .lst (SqL.of h2) (dp_rows hR), sh_rows rs, sh_rows rs, ?_⟩
  rw [show PyData.eqv (.list (rs.map rowD)) (.list (rs.map rowD)) = true from eqv_rows rs]
  exact k
theorem RowsAt.app {H : Hp} {xs ys : List V} {rs ss : List Row} (h : RowsAt H xs rs) (k : RowsAt H ys ss) : RowsAt H (xs ++ ys) (rs ++ ss) := ⟨by rw [List.length_append, List.length_append, h.1, k.1], fun i r hr => by
  by_cases hi : i < rs.length
  · rw [List.getElem?_append_left hi] at hr
    rw [List.getElem?_append_left (by rw [h.1]; exact hi)]
    exact h.2 i r hr
  · rw [List.getElem?_append_right (by omega)] at hr
    rw [List.getElem?_append_right (by rw [h.1]; omega), h.1]
    exact k.2 _ r hr⟩
theorem ToldAt.keep {H H' : Hp} {p : Addr} {r : Told} (h : ToldAt H p r) (s : Same H H') : ToldAt H' p r := by
  cases r with
  | any => exact s _ _ h
  | no => exact s _ _ h
  | one D G => obtain ⟨q, h1, h2⟩ := h; exact ⟨q, s _ _ h1, s _ _ h2⟩
  | line D G e f c => obtain ⟨q, r, h1, h2, h3⟩ := h; exact ⟨q, r, s _ _ h1, s _ _ h2, s _ _ h3⟩
theorem ToldAt.upd {H : Hp} {L p : Addr} {zs : List V} {o : HO} {r : Told} (h : ToldAt H p r) (e : H L = some (.lst zs)) : ToldAt (L2.upd H L o) p r := by
  have n : ∀ {x : Addr} {ys : List V}, H x = some (.tup ys) → L2.upd H L o x = some (.tup ys) := fun {x ys} hx => (upd_ne (fun y => by rw [y, e] at hx; cases hx)).trans hx
  cases r with
  | any => exact n h
  | no => exact n h
  | one D G => obtain ⟨q, h1, h2⟩ := h; exact ⟨q, n h1, n h2⟩
  | line D G e f c => obtain ⟨q, r, h1, h2, h3⟩ := h; exact ⟨q, r, n h1, n h2, n h3⟩
theorem ToldAt.head {H : Hp} {p : Addr} {r : Told} (h : ToldAt H p r) : ∃ (s0 : Str) (its : List V), H p = some (.tup (.str s0 :: its)) ∧ (s0 = "one" → ∃ D G, r = .one D G) := by
  cases r with
  | any => exact ⟨_, _, h, fun e => absurd e (by decide)⟩
  | no => exact ⟨_, _, h, fun e => absurd e (by decide)⟩
  | one D G => obtain ⟨q, h1, h2⟩ := h; exact ⟨_, _, h1, fun _ => ⟨D, G, rfl⟩⟩
  | line D G e f c => obtain ⟨q, r, h1, h2, h3⟩ := h; exact ⟨_, _, h1, fun e => absurd e (by decide)⟩
def spLaw (K : PySem.W.Frag) : Sp := fun vs H Q _ => ∃ (b : Addr) (ns : List Int), vs = [.ref b] ∧ SqL K H b (ns.map V.int) ∧ ns.length ≤ 63 ∧ ∀ H', Q (.bl true) H'
section
variable {P : Program} {w : World} {K : PySem.W.Frag} {mg : Str → Option Value} {base : Heap} {a : Adr}
set_option maxHeartbeats 0 in
theorem ok_law (T : Txt K mg a) : FnOk P w K mg base CX0 9 a.a_law a.d_law ["_law_script"] (spLaw K) := by
  refine T.F_law.ok sc_law (fun vs H Q E h => ?_) (fun cdv A0 outer s H vs Q E hr h => ?_)
  · obtain ⟨b, ns, rfl, _⟩ := h
    rfl
  · obtain ⟨b, ns, rfl, hS, hn, k⟩ := h
    refine ⟨_, (pss_cons (ps_set (i := 1) sc_law.nd rfl (Or.inl rfl) (pe_call (ok__law_source T) (hr.mono (by decide)) (by rfl) T.g__law_source T.F__law_source.kp T.b__law_source .nil pass0 (pa_cons (pv 0) pa_nil)))
 (pss_cons (ps_for (by exact PassesOwn.never) rfl (pi_range1 (by rfl) T.n_range (pa_cons pe_int pa_nil)) (pg_name (i := 2) sc_law.nd rfl (Or.inl rfl))
 (pss_cons (ps_set (i := 3) sc_law.nd rfl (Or.inl rfl) (pe_call (ok__law_small_rows T) (hr.mono (by decide)) (by rfl) T.g__law_small_rows T.F__law_small_rows.kp T.b__law_small_rows .nil pass0 (pa_cons (pv 1) pa_nil)))
 (pss_cons (ps_set (i := 4) sc_law.nd rfl (Or.inl rfl) (pe_call (ok__law_due T) (hr.mono (by decide)) (by rfl) T.g__law_due T.F__law_due.kp T.b__law_due .nil pass0 (pa_cons (pv 3) pa_nil)))
 (pss_cons (ps_set (i := 5) sc_law.nd rfl (Or.inl rfl) (pe_callTy cr_list (by rfl) T.n_list (by decide +kernel) (pa_cons (pv 3) pa_nil)))
 (pss_cons (ps_if (PW.pt (pw_or (pt_not (pt_val (pe_call (ok__law_same T) (hr.mono (by decide)) (by rfl) T.g__law_same T.F__law_same.kp T.b__law_same .nil pass0 (pa_cons (pe_call (ok_told_back T) (hr.mono (by decide)) (by rfl) T.g_told_back T.F_told_back.kp T.b_told_back .nil pass0 (pa_cons (pv 5) pa_nil)) (pa_cons (pv 4) pa_nil))))) (pw_or1 (pt_cmpR (op_neD hr.units) (pv 5) (pv 3) (nomark _))))) (pss_one (ps_ret pe_bl))
 pss_nil)
 (pss_cons (ps_if (pt_not (pt_val (pe_call (ok__law_same T) (hr.mono (by decide)) (by rfl) T.g__law_same T.F__law_same.kp T.b__law_same .nil pass0 (pa_cons (pe_call (ok_told_back T) (hr.mono (by decide)) (by rfl) T.g_told_back T.F_told_back.kp T.b_told_back .nil pass0 (pa_cons (pe_callTy cr_tup (by rfl) T.n_tuple (by decide +kernel) (pa_cons (pe_op op_cat (pv 3) (pv 3)) pa_nil)) pa_nil)) (pa_cons (pv 4) pa_nil))))) (pss_one (ps_ret pe_bl))
 pss_nil)
 (pss_cons (ps_if (PW.pt (pw_and (pt_cmpR op_eq (pe_ix ix_tup (pv 4) pe_int (fun _ _ => rfl)) pe_str (nomark _)) (pw_and1 (pt_cmpR op_notBl (pe_call (ok_explains T) (hr.mono (by decide)) (by rfl) T.g_explains T.F_explains.kp T.b_explains .nil pass0 (pa_cons (pv 3) (pa_cons (pe_ix ix_tup (pe_ix ix_tup (pv 4) pe_int (fun _ _ => rfl)) pe_int (fun _ _ => rfl)) (pa_cons (pe_ix ix_tup (pe_ix ix_tup (pv 4) pe_int (fun _ _ => rfl)) pe_int (fun _ _ => rfl)) pa_nil)))) pe_bl (nomark _))))) (pss_one (ps_ret pe_bl))
 pss_nil)
 (pss_cons (ps_expr (pe_bm PySem.F.plainAttrs_list PySem.F.slot_list_append PySem.F.type_list_append mt_append (pv 5) (pa_cons (pe_tup (pa_cons (pe_tup (pa_cons pe_int pa_nil)) (pa_cons pe_int pa_nil))) pa_nil)))
 (pss_one (ps_if (PW.pt (pw_or (pt_not (pt_val (pe_call (ok__law_same T) (hr.mono (by decide)) (by rfl) T.g__law_same T.F__law_same.kp T.b__law_same .nil pass0 (pa_cons (pe_call (ok_told_back T) (hr.mono (by decide)) (by rfl) T.g_told_back T.F_told_back.kp T.b_told_back .nil pass0 (pa_cons (pv 5) pa_nil)) (pa_cons (pe_tup (pa_cons pe_str pa_nil)) pa_nil))))) (pw_or1 (pt_not (pt_val (pe_call (ok__law_same T) (hr.mono (by decide)) (by rfl) T.g__law_same T.F__law_same.kp T.b__law_same .nil pass0 (pa_cons (pe_call (ok_told_back T) (hr.mono (by decide)) (by rfl) T.g_told_back T.F_told_back.kp T.b_told_back .nil pass0 (pa_cons (pv 3) pa_nil)) (pa_cons (pv 4) pa_nil)))))))) (pss_one (ps_ret pe_bl))
 pss_nil))))))))))
 (pss_one (ps_ret pe_bl)))), ?_⟩
    repeat walk_at "rd"
    refine ⟨b, ns, rfl, hS, hn, fun p q H1 hs1 np nq s1 => ?_⟩
    repeat walk_at "rd"
    refine ⟨by decide, by decide, for_range (lo := 0) (n := 3) (fun i σ H' => ∃ v2 v3 v4 v5 : Option V, σ = [some (.ref b), some (.ref p), v2, v3, v4, v5] ∧ SrcAt H' p q) ⟨_, _, _, _, rfl, hs1⟩ ?_ ?_⟩
    · clear hs1 np nq s1 hS
      rintro i σ H2 hi3 ⟨v2, v3, v4, v5, rfl, hs2⟩
      repeat walk_at "rd"
      refine ⟨p, q, rfl, hs2, fun L xs rs H3 hnew hlen eL hR hs3 b3 => ?_⟩
      have hok : ∀ r, r ∈ rs → RowOk r := fun r hr => (hnew r hr).ok
      have hi : LinesIn (rs.map lineOf) := fun l hl => by
        obtain ⟨r, hr, rfl⟩ := List.mem_map.mp hl
        exact (hok r hr).line
      have ht : ∀ l, l ∈ rs.map lineOf → l.2.2 ≤ 100 := fun l hl => by
        obtain ⟨r, hr, rfl⟩ := List.mem_map.mp hl
        exact (hnew r hr).t9
      repeat walk_at "rd"
      refine ⟨L, xs, rs, rfl, eL, hR, hnew, by omega, fun d r H4 hd s4 ed => ?_⟩
      have eL := s4 _ _ eL
      have hR := hR.keep s4
      have hs4 := hs3.keep s4
      repeat walk_at "rd"
      refine r_listL eL (fun G H5 nG s5 eG => ?_)
      have nGp := hs4.ne nG
      have nGq := hs4.neq nG
      have nGL : G ≠ L := (ne_of_none eL nG).symm
      have eL := s5 _ _ eL
      have hR := hR.keep s5
      have hs5 := hs4.keep s5
      have ed := ed.keep s5
      clear s4 s5 hs2 hs3 hs4 b3
      repeat first | walk_at "rd" | walk_at "rdi"
      refine ⟨G, xs, rs, rfl, .inl eG, hR, hok, by omega, fun z r1 H6 hz s6 ez => ?_⟩
      obtain rfl := told_unique hi hd hz
      have eG := s6 _ _ eG
      have eL := s6 _ _ eL
      have hR := hR.keep s6
      have hs6 := hs5.keep s6
      have ed := ed.keep s6
      clear s6 hs5
      repeat first | walk_at "rd" | walk_at "rdi"
      refine ⟨_, _, rfl, told_sam ez ed, ?_⟩
      repeat first | walk_at "rd" | walk_at "rdi"
      refine r_neRows eG eL hR ?_
      clear ez z hz
      repeat first | walk_at "rd" | walk_at "rdi"
      refine r_cat eL eL (by have := hR.1; omega) (fun q5 H7 n7 s7 e7 => ?_)
      have eG := s7 _ _ eG
      have eL := s7 _ _ eL
      have hR := hR.keep s7
      have hs7 := hs6.keep s7
      have ed := ed.keep s7
      clear s7 hs6
      repeat first | walk_at "rd" | walk_at "rdi"
      refine r_tupL e7 (fun y H8 n8 s8 ey => ?_)
      have eG := s8 _ _ eG
      have eL := s8 _ _ eL
      have hR := hR.keep s8
      have hs8 := hs7.keep s8
      have ed := ed.keep s8
      clear s8 hs7 e7
      repeat first | walk_at "rd" | walk_at "rdi"
      refine ⟨y, xs ++ xs, rs ++ rs, rfl, .inr ey, hR.app hR, fun r hr => hok r (by rw [List.mem_append, or_self] at hr; exact hr), by rw [List.length_append]; omega, fun z r1 H9 hz s9 ez => ?_⟩
      rw [List.map_append] at hz
      obtain rfl := told_unique (fun l hl => hi l (mem_twice.mp hl)) (told_twice hd) hz
      have eG := s9 _ _ eG
      have eL := s9 _ _ eL
      have hR := hR.keep s9
      have hs9 := hs8.keep s9
      have ed := ed.keep s9
      clear s9 hs8 ey
      repeat first | walk_at "rd" | walk_at "rdi"
      refine ⟨_, _, rfl, told_sam ez ed, ?_⟩
      clear ez z hz
      repeat walk_at "rd"
      with_reducible refine seq_with (fun σ H' => σ = [some (.ref b), some (.ref p), some (.int (0 + (i : Nat))), some (.ref L), some (.ref d), some (.ref G)] ∧ H' G = some (.lst xs) ∧ H' L = some (.lst xs) ∧ RowsAt H' xs rs ∧ SrcAt H' p q ∧ ToldAt H' d r ∧ G ≠ p ∧ G ≠ q ∧ G ≠ L) ?_ (fun rest => ?_)
      · clear eG eL hR hs9 ed
        rintro σ H' ⟨rfl, eG, eL, hR, hs9, ed, _⟩
        repeat walk_at "rd"
        refine ⟨.inl ⟨rfl, _, SqL.of eG⟩, ?_⟩
        repeat walk_at "rd"
        refine new_at (Nat.le_of_ble_eq_true rfl) (fun u1 H10 n10 s10 e10 => ?_)
        repeat walk_at "rd"
        refine new_at (Nat.le_of_ble_eq_true rfl) (fun u2 H11 n11 s11 e11 => ?_)
        have s12 := s10.trans s11
        have eG := s12 _ _ eG
        repeat walk_at "rd"
        refine r_app eG (small1000 (by rw [hR.1]; omega)) ?_
        have hR' := ((hR.keep s12).snoc (r := ([], 1)) ⟨u2, u1, rfl, e11, s11 _ _ e10⟩).upd (o := .lst (xs ++ [.ref u2])) eG
        have hR := (hR.keep s12).upd (o := .lst (xs ++ [.ref u2])) eG
        have eL := (upd_ne (o := .lst (xs ++ [.ref u2])) nGL.symm).trans (s12 _ _ eL)
        have hs12 := (hs9.keep s12).upd (o := .lst (xs ++ [.ref u2])) nGp nGq
        have ed := (ed.keep s12).upd (o := .lst (xs ++ [.ref u2])) eG
        have eG2 : L2.upd H11 G (.lst (xs ++ [.ref u2])) G = some (.lst (xs ++ [.ref u2])) := upd_same
        generalize L2.upd H11 G (.lst (xs ++ [.ref u2])) = H12 at hR' hR eL hs12 ed eG2 ⊢
        clear e10 e11 s10 s11 s12 eG hs9 n10 n11
        have hok' : ∀ r, r ∈ rs ++ [(([], 1) : Row)] → RowOk r := fun r hr => by
          rcases List.mem_append.mp hr with hr | hr
          · exact hok r hr
          · rw [List.mem_singleton] at hr
            subst hr
            exact ⟨Nat.zero_le _, (fun z hz => nomatch hz), by decide, by decide, by decide⟩
        have hi' : LinesIn ((rs ++ [(([], 1) : Row)]).map lineOf) := fun l hl => by
          obtain ⟨r, hr, rfl⟩ := List.mem_map.mp hl
          exact (hok' r hr).line
        have hm' : lineOf ([], 1) ∈ (rs ++ [(([], 1) : Row)]).map lineOf := List.mem_map.mpr ⟨_, List.mem_append_right _ (List.mem_singleton.mpr rfl), rfl⟩
        have hno : ToldOk ((rs ++ [(([], 1) : Row)]).map lineOf) .no := ⟨No.zero hm' rfl rfl (by decide), _, hm', by decide⟩
        repeat first | walk_at "rd" | walk_at "rdi"
        refine ⟨G, _, _, rfl, .inl eG2, hR', hok', by rw [List.length_append, List.length_singleton]; omega, fun z r1 H13 hz s13 ez => ?_⟩
        obtain rfl := told_unique hi' hno hz
        have eL := s13 _ _ eL
        have hR := hR.keep s13
        have hs13 := hs12.keep s13
        have ed := ed.keep s13
        clear s13 hs12 eG2 hR'
        repeat first | walk_at "rd" | walk_at "rdi"
        refine new_at (Nat.le_of_ble_eq_true rfl) (fun u3 H14 n14 s14 e14 => ?_)
        have eL := s14 _ _ eL
        have hR := hR.keep s14
        have hs14 := hs13.keep s14
        have ed := ed.keep s14
        repeat first | walk_at "rd" | walk_at "rdi"
        refine ⟨_, _, rfl, told_sam (r := .no) (ez.keep s14) e14, ?_⟩
        repeat first | walk_at "rd" | walk_at "rdi"
        refine ⟨L, xs, rs, rfl, .inl eL, hR, hok, by omega, fun z r1 H15 hz s15 ez => ?_⟩
        obtain rfl := told_unique hi hd hz
        repeat first | walk_at "rd" | walk_at "rdi"
        refine ⟨_, _, rfl, told_sam ez (ed.keep s15), ?_⟩
        repeat first | exact ⟨_, _, _, _, rfl, (hs14.keep s15)⟩ | walk_at "rd" | walk_at "rdi"
      · have stay := rest _ _ ⟨rfl, eG, eL, hR, hs9, ed, nGp, nGq, nGL⟩
        obtain ⟨s0, its, e0, h0⟩ := ed.head
        repeat first | walk_at "rd" | walk_at "rdi"
        refine r_ixT e0 (v := .str s0) (atI_nat (j := 0) rfl) ?_
        repeat first | walk_at "rd" | walk_at "rdi"
        by_cases hc : s0 = "one"
        · obtain ⟨D, g, rfl⟩ := h0 hc
          subst hc
          obtain ⟨u, e1, e2⟩ := ed
          have hone : OneOk (rs.map lineOf) D g := hd
          have hbx := one_box hi ht hone
          have hd1 := hone.d1
          have hg1 := hone.g1
          refine r_eqStr true (decide_eq_true rfl) ?_
          repeat first | walk_at "rd" | walk_at "rdi"
          refine ⟨L, xs, rs, D, g, rfl, .inl eL, hR, hok, by omega, by omega, by omega, fun b' H10 hb s10 => ?_⟩
          obtain rfl : b' = true := hb.mpr hone.sol
          have go := rest _ _ ⟨rfl, s10 _ _ eG, s10 _ _ eL, hR.keep s10, hs9.keep s10, ⟨u, s10 _ _ e1, s10 _ _ e2⟩, nGp, nGq, nGL⟩
          repeat first | exact go | walk_at "rd" | walk_at "rdi"
        · refine r_eqStr false (decide_eq_false fun z => hc (V.str.inj z)) ?_
          repeat first | exact stay | walk_at "rd" | walk_at "rdi"
    · rintro σ H2 ⟨v2, v3, v4, v5, rfl, hs2⟩
      repeat first | exact k _ | walk_at "rd" | walk_at "rdi"
end

theorem all_mk {P : Program} {w : World} {K : PySem.W.Frag} {h : Heap} {mg : Str → Option Value} {fa : Addr} (X : K.In h) (G : h.Ns mainGlobals mg) (hfa : mg "law" = some (.ref fa))
    {oc_is_integer : Value} {od_is_integer : Option Addr} {an_is_integer : Option Addr} {sl_is_integer : Array (Option Value)} {kV_is_integer : Value} {dc_is_integer : Value} {pm_is_integer : Value} {cd_is_integer : Value} {ct_is_integer : Value} {f_is_integer : Addr} {oc_is_between : Value} {od_is_between : Option Addr} {an_is_between : Option Addr} {sl_is_between : Array (Option Value)} {kV_is_between : Value} {dc_is_between : Value} {pm_is_between : Value} {cd_is_between : Value} {ct_is_between : Value} {f_is_between : Addr} {oc_wrong_in_name : Value} {od_wrong_in_name : Option Addr} {an_wrong_in_name : Option Addr} {sl_wrong_in_name : Array (Option Value)} {kV_wrong_in_name : Value} {dc_wrong_in_name : Value} {pm_wrong_in_name : Value} {cd_wrong_in_name : Value} {ct_wrong_in_name : Value} {f_wrong_in_name : Addr} {oc_is_sighting : Value} {od_is_sighting : Option Addr} {an_is_sighting : Option Addr} {sl_is_sighting : Array (Option Value)} {kV_is_sighting : Value} {dc_is_sighting : Value} {pm_is_sighting : Value} {cd_is_sighting : Value} {ct_is_sighting : Value} {f_is_sighting : Addr} {oc_check_sightings : Value} {od_check_sightings : Option Addr} {an_check_sightings : Option Addr} {sl_check_sightings : Array (Option Value)} {kV_check_sightings : Value} {dc_check_sightings : Value} {pm_check_sightings : Value} {cd_check_sightings : Value} {ct_check_sightings : Value} {f_check_sightings : Addr} {oc_sums_of : Value} {od_sums_of : Option Addr} {an_sums_of : Option Addr} {sl_sums_of : Array (Option Value)} {kV_sums_of : Value} {dc_sums_of : Value} {pm_sums_of : Value} {cd_sums_of : Value} {ct_sums_of : Value} {f_sums_of : Addr} {oc_fits : Value} {od_fits : Option Addr} {an_fits : Option Addr} {sl_fits : Array (Option Value)} {kV_fits : Value} {dc_fits : Value} {pm_fits : Value} {cd_fits : Value} {ct_fits : Value} {f_fits : Addr} {oc_explains : Value} {od_explains : Option Addr} {an_explains : Option Addr} {sl_explains : Array (Option Value)} {kV_explains : Value} {dc_explains : Value} {pm_explains : Value} {cd_explains : Value} {ct_explains : Value} {f_explains : Addr} {oc_told_by_two : Value} {od_told_by_two : Option Addr} {an_told_by_two : Option Addr} {sl_told_by_two : Array (Option Value)} {kV_told_by_two : Value} {dc_told_by_two : Value} {pm_told_by_two : Value} {cd_told_by_two : Value} {ct_told_by_two : Value} {f_told_by_two : Addr} {oc_told_by_line : Value} {od_told_by_line : Option Addr} {an_told_by_line : Option Addr} {sl_told_by_line : Array (Option Value)} {kV_told_by_line : Value} {dc_told_by_line : Value} {pm_told_by_line : Value} {cd_told_by_line : Value} {ct_told_by_line : Value} {f_told_by_line : Addr} {oc_told_by_multiples : Value} {od_told_by_multiples : Option Addr} {an_told_by_multiples : Option Addr} {sl_told_by_multiples : Array (Option Value)} {kV_told_by_multiples : Value} {dc_told_by_multiples : Value} {pm_told_by_multiples : Value} {cd_told_by_multiples : Value} {ct_told_by_multiples : Value} {f_told_by_multiples : Addr} {oc_told_back : Value} {od_told_back : Option Addr} {an_told_back : Option Addr} {sl_told_back : Array (Option Value)} {kV_told_back : Value} {dc_told_back : Value} {pm_told_back : Value} {cd_told_back : Value} {ct_told_back : Value} {f_told_back : Addr} {oc__law_source : Value} {od__law_source : Option Addr} {an__law_source : Option Addr} {sl__law_source : Array (Option Value)} {kV__law_source : Value} {dc__law_source : Value} {pm__law_source : Value} {cd__law_source : Value} {ct__law_source : Value} {f__law_source : Addr} {oc__law_draw : Value} {od__law_draw : Option Addr} {an__law_draw : Option Addr} {sl__law_draw : Array (Option Value)} {kV__law_draw : Value} {dc__law_draw : Value} {pm__law_draw : Value} {cd__law_draw : Value} {ct__law_draw : Value} {f__law_draw : Addr} {oc__law_integer : Value} {od__law_integer : Option Addr} {an__law_integer : Option Addr} {sl__law_integer : Array (Option Value)} {kV__law_integer : Value} {dc__law_integer : Value} {pm__law_integer : Value} {cd__law_integer : Value} {ct__law_integer : Value} {f__law_integer : Addr} {oc__law_same : Value} {od__law_same : Option Addr} {an__law_same : Option Addr} {sl__law_same : Array (Option Value)} {kV__law_same : Value} {dc__law_same : Value} {pm__law_same : Value} {cd__law_same : Value} {ct__law_same : Value} {f__law_same : Addr} {oc__law_lines : Value} {od__law_lines : Option Addr} {an__law_lines : Option Addr} {sl__law_lines : Array (Option Value)} {kV__law_lines : Value} {dc__law_lines : Value} {pm__law_lines : Value} {cd__law_lines : Value} {ct__law_lines : Value} {f__law_lines : Addr} {oc__law_solves : Value} {od__law_solves : Option Addr} {an__law_solves : Option Addr} {sl__law_solves : Array (Option Value)} {kV__law_solves : Value} {dc__law_solves : Value} {pm__law_solves : Value} {cd__law_solves : Value} {ct__law_solves : Value} {f__law_solves : Addr} {oc__law_small_rows : Value} {od__law_small_rows : Option Addr} {an__law_small_rows : Option Addr} {sl__law_small_rows : Array (Option Value)} {kV__law_small_rows : Value} {dc__law_small_rows : Value} {pm__law_small_rows : Value} {cd__law_small_rows : Value} {ct__law_small_rows : Value} {f__law_small_rows : Addr} {oc__law_due : Value} {od__law_due : Option Addr} {an__law_due : Option Addr} {sl__law_due : Array (Option Value)} {kV__law_due : Value} {dc__law_due : Value} {pm__law_due : Value} {cd__law_due : Value} {ct__law_due : Value} {f__law_due : Addr} {oc_law : Value} {od_law : Option Addr} {an_law : Option Addr} {sl_law : Array (Option Value)} {kV_law : Value} {dc_law : Value} {pm_law : Value} {cd_law : Value} {ct_law : Value} {f_law : Addr} {t_LONGEST_NAME : Tok} {t_GREATEST_ITEM : Tok} {t_MOST_SIGHTINGS : Tok} {t_LATEST_SIGHTING : Tok} {t_GREATEST_TOLD : Tok}
    (H_a_is_integer : PySem.W.nsIn K mainGlobals "is_integer" = some (some (.ref f_is_integer)))
    (H_l_is_integer : K.lookup f_is_integer = some ⟨oc_is_integer, od_is_integer, .func (PySem.W.fnOf "is_integer" "is_integer" (defArgs s_is_integer) (defBody s_is_integer) (defScope s_is_integer) .none kV_is_integer dc_is_integer pm_is_integer an_is_integer cd_is_integer ct_is_integer), sl_is_integer⟩)
    (H_c_is_integer : PySem.W.codeIn K cd_is_integer "is_integer" = true)
    (H_k_is_integer : PySem.W.keepIn K (.ref f_is_integer) = true)
    (H_a_is_between : PySem.W.nsIn K mainGlobals "is_between" = some (some (.ref f_is_between)))
    (H_l_is_between : K.lookup f_is_between = some ⟨oc_is_between, od_is_between, .func (PySem.W.fnOf "is_between" "is_between" (defArgs s_is_between) (defBody s_is_between) (defScope s_is_between) .none kV_is_between dc_is_between pm_is_between an_is_between cd_is_between ct_is_between), sl_is_between⟩)
    (H_c_is_between : PySem.W.codeIn K cd_is_between "is_between" = true)
    (H_k_is_between : PySem.W.keepIn K (.ref f_is_between) = true)
    (H_a_wrong_in_name : PySem.W.nsIn K mainGlobals "wrong_in_name" = some (some (.ref f_wrong_in_name)))
    (H_l_wrong_in_name : K.lookup f_wrong_in_name = some ⟨oc_wrong_in_name, od_wrong_in_name, .func (PySem.W.fnOf "wrong_in_name" "wrong_in_name" (defArgs s_wrong_in_name) (defBody s_wrong_in_name) (defScope s_wrong_in_name) .none kV_wrong_in_name dc_wrong_in_name pm_wrong_in_name an_wrong_in_name cd_wrong_in_name ct_wrong_in_name), sl_wrong_in_name⟩)
    (H_c_wrong_in_name : PySem.W.codeIn K cd_wrong_in_name "wrong_in_name" = true)
    (H_k_wrong_in_name : PySem.W.keepIn K (.ref f_wrong_in_name) = true)
    (H_a_is_sighting : PySem.W.nsIn K mainGlobals "is_sighting" = some (some (.ref f_is_sighting)))
    (H_l_is_sighting : K.lookup f_is_sighting = some ⟨oc_is_sighting, od_is_sighting, .func (PySem.W.fnOf "is_sighting" "is_sighting" (defArgs s_is_sighting) (defBody s_is_sighting) (defScope s_is_sighting) .none kV_is_sighting dc_is_sighting pm_is_sighting an_is_sighting cd_is_sighting ct_is_sighting), sl_is_sighting⟩)
    (H_c_is_sighting : PySem.W.codeIn K cd_is_sighting "is_sighting" = true)
    (H_k_is_sighting : PySem.W.keepIn K (.ref f_is_sighting) = true)
    (H_a_check_sightings : PySem.W.nsIn K mainGlobals "check_sightings" = some (some (.ref f_check_sightings)))
    (H_l_check_sightings : K.lookup f_check_sightings = some ⟨oc_check_sightings, od_check_sightings, .func (PySem.W.fnOf "check_sightings" "check_sightings" (defArgs s_check_sightings) (defBody s_check_sightings) (defScope s_check_sightings) .none kV_check_sightings dc_check_sightings pm_check_sightings an_check_sightings cd_check_sightings ct_check_sightings), sl_check_sightings⟩)
    (H_c_check_sightings : PySem.W.codeIn K cd_check_sightings "check_sightings" = true)
    (H_k_check_sightings : PySem.W.keepIn K (.ref f_check_sightings) = true)
    (H_a_sums_of : PySem.W.nsIn K mainGlobals "sums_of" = some (some (.ref f_sums_of)))
    (H_l_sums_of : K.lookup f_sums_of = some ⟨oc_sums_of, od_sums_of, .func (PySem.W.fnOf "sums_of" "sums_of" (defArgs s_sums_of) (defBody s_sums_of) (defScope s_sums_of) .none kV_sums_of dc_sums_of pm_sums_of an_sums_of cd_sums_of ct_sums_of), sl_sums_of⟩)
    (H_c_sums_of : PySem.W.codeIn K cd_sums_of "sums_of" = true)
    (H_k_sums_of : PySem.W.keepIn K (.ref f_sums_of) = true)
    (H_a_fits : PySem.W.nsIn K mainGlobals "fits" = some (some (.ref f_fits)))
    (H_l_fits : K.lookup f_fits = some ⟨oc_fits, od_fits, .func (PySem.W.fnOf "fits" "fits" (defArgs s_fits) (defBody s_fits) (defScope s_fits) .none kV_fits dc_fits pm_fits an_fits cd_fits ct_fits), sl_fits⟩)
    (H_c_fits : PySem.W.codeIn K cd_fits "fits" = true)
    (H_k_fits : PySem.W.keepIn K (.ref f_fits) = true)
    (H_a_explains : PySem.W.nsIn K mainGlobals "explains" = some (some (.ref f_explains)))
    (H_l_explains : K.lookup f_explains = some ⟨oc_explains, od_explains, .func (PySem.W.fnOf "explains" "explains" (defArgs s_explains) (defBody s_explains) (defScope s_explains) .none kV_explains dc_explains pm_explains an_explains cd_explains ct_explains), sl_explains⟩)
    (H_c_explains : PySem.W.codeIn K cd_explains "explains" = true)
    (H_k_explains : PySem.W.keepIn K (.ref f_explains) = true)
    (H_a_told_by_two : PySem.W.nsIn K mainGlobals "told_by_two" = some (some (.ref f_told_by_two)))
    (H_l_told_by_two : K.lookup f_told_by_two = some ⟨oc_told_by_two, od_told_by_two, .func (PySem.W.fnOf "told_by_two" "told_by_two" (defArgs s_told_by_two) (defBody s_told_by_two) (defScope s_told_by_two) .none kV_told_by_two dc_told_by_two pm_told_by_two an_told_by_two cd_told_by_two ct_told_by_two), sl_told_by_two⟩)
    (H_c_told_by_two : PySem.W.codeIn K cd_told_by_two "told_by_two" = true)
    (H_k_told_by_two : PySem.W.keepIn K (.ref f_told_by_two) = true)
    (H_a_told_by_line : PySem.W.nsIn K mainGlobals "told_by_line" = some (some (.ref f_told_by_line)))
    (H_l_told_by_line : K.lookup f_told_by_line = some ⟨oc_told_by_line, od_told_by_line, .func (PySem.W.fnOf "told_by_line" "told_by_line" (defArgs s_told_by_line) (defBody s_told_by_line) (defScope s_told_by_line) .none kV_told_by_line dc_told_by_line pm_told_by_line an_told_by_line cd_told_by_line ct_told_by_line), sl_told_by_line⟩)
    (H_c_told_by_line : PySem.W.codeIn K cd_told_by_line "told_by_line" = true)
    (H_k_told_by_line : PySem.W.keepIn K (.ref f_told_by_line) = true)
    (H_a_told_by_multiples : PySem.W.nsIn K mainGlobals "told_by_multiples" = some (some (.ref f_told_by_multiples)))
    (H_l_told_by_multiples : K.lookup f_told_by_multiples = some ⟨oc_told_by_multiples, od_told_by_multiples, .func (PySem.W.fnOf "told_by_multiples" "told_by_multiples" (defArgs s_told_by_multiples) (defBody s_told_by_multiples) (defScope s_told_by_multiples) .none kV_told_by_multiples dc_told_by_multiples pm_told_by_multiples an_told_by_multiples cd_told_by_multiples ct_told_by_multiples), sl_told_by_multiples⟩)
    (H_c_told_by_multiples : PySem.W.codeIn K cd_told_by_multiples "told_by_multiples" = true)
    (H_k_told_by_multiples : PySem.W.keepIn K (.ref f_told_by_multiples) = true)
    (H_a_told_back : PySem.W.nsIn K mainGlobals "told_back" = some (some (.ref f_told_back)))
    (H_l_told_back : K.lookup f_told_back = some ⟨oc_told_back, od_told_back, .func (PySem.W.fnOf "told_back" "told_back" (defArgs s_told_back) (defBody s_told_back) (defScope s_told_back) .none kV_told_back dc_told_back pm_told_back an_told_back cd_told_back ct_told_back), sl_told_back⟩)
    (H_c_told_back : PySem.W.codeIn K cd_told_back "told_back" = true)
    (H_k_told_back : PySem.W.keepIn K (.ref f_told_back) = true)
    (H_a__law_source : PySem.W.nsIn K mainGlobals "_law_source" = some (some (.ref f__law_source)))
    (H_l__law_source : K.lookup f__law_source = some ⟨oc__law_source, od__law_source, .func (PySem.W.fnOf "_law_source" "_law_source" (defArgs s__law_source) (defBody s__law_source) (defScope s__law_source) .none kV__law_source dc__law_source pm__law_source an__law_source cd__law_source ct__law_source), sl__law_source⟩)
    (H_c__law_source : PySem.W.codeIn K cd__law_source "_law_source" = true)
    (H_k__law_source : PySem.W.keepIn K (.ref f__law_source) = true)
    (H_a__law_draw : PySem.W.nsIn K mainGlobals "_law_draw" = some (some (.ref f__law_draw)))
    (H_l__law_draw : K.lookup f__law_draw = some ⟨oc__law_draw, od__law_draw, .func (PySem.W.fnOf "_law_draw" "_law_draw" (defArgs s__law_draw) (defBody s__law_draw) (defScope s__law_draw) .none kV__law_draw dc__law_draw pm__law_draw an__law_draw cd__law_draw ct__law_draw), sl__law_draw⟩)
    (H_c__law_draw : PySem.W.codeIn K cd__law_draw "_law_draw" = true)
    (H_k__law_draw : PySem.W.keepIn K (.ref f__law_draw) = true)
    (H_a__law_integer : PySem.W.nsIn K mainGlobals "_law_integer" = some (some (.ref f__law_integer)))
    (H_l__law_integer : K.lookup f__law_integer = some ⟨oc__law_integer, od__law_integer, .func (PySem.W.fnOf "_law_integer" "_law_integer" (defArgs s__law_integer) (defBody s__law_integer) (defScope s__law_integer) .none kV__law_integer dc__law_integer pm__law_integer an__law_integer cd__law_integer ct__law_integer), sl__law_integer⟩)
    (H_c__law_integer : PySem.W.codeIn K cd__law_integer "_law_integer" = true)
    (H_k__law_integer : PySem.W.keepIn K (.ref f__law_integer) = true)
    (H_a__law_same : PySem.W.nsIn K mainGlobals "_law_same" = some (some (.ref f__law_same)))
    (H_l__law_same : K.lookup f__law_same = some ⟨oc__law_same, od__law_same, .func (PySem.W.fnOf "_law_same" "_law_same" (defArgs s__law_same) (defBody s__law_same) (defScope s__law_same) .none kV__law_same dc__law_same pm__law_same an__law_same cd__law_same ct__law_same), sl__law_same⟩)
    (H_c__law_same : PySem.W.codeIn K cd__law_same "_law_same" = true)
    (H_k__law_same : PySem.W.keepIn K (.ref f__law_same) = true)
    (H_a__law_lines : PySem.W.nsIn K mainGlobals "_law_lines" = some (some (.ref f__law_lines)))
    (H_l__law_lines : K.lookup f__law_lines = some ⟨oc__law_lines, od__law_lines, .func (PySem.W.fnOf "_law_lines" "_law_lines" (defArgs s__law_lines) (defBody s__law_lines) (defScope s__law_lines) .none kV__law_lines dc__law_lines pm__law_lines an__law_lines cd__law_lines ct__law_lines), sl__law_lines⟩)
    (H_c__law_lines : PySem.W.codeIn K cd__law_lines "_law_lines" = true)
    (H_k__law_lines : PySem.W.keepIn K (.ref f__law_lines) = true)
    (H_a__law_solves : PySem.W.nsIn K mainGlobals "_law_solves" = some (some (.ref f__law_solves)))
    (H_l__law_solves : K.lookup f__law_solves = some ⟨oc__law_solves, od__law_solves, .func (PySem.W.fnOf "_law_solves" "_law_solves" (defArgs s__law_solves) (defBody s__law_solves) (defScope s__law_solves) .none kV__law_solves dc__law_solves pm__law_solves an__law_solves cd__law_solves ct__law_solves), sl__law_solves⟩)
    (H_c__law_solves : PySem.W.codeIn K cd__law_solves "_law_solves" = true)
    (H_k__law_solves : PySem.W.keepIn K (.ref f__law_solves) = true)
    (H_a__law_small_rows : PySem.W.nsIn K mainGlobals "_law_small_rows" = some (some (.ref f__law_small_rows)))
    (H_l__law_small_rows : K.lookup f__law_small_rows = some ⟨oc__law_small_rows, od__law_small_rows, .func (PySem.W.fnOf "_law_small_rows" "_law_small_rows" (defArgs s__law_small_rows) (defBody s__law_small_rows) (defScope s__law_small_rows) .none kV__law_small_rows dc__law_small_rows pm__law_small_rows an__law_small_rows cd__law_small_rows ct__law_small_rows), sl__law_small_rows⟩)
    (H_c__law_small_rows : PySem.W.codeIn K cd__law_small_rows "_law_small_rows" = true)
    (H_k__law_small_rows : PySem.W.keepIn K (.ref f__law_small_rows) = true)
    (H_a__law_due : PySem.W.nsIn K mainGlobals "_law_due" = some (some (.ref f__law_due)))
    (H_l__law_due : K.lookup f__law_due = some ⟨oc__law_due, od__law_due, .func (PySem.W.fnOf "_law_due" "_law_due" (defArgs s__law_due) (defBody s__law_due) (defScope s__law_due) .none kV__law_due dc__law_due pm__law_due an__law_due cd__law_due ct__law_due), sl__law_due⟩)
    (H_c__law_due : PySem.W.codeIn K cd__law_due "_law_due" = true)
    (H_k__law_due : PySem.W.keepIn K (.ref f__law_due) = true)
    (H_a_law : PySem.W.nsIn K mainGlobals "law" = some (some (.ref f_law)))
    (H_l_law : K.lookup f_law = some ⟨oc_law, od_law, .func (PySem.W.fnOf "law" "law" (defArgs s_law) (defBody s_law) (defScope s_law) .none kV_law dc_law pm_law an_law cd_law ct_law), sl_law⟩)
    (H_c_law : PySem.W.codeIn K cd_law "law" = true)
    (H_k_law : PySem.W.keepIn K (.ref f_law) = true)
    (H_n_all : PySem.W.nsIn K mainGlobals "all" = some none)
    (H_n_any : PySem.W.nsIn K mainGlobals "any" = some none)
    (H_n_bool : PySem.W.nsIn K mainGlobals "bool" = some none)
    (H_n_enumerate : PySem.W.nsIn K mainGlobals "enumerate" = some none)
    (H_n_int : PySem.W.nsIn K mainGlobals "int" = some none)
    (H_n_isinstance : PySem.W.nsIn K mainGlobals "isinstance" = some none)
    (H_n_len : PySem.W.nsIn K mainGlobals "len" = some none)
    (H_n_list : PySem.W.nsIn K mainGlobals "list" = some none)
    (H_n_max : PySem.W.nsIn K mainGlobals "max" = some none)
    (H_n_range : PySem.W.nsIn K mainGlobals "range" = some none)
    (H_n_str : PySem.W.nsIn K mainGlobals "str" = some none)
    (H_n_sum : PySem.W.nsIn K mainGlobals "sum" = some none)
    (H_n_tuple : PySem.W.nsIn K mainGlobals "tuple" = some none)
    (H_x_LONGEST_NAME : PySem.W.nsIn K mainGlobals "LONGEST_NAME" = some (some (.int 200 t_LONGEST_NAME)))
    (H_x_GREATEST_ITEM : PySem.W.nsIn K mainGlobals "GREATEST_ITEM" = some (some (.int 1000000000000000 t_GREATEST_ITEM)))
    (H_x_MOST_SIGHTINGS : PySem.W.nsIn K mainGlobals "MOST_SIGHTINGS" = some (some (.int 60 t_MOST_SIGHTINGS)))
    (H_x_LATEST_SIGHTING : PySem.W.nsIn K mainGlobals "LATEST_SIGHTING" = some (some (.int 100000000000000000000 t_LATEST_SIGHTING)))
    (H_x_GREATEST_TOLD : PySem.W.nsIn K mainGlobals "GREATEST_TOLD" = some (some (.int 100000000000000000000 t_GREATEST_TOLD)))
    (H_gcd : PySem.W.nsIn K mainGlobals "gcd" = some (some (.builtin "math.gcd")))
    : ∃ fd : FuncData, (∀ (s : Shared) (v : Value), BindsTo s fd ⟨[v], []⟩ [("_law_script", v)]) ∧ ∀ base : Heap, K.In base → base.Ns mainGlobals mg → FnOk P w K mg base CX0 9 fa fd ["_law_script"] (spLaw K) := by
  have e := hfa.symm.trans (PySem.W.mg_of X G H_a_law)
  cases e
  let a : Adr := { a_is_integer := f_is_integer, d_is_integer := PySem.W.fnOf "is_integer" "is_integer" (defArgs s_is_integer) (defBody s_is_integer) (defScope s_is_integer) .none kV_is_integer dc_is_integer pm_is_integer an_is_integer cd_is_integer ct_is_integer, a_is_between := f_is_between, d_is_between := PySem.W.fnOf "is_between" "is_between" (defArgs s_is_between) (defBody s_is_between) (defScope s_is_between) .none kV_is_between dc_is_between pm_is_between an_is_between cd_is_between ct_is_between, a_wrong_in_name := f_wrong_in_name, d_wrong_in_name := PySem.W.fnOf "wrong_in_name" "wrong_in_name" (defArgs s_wrong_in_name) (defBody s_wrong_in_name) (defScope s_wrong_in_name) .none kV_wrong_in_name dc_wrong_in_name pm_wrong_in_name an_wrong_in_name cd_wrong_in_name ct_wrong_in_name, a_is_sighting := f_is_sighting, d_is_sighting := PySem.W.fnOf "is_sighting" "is_sighting" (defArgs s_is_sighting) (defBody s_is_sighting) (defScope s_is_sighting) .none kV_is_sighting dc_is_sighting pm_is_sighting an_is_sighting cd_is_sighting ct_is_sighting, a_check_sightings := f_check_sightings, d_check_sightings := PySem.W.fnOf "check_sightings" "check_sightings" (defArgs s_check_sightings) (defBody s_check_sightings) (defScope s_check_sightings) .none kV_check_sightings dc_check_sightings pm_check_sightings an_check_sightings cd_check_sightings ct_check_sightings, a_sums_of := f_sums_of, d_sums_of := PySem.W.fnOf "sums_of" "sums_of" (defArgs s_sums_of) (defBody s_sums_of) (defScope s_sums_of) .none kV_sums_of dc_sums_of pm_sums_of an_sums_of cd_sums_of ct_sums_of, a_fits := f_fits, d_fits := PySem.W.fnOf "fits" "fits" (defArgs s_fits) (defBody s_fits) (defScope s_fits) .none kV_fits dc_fits pm_fits an_fits cd_fits ct_fits, a_explains := f_explains, d_explains := PySem.W.fnOf "explains" "explains" (defArgs s_explains) (defBody s_explains) (defScope s_explains) .none kV_explains dc_explains pm_explains an_explains cd_explains ct_explains, a_told_by_two := f_told_by_two, d_told_by_two := PySem.W.fnOf "told_by_two" "told_by_two" (defArgs s_told_by_two) (defBody s_told_by_two) (defScope s_told_by_two) .none kV_told_by_two dc_told_by_two pm_told_by_two an_told_by_two cd_told_by_two ct_told_by_two, a_told_by_line := f_told_by_line, d_told_by_line := PySem.W.fnOf "told_by_line" "told_by_line" (defArgs s_told_by_line) (defBody s_told_by_line) (defScope s_told_by_line) .none kV_told_by_line dc_told_by_line pm_told_by_line an_told_by_line cd_told_by_line ct_told_by_line, a_told_by_multiples := f_told_by_multiples, d_told_by_multiples := PySem.W.fnOf "told_by_multiples" "told_by_multiples" (defArgs s_told_by_multiples) (defBody s_told_by_multiples) (defScope s_told_by_multiples) .none kV_told_by_multiples dc_told_by_multiples pm_told_by_multiples an_told_by_multiples cd_told_by_multiples ct_told_by_multiples, a_told_back := f_told_back, d_told_back := PySem.W.fnOf "told_back" "told_back" (defArgs s_told_back) (defBody s_told_back) (defScope s_told_back) .none kV_told_back dc_told_back pm_told_back an_told_back cd_told_back ct_told_back, a__law_source := f__law_source, d__law_source := PySem.W.fnOf "_law_source" "_law_source" (defArgs s__law_source) (defBody s__law_source) (defScope s__law_source) .none kV__law_source dc__law_source pm__law_source an__law_source cd__law_source ct__law_source, a__law_draw := f__law_draw, d__law_draw := PySem.W.fnOf "_law_draw" "_law_draw" (defArgs s__law_draw) (defBody s__law_draw) (defScope s__law_draw) .none kV__law_draw dc__law_draw pm__law_draw an__law_draw cd__law_draw ct__law_draw, a__law_integer := f__law_integer, d__law_integer := PySem.W.fnOf "_law_integer" "_law_integer" (defArgs s__law_integer) (defBody s__law_integer) (defScope s__law_integer) .none kV__law_integer dc__law_integer pm__law_integer an__law_integer cd__law_integer ct__law_integer, a__law_same := f__law_same, d__law_same := PySem.W.fnOf "_law_same" "_law_same" (defArgs s__law_same) (defBody s__law_same) (defScope s__law_same) .none kV__law_same dc__law_same pm__law_same an__law_same cd__law_same ct__law_same, a__law_lines := f__law_lines, d__law_lines := PySem.W.fnOf "_law_lines" "_law_lines" (defArgs s__law_lines) (defBody s__law_lines) (defScope s__law_lines) .none kV__law_lines dc__law_lines pm__law_lines an__law_lines cd__law_lines ct__law_lines, a__law_solves := f__law_solves, d__law_solves := PySem.W.fnOf "_law_solves" "_law_solves" (defArgs s__law_solves) (defBody s__law_solves) (defScope s__law_solves) .none kV__law_solves dc__law_solves pm__law_solves an__law_solves cd__law_solves ct__law_solves, a__law_small_rows := f__law_small_rows, d__law_small_rows := PySem.W.fnOf "_law_small_rows" "_law_small_rows" (defArgs s__law_small_rows) (defBody s__law_small_rows) (defScope s__law_small_rows) .none kV__law_small_rows dc__law_small_rows pm__law_small_rows an__law_small_rows cd__law_small_rows ct__law_small_rows, a__law_due := f__law_due, d__law_due := PySem.W.fnOf "_law_due" "_law_due" (defArgs s__law_due) (defBody s__law_due) (defScope s__law_due) .none kV__law_due dc__law_due pm__law_due an__law_due cd__law_due ct__law_due, a_law := fa, d_law := PySem.W.fnOf "law" "law" (defArgs s_law) (defBody s_law) (defScope s_law) .none kV_law dc_law pm_law an_law cd_law ct_law }
  have F_is_integer := fun_mk (st := s_is_integer) H_l_is_integer H_c_is_integer H_k_is_integer
  have F_is_between := fun_mk (st := s_is_between) H_l_is_between H_c_is_between H_k_is_between
  have F_wrong_in_name := fun_mk (st := s_wrong_in_name) H_l_wrong_in_name H_c_wrong_in_name H_k_wrong_in_name
  have F_is_sighting := fun_mk (st := s_is_sighting) H_l_is_sighting H_c_is_sighting H_k_is_sighting
  have F_check_sightings := fun_mk (st := s_check_sightings) H_l_check_sightings H_c_check_sightings H_k_check_sightings
  have F_sums_of := fun_mk (st := s_sums_of) H_l_sums_of H_c_sums_of H_k_sums_of
  have F_fits := fun_mk (st := s_fits) H_l_fits H_c_fits H_k_fits
  have F_explains := fun_mk (st := s_explains) H_l_explains H_c_explains H_k_explains
  have F_told_by_two := fun_mk (st := s_told_by_two) H_l_told_by_two H_c_told_by_two H_k_told_by_two
  have F_told_by_line := fun_mk (st := s_told_by_line) H_l_told_by_line H_c_told_by_line H_k_told_by_line
  have F_told_by_multiples := fun_mk (st := s_told_by_multiples) H_l_told_by_multiples H_c_told_by_multiples H_k_told_by_multiples
  have F_told_back := fun_mk (st := s_told_back) H_l_told_back H_c_told_back H_k_told_back
  have F__law_source := fun_mk (st := s__law_source) H_l__law_source H_c__law_source H_k__law_source
  have F__law_draw := fun_mk (st := s__law_draw) H_l__law_draw H_c__law_draw H_k__law_draw
  have F__law_integer := fun_mk (st := s__law_integer) H_l__law_integer H_c__law_integer H_k__law_integer
  have F__law_same := fun_mk (st := s__law_same) H_l__law_same H_c__law_same H_k__law_same
  have F__law_lines := fun_mk (st := s__law_lines) H_l__law_lines H_c__law_lines H_k__law_lines
  have F__law_solves := fun_mk (st := s__law_solves) H_l__law_solves H_c__law_solves H_k__law_solves
  have F__law_small_rows := fun_mk (st := s__law_small_rows) H_l__law_small_rows H_c__law_small_rows H_k__law_small_rows
  have F__law_due := fun_mk (st := s__law_due) H_l__law_due H_c__law_due H_k__law_due
  have F_law := fun_mk (st := s_law) H_l_law H_c_law H_k_law
  have T : Txt K mg a := {
    F_is_integer := F_is_integer,
    b_is_integer := F_is_integer.binds (ps := ["thing"]) fun _ _ _ _ _ _ us hl => match us, hl with | [_], _ => rfl,
    g_is_integer := PySem.W.mg_of X G H_a_is_integer,
    F_is_between := F_is_between,
    b_is_between := F_is_between.binds (ps := ["thing", "low", "high"]) fun _ _ _ _ _ _ us hl => match us, hl with | [_, _, _], _ => rfl,
    g_is_between := PySem.W.mg_of X G H_a_is_between,
    F_wrong_in_name := F_wrong_in_name,
    b_wrong_in_name := F_wrong_in_name.binds (ps := ["thing", "turns", "roots"]) fun _ _ _ _ _ _ us hl => match us, hl with | [_, _, _], _ => rfl,
    g_wrong_in_name := PySem.W.mg_of X G H_a_wrong_in_name,
    F_is_sighting := F_is_sighting,
    b_is_sighting := F_is_sighting.binds (ps := ["thing"]) fun _ _ _ _ _ _ us hl => match us, hl with | [_], _ => rfl,
    g_is_sighting := PySem.W.mg_of X G H_a_is_sighting,
    F_check_sightings := F_check_sightings,
    b_check_sightings := F_check_sightings.binds (ps := ["rows"]) fun _ _ _ _ _ _ us hl => match us, hl with | [_], _ => rfl,
    g_check_sightings := PySem.W.mg_of X G H_a_check_sightings,
    F_sums_of := F_sums_of,
    b_sums_of := F_sums_of.binds (ps := ["rows"]) fun _ _ _ _ _ _ us hl => match us, hl with | [_], _ => rfl,
    g_sums_of := PySem.W.mg_of X G H_a_sums_of,
    F_fits := F_fits,
    b_fits := F_fits.binds (ps := ["sums", "letter", "gap"]) fun _ _ _ _ _ _ us hl => match us, hl with | [_, _, _], _ => rfl,
    g_fits := PySem.W.mg_of X G H_a_fits,
    F_explains := F_explains,
    b_explains := F_explains.binds (ps := ["rows", "letter", "gap"]) fun _ _ _ _ _ _ us hl => match us, hl with | [_, _, _], _ => rfl,
    g_explains := PySem.W.mg_of X G H_a_explains,
    F_told_by_two := F_told_by_two,
    b_told_by_two := F_told_by_two.binds (ps := ["first", "other", "sums"]) fun _ _ _ _ _ _ us hl => match us, hl with | [_, _, _], _ => rfl,
    g_told_by_two := PySem.W.mg_of X G H_a_told_by_two,
    F_told_by_line := F_told_by_line,
    b_told_by_line := F_told_by_line.binds (ps := ["k", "j", "time"]) fun _ _ _ _ _ _ us hl => match us, hl with | [_, _, _], _ => rfl,
    g_told_by_line := PySem.W.mg_of X G H_a_told_by_line,
    F_told_by_multiples := F_told_by_multiples,
    b_told_by_multiples := F_told_by_multiples.binds (ps := ["sums"]) fun _ _ _ _ _ _ us hl => match us, hl with | [_], _ => rfl,
    g_told_by_multiples := PySem.W.mg_of X G H_a_told_by_multiples,
    F_told_back := F_told_back,
    b_told_back := F_told_back.binds (ps := ["rows"]) fun _ _ _ _ _ _ us hl => match us, hl with | [_], _ => rfl,
    g_told_back := PySem.W.mg_of X G H_a_told_back,
    F__law_source := F__law_source,
    b__law_source := F__law_source.binds (ps := ["_law_script"]) fun _ _ _ _ _ _ us hl => match us, hl with | [_], _ => rfl,
    g__law_source := PySem.W.mg_of X G H_a__law_source,
    F__law_draw := F__law_draw,
    b__law_draw := F__law_draw.binds (ps := ["_law_source_here", "_law_limit"]) fun _ _ _ _ _ _ us hl => match us, hl with | [_, _], _ => rfl,
    g__law_draw := PySem.W.mg_of X G H_a__law_draw,
    F__law_integer := F__law_integer,
    b__law_integer := F__law_integer.binds (ps := ["_law_thing"]) fun _ _ _ _ _ _ us hl => match us, hl with | [_], _ => rfl,
    g__law_integer := PySem.W.mg_of X G H_a__law_integer,
    F__law_same := F__law_same,
    b__law_same := F__law_same.binds (ps := ["_law_told", "_law_due_here"]) fun _ _ _ _ _ _ us hl => match us, hl with | [_, _], _ => rfl,
    g__law_same := PySem.W.mg_of X G H_a__law_same,
    F__law_lines := F__law_lines,
    b__law_lines := F__law_lines.binds (ps := ["_law_rows"]) fun _ _ _ _ _ _ us hl => match us, hl with | [_], _ => rfl,
    g__law_lines := PySem.W.mg_of X G H_a__law_lines,
    F__law_solves := F__law_solves,
    b__law_solves := F__law_solves.binds (ps := ["_law_lines_here", "_law_pair"]) fun _ _ _ _ _ _ us hl => match us, hl with | [_, _], _ => rfl,
    g__law_solves := PySem.W.mg_of X G H_a__law_solves,
    F__law_small_rows := F__law_small_rows,
    b__law_small_rows := F__law_small_rows.binds (ps := ["_law_source_here"]) fun _ _ _ _ _ _ us hl => match us, hl with | [_], _ => rfl,
    g__law_small_rows := PySem.W.mg_of X G H_a__law_small_rows,
    F__law_due := F__law_due,
    b__law_due := F__law_due.binds (ps := ["_law_rows"]) fun _ _ _ _ _ _ us hl => match us, hl with | [_], _ => rfl,
    g__law_due := PySem.W.mg_of X G H_a__law_due,
    F_law := F_law,
    b_law := F_law.binds (ps := ["_law_script"]) fun _ _ _ _ _ _ us hl => match us, hl with | [_], _ => rfl,
    g_law := PySem.W.mg_of X G H_a_law,
    n_all := PySem.W.mg_none_of X G H_n_all,
    n_any := PySem.W.mg_none_of X G H_n_any,
    n_bool := PySem.W.mg_none_of X G H_n_bool,
    n_enumerate := PySem.W.mg_none_of X G H_n_enumerate,
    n_int := PySem.W.mg_none_of X G H_n_int,
    n_isinstance := PySem.W.mg_none_of X G H_n_isinstance,
    n_len := PySem.W.mg_none_of X G H_n_len,
    n_list := PySem.W.mg_none_of X G H_n_list,
    n_max := PySem.W.mg_none_of X G H_n_max,
    n_range := PySem.W.mg_none_of X G H_n_range,
    n_str := PySem.W.mg_none_of X G H_n_str,
    n_sum := PySem.W.mg_none_of X G H_n_sum,
    n_tuple := PySem.W.mg_none_of X G H_n_tuple,
    g_LONGEST_NAME := ⟨_, PySem.W.mg_of X G H_x_LONGEST_NAME⟩,
    g_GREATEST_ITEM := ⟨_, PySem.W.mg_of X G H_x_GREATEST_ITEM⟩,
    g_MOST_SIGHTINGS := ⟨_, PySem.W.mg_of X G H_x_MOST_SIGHTINGS⟩,
    g_LATEST_SIGHTING := ⟨_, PySem.W.mg_of X G H_x_LATEST_SIGHTING⟩,
    g_GREATEST_TOLD := ⟨_, PySem.W.mg_of X G H_x_GREATEST_TOLD⟩,
    g_gcd := PySem.W.mg_of X G H_gcd }
  exact ⟨a.d_law, fun s v => .of_eq rfl, fun base _ _ => ok_law T⟩
theorem walk {l : PySem.W.OpenLaw} {q : Program} {loose : List Str} {XP : (Str → Option Value) → Heap → Prop} {YP : World → Heap → Prop} {d : DefRec} {K : Params → PySem.W.Frag} (hn : l.most = some 63) (hdf : d.params.defaults = [])
    (hY : ∀ (w : World) (h : Heap), YP w h → (K w.params).In h)
    (F : ∀ (w : World) (mg : Str → Option Value) (fa : Addr) (h : Heap), (K w.params).In h → h.Ns mainGlobals mg → mg d.name = some (.ref fa) →
      ∃ fd : FuncData, (∀ (s : Shared) (u : Value), BindsTo s fd ⟨[u], []⟩ [("_law_script", u)]) ∧ ∀ base : Heap, (K w.params).In base → base.Ns mainGlobals mg → FnOk l.prog w (K w.params) mg base CX0 9 fa fd ["_law_script"] (spLaw (K w.params))) :
    PySem.W.WalkO q loose XP YP l.row.toRowW d [] (fun f vs => PySem.call f vs) :=
  L2.walk_of (n := 63) (k := 9) (x := "_law_script") (CX := fun _ => CX0) (sp := fun w => spLaw (K w.params)) hn (by decide) hdf ⟨rfl, by decide, by decide⟩ hY F (fun _ _ a ns hl _ hS => ⟨a, ns, rfl, hS, hl, fun _ => rfl⟩) fun _ _ _ _ _ z => z
end My
open PySem PySem.W PyProof.Rows
set_option maxRecDepth 100000 in
set_option maxHeartbeats 0 in
theorem PySem.Challenge.cw_tellontree_k63_whole_told_back_by_all_pa_holds : PySem.Challenge.rw_tellontree_k63_whole_told_back_by_all_pa.Holds := by
  w_on; o_law; k_head; (case hw => w_witness2)
  k_fill
  refine My.walk (l := PySem.Challenge.rw_tellontree_k63_whole_told_back_by_all_pa) rfl rfl (fun w h Y => PySem.W.kIn_of Y) ?F
  case F =>
    intro w mg fa h KX G hmg
    refine' My.all_mk KX G hmg ?H_a_is_integer ?H_l_is_integer ?H_c_is_integer ?H_k_is_integer ?H_a_is_between ?H_l_is_between ?H_c_is_between ?H_k_is_between ?H_a_wrong_in_name ?H_l_wrong_in_name ?H_c_wrong_in_name ?H_k_wrong_in_name ?H_a_is_sighting ?H_l_is_sighting ?H_c_is_sighting ?H_k_is_sighting ?H_a_check_sightings ?H_l_check_sightings ?H_c_check_sightings ?H_k_check_sightings ?H_a_sums_of ?H_l_sums_of ?H_c_sums_of ?H_k_sums_of ?H_a_fits ?H_l_fits ?H_c_fits ?H_k_fits ?H_a_explains ?H_l_explains ?H_c_explains ?H_k_explains ?H_a_told_by_two ?H_l_told_by_two ?H_c_told_by_two ?H_k_told_by_two ?H_a_told_by_line ?H_l_told_by_line ?H_c_told_by_line ?H_k_told_by_line ?H_a_told_by_multiples ?H_l_told_by_multiples ?H_c_told_by_multiples ?H_k_told_by_multiples ?H_a_told_back ?H_l_told_back ?H_c_told_back ?H_k_told_back ?H_a__law_source ?H_l__law_source ?H_c__law_source ?H_k__law_source ?H_a__law_draw ?H_l__law_draw ?H_c__law_draw ?H_k__law_draw ?H_a__law_integer ?H_l__law_integer ?H_c__law_integer ?H_k__law_integer ?H_a__law_same ?H_l__law_same ?H_c__law_same ?H_k__law_same ?H_a__law_lines ?H_l__law_lines ?H_c__law_lines ?H_k__law_lines ?H_a__law_solves ?H_l__law_solves ?H_c__law_solves ?H_k__law_solves ?H_a__law_small_rows ?H_l__law_small_rows ?H_c__law_small_rows ?H_k__law_small_rows ?H_a__law_due ?H_l__law_due ?H_c__law_due ?H_k__law_due ?H_a_law ?H_l_law ?H_c_law ?H_k_law ?H_n_all ?H_n_any ?H_n_bool ?H_n_enumerate ?H_n_int ?H_n_isinstance ?H_n_len ?H_n_list ?H_n_max ?H_n_range ?H_n_str ?H_n_sum ?H_n_tuple ?H_x_LONGEST_NAME ?H_x_GREATEST_ITEM ?H_x_MOST_SIGHTINGS ?H_x_LATEST_SIGHTING ?H_x_GREATEST_TOLD ?H_gcd
    (case H_a_is_integer => k_is)
    (case H_l_is_integer => k_is)
    (case H_c_is_integer => k_is)
    (case H_k_is_integer => k_is)
    (case H_a_is_between => k_is)
    (case H_l_is_between => k_is)
    (case H_c_is_between => k_is)
    (case H_k_is_between => k_is)
    (case H_a_wrong_in_name => k_is)
    (case H_l_wrong_in_name => k_is)
    (case H_c_wrong_in_name => k_is)
    (case H_k_wrong_in_name => k_is)
    (case H_a_is_sighting => k_is)
    (case H_l_is_sighting => k_is)
    (case H_c_is_sighting => k_is)
    (case H_k_is_sighting => k_is)
    (case H_a_check_sightings => k_is)
    (case H_l_check_sightings => k_is)
    (case H_c_check_sightings => k_is)
    (case H_k_check_sightings => k_is)
    (case H_a_sums_of => k_is)
    (case H_l_sums_of => k_is)
    (case H_c_sums_of => k_is)
    (case H_k_sums_of => k_is)
    (case H_a_fits => k_is)
    (case H_l_fits => k_is)
    (case H_c_fits => k_is)
    (case H_k_fits => k_is)
    (case H_a_explains => k_is)
    (case H_l_explains => k_is)
    (case H_c_explains => k_is)
    (case H_k_explains => k_is)
    (case H_a_told_by_two => k_is)
    (case H_l_told_by_two => k_is)
    (case H_c_told_by_two => k_is)
    (case H_k_told_by_two => k_is)
    (case H_a_told_by_line => k_is)
    (case H_l_told_by_line => k_is)
    (case H_c_told_by_line => k_is)
    (case H_k_told_by_line => k_is)
    (case H_a_told_by_multiples => k_is)
    (case H_l_told_by_multiples => k_is)
    (case H_c_told_by_multiples => k_is)
    (case H_k_told_by_multiples => k_is)
    (case H_a_told_back => k_is)
    (case H_l_told_back => k_is)
    (case H_c_told_back => k_is)
    (case H_k_told_back => k_is)
    (case H_a__law_source => k_is)
    (case H_l__law_source => k_is)
    (case H_c__law_source => k_is)
    (case H_k__law_source => k_is)
    (case H_a__law_draw => k_is)
    (case H_l__law_draw => k_is)
    (case H_c__law_draw => k_is)
    (case H_k__law_draw => k_is)
    (case H_a__law_integer => k_is)
    (case H_l__law_integer => k_is)
    (case H_c__law_integer => k_is)
    (case H_k__law_integer => k_is)
    (case H_a__law_same => k_is)
    (case H_l__law_same => k_is)
    (case H_c__law_same => k_is)
    (case H_k__law_same => k_is)
    (case H_a__law_lines => k_is)
    (case H_l__law_lines => k_is)
    (case H_c__law_lines => k_is)
    (case H_k__law_lines => k_is)
    (case H_a__law_solves => k_is)
    (case H_l__law_solves => k_is)
    (case H_c__law_solves => k_is)
    (case H_k__law_solves => k_is)
    (case H_a__law_small_rows => k_is)
    (case H_l__law_small_rows => k_is)
    (case H_c__law_small_rows => k_is)
    (case H_k__law_small_rows => k_is)
    (case H_a__law_due => k_is)
    (case H_l__law_due => k_is)
    (case H_c__law_due => k_is)
    (case H_k__law_due => k_is)
    (case H_a_law => k_is)
    (case H_l_law => k_is)
    (case H_c_law => k_is)
    (case H_k_law => k_is)
    (case H_n_all => k_is)
    (case H_n_any => k_is)
    (case H_n_bool => k_is)
    (case H_n_enumerate => k_is)
    (case H_n_int => k_is)
    (case H_n_isinstance => k_is)
    (case H_n_len => k_is)
    (case H_n_list => k_is)
    (case H_n_max => k_is)
    (case H_n_range => k_is)
    (case H_n_str => k_is)
    (case H_n_sum => k_is)
    (case H_n_tuple => k_is)
    (case H_x_LONGEST_NAME => k_is)
    (case H_x_GREATEST_ITEM => k_is)
    (case H_x_MOST_SIGHTINGS => k_is)
    (case H_x_LATEST_SIGHTING => k_is)
    (case H_x_GREATEST_TOLD => k_is)
    (case H_gcd => k_is)
