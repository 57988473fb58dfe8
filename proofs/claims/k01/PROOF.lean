import PyProof.Rows.All
import Wide.All
import OpenK.AllK
import Wide.FinOn
import HandS.Base
import HandS.Call
import HandS.List
import HandS.Comp
import HandS.Ends
import HandS.Words
import HandS.IsInst
import HandS.Wide
import HandS.Style
import HandS.ClsMeth
import HandS.Defaults
import HandS.SlotsOwn
import HandS.WordsList
import HandS.Dict
import PySem.Challenge.RW_tellontree_k01_parts_of_a_machine
set_option Elab.async false
set_option linter.all false
set_option maxRecDepth 100000
namespace My
open PySem L2
def top (i : Nat) : Stmt := PySem.Challenge.pw_tellontree_k01_parts_of_a_machine.main.body.getD i (.Pass ⟨0, 0, 0, 0⟩)
abbrev s_is_integer : Stmt := top 4
theorem sc_is_integer : FnScope ["thing"] ["thing"] (defScope s_is_integer) := ⟨rfl, rfl, rfl, by decide +kernel, rfl, by decide +kernel, by decide +kernel⟩
abbrev s_is_between : Stmt := top 5
theorem sc_is_between : FnScope ["thing", "low", "high"] ["thing", "low", "high"] (defScope s_is_between) := ⟨rfl, rfl, rfl, by decide +kernel, rfl, by decide +kernel, by decide +kernel⟩
abbrev s_Machine_init : Stmt := inClass (top 8) 0
theorem sc_Machine_init : FnScope ["self", "o", "l", "g"] ["self", "o", "l", "g"] (defScope s_Machine_init) := ⟨rfl, rfl, rfl, by decide +kernel, rfl, by decide +kernel, by decide +kernel⟩
abbrev s_Machine_of : Stmt := inClass (top 8) 1
theorem sc_Machine_of : FnScope ["cls", "letter", "gap"] ["cls", "letter", "gap"] (defScope s_Machine_of) := ⟨rfl, rfl, rfl, by decide +kernel, rfl, by decide +kernel, by decide +kernel⟩
abbrev s_Machine_eq : Stmt := inClass (top 8) 3
theorem sc_Machine_eq : FnScope ["self", "other"] ["self", "other"] (defScope s_Machine_eq) := ⟨rfl, rfl, rfl, by decide +kernel, rfl, by decide +kernel, by decide +kernel⟩
abbrev s__law_source : Stmt := top 10
theorem sc__law_source : FnScope ["_law_script", "_law_cell"] ["_law_script"] (defScope s__law_source) := ⟨rfl, rfl, rfl, by decide +kernel, rfl, by decide +kernel, by decide +kernel⟩
abbrev s__law_draw : Stmt := top 11
theorem sc__law_draw : FnScope ["_law_source_here", "_law_limit", "_law_cell", "_law_digit", "_law_one", "_law_two", "_law_three"] ["_law_source_here", "_law_limit"] (defScope s__law_draw) := ⟨rfl, rfl, rfl, by decide +kernel, rfl, by decide +kernel, by decide +kernel⟩
abbrev s__law_big : Stmt := top 12
theorem sc__law_big : FnScope ["_law_source_here", "_law_limit", "_law_number", "_law_k"] ["_law_source_here", "_law_limit"] (defScope s__law_big) := ⟨rfl, rfl, rfl, by decide +kernel, rfl, by decide +kernel, by decide +kernel⟩
abbrev s__law_numbers : Stmt := top 13
theorem sc__law_numbers : FnScope ["_law_source_here", "_law_kind", "_law_tops", "_law_o", "_law_l", "_law_g"] ["_law_source_here"] (defScope s__law_numbers) := ⟨rfl, rfl, rfl, by decide +kernel, rfl, by decide +kernel, by decide +kernel⟩
abbrev s__law_times : Stmt := top 14
theorem sc__law_times : FnScope ["_law_numbers_here"] ["_law_numbers_here"] (defScope s__law_times) := ⟨rfl, rfl, rfl, by decide +kernel, rfl, by decide +kernel, by decide +kernel⟩
abbrev s__law_is : Stmt := top 15
theorem sc__law_is : FnScope ["_law_thing", "_law_due"] ["_law_thing", "_law_due"] (defScope s__law_is) := ⟨rfl, rfl, rfl, by decide +kernel, rfl, by decide +kernel, by decide +kernel⟩
abbrev s__law_parts : Stmt := top 16
theorem sc__law_parts : FnScope ["_law_machine", "_law_numbers_here", "_law_letter", "_law_gap"] ["_law_machine", "_law_numbers_here"] (defScope s__law_parts) := ⟨rfl, rfl, rfl, by decide +kernel, rfl, by decide +kernel, by decide +kernel⟩
abbrev s__law_other : Stmt := top 17
theorem sc__law_other : FnScope ["_law_source_here", "_law_numbers_here", "_law_place", "_law_other_here"] ["_law_source_here", "_law_numbers_here"] (defScope s__law_other) := ⟨rfl, rfl, rfl, by decide +kernel, rfl, by decide +kernel, by decide +kernel⟩
abbrev s_law : Stmt := top 18
theorem sc_law : FnScope ["_law_script", "_law_source_here", "_law_k", "_law_numbers_here", "_law_other_here", "_law_one", "_law_two", "_law_told", "_law_thing", "_law_letter", "_law_gap", "_law_plain"] ["_law_script"] (defScope s_law) := ⟨rfl, rfl, rfl, by decide +kernel, rfl, by decide +kernel, by decide +kernel⟩
/-- where the top has written what -/
structure Adr where
  a_is_integer : Addr
  d_is_integer : FuncData
  a_is_between : Addr
  d_is_between : FuncData
  a_Machine_init : Addr
  d_Machine_init : FuncData
  a_Machine_of : Addr
  d_Machine_of : FuncData
  a_Machine_eq : Addr
  d_Machine_eq : FuncData
  a__law_source : Addr
  d__law_source : FuncData
  a__law_draw : Addr
  d__law_draw : FuncData
  a__law_big : Addr
  d__law_big : FuncData
  a__law_numbers : Addr
  d__law_numbers : FuncData
  a__law_times : Addr
  d__law_times : FuncData
  a__law_is : Addr
  d__law_is : FuncData
  a__law_parts : Addr
  d__law_parts : FuncData
  a__law_other : Addr
  d__law_other : FuncData
  a_law : Addr
  d_law : FuncData
  c_Machine : Addr
  p_Machine_of : Addr
/-- what the walk asks of the top -/
structure Txt (K : PySem.W.Frag) (mg : Str → Option Value) (a : Adr) : Prop where
  F_is_integer : Fun K "is_integer" "is_integer" s_is_integer a.a_is_integer a.d_is_integer
  b_is_integer : Binds K a.d_is_integer ["thing"] []
  g_is_integer : mg "is_integer" = some (.ref a.a_is_integer)
  F_is_between : Fun K "is_between" "is_between" s_is_between a.a_is_between a.d_is_between
  b_is_between : Binds K a.d_is_between ["thing", "low", "high"] []
  g_is_between : mg "is_between" = some (.ref a.a_is_between)
  F_Machine_init : Fun K "__init__" "Machine.__init__" s_Machine_init a.a_Machine_init a.d_Machine_init
  b_Machine_init : Binds K a.d_Machine_init ["self", "o", "l", "g"] []
  mk_Machine : Mk K a.c_Machine a.a_Machine_init
  F_Machine_of : Fun K "of" "Machine.of" s_Machine_of a.a_Machine_of a.d_Machine_of
  b_Machine_of : Binds K a.d_Machine_of ["cls", "letter", "gap"] []
  F_Machine_eq : Fun K "__eq__" "Machine.__eq__" s_Machine_eq a.a_Machine_eq a.d_Machine_eq
  b_Machine_eq : Binds K a.d_Machine_eq ["self", "other"] []
  m_Machine_eq : Meth K a.c_Machine "__eq__" a.a_Machine_eq
  F__law_source : Fun K "_law_source" "_law_source" s__law_source a.a__law_source a.d__law_source
  b__law_source : Binds K a.d__law_source ["_law_script"] []
  g__law_source : mg "_law_source" = some (.ref a.a__law_source)
  F__law_draw : Fun K "_law_draw" "_law_draw" s__law_draw a.a__law_draw a.d__law_draw
  b__law_draw : Binds K a.d__law_draw ["_law_source_here", "_law_limit"] []
  g__law_draw : mg "_law_draw" = some (.ref a.a__law_draw)
  F__law_big : Fun K "_law_big" "_law_big" s__law_big a.a__law_big a.d__law_big
  b__law_big : Binds K a.d__law_big ["_law_source_here", "_law_limit"] []
  g__law_big : mg "_law_big" = some (.ref a.a__law_big)
  F__law_numbers : Fun K "_law_numbers" "_law_numbers" s__law_numbers a.a__law_numbers a.d__law_numbers
  b__law_numbers : Binds K a.d__law_numbers ["_law_source_here"] []
  g__law_numbers : mg "_law_numbers" = some (.ref a.a__law_numbers)
  F__law_times : Fun K "_law_times" "_law_times" s__law_times a.a__law_times a.d__law_times
  b__law_times : Binds K a.d__law_times ["_law_numbers_here"] []
  g__law_times : mg "_law_times" = some (.ref a.a__law_times)
  F__law_is : Fun K "_law_is" "_law_is" s__law_is a.a__law_is a.d__law_is
  b__law_is : Binds K a.d__law_is ["_law_thing", "_law_due"] []
  g__law_is : mg "_law_is" = some (.ref a.a__law_is)
  F__law_parts : Fun K "_law_parts" "_law_parts" s__law_parts a.a__law_parts a.d__law_parts
  b__law_parts : Binds K a.d__law_parts ["_law_machine", "_law_numbers_here"] []
  g__law_parts : mg "_law_parts" = some (.ref a.a__law_parts)
  F__law_other : Fun K "_law_other" "_law_other" s__law_other a.a__law_other a.d__law_other
  b__law_other : Binds K a.d__law_other ["_law_source_here", "_law_numbers_here"] []
  g__law_other : mg "_law_other" = some (.ref a.a__law_other)
  F_law : Fun K "law" "law" s_law a.a_law a.d_law
  b_law : Binds K a.d_law ["_law_script"] []
  g_law : mg "law" = some (.ref a.a_law)
  g_Machine : mg "Machine" = some (.ref a.c_Machine)
  cl_Machine : Cls K a.c_Machine
  nF_Machine_o : NoAttr K a.c_Machine "o"
  nF_Machine_l : NoAttr K a.c_Machine "l"
  nF_Machine_g : NoAttr K a.c_Machine "g"
  nF_Machine_letter : NoAttr K a.c_Machine "letter"
  nF_Machine_gap : NoAttr K a.c_Machine "gap"
  cm_Machine_of : ClX.CMet K a.c_Machine (.type "type") "of" a.p_Machine_of a.a_Machine_of
  rd_Machine : ClX.CRead K a.c_Machine (.type "type")
  e_Machine_eq : PySem.W.findIn K (.ref a.c_Machine) "__eq__" = some (some (.ref a.a_Machine_eq))
  i_Machine_eq : PySem.W.isFn K (.ref a.a_Machine_eq) = true
  ca_Machine : PySem.W.findIn K (.ref a.c_Machine) "__class__" = some (some (.builtin "object.__class__"))
  ct_Machine : PySem.W.takesIn K (.builtin "object.__class__") = some true
  cg_Machine : PySem.W.specialIn K (.builtin "object.__class__") "__get__" = some (some (.builtin "getset_descriptor.__get__"))
  co_Machine : PySem.W.mroIn K a.c_Machine (.type "object") = some true
  ic_Machine : PySem.W.isClsIn K a.c_Machine = true
  tc_Machine : PySem.W.typeIn K (.ref a.c_Machine) = some (.type "type")
  sb_NoneType_Machine : PySem.W.subIn K (.type "NoneType") (.ref a.c_Machine) = some false
  sb_tuple_Machine : PySem.W.subIn K (.type "tuple") (.ref a.c_Machine) = some false
  sb_list_Machine : PySem.W.subIn K (.type "list") (.ref a.c_Machine) = some false
  sb_str_Machine : PySem.W.subIn K (.type "str") (.ref a.c_Machine) = some false
  sb_int_Machine : PySem.W.subIn K (.type "int") (.ref a.c_Machine) = some false
  sb_bool_Machine : PySem.W.subIn K (.type "bool") (.ref a.c_Machine) = some false
  sb_dict_Machine : PySem.W.subIn K (.type "dict") (.ref a.c_Machine) = some false
  n_bool : mg "bool" = none
  n_cls : mg "cls" = none
  n_int : mg "int" = none
  n_isinstance : mg "isinstance" = none
  n_len : mg "len" = none
  n_list : mg "list" = none
  n_max : mg "max" = none
  n_range : mg "range" = none
  n_tuple : mg "tuple" = none
  g_GREATEST_PART : ∃ t, mg "GREATEST_PART" = some (.int 1000000000 t)
/-! ### core: rules that the layer lacks, what a draw's source is -/
section
variable {X : Cx}
/-- xs[i], read ahead of xs[i] op= e -/
theorem gt_list : PGet X (rIxL X.K) := by
  intro pins s σ H x y v u Q I rx ry h
  obtain ⟨p, xs, i, z, rfl, rfl, hq, he, q⟩ := h
  cases rx
  obtain ⟨t, rfl⟩ := ry
  obtain ⟨its, r, pl, hz⟩ := I.list hq
  obtain ⟨j, h1, h2, h3, h4, h5⟩ := atI_get he
  obtain ⟨w, ew, rw'⟩ := r.get h2
  have hl := r.length
  have hn := line63
  have fin : EP X pins σ Q w s := ⟨z, H, I, rw', q⟩
  by_cases h0 : 0 ≤ i
  · have hj : i.toNat = j := by
      rw [seqIndex_of h0 h5] at h1
      exact Option.some.inj h1
    exact PySem.wpAny_getItem_list pl.isList h0 (by omega) (by rw [hj]; simpa using ew) fin
  · have hj : (i + (its.toArray.size : Int)).toNat = j := by
      rw [seqIndex_neg (by omega) h4] at h1
      rw [List.size_toArray, ← hl]
      exact Option.some.inj h1
    exact PySem.wpAny_getItem_list_neg pl.isList (by omega) (by rw [List.size_toArray] <;> omega) (by omega) (by rw [hj]; simpa using ew) fin
end
theorem pe_powN {X : Cx} {i j z : Int} {p q pos : Pos} {k l : Nat} (hc : CPow i j) (h : i ^ j.toNat = z) : PE X (.BinOp (.Constant (.int i) k p) .Pow (.Constant (.int j) l q) pos) (tC (.int z)) :=
  ⟨fun pins s σ H Q I g => (pe_op op_pow pe_int pe_int).run pins s σ H Q I ⟨i, j, rfl, rfl, hc, by show Q (.int (i ^ j.toNat)) H; rw [h]; exact g⟩⟩
theorem ite_tt {c A B : Prop} [Decidable c] (hc : c) (h : A) : if decide c = true then A else B := by
  rw [if_pos (decide_eq_true hc)]
  exact h
theorem ite_ff {c A B : Prop} [Decidable c] (hc : ¬ c) (h : B) : if decide c = true then A else B := by
  rw [if_neg (by rw [decide_eq_false hc]; exact Bool.false_ne_true)]
  exact h
theorem ite_d {c A B : Prop} [Decidable c] (h1 : c → A) (h2 : ¬ c → B) : if decide c = true then A else B := by
  by_cases hc : c
  · exact ite_tt hc (h1 hc)
  · exact ite_ff hc (h2 hc)
theorem ite_b {b : Bool} {A B : Prop} (h1 : b = true → A) (h2 : b = false → B) : if b = true then A else B := by
  cases b with
  | true => exact iteT (h1 rfl)
  | false => exact iteF (h2 rfl)
/-! ### readings, turn by turn -/
/-- a new object -/
def NewAt (n : Nat) (o : HO) (H : Hp) (Q : VK) : Prop := n ≤ sizeLine ∧ ∀ p, H p = none → Q (.ref p) (upd H p o)
theorem Same.new {H : Hp} {p : Addr} {o : HO} (h : H p = none) : Same H (upd H p o) := fun b u e => by rw [upd_ne (ne_of_none e h)]; exact e
theorem new_at {n : Nat} {o : HO} {H : Hp} {Q : VK} (hn : n ≤ 1000) (k : ∀ p H', H p = none → Same H H' → H' p = some o → Q (.ref p) H') : NewAt n o H Q :=
  ⟨Nat.le_trans hn (by decide), fun p hp => k p _ hp (Same.new hp) upd_same⟩
theorem new_of {o : HO} {H : Hp} {Q : VK} (k : ∀ p H', H p = none → Same H H' → H' p = some o → Q (.ref p) H') : ∀ p, H p = none → Q (.ref p) (upd H p o) := fun p hp => k p _ hp (Same.new hp) upd_same
theorem Same.at {H H' : Hp} {b : Addr} {o : HO} (s : Same H H') (h : H b = some o) : H' b = some o := s b o h
section
variable {K : PySem.W.Frag} {σ : St} {H : Hp} {Q : VK} {ta tb tc : TE} {x y v : V} {D : Ends} {t u : TS} {QT : Bool → Hp → Prop} {QA : List V → Hp → Prop} {i j : Int} {n m : Nat}
theorem r_var (e : σ[n]? = some (some v)) (q : Q v H) : tVar n σ H Q := ⟨v, e, q⟩
theorem r_c (q : Q v H) : tC v σ H Q := q
theorem r_op {r : R2} (h : ta σ H fun x H1 => tb σ H1 fun y H2 => r x y H2 Q) : tOp r ta tb σ H Q := h
theorem r_un {r : V → Hp → VK → Prop} (h : ta σ H fun x H1 => r x H1 Q) : tUn r ta σ H Q := h
theorem r_I0 {g : Int → Int → V} (q : Q (g i j) H) : rI0 g (.int i) (.int j) H Q := ⟨i, j, rfl, rfl, q⟩
theorem r_I {C : Int → Int → Prop} {g : Int → Int → V} (c : C i j) (q : Q (g i j) H) : rI C g (.int i) (.int j) H Q := ⟨i, j, rfl, rfl, c, q⟩
theorem r_add (q : Q (.int (i + j)) H) : rAdd (.int i) (.int j) H Q := ⟨i, j, rfl, rfl, q⟩
theorem r_sub (q : Q (.int (i - j)) H) : rSub (.int i) (.int j) H Q := ⟨i, j, rfl, rfl, q⟩
theorem r_U {g : Int → V} (q : Q (g i) H) : rU g (.int i) H Q := ⟨i, rfl, q⟩
theorem r_eqI (q : Q (.bl (decide (i = j))) H) : rEq (.int i) (.int j) H Q := ⟨rfl, by
  have e : decide (V.int i = V.int j) = decide (i = j) := by
    by_cases h : i = j
    · subst h; rw [decide_eq_true rfl, decide_eq_true rfl]
    · rw [decide_eq_false h, decide_eq_false fun z => h (V.int.inj z)]
  rw [e]; exact q⟩
theorem r_neI (q : Q (.bl (!decide (i = j))) H) : rNe (.int i) (.int j) H Q := ⟨rfl, by
  have e : decide (V.int i = V.int j) = decide (i = j) := by
    by_cases h : i = j
    · subst h; rw [decide_eq_true rfl, decide_eq_true rfl]
    · rw [decide_eq_false h, decide_eq_false fun z => h (V.int.inj z)]
  rw [e]; exact q⟩
theorem r_ixL {p : Addr} {xs : List V} (h : H p = some (.lst xs)) (e : atI xs i = some v) (q : Q v H) : rIxL K (.ref p) (.int i) H Q := ⟨p, xs, i, v, rfl, rfl, SqL.of h, e, q⟩
theorem r_ixT {p : Addr} {xs : List V} (h : H p = some (.tup xs)) (e : atI xs i = some v) (q : Q v H) : rIxT K (.ref p) (.int i) H Q := ⟨p, xs, i, v, rfl, rfl, SqT.of h, e, q⟩
theorem r_test (h : ta σ H fun x H' => ∃ k, x = .bl k ∧ QT k H') : tTest ta σ H QT := h
theorem r_tB (h : ta σ H fun x H' => ∃ k, x = .bl k ∧ QT k H') : tB ta σ H QT := h
theorem r_bl {b : Bool} {R : Bool → Prop} (h : R b) : ∃ k, V.bl b = .bl k ∧ R k := ⟨b, rfl, h⟩
theorem r_not {t : TT} (h : t σ H fun c H1 => QT (!c) H1) : tNot t σ H QT := h
theorem r_and {t u : TT} (h : t σ H fun c H1 => if c = true then u σ H1 QT else QT false H1) : tAnd t u σ H QT := h
theorem r_or {t u : TT} (h : t σ H fun c H1 => if c = true then QT true H1 else u σ H1 QT) : tOr t u σ H QT := h
theorem r_notV (h : ta σ H fun x H1 => ∃ c, x = .bl c ∧ Q (.bl (!c)) H1) : tNotV ta σ H Q := h
theorem r_andV (h : ta σ H fun x H1 => ∃ c, x = .bl c ∧ if c = true then tb σ H1 Q else Q (.bl false) H1) : tAndV ta tb σ H Q := h
theorem r_orV (h : ta σ H fun x H1 => ∃ c, x = .bl c ∧ if c = true then Q (.bl true) H1 else tb σ H1 Q) : tOrV ta tb σ H Q := h
theorem r_ifE {t : TT} (h : t σ H fun c H1 => if c = true then ta σ H1 Q else tb σ H1 Q) : tIf t ta tb σ H Q := h
theorem r_seq (h : t { D with nx := u D } σ H) : tSeq t u D σ H := h
theorem r_next (h : D.nx σ H) : tNext D σ H := h
theorem r_brk (h : D.bk σ H) : tBreak D σ H := h
theorem r_cont (h : D.ct σ H) : tCont D σ H := h
theorem r_drop (h : ta σ H fun _ H1 => D.nx σ H1) : tDrop ta D σ H := h
theorem r_ret (h : ta σ H D.rt) : tRet ta D σ H := h
theorem r_ifS {c : TT} (h : c σ H fun b H1 => if b = true then t D σ H1 else u D σ H1) : tIfS c t u D σ H := h
theorem r_asg {g : TG} (h : ta σ H fun x H1 => g x σ H1 D.nx) : tAsg ta g D σ H := h
theorem r_gName {R : St → Hp → Prop} (h : R (σ.set n (some v)) H) : gName n v σ H R := h
theorem r_gSub {s : TSet} {R : St → Hp → Prop} (h : ta σ H fun o H1 => tb σ H1 fun i H2 => s o i v H2 fun H3 => R σ H3) : gSub ta tb s v σ H R := h
theorem r_setL {p : Addr} {xs : List V} {k : Nat} {R : Hp → Prop} (h : H p = some (.lst xs)) (e : ixN xs.length i = some k) (q : R (upd H p (.lst (xs.set k v)))) : rSetL (.ref p) (.int i) v H R := ⟨p, xs, i, k, rfl, rfl, h, e, q⟩
theorem r_aug {ti : TIp} (e : σ[n]? = some (some x)) (h : ta σ H fun y H1 => ti x y H1 fun z H2 => D.nx (σ.set n (some z)) H2) : tAug n ta ti D σ H := ⟨x, e, h⟩
theorem r_augS {tg : V → V → Hp → VK → Prop} {tip : TIp} {ts : TSet} (h : ta σ H fun o H1 => tb σ H1 fun i H2 => tg o i H2 fun x H3 => tc σ H3 fun y H4 => tip x y H4 fun z H5 => ts o i z H5 fun H6 => D.nx σ H6) : tAugS ta tb tc tg tip ts D σ H := h
theorem r_ip {f : Int → Int → Int} (q : Q (.int (f i j)) H) : ipI f (.int i) (.int j) H Q := ⟨i, j, rfl, rfl, q⟩
theorem r_nil (h : QA [] H) : tNil σ H QA := h
theorem r_cons {tr : TA} (h : ta σ H fun x H1 => tr σ H1 fun xs H2 => QA (x :: xs) H2) : tCons ta tr σ H QA := h
theorem r_tup {t : TA} (h : t σ H fun xs H1 => NewAt xs.length (.tup xs) H1 Q) : tTup t σ H Q := h
theorem r_lst {t : TA} (h : t σ H fun xs H1 => NewAt xs.length (.lst xs) H1 Q) : tLst t σ H Q := h
theorem r_CB {r : List V → Hp → VK → Prop} {t : TA} (h : t σ H fun vs H1 => r vs H1 Q) : tCB r t σ H Q := h
theorem r_call {sp : Sp} {dvs : List V} {E : XK} {t : TA} (h : t σ H fun vs H1 => sp (vs ++ dvs) H1 Q E) : tCall sp dvs E t σ H Q := h
theorem r_callN {k l : Nat} {sp : Sp} {gV : List V → List V → List V} {E : XK} {t tk : TA} (h : t σ H fun vs H1 => tk σ H1 fun zs H2 => vs.length = k ∧ zs.length = l ∧ sp (gV vs zs) H2 Q E) : tCallN k l sp gV E t tk σ H Q := h
theorem r_fld {p C dx : Addr} {fs : List (Str × V)} {f : Str} {R : V → Prop} (hc : Cls K C) (hn : NoAttr K C f) (hx : H p = some (.ins C dx fs)) (e : fs.lookup f = some v) (q : R v) : (∃ a C dx fs v, V.ref p = .ref a ∧ H a = some (.ins C dx fs) ∧ Cls K C ∧ NoAttr K C f ∧ fs.lookup f = some v ∧ R v) := ⟨p, C, dx, fs, v, rfl, hx, hc, hn, e, q⟩
theorem r_tFld {f : Str} (h : ta σ H fun x H1 => ∃ a C dx fs v, x = .ref a ∧ H1 a = some (.ins C dx fs) ∧ Cls K C ∧ NoAttr K C f ∧ fs.lookup f = some v ∧ Q v H1) : tFld K ta f σ H Q := h
theorem r_sl {r : V → Option Int → Option Int → Hp → VK → Prop} {tl th : TO} (h : ta σ H fun x H1 => tl σ H1 fun l H2 => th σ H2 fun u H3 => r x l u H3 Q) : tSl r ta tl th σ H Q := h
theorem r_noP {R : Option Int → Hp → Prop} (h : R none H) : tNoPart σ H R := h
theorem r_part {R : Option Int → Hp → Prop} (h : ta σ H fun x H1 => ∃ i, x = .int i ∧ R (some i) H1) : tPart ta σ H R := h
theorem r_in {R : Int → Prop} (h : R i) : ∃ k, V.int i = .int k ∧ R k := ⟨i, rfl, h⟩
theorem r_Bm {T : String} {r : V → List V → Hp → VK → Prop} {t : TA} (h : ta σ H fun x H1 => tyV K T x H1 ∧ t σ H1 fun xs H2 => r x xs H2 Q) : tBM K T r ta t σ H Q := h
theorem r_app {l : Addr} {xs : List V} (h : H l = some (.lst xs)) (hz : xs.length < sizeLine) (q : Q .non (upd H l (.lst (xs ++ [y])))) : rAppend (.ref l) [y] H Q := ⟨l, xs, y, rfl, rfl, h, hz, q⟩
end
theorem at_nat {ns : List Int} {i : Int} (h0 : 0 ≤ i) (h : i < (ns.map V.int).length) : ∃ n, atI (ns.map V.int) i = some (.int n) ∧ n ∈ ns := by
  obtain ⟨j, rfl⟩ : ∃ j : Nat, i = j := ⟨i.toNat, by omega⟩
  rw [List.length_map] at h
  have hj : j < ns.length := by omega
  exact ⟨ns[j], atI_nat (by rw [List.getElem?_map, List.getElem?_eq_getElem hj]; rfl), List.getElem_mem hj⟩
theorem fmod_nn {a b : Int} (h : 0 < b) : 0 ≤ a.fmod b := by rw [Int.fmod_eq_emod_of_nonneg a (by omega)]; exact Int.emod_nonneg a (by omega)
theorem fmod_lt {a b : Int} (h : 0 < b) : a.fmod b < b := by rw [Int.fmod_eq_emod_of_nonneg a (by omega)]; exact Int.emod_lt_of_pos a h
theorem lim_div {lim : Int} (h0 : 0 < lim) (h : lim < 2 ^ 200) : CDivW lim lim := wide_div (b := 200) h0 (by omega) (by decide) (by decide)
theorem cdiv_of {i lim : Int} (h0 : 0 < lim) (h : lim < 2 ^ 200) : CDivW i lim := ⟨h0, (lim_div h0 h).2⟩
theorem mulL {i j : Int} (h1 : -(2 ^ 64) < i) (h2 : i < 2 ^ 64) : CMul i j := Or.inl ⟨h1, h2⟩
theorem mulR {i j : Int} (h1 : -(2 ^ 64) < j) (h2 : j < 2 ^ 64) : CMul i j := Or.inr ⟨h1, h2⟩
theorem powOk {i j : Int} (h1 : 0 ≤ j) (h2 : j ≤ 1000000) (h3 : i.natAbs < 2 ^ 64) : CPow i j := ⟨h1, h2, h3⟩
theorem r_for {wi : TI} {g : TG} {tb : TS} {D : Ends} {σ : St} {H : Hp} (h : wi σ H fun J H1 => ∃ W : Nat → Nat → St → Hp → Prop, (∃ m, W 0 m σ H1) ∧ ∀ i m σ H, W i m σ H →
  (J.stop i H ∧ D.nx σ H) ∨ (J.go i H ∧ ∃ N : St → Hp → Prop, (∀ σ' H', N σ' H' → ∃ m', m' < m ∧ W (i + 1) m' σ' H') ∧ ∀ x H', J.yld i H x H' → g x σ H' fun σ2 H2 => tb { D with nx := N, ct := N, bk := D.nx } σ2 H2)) : tFor wi g tb D σ H := h
theorem r_iR1 {ta : TA} {σ : St} {H : Hp} {R : It → Hp → Prop} (h : ta σ H fun vs H1 => ∃ j : Int, vs = [.int j] ∧ -(2 ^ 62) ≤ j ∧ j < 2 ^ 62 ∧ R (Itr 0 j.toNat) H1) : iRng1 ta σ H R := h
theorem r_iR2 {ta : TA} {σ : St} {H : Hp} {R : It → Hp → Prop} (h : ta σ H fun vs H1 => ∃ i j : Int, vs = [.int i, .int j] ∧ (-(2 ^ 62) ≤ i ∧ i < 2 ^ 62 ∧ -(2 ^ 62) ≤ j ∧ j < 2 ^ 62) ∧ R (Itr i (j - i).toNat) H1) : iRng2 ta σ H R := h
theorem r_iL {K : PySem.W.Frag} {tl : TE} {σ : St} {H : Hp} {R : It → Hp → Prop} (h : tl σ H fun x H1 => ∃ a, x = .ref a ∧ (∃ xs, SqL K H1 a xs) ∧ R (Itl K a) H1) : iList K tl σ H R := h
theorem r_lc {wi : TI} {g : TG} {tt : TT} {te : TE} {vs : List Nat} {σ : St} {H : Hp} {Q : VK} (h : wi σ H fun J H1 => ∀ D, H1 D = none → ∃ W : Nat → Nat → Hp → Prop, (∃ m, W 0 m (upd H1 D (.lst []))) ∧ ∀ i m H, W i m H →
  (J.stop i H ∧ Q (.ref D) H) ∨ (J.go i H ∧ ∃ Nx : Hp → Prop, (∀ H', Nx H' → ∃ m', m' < m ∧ W (i + 1) m' H') ∧ ∀ x H', J.yld i H x H' → g x (wipe σ vs) H' fun σ2 H2 => wipe σ2 vs = wipe σ vs ∧ tt σ2 H2 fun b H3 =>
    if b = true then te σ2 H3 fun y H4 => ∃ acc, H4 D = some (.lst acc) ∧ acc.length < sizeLine ∧ Nx (upd H4 D (.lst (acc ++ [y]))) else Nx H3)) : tLc wi g tt te vs σ H Q := h
theorem r_isiI {K : PySem.W.Frag} {H : Hp} {Q : VK} {i : Int} {n : String} (b : Bool) (h : kitB "int" n = some b) (q : Q (.bl b) H) : rIsi K [.int i, .ty n] H Q := ⟨_, _, .type "int", .type n, b, rfl, .ty n, .base (.int i), kit_ty h, q⟩
theorem r_isiB {K : PySem.W.Frag} {H : Hp} {Q : VK} {i : Bool} {n : String} (b : Bool) (h : kitB "bool" n = some b) (q : Q (.bl b) H) : rIsi K [.bl i, .ty n] H Q := ⟨_, _, .type "bool", .type n, b, rfl, .ty n, .base (.bl i), kit_ty h, q⟩
theorem r_slL {K : PySem.W.Frag} {H : Hp} {Q : VK} {a : Addr} {xs : List V} {lo hi : Option Int} (h : SqL K H a xs) (q : ∀ p H', H p = none → Same H H' → H' p = some (.lst (cutV xs lo hi)) → Q (.ref p) H') : rSlL K (.ref a) lo hi H Q := ⟨a, xs, rfl, h, new_of q⟩
theorem r_slT {K : PySem.W.Frag} {H : Hp} {Q : VK} {a : Addr} {xs : List V} {lo hi : Option Int} (h : SqT K H a xs) (hn : ¬ (HT.sIx xs.length 0 lo = 0 ∧ HT.sIx xs.length xs.length hi = xs.length)) (q : ∀ p H', H p = none → Same H H' → H' p = some (.tup (cutV xs lo hi)) → Q (.ref p) H') : rSlT K (.ref a) lo hi H Q := ⟨a, xs, rfl, h, hn, new_of q⟩
def rListOf (K : PySem.W.Frag) : List V → Hp → VK → Prop := fun xs H Q => ∃ p ys, xs = [.ref p] ∧ (SqL K H p ys ∨ SqT K H p ys) ∧ ∀ l, H l = none → Q (.ref l) (upd H l (.lst ys))
def rTupOf (K : PySem.W.Frag) : List V → Hp → VK → Prop := fun xs H Q => ∃ p ys, xs = [.ref p] ∧ ((SqL K H p ys ∧ ∀ l, H l = none → Q (.ref l) (upd H l (.tup ys))) ∨ (SqT K H p ys ∧ Q (.ref p) H))
theorem cr_list {X : Cx} : CallR X (.type "list") (rListOf X.K) := call_list_of
theorem cr_tup {X : Cx} : CallR X (.type "tuple") (rTupOf X.K) := call_tuple_of
theorem r_listS {K : PySem.W.Frag} {H : Hp} {Q : VK} {a : Addr} {xs : List V} (h : SqL K H a xs ∨ SqT K H a xs) (q : ∀ p H', H p = none → Same H H' → H' p = some (.lst xs) → Q (.ref p) H') : rListOf K [.ref a] H Q := ⟨a, xs, rfl, h, new_of q⟩
theorem r_listL {K : PySem.W.Frag} {H : Hp} {Q : VK} {a : Addr} {xs : List V} (h : H a = some (.lst xs)) (q : ∀ p H', H p = none → Same H H' → H' p = some (.lst xs) → Q (.ref p) H') : rListOf K [.ref a] H Q := r_listS (.inl (SqL.of h)) q
theorem r_listT {K : PySem.W.Frag} {H : Hp} {Q : VK} {a : Addr} {xs : List V} (h : H a = some (.tup xs)) (q : ∀ p H', H p = none → Same H H' → H' p = some (.lst xs) → Q (.ref p) H') : rListOf K [.ref a] H Q := r_listS (.inr (SqT.of h)) q
theorem r_tupL {K : PySem.W.Frag} {H : Hp} {Q : VK} {a : Addr} {xs : List V} (h : H a = some (.lst xs)) (q : ∀ p H', H p = none → Same H H' → H' p = some (.tup xs) → Q (.ref p) H') : rTupOf K [.ref a] H Q := ⟨a, xs, rfl, .inl ⟨SqL.of h, new_of q⟩⟩
theorem r_tupT {K : PySem.W.Frag} {H : Hp} {Q : VK} {a : Addr} {xs : List V} (h : H a = some (.tup xs)) (q : Q (.ref a) H) : rTupOf K [.ref a] H Q := ⟨a, xs, rfl, .inr ⟨SqT.of h, q⟩⟩
theorem r_nF {A B : Prop} (h : A) : if (!false) = true then A else B := h
theorem r_nT {A B : Prop} (h : B) : if (!true) = true then A else B := by
  rw [if_neg (by decide)]
  exact h
theorem r_nD {c A B : Prop} [Decidable c] (h1 : ¬ c → A) (h2 : c → B) : if (!decide c) = true then A else B := by
  by_cases hc : c
  · rw [decide_eq_true hc]; exact r_nT (h2 hc)
  · rw [decide_eq_false hc]; exact r_nF (h1 hc)
theorem cut_take {xs : List V} {k : Int} (h : (xs.length : Int) ≤ k) : cutV xs none (some k) = xs := by
  have e : HT.sIx xs.length xs.length (some k) = xs.length := by
    show (if k < 0 then (k + (xs.length : Int)).toNat else min k.toNat xs.length) = xs.length
    rw [if_neg (by omega)]; omega
  unfold cutV
  rw [e]
  show (xs.drop 0).take (xs.length - 0) = xs
  simp
theorem r_yes {σ : St} {H : Hp} {R : Bool → Hp → Prop} (h : R true H) : tYes σ H R := h
theorem int_of_get {ns : List Int} {i : Nat} {y : V} (h : (ns.map V.int)[i]? = some y) : ∃ z, ns[i]? = some z ∧ y = V.int z := by
  rw [List.getElem?_map] at h
  cases e : ns[i]? with
  | none => rw [e] at h; cases h
  | some z => rw [e] at h; exact ⟨z, rfl, (Option.some.inj h).symm⟩
theorem take_more {α : Type} {l : List α} {i : Nat} {x : α} (h : l[i]? = some x) : l.take (i + 1) = l.take i ++ [x] := by
  rw [List.take_succ, h]; rfl
theorem r_chain {r r' : R2} {ta tb tc : TE} {σ : St} {H : Hp} {Q : VK} (h : ta σ H fun x H1 => tb σ H1 fun y H2 => r x y H2 fun z H3 => ∃ k, z = .bl k ∧ (if k = true then tc σ H3 fun w' H4 => r' y w' H4 Q else Q (.bl false) H3)) : tChain r r' ta tb tc σ H Q := h
theorem r_sFld {K : PySem.W.Frag} {ta tv : TE} {f : Str} {D : Ends} {σ : St} {H : Hp} (h : tv σ H fun y H1 => ta σ H1 fun x H2 => ∃ a C dx fs, x = .ref a ∧ H2 a = some (.ins C dx fs) ∧ Cls K C ∧ NoAttr K C f ∧ fs.length < 1000 ∧ D.nx σ (upd H2 a (.ins C dx (putF f y fs)))) : sFld K ta tv f D σ H := h
theorem r_put {K : PySem.W.Frag} {p C dx : Addr} {fs : List (Str × V)} {f : Str} {H : Hp} {R : Addr → Addr → Addr → List (Str × V) → Prop} (hc : Cls K C) (hn : NoAttr K C f) (hx : H p = some (.ins C dx fs)) (hl : fs.length ≤ 900) (q : R p C dx fs) :
    ∃ a C dx fs, V.ref p = .ref a ∧ H a = some (.ins C dx fs) ∧ Cls K C ∧ NoAttr K C f ∧ fs.length < 1000 ∧ R a C dx fs := ⟨p, C, dx, fs, rfl, hx, hc, hn, by omega, q⟩
theorem putF_len (f : Str) (v : V) : ∀ fs : List (Str × V), (putF f v fs).length ≤ fs.length + 1
  | [] => Nat.le_refl _
  | (g, x) :: r => by
    unfold putF
    by_cases h : g = f
    · rw [if_pos h, List.length_cons, List.length_cons]; omega
    · rw [if_neg h, List.length_cons, List.length_cons]
      have := putF_len f v r
      omega
theorem putF_le {f : Str} {v : V} {fs : List (Str × V)} {n : Nat} (h : fs.length ≤ n) : (putF f v fs).length ≤ n + 1 := Nat.le_trans (putF_len f v fs) (by omega)
def MakeAt (C : Addr) (sp : Sp) (vs : List V) (E : XK) (H : Hp) (Q : VK) : Prop := ∀ x dx, H x = none → H dx = none → dx ≠ x → sp (.ref x :: vs) (upd (upd H dx (.own x)) x (.ins C dx [])) (fun v H2 => v = .non ∧ Q (.ref x) H2) E
theorem r_make {C : Addr} {sp : Sp} {dvs : List V} {E : XK} {t : TA} {σ : St} {H : Hp} {Q : VK} (h : t σ H fun vs H1 => MakeAt C sp (vs ++ dvs) E H1 Q) : tMake C sp dvs E t σ H Q := h
theorem r_lenL {K : PySem.W.Frag} {H : Hp} {p : Addr} {xs : List V} {R : List V → Prop} (h : H p = some (.lst xs)) (q : R xs) : ∃ (p1 : Addr) (ys : List V), [V.ref p] = [.ref p1] ∧ (SqL K H p1 ys ∨ SqT K H p1 ys) ∧ R ys := ⟨p, xs, rfl, .inl (SqL.of h), q⟩
theorem r_lenT {K : PySem.W.Frag} {H : Hp} {p : Addr} {xs : List V} {R : List V → Prop} (h : H p = some (.tup xs)) (q : R xs) : ∃ (p1 : Addr) (ys : List V), [V.ref p] = [.ref p1] ∧ (SqL K H p1 ys ∨ SqT K H p1 ys) ∧ R ys := ⟨p, xs, rfl, .inr (SqT.of h), q⟩
theorem r_in1 {i : Int} {R : Int → Prop} (h : R i) : ∃ k, [V.int i] = [.int k] ∧ R k := ⟨i, rfl, h⟩
theorem r_in2 {i j : Int} {R : Int → Int → Prop} (h : R i j) : ∃ k l, [V.int i, V.int j] = [.int k, .int l] ∧ R k l := ⟨i, j, rfl, h⟩
/-- all but what stands at p is as it was -/
def But (p : Addr) (H H' : Hp) : Prop := ∀ b o, H b = some o → b ≠ p → H' b = some o
theorem But.refl (p : Addr) (H : Hp) : But p H H := fun _ _ h _ => h
theorem But.trans {p : Addr} {H H1 H2 : Hp} (a : But p H H1) (b : But p H1 H2) : But p H H2 := fun c o h n => b c o (a c o h n) n
theorem But.of_same {p : Addr} {H H' : Hp} (h : Same H H') : But p H H' := fun b o e _ => h b o e
theorem But.upd {p : Addr} {H : Hp} {o : HO} : But p H (upd H p o) := fun b u h n => by rw [upd_ne n]; exact h
theorem But.at {p b : Addr} {H H' : Hp} {o : HO} (s : But p H H') (n : b ≠ p) (h : H b = some o) : H' b = some o := s b o h n
theorem But.new {p q : Addr} {H : Hp} {o : HO} (h : H q = none) : But p H (L2.upd H q o) := But.of_same (Same.new h)
/-- the source of draws at p, its cells at q -/
def SrcAt (H : Hp) (p q : Addr) : Prop := ∃ (cs : List Int) (i big cnt st : Int), H p = some (.lst [.ref q, .int i, .int big, .int cnt, .int st]) ∧ H q = some (.lst (cs.map V.int)) ∧ q ≠ p ∧ 0 ≤ i ∧ 0 ≤ big ∧ cs.length ≤ 63
theorem SrcAt.keep {H H' : Hp} {p q : Addr} (h : SrcAt H p q) (s : Same H H') : SrcAt H' p q := by
  obtain ⟨cs, i, big, cnt, st, h1, h2, h3⟩ := h
  exact ⟨cs, i, big, cnt, st, s _ _ h1, s _ _ h2, h3⟩
theorem SrcAt.upd {H : Hp} {p q x : Addr} {o : HO} (h : SrcAt H p q) (h1 : x ≠ p) (h2 : x ≠ q) : SrcAt (upd H x o) p q := by
  obtain ⟨cs, i, big, cnt, st, e1, e2, h3⟩ := h
  exact ⟨cs, i, big, cnt, st, (upd_ne h1.symm).trans e1, (upd_ne h2.symm).trans e2, h3⟩
theorem SrcAt.ne {H : Hp} {p q x : Addr} (h : SrcAt H p q) (hx : H x = none) : x ≠ p := by
  obtain ⟨cs, i, big, cnt, st, h1, _⟩ := h
  exact (ne_of_none h1 hx).symm
theorem SrcAt.neq {H : Hp} {p q x : Addr} (h : SrcAt H p q) (hx : H x = none) : x ≠ q := by
  obtain ⟨cs, i, big, cnt, st, _, h1, _⟩ := h
  exact (ne_of_none h1 hx).symm
theorem But.free {p q : Addr} {H H' : Hp} (b : But p H H') (hs : SrcAt H' p q) {x : Addr} (hx : H' x = none) : H x = none := by
  cases e : H x with
  | none => rfl
  | some o => exact absurd (b _ _ e (hs.ne hx)) (by rw [hx]; intro z; cases z)
theorem seq_with {t1 t2 : TS} {D : Ends} {σ : St} {H : Hp} (P : St → Hp → Prop) (h2 : ∀ σ H, P σ H → t2 D σ H) (h1 : (∀ σ H, P σ H → t2 D σ H) → t1 { D with nx := t2 D } σ H) : tSeq t1 t2 D σ H := h1 h2

local macro_rules | `(tactic| walk_at "src") => `(tactic| first | assumption | (refine' SrcAt.keep ?h ?s; (case s => assumption); (case h => walk_at "src")))
local macro_rules | `(tactic| walk_at "ne") => `(tactic| first | assumption | (apply Ne.symm; assumption) | (refine' SrcAt.ne ?a ?b; (case b => assumption); (case a => walk_at "src")))
local macro_rules | `(tactic| walk_at "hp") => `(tactic| first
  | assumption
  | with_reducible exact upd_same
  | (refine' Same.at ?s ?h; (case s => assumption); (case h => walk_at "hp"))
  | (refine' But.at ?s ?n ?h; (case s => assumption); (case n => walk_at "ne"); (case h => walk_at "hp"))
  | (rw [upd_ne (by first | assumption | (apply Ne.symm; assumption))]; walk_at "hp"))
local macro_rules | `(tactic| walk_at "side") => `(tactic| first | assumption | decide | omega | exact mulL (by omega) (by omega) | exact mulR (by omega) (by omega) | exact cdiv_of (by omega) (by omega) | exact powOk (by omega) (by omega) (by decide) | exact mulL (Int.lt_of_lt_of_le (by decide) (fmod_nn (by decide))) (Int.lt_trans (fmod_lt (by decide)) (by decide)))
local macro_rules | `(tactic| walk_at "pl") => `(tactic| ((repeat with_reducible refine putF_le ?_); with_unfolding_all exact Nat.le_of_ble_eq_true rfl))
local macro_rules | `(tactic| walk_at "lk") => `(tactic| first | assumption | (rw [lookup_putF, if_pos rfl]) | (rw [lookup_putF, if_neg (by decide +kernel)]; walk_at "lk"))
local macro_rules | `(tactic| walk_at "cls") => `(tactic| first | with_unfolding_all exact Txt.cl_Machine (by assumption) | with_unfolding_all exact Txt.nF_Machine_o (by assumption) | with_unfolding_all exact Txt.nF_Machine_l (by assumption) | with_unfolding_all exact Txt.nF_Machine_g (by assumption) | with_unfolding_all exact Txt.nF_Machine_letter (by assumption) | with_unfolding_all exact Txt.nF_Machine_gap (by assumption))
/-- one turn of a reading -/
local macro_rules | `(tactic| walk_at "rd") => `(tactic| with_reducible first
  | (refine r_seq ?_; fail_if_success (refine r_ifS ?_))
  | refine r_asg ?_
  | refine r_gName ?_
  | (refine' r_var ?hv ?_; (case hv => with_unfolding_all exact rfl))
  | refine r_c ?_
  | refine r_op ?_
  | refine r_I0 ?_
  | (refine' r_I ?hc ?_; (case hc => walk_at "side"))
  | refine r_add ?_
  | refine r_sub ?_
  | refine r_eqI ?_
  | refine r_neI ?_
  | (refine' r_ixL ?hp ?he ?_; (case hp => walk_at "hp"); (case he => with_unfolding_all exact rfl))
  | (refine' r_ixT ?hp ?he ?_; (case hp => walk_at "hp"); (case he => with_unfolding_all exact rfl))
  | refine r_cons ?_
  | refine r_nil ?_
  | refine r_CB ?_
  | refine r_call ?_
  | refine r_test ?_
  | refine r_tB ?_
  | refine r_bl ?_
  | refine r_in ?_
  | refine Or.inl (r_in1 ?_)
  | refine r_in1 ?_
  | refine r_in2 ?_
  | (refine' r_lenL ?hp ?_; (case hp => walk_at "hp"))
  | (refine' r_lenT ?hp ?_; (case hp => walk_at "hp"))
  | refine r_ifS ?_
  | refine r_and ?_
  | refine r_or ?_
  | refine r_not ?_
  | refine r_andV ?_
  | refine r_orV ?_
  | refine r_notV ?_
  | refine r_ifE ?_
  | refine r_ret ?_
  | refine r_next ?_
  | refine r_drop ?_
  | refine r_gSub ?_
  | (refine' r_setL ?hp ?he ?_; (case hp => walk_at "hp"); (case he => with_unfolding_all exact rfl))
  | (refine' r_aug ?he ?_; (case he => with_unfolding_all exact rfl))
  | refine r_augS ?_
  | refine r_ip ?_
  | refine r_tup ?_
  | refine r_lst ?_
  | refine r_tFld ?_
  | (refine' r_fld ?hc ?hn ?hx ?he ?_; (case hx => walk_at "hp"); (case hc => walk_at "cls"); (case hn => walk_at "cls"); (case he => walk_at "lk"))
  | (refine' r_put ?hc ?hn ?hx ?hl ?_; (case hx => walk_at "hp"); (case hc => walk_at "cls"); (case hn => walk_at "cls"); (case hl => walk_at "pl"))
  | refine r_sl ?_
  | refine r_noP ?_
  | refine r_part ?_
  | refine r_un ?_
  | refine r_U ?_
  | refine r_Bm ?_
  | refine r_cont ?_
  | refine r_brk ?_
  | refine r_chain ?_
  | refine r_sFld ?_
  | refine r_make ?_
  | refine r_yes ?_
  | refine r_lc ?_
  | refine r_isiI true (by decide +kernel) ?_
  | refine r_isiI false (by decide +kernel) ?_
  | refine r_for ?_
  | refine r_iR1 ?_
  | refine r_iR2 ?_
  | refine r_iL ?_
  | refine iteT ?_
  | refine r_nF ?_
  | refine r_nT ?_
  | refine iteF ?_)
local macro_rules | `(tactic| walk_at "rdi") => `(tactic| with_reducible (refine r_seq ?_; refine r_ifS ?_))

/-! ### the law's draws -/
def spDraw : Sp := fun vs H Q _ => ∃ (p q : Addr) (lim : Int), vs = [.ref p, .int lim] ∧ SrcAt H p q ∧ 0 < lim ∧ lim < 2 ^ 200 ∧
  ∀ (r : Int) (H' : Hp), 0 ≤ r → r < lim → SrcAt H' p q → But p H H' → Q (.int r) H'
section
variable {P : Program} {w : World} {K : PySem.W.Frag} {mg : Str → Option Value} {base : Heap} {a : Adr}
theorem ok__law_draw (T : Txt K mg a) : FnOk P w K mg base CX0 1 a.a__law_draw a.d__law_draw ["_law_source_here", "_law_limit"] spDraw := by
  refine T.F__law_draw.ok sc__law_draw (fun vs H Q E h => ?_) (fun cdv A outer s H vs Q E hr h => ?_)
  · obtain ⟨p, q, lim, rfl, _⟩ := h
    rfl
  · obtain ⟨p, q, lim, rfl, ⟨cs, i, big, cnt, st, h1, h2, h3, hi, hb, hl⟩, hl0, hl1, k⟩ := h
    refine ⟨_, (pss_cons (ps_augS (pv 0) pe_int gt_list pe_int ip_add set_list)
 (pss_cons (ps_if (PW.pt (pw_and (pt_cmpR op_eq (pe_ix ix_list (pv 0) pe_int (fun _ _ => rfl)) pe_int (nomark _)) (pw_and1 (pt_cmpR op_lt (pe_ix ix_list (pv 0) pe_int (fun _ _ => rfl)) (pe_callB call_len_seq (by rfl) T.n_len (by decide +kernel) (pa_cons (pe_ix ix_list (pv 0) pe_int (fun _ _ => rfl)) pa_nil)) (nomark _))))) (pss_cons (ps_set (i := 2) sc__law_draw.nd rfl (Or.inl rfl) (pe_ix ix_list (pe_ix ix_list (pv 0) pe_int (fun _ _ => rfl)) (pe_ix ix_list (pv 0) pe_int (fun _ _ => rfl)) (fun _ _ => rfl)))
 (pss_cons (ps_augS (pv 0) pe_int gt_list pe_int ip_add set_list)
 (pss_one (ps_if (pt_cmpR op_ge (pv 2) (pe_powN (z := 1000000000000000000) ⟨by decide, by decide, by decide⟩ (by decide +kernel)) (nomark _)) (pss_one (ps_asg (pv 2) (pg_sub (pv 0) pe_int set_list)))
 (pss_one (ps_asg (pe_op op_modN (pe_callTy call_int1 (by rfl) T.n_int (by decide +kernel) (pa_cons (pe_op op_add (pe_op op_add (pe_op op_mul (pe_ix ix_list (pv 0) pe_int (fun _ _ => rfl)) pe_int) (pe_op op_mul (pv 2) pe_int)) pe_int) pa_nil)) pe_int) (pg_sub (pv 0) pe_int set_list)))))))
 pss_nil)
 (pss_cons (ps_if (pt_cmpR op_gt (pe_ix ix_list (pv 0) pe_int (fun _ _ => rfl)) pe_int (nomark _)) (pss_cons (ps_set (i := 3) sc__law_draw.nd rfl (Or.inl rfl) (pe_op op_modN (pe_callTy call_int1 (by rfl) T.n_int (by decide +kernel) (pa_cons (pe_ix ix_list (pv 0) pe_int (fun _ _ => rfl)) pa_nil)) (pv 1)))
 (pss_cons (ps_asg (pe_op op_fdivW (pe_ix ix_list (pv 0) pe_int (fun _ _ => rfl)) (pv 1)) (pg_sub (pv 0) pe_int set_list))
 (pss_one (ps_ret (pv 3)))))
 pss_nil)
 (pss_cons (ps_set (i := 4) sc__law_draw.nd rfl (Or.inl rfl) (pe_op op_modN (pe_callTy call_int1 (by rfl) T.n_int (by decide +kernel) (pa_cons (pe_op op_mul (pe_op op_add (pe_ix ix_list (pv 0) pe_int (fun _ _ => rfl)) (pe_op op_mul pe_int (pe_ix ix_list (pv 0) pe_int (fun _ _ => rfl)))) pe_int) pa_nil)) pe_int))
 (pss_cons (ps_set (i := 5) sc__law_draw.nd rfl (Or.inl rfl) (pe_op op_modN (pe_callTy call_int1 (by rfl) T.n_int (by decide +kernel) (pa_cons (pe_op op_mul (pv 4) (pe_op op_add (pe_op op_fdivW (pv 4) pe_int) pe_int)) pa_nil)) pe_int))
 (pss_cons (ps_set (i := 6) sc__law_draw.nd rfl (Or.inl rfl) (pe_op op_modN (pe_callTy call_int1 (by rfl) T.n_int (by decide +kernel) (pa_cons (pe_op op_mul (pv 5) (pe_op op_add (pe_op op_fdivW (pv 5) pe_int) pe_int)) pa_nil)) pe_int))
 (pss_one (ps_ret (pe_op op_modN (pe_callTy call_int1 (by rfl) T.n_int (by decide +kernel) (pa_cons (pe_op op_fdivW (pv 6) pe_int) pa_nil)) (pv 1)))))))))), ?_⟩
    -- src[3] += 1
    repeat walk_at "rd"
    with_reducible refine seq_with (fun σ H' => ∃ (i big cnt st : Int) (v : Option V), σ = [some (.ref p), some (.int lim), v, none, none, none, none] ∧ H' p = some (.lst [.ref q, .int i, .int big, .int cnt, .int st]) ∧ H' q = some (.lst (cs.map V.int)) ∧ But p H H' ∧ 0 ≤ i ∧ 0 ≤ big) ?_ (fun rest => ?_)
    · clear h1 h2 hi hb
      rintro σ H' ⟨i, big, cnt, st, v, rfl, hp, hq, bt, hi, hb⟩
      walk_at "rdi"
      repeat walk_at "rd"
      refine ite_d (fun hc => ?_) (fun hc => ?_)
      · repeat walk_at "rd"
        exact k _ _ (fmod_nn hl0) (fmod_lt hl0) ⟨cs, i, _, cnt, st, upd_same, (upd_ne h3).trans hq, h3, hi, Int.ediv_nonneg hb (by omega), hl⟩ (bt.trans But.upd)
      · repeat walk_at "rd"
        exact k _ _ (fmod_nn hl0) (fmod_lt hl0) ⟨cs, i, _, cnt, st, hp, hq, h3, hi, hb, hl⟩ bt
    · have nq : H q ≠ none := by rw [h2]; intro z; cases z
      have hp1 : upd H p (HO.lst ([V.ref q, V.int i, V.int big, V.int cnt, V.int st].set (Int.toNat 3) (V.int (cnt + 1)))) p = some (.lst [.ref q, .int i, .int big, .int (cnt + 1), .int st]) := upd_same
      have hq1 : upd H p (HO.lst ([V.ref q, V.int i, V.int big, V.int cnt, V.int st].set (Int.toNat 3) (V.int (cnt + 1)))) q = some (.lst (cs.map V.int)) := (upd_ne h3).trans h2
      have bt1 : But p H (upd H p (HO.lst ([V.ref q, V.int i, V.int big, V.int cnt, V.int st].set (Int.toNat 3) (V.int (cnt + 1))))) := But.upd
      generalize upd H p (HO.lst ([V.ref q, V.int i, V.int big, V.int cnt, V.int st].set (Int.toNat 3) (V.int (cnt + 1)))) = H1 at hp1 hq1 bt1 ⊢
      clear h1 h2
      have no : ∀ (v : Option V), _ := fun v => rest [some (.ref p), some (.int lim), v, none, none, none, none] H1 ⟨i, big, cnt + 1, st, v, rfl, hp1, hq1, bt1, hi, hb⟩
      repeat walk_at "rd"
      refine ite_d (fun hc => ?_) (fun hc => ?_)
      · repeat walk_at "rd"
        refine ite_d (fun hc2 => ?_) (fun hc2 => ?_)
        · obtain ⟨c, hc3, _⟩ := at_nat (ns := cs) hi hc2
          repeat walk_at "rd"
          refine r_ixL hq1 hc3 ?_
          repeat walk_at "rd"
          refine ite_d (fun hc4 => ?_) (fun hc4 => ?_)
          · repeat walk_at "rd"
            exact rest _ _ ⟨i + 1, c, cnt + 1, st, _, rfl, upd_same, (upd_ne h3).trans ((upd_ne h3).trans hq1), (bt1.trans But.upd).trans But.upd, by omega, by omega⟩
          · repeat walk_at "rd"
            exact rest _ _ ⟨i + 1, big, cnt + 1, _, _, rfl, upd_same, (upd_ne h3).trans ((upd_ne h3).trans hq1), (bt1.trans But.upd).trans But.upd, by omega, by omega⟩
        · ((repeat walk_at "rd"); exact no none)
      · ((repeat walk_at "rd"); exact no none)

def spBig : Sp := fun vs H Q _ => ∃ (p q : Addr) (lim : Int), vs = [.ref p, .int lim] ∧ SrcAt H p q ∧ 0 < lim ∧
  ∀ (r : Int) (H' : Hp), 0 ≤ r → r < lim → SrcAt H' p q → But p H H' → Q (.int r) H'
theorem ok__law_big (T : Txt K mg a) : FnOk P w K mg base CX0 2 a.a__law_big a.d__law_big ["_law_source_here", "_law_limit"] spBig := by
  refine T.F__law_big.ok sc__law_big (fun vs H Q E h => ?_) (fun cdv A outer s H vs Q E hr h => ?_)
  · obtain ⟨p, q, lim, rfl, _⟩ := h
    rfl
  · obtain ⟨p, q, lim, rfl, hs, hl0, k⟩ := h
    refine ⟨_, (pss_cons (ps_set (i := 2) sc__law_big.nd rfl (Or.inl rfl) pe_int)
 (pss_cons (ps_for PassesOwn.never rfl (pi_range1 (by rfl) T.n_range (pa_cons pe_int pa_nil)) (pg_name (i := 3) sc__law_big.nd rfl (Or.inl rfl))
 (pss_one (ps_set (i := 2) sc__law_big.nd rfl (Or.inl rfl) (pe_op op_add (pe_op op_mul (pv 2) pe_int) (pe_call (ok__law_draw T) (hr.mono (by decide)) (by rfl) T.g__law_draw T.F__law_draw.kp T.b__law_draw .nil pass0 (pa_cons (pv 0) (pa_cons pe_int pa_nil)))))))
 (pss_one (ps_ret (pe_op op_modN (pe_callTy call_int1 (by rfl) T.n_int (by decide +kernel) (pa_cons (pv 2) pa_nil)) (pv 1)))))), ?_⟩
    repeat walk_at "rd"
    refine ⟨by decide, by decide, for_range (lo := 0) (n := 5) (fun i σ H' => ∃ (n : Int) (v : Option V), σ = [some (.ref p), some (.int lim), some (.int n), v] ∧ SrcAt H' p q ∧ But p H H') ⟨_, _, rfl, hs, But.refl _ _⟩ ?_ ?_⟩
    · rintro i σ H1 hi ⟨n, v, rfl, hs1, b1⟩
      repeat walk_at "rd"
      refine ⟨p, q, _, rfl, hs1, by decide, by decide, fun r H2 r0 r1 hs2 b2 => ?_⟩
      repeat walk_at "rd"
      exact ⟨_, _, rfl, hs2, b1.trans b2⟩
    · rintro σ H1 ⟨n, v, rfl, hs1, b1⟩
      repeat walk_at "rd"
      exact k _ _ (fmod_nn hl0) (fmod_lt hl0) hs1 b1
end

/-! ### the machine's numbers, its times, whether a thing is an int -/
/-- o, l, g of a machine, at t -/
structure NumAt (H : Hp) (t : Addr) (o l g : Int) : Prop where
  at_ : H t = some (.tup [.int o, .int l, .int g])
  o0 : 0 ≤ o
  o9 : o ≤ 1000000000
  l0 : 0 ≤ l
  l9 : l ≤ 1000000000
  g1 : 1 ≤ g
  g9 : g ≤ 1000000000
  pos : 0 < 2 * o + l
theorem NumAt.keep {H H' : Hp} {t : Addr} {o l g : Int} (N : NumAt H t o l g) (h : H' t = H t) : NumAt H' t o l g := { N with at_ := h.trans N.at_ }
def spNumbers : Sp := fun vs H Q _ => ∃ (p q : Addr), vs = [.ref p] ∧ SrcAt H p q ∧ ∀ (t : Addr) (o l g : Int) (H' : Hp), NumAt H' t o l g → H t = none → SrcAt H' p q → But p H H' → Q (.ref t) H'
def gapOf (o g : Int) : Int := if g > o then g else o
def spTimes : Sp := fun vs H Q _ => ∃ (t : Addr) (o l g : Int), vs = [.ref t] ∧ H t = some (.tup [.int o, .int l, .int g]) ∧ ∀ (u : Addr) (H' : Hp), H u = none → Same H H' → H' u = some (.tup [.int (2 * o + l), .int (gapOf o g)]) → Q (.ref u) H'
def spIs : Sp := fun vs H Q _ => ∃ (i j : Int), vs = [.int i, .int j] ∧ Q (.bl (decide (i = j))) H
def spSource (K : PySem.W.Frag) : Sp := fun vs H Q _ => ∃ (b : Addr) (ns : List Int), vs = [.ref b] ∧ SqL K H b (ns.map V.int) ∧ ns.length ≤ 63 ∧ ∀ (p q : Addr) (H' : Hp), SrcAt H' p q → H p = none → H q = none → Same H H' → Q (.ref p) H'
section
variable {P : Program} {w : World} {K : PySem.W.Frag} {mg : Str → Option Value} {base : Heap} {a : Adr}
theorem ok__law_times (T : Txt K mg a) : FnOk P w K mg base CX0 1 a.a__law_times a.d__law_times ["_law_numbers_here"] spTimes := by
  refine T.F__law_times.ok sc__law_times (fun vs H Q E h => ?_) (fun cdv A outer s H vs Q E hr h => ?_)
  · obtain ⟨t, o, l, g, rfl, _⟩ := h
    rfl
  · obtain ⟨t, o, l, g, rfl, ht, k⟩ := h
    refine ⟨_, (pss_one (ps_ret (pe_tup (pa_cons (pe_op op_add (pe_op op_mul pe_int (pe_ix ix_tup (pv 0) pe_int (fun _ _ => rfl))) (pe_ix ix_tup (pv 0) pe_int (fun _ _ => rfl))) (pa_cons (pe_callB (call_max2 rfl) (by rfl) T.n_max (by decide +kernel) (pa_cons (pe_ix ix_tup (pv 0) pe_int (fun _ _ => rfl)) (pa_cons (pe_ix ix_tup (pv 0) pe_int (fun _ _ => rfl)) pa_nil))) pa_nil))))), ?_⟩
    repeat walk_at "rd"
    exact new_at (Nat.le_of_ble_eq_true rfl) k
theorem ok__law_is (T : Txt K mg a) : FnOk P w K mg base CX0 1 a.a__law_is a.d__law_is ["_law_thing", "_law_due"] spIs := by
  refine T.F__law_is.ok sc__law_is (fun vs H Q E h => ?_) (fun cdv A outer s H vs Q E hr h => ?_)
  · obtain ⟨i, j, rfl, _⟩ := h
    rfl
  · obtain ⟨i, j, rfl, k⟩ := h
    refine ⟨_, (pss_one (ps_ret (pe_and (pe_callB call_isi (by rfl) T.n_isinstance (by decide +kernel) (pa_cons (pv 0) (pa_cons (pe_bltn (v := .ty "int") (u := .type "int") (by rfl) T.n_int (by decide +kernel) rfl) pa_nil))) (pe_and (pe_not (pe_callB call_isi (by rfl) T.n_isinstance (by decide +kernel) (pa_cons (pv 0) (pa_cons (pe_bltn (v := .ty "bool") (u := .type "bool") (by rfl) T.n_bool (by decide +kernel) rfl) pa_nil)))) (pe_one (pe_cmpR op_eq (pv 0) (pv 1) (nomark _))))))), ?_⟩
    repeat walk_at "rd"
    exact k
theorem ok__law_source (T : Txt K mg a) : FnOk P w K mg base CX0 1 a.a__law_source a.d__law_source ["_law_script"] (spSource K) := by
  refine T.F__law_source.ok sc__law_source (fun vs H Q E h => ?_) (fun cdv A outer s H vs Q E hr h => ?_)
  · obtain ⟨i, j, rfl, _⟩ := h
    rfl
  · obtain ⟨b, ns, rfl, hS, hl, k⟩ := h
    refine ⟨_, (pss_one (ps_ret (pe_lst (pa_cons (pe_lc (own := [("_law_cell", 1)]) (g := gName 1) (tt := tYes) rfl sc__law_source.nd (pi_list (pe_slice sl_list (pv 0) po_none (po_some pe_int))) (blkOk_by (own := [("_law_cell", 1)]) (N := ["_law_script", "_law_cell"]) (sc := defScope s__law_source) (by decide +kernel)) (fun _ _ _ _ _ => (pg_name (i := 1) sc__law_source.nd rfl (Or.inl rfl))) (fun _ _ _ _ _ => pts_nil) (fun _ _ _ _ _ => (pe_callTy call_int1 (by rfl) T.n_int (by decide +kernel) (pa_cons (pv 1) pa_nil)))) (pa_cons pe_int (pa_cons pe_int (pa_cons pe_int (pa_cons pe_int pa_nil)))))))), ?_⟩
    repeat walk_at "rd"
    refine r_slL hS (fun p0 H1 n0 s1 e0 => ?_)
    rw [cut_take (by rw [List.length_map]; omega)] at e0
    refine ⟨p0, rfl, ⟨_, SqL.of e0⟩, fun D hD => lc_list (K := K) (a := p0) (xs := ns.map V.int) (fun i H' => H' D = some (.lst ((ns.take i).map V.int)) ∧ H' p0 = some (.lst (ns.map V.int)) ∧ Same H H') ?_ (fun i H' _ h => SqL.of h.2.1) ?_ ?_⟩
    · exact ⟨upd_same, (upd_ne (ne_of_none e0 hD)).trans e0, s1.trans (Same.new hD)⟩
    · rintro i x H2 hi ⟨h1, h2, h3⟩
      obtain ⟨z, hz, rfl⟩ := int_of_get hi
      repeat walk_at "rd"
      refine ⟨rfl, ?_⟩
      repeat walk_at "rd"
      have nD : H D = none := s1.free hD
      refine ⟨_, h1, small1000 (by rw [List.length_map, List.length_take]; omega), ?_, (upd_ne (ne_of_none e0 hD)).trans h2, fun b o e => (upd_ne (ne_of_none e nD)).trans (h3 b o e)⟩
      rw [upd_same, take_more hz, List.map_append]
      rfl
    · rintro H2 ⟨h1, h2, h3⟩
      repeat walk_at "rd"
      refine new_at (Nat.le_of_ble_eq_true rfl) (fun p H3 np s3 e3 => ?_)
      rw [List.length_map, List.take_length] at h1
      exact k p D _ ⟨ns, 0, 0, 0, 7, e3, s3 _ _ h1, ne_of_none h1 np, by decide, by decide, hl⟩ (h3.free np) (s1.free hD) (h3.trans s3)
theorem ok__law_numbers (T : Txt K mg a) : FnOk P w K mg base CX0 3 a.a__law_numbers a.d__law_numbers ["_law_source_here"] spNumbers := by
  refine T.F__law_numbers.ok sc__law_numbers (fun vs H Q E h => ?_) (fun cdv A outer s H vs Q E hr h => ?_)
  · obtain ⟨p, q, rfl, _⟩ := h
    rfl
  · obtain ⟨p, q, rfl, hs, k⟩ := h
    refine ⟨_, (pss_cons (ps_set (i := 1) sc__law_numbers.nd rfl (Or.inl rfl) (pe_call (ok__law_draw T) (hr.mono (by decide)) (by rfl) T.g__law_draw T.F__law_draw.kp T.b__law_draw .nil pass0 (pa_cons (pv 0) (pa_cons pe_int pa_nil))))
 (pss_cons (ps_set (i := 2) sc__law_numbers.nd rfl (Or.inl rfl) (pe_ix ix_list (pe_lst (pa_cons (pe_tup (pa_cons pe_int (pa_cons pe_int (pa_cons pe_int pa_nil)))) (pa_cons (pe_tup (pa_cons pe_int (pa_cons pe_int (pa_cons pe_int pa_nil)))) (pa_cons (pe_tup (pa_cons pe_int (pa_cons pe_int (pa_cons pe_int pa_nil)))) (pa_cons (pe_tup (pa_cons pe_int (pa_cons pe_int (pa_cons pe_int pa_nil)))) (pa_cons (pe_tup (pa_cons pe_int (pa_cons pe_int (pa_cons pe_int pa_nil)))) (pa_cons (pe_tup (pa_cons (pe_op op_add (pe_powN (z := 1000000000) ⟨by decide, by decide, by decide⟩ (by decide +kernel)) pe_int) (pa_cons (pe_op op_add (pe_powN (z := 1000000000) ⟨by decide, by decide, by decide⟩ (by decide +kernel)) pe_int) (pa_cons (pe_powN (z := 1000000000) ⟨by decide, by decide, by decide⟩ (by decide +kernel)) pa_nil)))) pa_nil))))))) (pv 1) (fun _ _ => rfl)))
 (pss_cons (ps_set (i := 3) sc__law_numbers.nd rfl (Or.inl rfl) (pe_call (ok__law_big T) (hr.mono (by decide)) (by rfl) T.g__law_big T.F__law_big.kp T.b__law_big .nil pass0 (pa_cons (pv 0) (pa_cons (pe_ix ix_tup (pv 2) pe_int (fun _ _ => rfl)) pa_nil))))
 (pss_cons (ps_set (i := 4) sc__law_numbers.nd rfl (Or.inl rfl) (pe_call (ok__law_big T) (hr.mono (by decide)) (by rfl) T.g__law_big T.F__law_big.kp T.b__law_big .nil pass0 (pa_cons (pv 0) (pa_cons (pe_ix ix_tup (pv 2) pe_int (fun _ _ => rfl)) pa_nil))))
 (pss_cons (ps_set (i := 5) sc__law_numbers.nd rfl (Or.inl rfl) (pe_op op_add pe_int (pe_call (ok__law_big T) (hr.mono (by decide)) (by rfl) T.g__law_big T.F__law_big.kp T.b__law_big .nil pass0 (pa_cons (pv 0) (pa_cons (pe_ix ix_tup (pv 2) pe_int (fun _ _ => rfl)) pa_nil)))))
 (pss_cons (ps_if (pt_cmpR op_eq (pe_op op_add (pe_op op_mul pe_int (pv 3)) (pv 4)) pe_int (nomark _)) (pss_one (ps_set (i := 4) sc__law_numbers.nd rfl (Or.inl rfl) pe_int))
 pss_nil)
 (pss_one (ps_ret (pe_tup (pa_cons (pv 3) (pa_cons (pv 4) (pa_cons (pv 5) pa_nil)))))))))))), ?_⟩
    repeat walk_at "rd"
    refine ⟨p, q, 6, rfl, hs, by decide, by decide, fun kind H1 k0 k6 hs1 b1 => ?_⟩
    repeat walk_at "rd"
    refine new_at (Nat.le_of_ble_eq_true rfl) (fun t1 H2 n1 s1 e1 => ?_)
    repeat walk_at "rd"
    refine new_at (Nat.le_of_ble_eq_true rfl) (fun t2 H3 n2 s2 e2 => ?_)
    repeat walk_at "rd"
    refine new_at (Nat.le_of_ble_eq_true rfl) (fun t3 H4 n3 s3 e3 => ?_)
    repeat walk_at "rd"
    refine new_at (Nat.le_of_ble_eq_true rfl) (fun t4 H5 n4 s4 e4 => ?_)
    repeat walk_at "rd"
    refine new_at (Nat.le_of_ble_eq_true rfl) (fun t5 H6 n5 s5 e5 => ?_)
    repeat walk_at "rd"
    refine new_at (Nat.le_of_ble_eq_true rfl) (fun t6 H7 n6 s6 e6 => ?_)
    repeat walk_at "rd"
    refine new_at (Nat.le_of_ble_eq_true rfl) (fun tl H8 n7 s7 e7 => ?_)
    obtain ⟨t, A, B, C, hat, et, nt, hA, hB, hC⟩ : ∃ (t : Addr) (A B C : Int), atI [V.ref t1, V.ref t2, V.ref t3, V.ref t4, V.ref t5, V.ref t6] kind = some (.ref t) ∧ H8 t = some (.tup [.int A, .int B, .int C]) ∧ t ≠ p ∧ (1 ≤ A ∧ A ≤ 1000000001) ∧ (1 ≤ B ∧ B ≤ 1000000001) ∧ 1 ≤ C ∧ C ≤ 1000000000 := by
      have hk : kind = 0 ∨ kind = 1 ∨ kind = 2 ∨ kind = 3 ∨ kind = 4 ∨ kind = 5 := by omega
      rcases hk with rfl | rfl | rfl | rfl | rfl | rfl
      · exact ⟨t1, _, _, _, rfl, by walk_at "hp", by walk_at "ne", by decide, by decide, by decide⟩
      · exact ⟨t2, _, _, _, rfl, by walk_at "hp", by walk_at "ne", by decide, by decide, by decide⟩
      · exact ⟨t3, _, _, _, rfl, by walk_at "hp", by walk_at "ne", by decide, by decide, by decide⟩
      · exact ⟨t4, _, _, _, rfl, by walk_at "hp", by walk_at "ne", by decide, by decide, by decide⟩
      · exact ⟨t5, _, _, _, rfl, by walk_at "hp", by walk_at "ne", by decide, by decide, by decide⟩
      · exact ⟨t6, _, _, _, rfl, by walk_at "hp", by walk_at "ne", by decide, by decide, by decide⟩
    have hs8 : SrcAt H8 p q := by walk_at "src"
    have b8 : But p H H8 := b1.trans (But.of_same (s1.trans (s2.trans (s3.trans (s4.trans (s5.trans (s6.trans s7)))))))
    repeat walk_at "rd"
    refine r_ixL e7 hat ?_
    clear e1 e2 e3 e4 e5 e6 s1 s2 s3 s4 s5 s6 s7 n1 n2 n3 n4 n5 n6 b1 hat e7
    repeat walk_at "rd"
    refine ⟨p, q, A, rfl, hs8, by omega, fun o H9 o0 oA hs9 b9 => ?_⟩
    repeat walk_at "rd"
    refine ⟨p, q, B, rfl, hs9, by omega, fun l H10 l0 lB hs10 b10 => ?_⟩
    repeat walk_at "rd"
    refine ⟨p, q, C, rfl, hs10, by omega, fun g H11 g0 gC hs11 b11 => ?_⟩
    have b12 : But p H H11 := ((b8.trans b9).trans b10).trans b11
    repeat walk_at "rd"
    with_reducible refine seq_with (fun σ H' => ∃ (l' : Int), σ = [some (.ref p), some (.int kind), some (.ref t), some (.int o), some (.int l'), some (.int (1 + g))] ∧ H' = H11 ∧ 0 < 2 * o + l' ∧ 0 ≤ l' ∧ l' ≤ 1000000000) ?_ (fun rest => ?_)
    · rintro σ H' ⟨l', rfl, rfl, h1, h2, h3⟩
      repeat walk_at "rd"
      refine new_at (Nat.le_of_ble_eq_true rfl) (fun u H12 nu su eu => ?_)
      have nH : H u = none := b12.free hs11 nu
      exact k u o l' (1 + g) _ ⟨eu, o0, by omega, h2, h3, by omega, by omega, h1⟩ nH (hs11.keep su) (b12.trans (But.of_same su))
    · repeat walk_at "rd"
      refine ite_d (fun hc => ?_) (fun hc => ?_)
      · iterate 3 walk_at "rd"
        exact rest _ _ ⟨1, rfl, rfl, by omega, by omega, by omega⟩
      · walk_at "rd"
        exact rest _ _ ⟨l, rfl, rfl, by omega, by omega, by omega⟩
end

/-! ### integers, machines -/
/-- whether the value is an int and no bool -/
def IntV (K : PySem.W.Frag) (H : Hp) (x : V) (b : Bool) : Prop := ∃ (t : Value) (b1 b2 : Bool), TyX K H x t ∧ PySem.W.kitOne K t (.type "int") = some b1 ∧ PySem.W.kitOne K t (.type "bool") = some b2 ∧ b = (b1 && !b2)
theorem IntV.int {K : PySem.W.Frag} {H : Hp} {i : Int} : IntV K H (.int i) true := ⟨_, true, false, .base (.int i), kit_ty (by decide +kernel), kit_ty (by decide +kernel), rfl⟩
theorem r_isi {K : PySem.W.Frag} {H : Hp} {Q : VK} {x : V} {t : Value} {n : String} {b : Bool} (ty : TyX K H x t) (h : PySem.W.kitOne K t (.type n) = some b) (q : Q (.bl b) H) : rIsi K [x, .ty n] H Q := ⟨_, _, t, .type n, b, rfl, .ty n, ty, h, q⟩
def spIsInteger (K : PySem.W.Frag) : Sp := fun vs H Q _ => ∃ (x : V) (b : Bool), vs = [x] ∧ IntV K H x b ∧ Q (.bl b) H
def spBetween (K : PySem.W.Frag) : Sp := fun vs H Q _ => ∃ (x : V) (lo hi : Int) (b : Bool), vs = [x, .int lo, .int hi] ∧ IntV K H x b ∧ (b = false → Q (.bl false) H) ∧ (b = true → ∃ i, x = .int i ∧ Q (.bl (decide (lo ≤ i ∧ i ≤ hi))) H)
theorem r_between {K : PySem.W.Frag} {H : Hp} {Q : VK} {E : XK} {i lo hi : Int} (q : Q (.bl (decide (lo ≤ i ∧ i ≤ hi))) H) : spBetween K [.int i, .int lo, .int hi] H Q E := ⟨_, lo, hi, true, rfl, IntV.int, (fun z => Bool.noConfusion z), fun _ => ⟨i, rfl, q⟩⟩
/-- the attributes of a machine -/
def mf (o l g : Int) : List (Str × V) := putF "gap" (.int (gapOf o g)) (putF "letter" (.int (2 * o + l)) (putF "g" (.int g) (putF "l" (.int l) (putF "o" (.int o) []))))
def MachAt (C : Addr) (H : Hp) (m : Addr) (o l g : Int) : Prop := ∃ dx, H m = some (.ins C dx (mf o l g))
theorem MachAt.keep {C m : Addr} {H H' : Hp} {o l g : Int} (h : MachAt C H m o l g) (s : Same H H') : MachAt C H' m o l g := let ⟨dx, e⟩ := h; ⟨dx, s _ _ e⟩
theorem mf_o {o l g : Int} : (mf o l g).lookup ("o" : Str) = some (.int o) := by unfold mf; walk_at "lk"
theorem mf_l {o l g : Int} : (mf o l g).lookup ("l" : Str) = some (.int l) := by unfold mf; walk_at "lk"
theorem mf_g {o l g : Int} : (mf o l g).lookup ("g" : Str) = some (.int g) := by unfold mf; walk_at "lk"
theorem mf_letter {o l g : Int} : (mf o l g).lookup ("letter" : Str) = some (.int (2 * o + l)) := by unfold mf; walk_at "lk"
theorem mf_gap {o l g : Int} : (mf o l g).lookup ("gap" : Str) = some (.int (gapOf o g)) := by unfold mf; walk_at "lk"
theorem MachAt.but {C m p : Addr} {H H' : Hp} {o l g : Int} (h : MachAt C H m o l g) (s : But p H H') (n : m ≠ p) : MachAt C H' m o l g := let ⟨dx, e⟩ := h; ⟨dx, s _ _ e n⟩
def spMachine (C : Addr) : Sp := fun vs H Q _ => ∃ (m dx : Addr) (o l g : Int), vs = [.ref m, .int o, .int l, .int g] ∧ H m = some (.ins C dx []) ∧ (0 ≤ o ∧ o ≤ 1000000000) ∧ (0 ≤ l ∧ l ≤ 1000000000) ∧ (1 ≤ g ∧ g ≤ 1000000000) ∧ 0 < 2 * o + l ∧ ∀ H', MachAt C H' m o l g → But m H H' → Q .non H'
local macro_rules | `(tactic| walk_at "lk") => `(tactic| first | exact mf_o | exact mf_l | exact mf_g | exact mf_letter | exact mf_gap)
section
variable {P : Program} {w : World} {K : PySem.W.Frag} {mg : Str → Option Value} {base : Heap} {a : Adr}
theorem ok_is_integer (T : Txt K mg a) : FnOk P w K mg base CX0 1 a.a_is_integer a.d_is_integer ["thing"] (spIsInteger K) := by
  refine T.F_is_integer.ok sc_is_integer (fun vs H Q E h => ?_) (fun cdv A outer s H vs Q E hr h => ?_)
  · obtain ⟨x, b, rfl, _⟩ := h
    rfl
  · obtain ⟨x, b, rfl, ⟨t, b1, b2, ty, h1, h2, rfl⟩, k⟩ := h
    refine ⟨_, (pss_one (ps_ret (pe_and (pe_callB call_isi (by rfl) T.n_isinstance (by decide +kernel) (pa_cons (pv 0) (pa_cons (pe_bltn (v := .ty "int") (u := .type "int") (by rfl) T.n_int (by decide +kernel) rfl) pa_nil))) (pe_one (pe_not (pe_callB call_isi (by rfl) T.n_isinstance (by decide +kernel) (pa_cons (pv 0) (pa_cons (pe_bltn (v := .ty "bool") (u := .type "bool") (by rfl) T.n_bool (by decide +kernel) rfl) pa_nil)))))))), ?_⟩
    repeat walk_at "rd"
    refine r_isi ty h1 ?_
    refine ⟨b1, rfl, ?_⟩
    cases b1 with
    | false => exact iteF k
    | true =>
      repeat walk_at "rd"
      refine r_isi ty h2 ?_
      exact ⟨b2, rfl, k⟩
theorem ok_is_between (T : Txt K mg a) : FnOk P w K mg base CX0 2 a.a_is_between a.d_is_between ["thing", "low", "high"] (spBetween K) := by
  refine T.F_is_between.ok sc_is_between (fun vs H Q E h => ?_) (fun cdv A outer s H vs Q E hr h => ?_)
  · obtain ⟨x, lo, hi, b, rfl, _⟩ := h
    rfl
  · obtain ⟨x, lo, hi, b, rfl, iv, k0, k1⟩ := h
    refine ⟨_, (pss_one (ps_ret (pe_and (pe_call (ok_is_integer T) (hr.mono (by decide)) (by rfl) T.g_is_integer T.F_is_integer.kp T.b_is_integer .nil pass0 (pa_cons (pv 0) pa_nil)) (pe_one (pe_chain op_le op_le (pv 1) (pv 0) (pv 2)))))), ?_⟩
    repeat walk_at "rd"
    refine ⟨x, b, rfl, iv, ?_⟩
    refine ⟨b, rfl, ?_⟩
    cases b with
    | false => exact iteF (k0 rfl)
    | true =>
      obtain ⟨i, rfl, q⟩ := k1 rfl
      repeat walk_at "rd"
      refine ite_d (fun h1 => ?_) (fun h1 => ?_)
      · repeat walk_at "rd"
        rw [decide_eq_decide.mpr (show lo ≤ i ∧ i ≤ hi ↔ i ≤ hi from ⟨fun h => h.2, fun h => ⟨h1, h⟩⟩)] at q
        exact q
      · rw [decide_eq_false (show ¬ (lo ≤ i ∧ i ≤ hi) from fun h => h1 h.1)] at q
        exact q
theorem ok_Machine_init (T : Txt K mg a) : FnOk P w K mg base CX0 3 a.a_Machine_init a.d_Machine_init ["self", "o", "l", "g"] (spMachine a.c_Machine) := by
  refine T.F_Machine_init.ok sc_Machine_init (fun vs H Q E h => ?_) (fun cdv A outer s H vs Q E hr h => ?_)
  · obtain ⟨m, dx, o, l, g, rfl, _⟩ := h
    rfl
  · obtain ⟨m, dx, o, l, g, rfl, hm, ho, hl, hg, hp, k⟩ := h
    refine ⟨_, (pss_cons (ps_if (pt_not (pt_val (pe_call (ok_is_between T) (hr.mono (by decide)) (by rfl) T.g_is_between T.F_is_between.kp T.b_is_between .nil pass0 (pa_cons (pv 1) (pa_cons pe_int (pa_cons (pe_glob (v := .int 1000000000) (by rfl) T.g_GREATEST_PART.choose_spec ⟨_, rfl⟩) pa_nil)))))) (pss_one ps_never)
 pss_nil)
 (pss_cons (ps_if (pt_not (pt_val (pe_call (ok_is_between T) (hr.mono (by decide)) (by rfl) T.g_is_between T.F_is_between.kp T.b_is_between .nil pass0 (pa_cons (pv 2) (pa_cons pe_int (pa_cons (pe_glob (v := .int 1000000000) (by rfl) T.g_GREATEST_PART.choose_spec ⟨_, rfl⟩) pa_nil)))))) (pss_one ps_never)
 pss_nil)
 (pss_cons (ps_if (pt_not (pt_val (pe_call (ok_is_between T) (hr.mono (by decide)) (by rfl) T.g_is_between T.F_is_between.kp T.b_is_between .nil pass0 (pa_cons (pv 3) (pa_cons pe_int (pa_cons (pe_glob (v := .int 1000000000) (by rfl) T.g_GREATEST_PART.choose_spec ⟨_, rfl⟩) pa_nil)))))) (pss_one ps_never)
 pss_nil)
 (pss_cons (ps_if (pt_cmpR op_eq (pe_op op_add (pe_op op_mul pe_int (pv 1)) (pv 2)) pe_int (nomark _)) (pss_one ps_never)
 pss_nil)
 (pss_cons (ps_fld (pv 0) (pv 1) rfl)
 (pss_cons (ps_fld (pv 0) (pv 2) rfl)
 (pss_cons (ps_fld (pv 0) (pv 3) rfl)
 (pss_cons (ps_fld (pv 0) (pe_op op_add (pe_op op_mul pe_int (pv 1)) (pv 2)) rfl)
 (pss_one (ps_fld (pv 0) (pe_callB (call_max2 rfl) (by rfl) T.n_max (by decide +kernel) (pa_cons (pv 1) (pa_cons (pv 3) pa_nil))) rfl)))))))))), ?_⟩
    walk_at "rdi"
    repeat walk_at "rd"
    refine r_between ?_
    repeat walk_at "rd"
    refine r_nD (fun h => absurd ho h) (fun _ => ?_)
    walk_at "rd"
    walk_at "rdi"
    repeat walk_at "rd"
    refine r_between ?_
    repeat walk_at "rd"
    refine r_nD (fun h => absurd hl h) (fun _ => ?_)
    walk_at "rd"
    walk_at "rdi"
    repeat walk_at "rd"
    refine r_between ?_
    repeat walk_at "rd"
    refine r_nD (fun h => absurd hg h) (fun _ => ?_)
    walk_at "rd"
    walk_at "rdi"
    repeat walk_at "rd"
    refine ite_d (fun h => absurd h (by omega)) (fun _ => ?_)
    repeat walk_at "rd"
    refine k _ ⟨dx, ?_⟩ ?_
    · exact upd_same
    · exact But.upd.trans (But.upd.trans (But.upd.trans (But.upd.trans But.upd)))
end

/-! ### own rules: C(..) by a local name, x op y by an own def, targets in a tuple -/
/-- the slot n holds the class at C: a new instance -/
def tMakeL (n : Nat) (C : Addr) (sp : Sp) (dvs : List V) (E : XK) (t : TA) : TE := fun σ H Q => σ[n]? = some (some (.ref C)) ∧ tMake C sp dvs E t σ H Q
/-- x op y, x an instance with a dict, y of a known type -/
def rOwnD (K : PySem.W.Frag) (C : Addr) (sp : Sp) (E : XK) : R2 := fun x y H Q => ∃ m dx fs tb, x = .ref m ∧ H m = some (.ins C dx fs) ∧ TyX K H y tb ∧ PySem.W.notFirst K C tb = true ∧ sp [x, y] H Q E
section
variable {X : Cx} {CX : CXT} {k i : Nat} {f C : Addr} {fd : FuncData} {ps : List Str} {sp : Sp} {dvs : List V} {ds : List Value} {E : XK} {x : Str} {p pos : Pos} {e : Expr} {es : List Expr} {t : TA}
theorem pe_makeL (M : Mk X.K C f) (F : FnOk X.prog X.w X.K X.mg X.base CX k f fd ps sp) (hr : Room (k + 1) X.A) (hN : X.N[i]? = some x) (hv : Vis X.env.scope x) (hb : Binds X.K fd ps ds) (hd : Vals dvs ds) (hx : Passes CX X E) (ha : PA X (e :: es) t)
    (hdb : (x == ("__debug__" : Str)) = false := by decide) (hcd : (x == ("__classdict__" : Str)) = false := by decide)
    (he : starEach (e :: es) X.env = (false, eval e X.env) :: starEach es X.env := by rfl) (hpl : (backTo pos (starEach es X.env)).any (·.1) = false := by rfl) : PE X (.Call (.Name x p) (e :: es) [] pos) (tMakeL i C sp dvs E t) := by
  refine ⟨fun pins s σ H Q I h => wpAny_Call_Name_kw (thn ((pe_var (pos := p) hN hv hdb hcd).run pins s σ H (fun v H1 => v = .ref C ∧ H1 = H) I ⟨.ref C, h.1, rfl, rfl⟩) fun u s1 g => ?_)⟩
  obtain ⟨v, H1, J, r1, rfl, rfl⟩ := g
  cases r1
  exact PySem.W.callWith_K (h₀ := X.base) J.ok.mod.kin M.kp (thn (ha.run pos pins s1 σ _ _ J h.2) fun us s2 ⟨vs, H2, J2, r, q⟩ => ⟨J2.kIn, run_make M F hr hb hd hx J2 r q⟩) he hpl
theorem op_ownD {op : CmpOp} {g : Addr} {n : Nat} (hop : ∀ a b, compareOp op a b = richCompare op a b) (hs : PySem.W.findIn X.K (.ref C) (cmpInfo op).2.1 = some (some (.ref g))) (hf : PySem.W.isFn X.K (.ref g) = true) (F : FnR X.prog X.w X.K X.mg X.base CX n g sp)
    (hr : Room n X.A) (hx : Passes CX X E) : OpR X (compareOp op) (rOwnD X.K C sp E) := by
  intro pins s σ H x y v u Q I rx ry h
  obtain ⟨m, dx, fs, tb, rfl, hm, ty, hn, q⟩ := h
  obtain rfl : v = Value.ref m := rx
  obtain ⟨mA, J, _⟩ := ins_get I.hok hm
  obtain ⟨od, J, _⟩ := J.look
  obtain ⟨Pk, Z, pz, _⟩ := kit_of I ry ty
  obtain ⟨mF, hF⟩ := I.fr
  rw [hop]
  refine PySem.W.cmp_K (op := op) (tb := tb) hr.units0 hF I.ok.mod.kin J (Z.ty _ _ I.kIn pz) hn hs hf ?_
  refine wpAny_mono (wpAny_call (run_fnR (us := [.ref m, u]) (vs := [.ref m, y]) F hr hx I (.cons rfl (.cons ry .nil)) q)) (fun w s' z => ?_) fun _ _ x => x
  exact (let ⟨z', H', I', rz, qz⟩ := z; SlX.cmpback rz ⟨z', H', I', rz, qz⟩)
end
theorem kit_self {K : PySem.W.Frag} {C : Addr} : PySem.W.kitOne K (.ref C) (.ref C) = some true := by
  unfold PySem.W.kitOne
  rw [if_pos (by simp)]
theorem kit_no {K : PySem.W.Frag} {C : Addr} {n : String} (h1 : PySem.W.isClsIn K C = true) (h2 : PySem.W.typeIn K (.ref C) = some (.type "type")) (h3 : PySem.W.subIn K (.type n) (.ref C) = some false) : PySem.W.kitOne K (.type n) (.ref C) = some false := by
  have e : ((PySem.W.clsIn K C).isSome && PySem.W.typeIn K (.ref C) == some (.type "type")) = true := by
    rw [show (PySem.W.clsIn K C).isSome = true from h1, h2]
    rfl
  unfold PySem.W.kitOne
  rw [if_neg (by simp)]
  show (if ((PySem.W.clsIn K C).isSome && PySem.W.typeIn K (.ref C) == some (.type "type")) = true then PySem.W.subIn K (.type n) (.ref C) else none) = some false
  rw [if_pos e]
  exact h3
theorem nf_self {K : PySem.W.Frag} {C : Addr} : PySem.W.notFirst K C (.ref C) = true := by
  unfold PySem.W.notFirst
  simp
theorem nf_no {K : PySem.W.Frag} {C : Addr} {n : String} (h3 : PySem.W.subIn K (.type n) (.ref C) = some false) : PySem.W.notFirst K C (.type n) = true := by
  unfold PySem.W.notFirst
  rw [h3]
  simp
section
variable {K : PySem.W.Frag} {σ : St} {H : Hp} {Q : VK} {R : St → Hp → Prop} {n : Nat} {v : V} {vs : List V}
theorem r_gTup {t : TGs} {p : Addr} (h : H p = some (.tup vs)) (hl : vs.length = n) (q : t vs σ H R) : gTup K n t (.ref p) σ H R := ⟨p, vs, rfl, SqT.of h, hl, q⟩
theorem r_gCons {t : TG} {u : TGs} (h : t v σ H fun σ' H' => u vs σ' H' R) : gCons t u (v :: vs) σ H R := ⟨v, vs, rfl, h⟩
theorem r_gNil (h : R σ H) : gNil [] σ H R := ⟨rfl, h⟩
theorem r_nDT {c A B : Prop} [Decidable c] (hc : c) (h : B) : if (!decide c) = true then A else B := r_nD (fun z => absurd hc z) fun _ => h
theorem r_neB {a b : Bool} (q : Q (.bl (!decide (a = b))) H) : rNe (.bl a) (.bl b) H Q := ⟨rfl, by
  have e : decide (V.bl a = V.bl b) = decide (a = b) := by cases a <;> cases b <;> decide
  rw [e]; exact q⟩
theorem r_isB {a b : Bool} (q : Q (.bl (decide (a = b))) H) : rIsB (.bl a) (.bl b) H Q := ⟨a, b, rfl, rfl, q⟩
theorem r_notB {a b : Bool} (q : Q (.bl (!decide (a = b))) H) : rNotB (.bl a) (.bl b) H Q := ⟨a, b, rfl, rfl, q⟩
theorem r_dnew (k : ∀ p H', H p = none → Same H H' → H' p = some (.dK []) → Q (.ref p) H') : tDNewK σ H Q := new_of k
theorem r_makeL {C : Addr} {sp : Sp} {dvs : List V} {E : XK} {t : TA} (e : σ[n]? = some (some (.ref C))) (h : tMake C sp dvs E t σ H Q) : tMakeL n C sp dvs E t σ H Q := ⟨e, h⟩
theorem r_cmeth {C : Addr} {sp : Sp} {E : XK} {t : TA} (h : t σ H fun vs H2 => sp (.ref C :: vs) H2 Q E) : ClX.tCMeth C sp E (tC (.ref C)) t σ H Q := ⟨rfl, h⟩
theorem eq_ints {xs ys : List Int} : PyData.eqvAll (xs.map PyData.int) (ys.map PyData.int) = decide (xs = ys) := by
  induction xs generalizing ys with
  | nil => cases ys <;> rfl
  | cons x xs ih =>
    cases ys with
    | nil => rfl
    | cons y ys =>
      show (PyData.eqv (.int x) (.int y) && PyData.eqvAll (xs.map PyData.int) (ys.map PyData.int)) = _
      rw [ih]
      show ((x == y) && decide (xs = ys)) = _
      by_cases h : x = y
      · subst h; simp
      · simp [h]
theorem dp_ints (xs : List Int) : DpAll K H (xs.map V.int) (xs.map PyData.int) := by
  induction xs with
  | nil => exact .nil
  | cons x xs ih => exact .cons (.int x) ih
/-- == of two tuples of ints -/
theorem r_eqT {p q : Addr} {xs ys : List Int} (h1 : H p = some (.tup (xs.map V.int))) (h2 : H q = some (.tup (ys.map V.int))) (s1 : SeqAt.shaped (.tuple (xs.map PyData.int)) = true) (s2 : SeqAt.shaped (.tuple (ys.map PyData.int)) = true)
    (k : Q (.bl (decide (xs = ys))) H) : rEqD K (.ref p) (.ref q) H Q := ⟨_, _, .tup (SqT.of h1) (dp_ints xs), .tup (SqT.of h2) (dp_ints ys), s1, s2, by
  show Q (.bl (PyData.eqvAll (xs.map PyData.int) (ys.map PyData.int))) H
  rw [eq_ints]; exact k⟩
end

local macro_rules | `(tactic| walk_at "rd") => `(tactic| with_reducible first
  | (refine' r_gTup ?hp ?hl ?_; (case hp => walk_at "hp"); (case hl => with_unfolding_all exact rfl))
  | refine r_gCons ?_
  | refine r_gNil ?_
  | refine r_nDT rfl ?_
  | refine r_neB ?_
  | refine r_isB ?_
  | refine r_notB ?_
  | refine r_cmeth ?_
  | (refine' r_makeL ?he ?_; (case he => with_unfolding_all exact rfl))
  | refine r_isiB true (by decide +kernel) ?_
  | refine r_isiB false (by decide +kernel) ?_
  | refine r_andV ?_)

/-! ### the defs of the law -/
theorem r_Machine {C : Addr} {H : Hp} {Q : VK} {E : XK} {o l g : Int} (ho : 0 ≤ o ∧ o ≤ 1000000000) (hl : 0 ≤ l ∧ l ≤ 1000000000) (hg : 1 ≤ g ∧ g ≤ 1000000000) (hp : 0 < 2 * o + l) (k : ∀ m H', H m = none → MachAt C H' m o l g → Same H H' → Q (.ref m) H') :
    MakeAt C (spMachine C) ([.int o, .int l, .int g] ++ []) E H Q :=
  fun x dx nx nd _ => ⟨x, dx, o, l, g, rfl, upd_same, ho, hl, hg, hp, fun H' hm bt => ⟨rfl, k x H' nx hm (Same.made nx nd bt)⟩⟩
def spParts (C : Addr) : Sp := fun vs H Q _ => ∃ (m t : Addr) (o l g : Int), vs = [.ref m, .ref t] ∧ MachAt C H m o l g ∧ H t = some (.tup [.int o, .int l, .int g]) ∧ ∀ H', Same H H' → Q (.bl true) H'
def spOf (C : Addr) : Sp := fun vs H Q _ => ∃ (l g : Int), vs = [.ref C, .int l, .int g] ∧ (1 ≤ l ∧ l ≤ 1000000000) ∧ (1 ≤ g ∧ g ≤ 1000000000) ∧ ∀ m H', H m = none → MachAt C H' m 0 l g → Same H H' → Q (.ref m) H'
def spEqM (K : PySem.W.Frag) (C : Addr) : Sp := fun vs H Q _ => ∃ (m : Addr) (y : V) (o l g : Int) (t : Value) (b : Bool), vs = [.ref m, y] ∧ MachAt C H m o l g ∧ TyX K H y t ∧ PySem.W.kitOne K t (.ref C) = some b ∧ (b = false → Q (.bl false) H) ∧
  (b = true → ∃ (m' : Addr) (o' l' g' : Int), y = .ref m' ∧ MachAt C H m' o' l' g' ∧ Q (.bl (decide ([o, l, g] = [o', l', g']))) H)
def spOther : Sp := fun vs H Q _ => ∃ (p q t : Addr) (o l g : Int), vs = [.ref p, .ref t] ∧ SrcAt H p q ∧ NumAt H t o l g ∧ t ≠ p ∧ ∀ (u : Addr) (o' l' g' : Int) (H' : Hp), NumAt H' u o' l' g' → H u = none → SrcAt H' p q → But p H H' → Q (.ref u) H'
def spLaw (K : PySem.W.Frag) : Sp := fun vs H Q _ => ∃ (b : Addr) (ns : List Int), vs = [.ref b] ∧ SqL K H b (ns.map V.int) ∧ ns.length ≤ 63 ∧ ∀ H', Q (.bl true) H'
theorem r_eqMM {K : PySem.W.Frag} {mg : Str → Option Value} {a : Adr} (T : Txt K mg a) {H : Hp} {Q : VK} {E : XK} {m m' : Addr} {o l g o' l' g' : Int} (h1 : MachAt a.c_Machine H m o l g) (h2 : MachAt a.c_Machine H m' o' l' g') (q : Q (.bl (decide ([o, l, g] = [o', l', g']))) H) :
    rOwnD K a.c_Machine (fun vs H Q E => spEqM K a.c_Machine (vs ++ []) H Q E) E (.ref m) (.ref m') H Q := by
  obtain ⟨dx, e1⟩ := id h1
  obtain ⟨dy, e2⟩ := id h2
  have ty : TyX K H (.ref m') (.ref a.c_Machine) := .base (.ins e2 T.cl_Machine T.ca_Machine T.cg_Machine T.ct_Machine T.co_Machine)
  exact ⟨m, dx, _, _, rfl, e1, ty, nf_self, m, _, o, l, g, _, true, rfl, h1, ty, kit_self, fun z => Bool.noConfusion z, fun _ => ⟨m', o', l', g', rfl, h2, q⟩⟩
theorem r_eqMT {K : PySem.W.Frag} {mg : Str → Option Value} {a : Adr} (_ : Txt K mg a) {H : Hp} {Q : VK} {E : XK} {m : Addr} {y : V} {n : String} {o l g : Int} (h1 : MachAt a.c_Machine H m o l g) (ty : TyX K H y (.type n))
    (hk : PySem.W.kitOne K (.type n) (.ref a.c_Machine) = some false) (hn : PySem.W.notFirst K a.c_Machine (.type n) = true) (q : Q (.bl false) H) : rOwnD K a.c_Machine (fun vs H Q E => spEqM K a.c_Machine (vs ++ []) H Q E) E (.ref m) y H Q := by
  obtain ⟨dx, e1⟩ := id h1
  exact ⟨m, dx, _, _, rfl, e1, ty, hn, m, _, o, l, g, _, false, rfl, h1, ty, hk, fun _ => q, fun z => Bool.noConfusion z⟩
section
variable {P : Program} {w : World} {K : PySem.W.Frag} {mg : Str → Option Value} {base : Heap} {a : Adr}
theorem ok__law_parts (T : Txt K mg a) : FnOk P w K mg base CX0 2 a.a__law_parts a.d__law_parts ["_law_machine", "_law_numbers_here"] (spParts a.c_Machine) := by
  refine T.F__law_parts.ok sc__law_parts (fun vs H Q E h => ?_) (fun cdv A outer s H vs Q E hr h => ?_)
  · obtain ⟨m, t, o, l, g, rfl, _⟩ := h
    rfl
  · obtain ⟨m, t, o, l, g, rfl, ⟨dx, hm⟩, ht, k⟩ := h
    refine ⟨_, (pss_cons (ps_asg (pe_call (ok__law_times T) (hr.mono (by decide)) (by rfl) T.g__law_times T.F__law_times.kp T.b__law_times .nil pass0 (pa_cons (pv 1) pa_nil)) (pg_tup (by rfl) (pgs_cons (pg_name (i := 2) sc__law_parts.nd rfl (Or.inl rfl)) (pgs_cons (pg_name (i := 3) sc__law_parts.nd rfl (Or.inl rfl)) pgs_nil))))
 (pss_cons (ps_if (PW.pt (pw_or (pt_not (pt_val (pe_call (ok__law_is T) (hr.mono (by decide)) (by rfl) T.g__law_is T.F__law_is.kp T.b__law_is .nil pass0 (pa_cons (pe_fld (pv 0) rfl) (pa_cons (pe_ix ix_tup (pv 1) pe_int (fun _ _ => rfl)) pa_nil))))) (pw_or1 (pt_not (pt_val (pe_call (ok__law_is T) (hr.mono (by decide)) (by rfl) T.g__law_is T.F__law_is.kp T.b__law_is .nil pass0 (pa_cons (pe_fld (pv 0) rfl) (pa_cons (pe_ix ix_tup (pv 1) pe_int (fun _ _ => rfl)) pa_nil)))))))) (pss_one (ps_ret pe_bl))
 pss_nil)
 (pss_cons (ps_if (PW.pt (pw_or (pt_not (pt_val (pe_call (ok__law_is T) (hr.mono (by decide)) (by rfl) T.g__law_is T.F__law_is.kp T.b__law_is .nil pass0 (pa_cons (pe_fld (pv 0) rfl) (pa_cons (pe_ix ix_tup (pv 1) pe_int (fun _ _ => rfl)) pa_nil))))) (pw_or1 (pt_not (pt_val (pe_call (ok__law_is T) (hr.mono (by decide)) (by rfl) T.g__law_is T.F__law_is.kp T.b__law_is .nil pass0 (pa_cons (pe_fld (pv 0) rfl) (pa_cons (pv 2) pa_nil)))))))) (pss_one (ps_ret pe_bl))
 pss_nil)
 (pss_one (ps_ret (pe_call (ok__law_is T) (hr.mono (by decide)) (by rfl) T.g__law_is T.F__law_is.kp T.b__law_is .nil pass0 (pa_cons (pe_fld (pv 0) rfl) (pa_cons (pv 3) pa_nil)))))))), ?_⟩
    repeat walk_at "rd"
    refine ⟨t, o, l, g, rfl, ht, fun u H1 nu s1 e1 => ?_⟩
    repeat walk_at "rd"
    walk_at "rdi"
    repeat walk_at "rd"
    refine ⟨_, _, rfl, ?_⟩
    repeat walk_at "rd"
    refine ⟨_, _, rfl, ?_⟩
    repeat walk_at "rd"
    walk_at "rdi"
    repeat walk_at "rd"
    refine ⟨_, _, rfl, ?_⟩
    repeat walk_at "rd"
    refine ⟨_, _, rfl, ?_⟩
    repeat walk_at "rd"
    refine ⟨_, _, rfl, ?_⟩
    rw [decide_eq_true rfl]
    exact k _ s1
theorem ok_Machine_of (T : Txt K mg a) : FnOk P w K mg base CX0 5 a.a_Machine_of a.d_Machine_of ["cls", "letter", "gap"] (spOf a.c_Machine) := by
  refine T.F_Machine_of.ok sc_Machine_of (fun vs H Q E h => ?_) (fun cdv A outer s H vs Q E hr h => ?_)
  · obtain ⟨l, g, rfl, _⟩ := h
    rfl
  · obtain ⟨l, g, rfl, hl, hg, k⟩ := h
    refine ⟨_, (pss_cons (ps_if (pt_not (pt_val (pe_call (ok_is_between T) (hr.mono (by decide)) (by rfl) T.g_is_between T.F_is_between.kp T.b_is_between .nil pass0 (pa_cons (pv 1) (pa_cons pe_int (pa_cons (pe_glob (v := .int 1000000000) (by rfl) T.g_GREATEST_PART.choose_spec ⟨_, rfl⟩) pa_nil)))))) (pss_one ps_never)
 pss_nil)
 (pss_cons (ps_if (pt_not (pt_val (pe_call (ok_is_between T) (hr.mono (by decide)) (by rfl) T.g_is_between T.F_is_between.kp T.b_is_between .nil pass0 (pa_cons (pv 2) (pa_cons pe_int (pa_cons (pe_glob (v := .int 1000000000) (by rfl) T.g_GREATEST_PART.choose_spec ⟨_, rfl⟩) pa_nil)))))) (pss_one ps_never)
 pss_nil)
 (pss_one (ps_ret (pe_makeL T.mk_Machine (ok_Machine_init T) (hr.mono (by decide)) (i := 0) rfl (Or.inl rfl) T.b_Machine_init .nil pass0 (pa_cons pe_int (pa_cons (pv 1) (pa_cons (pv 2) pa_nil)))))))), ?_⟩
    walk_at "rdi"
    repeat walk_at "rd"
    refine r_between ?_
    repeat walk_at "rd"
    refine r_nDT hl ?_
    walk_at "rd"
    walk_at "rdi"
    repeat walk_at "rd"
    refine r_between ?_
    repeat walk_at "rd"
    refine r_nDT hg ?_
    repeat walk_at "rd"
    refine r_Machine (by decide) (by omega) (by omega) (by omega) (fun m H' nm hm s1 => ?_)
    exact k m H' nm hm s1
theorem ok_Machine_eq (T : Txt K mg a) : FnOk P w K mg base CX0 1 a.a_Machine_eq a.d_Machine_eq ["self", "other"] (spEqM K a.c_Machine) := by
  refine T.F_Machine_eq.ok sc_Machine_eq (fun vs H Q E h => ?_) (fun cdv A outer s H vs Q E hr h => ?_)
  · obtain ⟨m, y, o, l, g, t, b, rfl, _⟩ := h
    rfl
  · obtain ⟨m, y, o, l, g, t, b, rfl, ⟨dx, hm⟩, ty, hk, k0, k1⟩ := h
    refine ⟨_, (pss_one (ps_ret (pe_and (pe_callB call_isi (by rfl) T.n_isinstance (by decide +kernel) (pa_cons (pv 1) (pa_cons (pe_glob (v := .ref a.c_Machine) (by rfl) T.g_Machine rfl) pa_nil))) (pe_and (pe_cmpR op_eq (pe_fld (pv 0) rfl) (pe_fld (pv 1) rfl) (nomark _)) (pe_and (pe_cmpR op_eq (pe_fld (pv 0) rfl) (pe_fld (pv 1) rfl) (nomark _)) (pe_one (pe_cmpR op_eq (pe_fld (pv 0) rfl) (pe_fld (pv 1) rfl) (nomark _)))))))), ?_⟩
    repeat walk_at "rd"
    refine ⟨_, _, t, .ref a.c_Machine, b, rfl, .own _, ty, hk, b, rfl, ?_⟩
    cases b with
    | false => exact iteF (k0 rfl)
    | true =>
      obtain ⟨m', o', l', g', rfl, ⟨dy, hm'⟩, q⟩ := k1 rfl
      repeat walk_at "rd"
      refine ite_d (fun h1 => ?_) (fun h1 => ?_)
      · repeat walk_at "rd"
        refine ite_d (fun h2 => ?_) (fun h2 => ?_)
        · repeat walk_at "rd"
          subst h1 h2
          rw [decide_eq_decide.mpr (show ([o, l, g] = [o, l, g'] ↔ g = g') by simp)] at q
          exact q
        · rw [decide_eq_false (by simp [h2])] at q
          exact q
      · rw [decide_eq_false (by simp [h1])] at q
        exact q
theorem ok__law_other (T : Txt K mg a) : FnOk P w K mg base CX0 4 a.a__law_other a.d__law_other ["_law_source_here", "_law_numbers_here"] spOther := by
  refine T.F__law_other.ok sc__law_other (fun vs H Q E h => ?_) (fun cdv A outer s H vs Q E hr h => ?_)
  · obtain ⟨p, q, t, o, l, g, rfl, _⟩ := h
    rfl
  · obtain ⟨p, q, t, o, l, g, rfl, hs, N, ntp, k⟩ := h
    refine ⟨_, (pss_cons (ps_set (i := 2) sc__law_other.nd rfl (Or.inl rfl) (pe_call (ok__law_draw T) (hr.mono (by decide)) (by rfl) T.g__law_draw T.F__law_draw.kp T.b__law_draw .nil pass0 (pa_cons (pv 0) (pa_cons pe_int pa_nil))))
 (pss_cons (ps_set (i := 3) sc__law_other.nd rfl (Or.inl rfl) (pe_callTy cr_list (by rfl) T.n_list (by decide +kernel) (pa_cons (pv 1) pa_nil)))
 (pss_cons (ps_if (pt_cmpR op_lt (pv 2) pe_int (nomark _)) (pss_one (ps_asg (pe_ix ix_tup (pe_call (ok__law_numbers T) (hr.mono (by decide)) (by rfl) T.g__law_numbers T.F__law_numbers.kp T.b__law_numbers .nil pass0 (pa_cons (pv 0) pa_nil)) (pv 2) (fun _ _ => rfl)) (pg_sub (pv 3) (pv 2) set_list)))
 pss_nil)
 (pss_cons (ps_if (pt_cmpR op_eq (pe_op op_add (pe_op op_mul pe_int (pe_ix ix_list (pv 3) pe_int (fun _ _ => rfl))) (pe_ix ix_list (pv 3) pe_int (fun _ _ => rfl))) pe_int (nomark _)) (pss_one (ps_asg pe_int (pg_sub (pv 3) pe_int set_list)))
 pss_nil)
 (pss_one (ps_ret (pe_callTy cr_tup (by rfl) T.n_tuple (by decide +kernel) (pa_cons (pv 3) pa_nil)))))))), ?_⟩
    repeat walk_at "rd"
    refine ⟨p, q, 4, rfl, hs, by decide, by decide, fun place H1 p0 p4 hs1 b1 => ?_⟩
    have et : H1 t = some (.tup [.int o, .int l, .int g]) := b1 _ _ N.at_ ntp
    repeat walk_at "rd"
    refine r_listT et (fun u H2 nu s2 e2 => ?_)
    have nup : u ≠ p := hs1.ne nu
    repeat walk_at "rd"
    have nuq : u ≠ q := hs1.neq nu
    with_reducible refine seq_with (fun σ H3 => ∃ (o' l' g' : Int), σ = [some (.ref p), some (.ref t), some (.int place), some (.ref u)] ∧ H3 u = some (.lst [.int o', .int l', .int g']) ∧ SrcAt H3 p q ∧ But p H1 H3 ∧
      (0 ≤ o' ∧ o' ≤ 1000000000) ∧ (0 ≤ l' ∧ l' ≤ 1000000000) ∧ (1 ≤ g' ∧ g' ≤ 1000000000)) ?_ (fun rest => ?_)
    · rintro σ H3 ⟨o', l', g', rfl, e3, hs3, b3, ho, hl, hg⟩
      with_reducible refine seq_with (fun σ H4 => ∃ (o' l' g' : Int), σ = [some (.ref p), some (.ref t), some (.int place), some (.ref u)] ∧ H4 u = some (.lst [.int o', .int l', .int g']) ∧ SrcAt H4 p q ∧ But p H1 H4 ∧
        (0 ≤ o' ∧ o' ≤ 1000000000) ∧ (0 ≤ l' ∧ l' ≤ 1000000000) ∧ (1 ≤ g' ∧ g' ≤ 1000000000) ∧ 0 < 2 * o' + l') ?_ (fun rest => ?_)
      · rintro σ H4 ⟨o', l', g', rfl, e4, hs4, b4, ho, hl, hg, hp⟩
        repeat walk_at "rd"
        refine r_tupL e4 (fun v H5 nv s5 e5 => ?_)
        have b5 := (b1.trans b4).trans (But.of_same s5)
        have nH : H v = none := (b1.trans b4).free hs4 nv
        exact k v o' l' g' _ ⟨e5, ho.1, ho.2, hl.1, hl.2, hg.1, hg.2, hp⟩ nH (hs4.keep s5) b5
      · repeat walk_at "rd"
        refine ite_d (fun h => ?_) (fun h => ?_)
        · iterate 6 walk_at "rd"
          exact rest _ _ ⟨o', 1, g', rfl, upd_same, hs3.upd nup nuq, fun b o hb hn => (upd_ne (ne_of_none hb nu)).trans (b3 b o hb hn), ho, by decide, hg, by omega⟩
        · walk_at "rd"
          exact rest _ _ ⟨o', l', g', rfl, e3, hs3, b3, ho, hl, hg, by omega⟩
    · repeat walk_at "rd"
      refine ite_d (fun h => ?_) (fun h => ?_)
      · repeat walk_at "rd"
        refine ⟨p, q, rfl, hs1.keep s2, fun v o2 l2 g2 H3 N3 nv hs3 b3 => ?_⟩
        have e3 : H3 u = some (HO.lst [V.int o, V.int l, V.int g]) := b3 _ _ e2 nup
        have bb : ∀ o', But p H1 (upd H3 u o') := fun o' b x hb hn => (upd_ne (ne_of_none hb nu)).trans (b3 b x (s2 _ _ hb) hn)
        have hk : place = 0 ∨ place = 1 ∨ place = 2 := by omega
        obtain ⟨e4, o0, o9, l0, l9, g1, g9, pz⟩ := N3
        rcases hk with rfl | rfl | rfl
        · repeat walk_at "rd"
          exact rest _ _ ⟨o2, l, g, rfl, upd_same, hs3.upd nup nuq, bb _, ⟨o0, o9⟩, ⟨N.l0, N.l9⟩, ⟨N.g1, N.g9⟩⟩
        · repeat walk_at "rd"
          exact rest _ _ ⟨o, l2, g, rfl, upd_same, hs3.upd nup nuq, bb _, ⟨N.o0, N.o9⟩, ⟨l0, l9⟩, ⟨N.g1, N.g9⟩⟩
        · repeat walk_at "rd"
          exact rest _ _ ⟨o, l, g2, rfl, upd_same, hs3.upd nup nuq, bb _, ⟨N.o0, N.o9⟩, ⟨N.l0, N.l9⟩, ⟨g1, g9⟩⟩
      · walk_at "rd"
        exact rest _ _ ⟨o, l, g, rfl, e2, hs1.keep s2, But.of_same s2, ⟨N.o0, N.o9⟩, ⟨N.l0, N.l9⟩, ⟨N.g1, N.g9⟩⟩
theorem ok_law (T : Txt K mg a) : FnOk P w K mg base CX0 9 a.a_law a.d_law ["_law_script"] (spLaw K) := by
  refine T.F_law.ok sc_law (fun vs H Q E h => ?_) (fun cdv A outer s H vs Q E hr h => ?_)
  · obtain ⟨b, ns, rfl, _⟩ := h
    rfl
  · obtain ⟨b, ns, rfl, hS, hl, k⟩ := h
    refine ⟨_, (pss_cons (ps_set (i := 1) sc_law.nd rfl (Or.inl rfl) (pe_call (ok__law_source T) (hr.mono (by decide)) (by rfl) T.g__law_source T.F__law_source.kp T.b__law_source .nil pass0 (pa_cons (pv 0) pa_nil)))
 (pss_cons (ps_for PassesOwn.never rfl (pi_range1 (by rfl) T.n_range (pa_cons pe_int pa_nil)) (pg_name (i := 2) sc_law.nd rfl (Or.inl rfl))
 (pss_cons (ps_set (i := 3) sc_law.nd rfl (Or.inl rfl) (pe_call (ok__law_numbers T) (hr.mono (by decide)) (by rfl) T.g__law_numbers T.F__law_numbers.kp T.b__law_numbers .nil pass0 (pa_cons (pv 1) pa_nil)))
 (pss_cons (ps_set (i := 4) sc_law.nd rfl (Or.inl rfl) (pe_call (ok__law_other T) (hr.mono (by decide)) (by rfl) T.g__law_other T.F__law_other.kp T.b__law_other .nil pass0 (pa_cons (pv 1) (pa_cons (pv 3) pa_nil))))
 (pss_cons (ps_set (i := 5) sc_law.nd rfl (Or.inl rfl) (pe_make T.mk_Machine (ok_Machine_init T) (hr.mono (by decide)) (by rfl) T.g_Machine T.b_Machine_init .nil pass0 (pa_cons (pe_ix ix_tup (pv 3) pe_int (fun _ _ => rfl)) (pa_cons (pe_ix ix_tup (pv 3) pe_int (fun _ _ => rfl)) (pa_cons (pe_ix ix_tup (pv 3) pe_int (fun _ _ => rfl)) pa_nil)))))
 (pss_cons (ps_set (i := 6) sc_law.nd rfl (Or.inl rfl) (pe_make T.mk_Machine (ok_Machine_init T) (hr.mono (by decide)) (by rfl) T.g_Machine T.b_Machine_init .nil pass0 (pa_cons (pe_ix ix_tup (pv 4) pe_int (fun _ _ => rfl)) (pa_cons (pe_ix ix_tup (pv 4) pe_int (fun _ _ => rfl)) (pa_cons (pe_ix ix_tup (pv 4) pe_int (fun _ _ => rfl)) pa_nil)))))
 (pss_cons (ps_if (PW.pt (pw_or (pt_not (pt_val (pe_call (ok__law_parts T) (hr.mono (by decide)) (by rfl) T.g__law_parts T.F__law_parts.kp T.b__law_parts .nil pass0 (pa_cons (pv 5) (pa_cons (pv 3) pa_nil))))) (pw_or1 (pt_not (pt_val (pe_call (ok__law_parts T) (hr.mono (by decide)) (by rfl) T.g__law_parts T.F__law_parts.kp T.b__law_parts .nil pass0 (pa_cons (pv 6) (pa_cons (pv 4) pa_nil)))))))) (pss_one (ps_ret pe_bl))
 pss_nil)
 (pss_cons (ps_for PassesOwn.never rfl (pi_list (pe_lst (pa_cons (pe_cmpR (op_ownD (fun _ _ => rfl) T.e_Machine_eq T.i_Machine_eq ((ok_Machine_eq T).raw T.b_Machine_eq .nil) (hr.mono (by decide)) pass0) (pv 5) (pv 6) (nomark _)) (pa_cons (pe_cmpR (op_ownD (fun _ _ => rfl) T.e_Machine_eq T.i_Machine_eq ((ok_Machine_eq T).raw T.b_Machine_eq .nil) (hr.mono (by decide)) pass0) (pv 6) (pv 5) (nomark _)) pa_nil)))) (pg_name (i := 7) sc_law.nd rfl (Or.inl rfl))
 (pss_one (ps_if (PW.pt (pw_or (pt_not (pt_val (pe_callB call_isi (by rfl) T.n_isinstance (by decide +kernel) (pa_cons (pv 7) (pa_cons (pe_bltn (v := .ty "bool") (u := .type "bool") (by rfl) T.n_bool (by decide +kernel) rfl) pa_nil))))) (pw_or1 (pt_cmpR op_ne (pv 7) (pe_cmpR (op_eqD hr.units) (pv 3) (pv 4) (nomark _)) (nomark _))))) (pss_one (ps_ret pe_bl))
 pss_nil)))
 (pss_cons (ps_for PassesOwn.never rfl (pi_list (pe_lst (pa_cons pe_non (pa_cons (pv 3) (pa_cons (pe_callTy cr_list (by rfl) T.n_list (by decide +kernel) (pa_cons (pv 3) pa_nil)) (pa_cons pe_str (pa_cons (pe_ix ix_tup (pv 3) pe_int (fun _ _ => rfl)) (pa_cons pe_bl (pa_cons (pe_lst (pa_cons (pv 5) pa_nil)) (pa_cons pe_dnewK pa_nil)))))))))) (pg_name (i := 8) sc_law.nd rfl (Or.inl rfl))
 (pss_one (ps_if (pt_cmpR op_notBl (pe_cmpR (op_ownD (fun _ _ => rfl) T.e_Machine_eq T.i_Machine_eq ((ok_Machine_eq T).raw T.b_Machine_eq .nil) (hr.mono (by decide)) pass0) (pv 5) (pv 8) (nomark _)) pe_bl (nomark _)) (pss_one (ps_ret pe_bl))
 pss_nil)))
 (pss_cons (ps_set (i := 9) sc_law.nd rfl (Or.inl rfl) (pe_op op_add pe_int (pe_call (ok__law_big T) (hr.mono (by decide)) (by rfl) T.g__law_big T.F__law_big.kp T.b__law_big .nil pass0 (pa_cons (pv 1) (pa_cons (pe_powN (z := 1000000000) ⟨by decide, by decide, by decide⟩ (by decide +kernel)) pa_nil)))))
 (pss_cons (ps_set (i := 10) sc_law.nd rfl (Or.inl rfl) (pe_op op_add pe_int (pe_call (ok__law_big T) (hr.mono (by decide)) (by rfl) T.g__law_big T.F__law_big.kp T.b__law_big .nil pass0 (pa_cons (pv 1) (pa_cons (pe_powN (z := 1000000000) ⟨by decide, by decide, by decide⟩ (by decide +kernel)) pa_nil)))))
 (pss_cons (ps_if (pt_cmpR op_gt (pv 2) pe_int (nomark _)) (pss_cons (ps_set (i := 9) sc_law.nd rfl (Or.inl rfl) (pe_op op_add pe_int (pe_op op_modN (pe_callTy call_int1 (by rfl) T.n_int (by decide +kernel) (pa_cons (pv 9) pa_nil)) pe_int)))
 (pss_one (ps_set (i := 10) sc_law.nd rfl (Or.inl rfl) (pe_op op_add pe_int (pe_op op_modN (pe_callTy call_int1 (by rfl) T.n_int (by decide +kernel) (pa_cons (pv 10) pa_nil)) pe_int)))))
 pss_nil)
 (pss_cons (ps_set (i := 11) sc_law.nd rfl (Or.inl rfl) (ClX.pe_cmeth (pe_glob (v := .ref a.c_Machine) (by rfl) T.g_Machine rfl) T.rd_Machine T.cm_Machine_of ((ok_Machine_of T).raw T.b_Machine_of .nil) (hr.mono (by decide)) pass0 (pa_cons (pv 9) (pa_cons (pv 10) pa_nil))))
 (pss_cons (ps_if (PW.pt (pw_or (pt_not (pt_val (pe_call (ok__law_parts T) (hr.mono (by decide)) (by rfl) T.g__law_parts T.F__law_parts.kp T.b__law_parts .nil pass0 (pa_cons (pv 11) (pa_cons (pe_tup (pa_cons pe_int (pa_cons (pv 9) (pa_cons (pv 10) pa_nil)))) pa_nil))))) (pw_or1 (pt_cmpR op_notBl (pe_cmpR (op_ownD (fun _ _ => rfl) T.e_Machine_eq T.i_Machine_eq ((ok_Machine_eq T).raw T.b_Machine_eq .nil) (hr.mono (by decide)) pass0) (pv 11) (pe_make T.mk_Machine (ok_Machine_init T) (hr.mono (by decide)) (by rfl) T.g_Machine T.b_Machine_init .nil pass0 (pa_cons pe_int (pa_cons (pv 9) (pa_cons (pv 10) pa_nil)))) (nomark _)) pe_bl (nomark _))))) (pss_one (ps_ret pe_bl))
 pss_nil)
 (pss_one (ps_if (pt_not (pt_val (pe_call (ok__law_parts T) (hr.mono (by decide)) (by rfl) T.g__law_parts T.F__law_parts.kp T.b__law_parts .nil pass0 (pa_cons (pv 5) (pa_cons (pv 3) pa_nil))))) (pss_one (ps_ret pe_bl))
 pss_nil)))))))))))))))
 (pss_one (ps_ret pe_bl)))), ?_⟩
    repeat walk_at "rd"
    refine ⟨b, ns, rfl, hS, hl, fun p q H0 hs0 np nq s0 => ?_⟩
    repeat walk_at "rd"
    refine ⟨by decide, by decide, for_range (lo := 0) (n := 4) (fun i σ H' => ∃ v2 v3 v4 v5 v6 v7 v8 v9 v10 v11 : Option V, σ = [some (.ref b), some (.ref p), v2, v3, v4, v5, v6, v7, v8, v9, v10, v11] ∧ SrcAt H' p q)
      ⟨_, _, _, _, _, _, _, _, _, _, rfl, hs0⟩ ?_ ?_⟩
    · clear hs0 s0 np nq hS
      rintro i σ H hi ⟨v2, v3, v4, v5, v6, v7, v8, v9, v10, v11, rfl, hs⟩
      repeat walk_at "rd"
      refine ⟨p, q, rfl, hs, fun t o l g H1 N1 n1 hs1 b1 => ?_⟩
      repeat walk_at "rd"
      refine ⟨p, q, t, o, l, g, rfl, hs1, N1, hs.ne n1, fun u o' l' g' H2 N2 n2 hs2 b2 => ?_⟩
      have N1' := N1.at_
      have e1 : H2 t = some (.tup [.int o, .int l, .int g]) := b2 _ _ N1.at_ (hs.ne n1)
      have e2 := N2.at_
      repeat walk_at "rd"
      refine r_Machine ⟨N1.o0, N1.o9⟩ ⟨N1.l0, N1.l9⟩ ⟨N1.g1, N1.g9⟩ N1.pos (fun m H3 nm hm s3 => ?_)
      have e1 := s3 _ _ e1
      have e2 := s3 _ _ e2
      have hs3 := hs2.keep s3
      repeat walk_at "rd"
      refine r_Machine ⟨N2.o0, N2.o9⟩ ⟨N2.l0, N2.l9⟩ ⟨N2.g1, N2.g9⟩ N2.pos (fun m' H4 nm' hm' s4 => ?_)
      have e1 := s4 _ _ e1
      have e2 := s4 _ _ e2
      have hs4 := hs3.keep s4
      have hm := hm.keep s4
      repeat walk_at "rd"
      walk_at "rdi"
      repeat walk_at "rd"
      refine ⟨m, t, o, l, g, rfl, hm, e1, fun H5 s5 => ?_⟩
      have e1 := s5 _ _ e1
      have e2 := s5 _ _ e2
      have hs5 := hs4.keep s5
      have hm := hm.keep s5
      have hm' := hm'.keep s5
      repeat walk_at "rd"
      refine ⟨m', u, o', l', g', rfl, hm', e2, fun H6 s6 => ?_⟩
      have e1 := s6 _ _ e1
      have e2 := s6 _ _ e2
      have hs6 := hs5.keep s6
      have hm := hm.keep s6
      have hm' := hm'.keep s6
      repeat walk_at "rd"
      refine r_eqMM T hm hm' ?_
      repeat walk_at "rd"
      refine r_eqMM T hm' hm ?_
      repeat walk_at "rd"
      refine new_at (Nat.le_of_ble_eq_true rfl) (fun L1 H7 nL1 s7 eL1 => ?_)
      have e1 := s7 _ _ e1
      have e2 := s7 _ _ e2
      have hs7 := hs6.keep s7
      have hm := hm.keep s7
      refine ⟨L1, rfl, ⟨_, SqL.of eL1⟩, for_list (K := K) (a := L1) (xs := [V.bl (decide ([o, l, g] = [o', l', g'])), V.bl (decide ([o', l', g'] = [o, l, g]))])
        (fun j σ H' => ∃ w7 : Option V, σ = [some (.ref b), some (.ref p), some (.int (0 + ↑i)), some (.ref t), some (.ref u), some (.ref m), some (.ref m'), w7, v8, v9, v10, v11] ∧ H' = H7) ⟨_, rfl, rfl⟩ (fun _ _ _ _ ⟨_, _, e⟩ => by rw [e]; exact SqL.of eL1) ?_ ?_⟩
      · rintro j y σ H' hj ⟨w7, rfl, rfl⟩
        have hy : y = V.bl (decide ([o, l, g] = [o', l', g'])) := by
          match j, hj with
          | 0, hj => exact (Option.some.inj hj).symm
          | 1, hj => rw [← Option.some.inj hj]; congr 1; exact decide_eq_decide.mpr ⟨Eq.symm, Eq.symm⟩
          | j + 2, hj => cases hj
        subst hy
        repeat walk_at "rd"
        refine r_eqT (xs := [o, l, g]) (ys := [o', l', g']) e1 e2 rfl rfl ?_
        repeat walk_at "rd"
        exact ⟨_, rfl, rfl⟩
      · rintro σ H' ⟨w7, rfl, rfl⟩
        repeat walk_at "rd"
        refine r_listT e1 (fun L2 H8 nL2 s8 eL2 => ?_)
        repeat walk_at "rd"
        refine new_at (Nat.le_of_ble_eq_true rfl) (fun L3 H9 nL3 s9 eL3 => ?_)
        repeat walk_at "rd"
        refine r_dnew (fun L4 H10 nL4 s10 eL4 => ?_)
        repeat walk_at "rd"
        refine new_at (Nat.le_of_ble_eq_true rfl) (fun L5 H11 nL5 s11 eL5 => ?_)
        have sA := s8.trans (s9.trans (s10.trans s11))
        have e1 := sA _ _ e1
        have hs11 := hs7.keep sA
        have hm := hm.keep sA
        have tyL2 : TyX K H11 (.ref L2) (.type "list") := .base (.lst (s9.trans (s10.trans s11) _ _ eL2))
        have tyL3 : TyX K H11 (.ref L3) (.type "list") := .base (.lst (s10.trans s11 _ _ eL3))
        have tyL4 : TyX K H11 (.ref L4) (.type "dict") := .base (.dK (s11 _ _ eL4))
        have tyT : TyX K H11 (.ref t) (.type "tuple") := .base (.tup e1)
        refine ⟨L5, rfl, ⟨_, SqL.of eL5⟩, for_list (K := K) (a := L5) (xs := [V.non, V.ref t, V.ref L2, V.str "machine", V.int o, V.bl true, V.ref L3, V.ref L4])
          (fun j σ H' => ∃ w8 : Option V, σ = [some (.ref b), some (.ref p), some (.int (0 + ↑i)), some (.ref t), some (.ref u), some (.ref m), some (.ref m'), w7, w8, v9, v10, v11] ∧ H' = H11) ⟨_, rfl, rfl⟩ (fun _ _ _ _ ⟨_, _, e⟩ => by rw [e]; exact SqL.of eL5) ?_ ?_⟩
        · rintro j y σ H' hj ⟨w8, rfl, rfl⟩
          obtain ⟨n, ty, kt, nf⟩ : ∃ n : String, TyX K H' y (.type n) ∧ PySem.W.kitOne K (.type n) (.ref a.c_Machine) = some false ∧ PySem.W.notFirst K a.c_Machine (.type n) = true := by
            match j, hj with
            | 0, hj => rw [← Option.some.inj hj]; exact ⟨_, .base .non, kit_no T.ic_Machine T.tc_Machine T.sb_NoneType_Machine, nf_no T.sb_NoneType_Machine⟩
            | 1, hj => rw [← Option.some.inj hj]; exact ⟨_, tyT, kit_no T.ic_Machine T.tc_Machine T.sb_tuple_Machine, nf_no T.sb_tuple_Machine⟩
            | 2, hj => rw [← Option.some.inj hj]; exact ⟨_, tyL2, kit_no T.ic_Machine T.tc_Machine T.sb_list_Machine, nf_no T.sb_list_Machine⟩
            | 3, hj => rw [← Option.some.inj hj]; exact ⟨_, .base (.str _), kit_no T.ic_Machine T.tc_Machine T.sb_str_Machine, nf_no T.sb_str_Machine⟩
            | 4, hj => rw [← Option.some.inj hj]; exact ⟨_, .base (.int _), kit_no T.ic_Machine T.tc_Machine T.sb_int_Machine, nf_no T.sb_int_Machine⟩
            | 5, hj => rw [← Option.some.inj hj]; exact ⟨_, .base (.bl _), kit_no T.ic_Machine T.tc_Machine T.sb_bool_Machine, nf_no T.sb_bool_Machine⟩
            | 6, hj => rw [← Option.some.inj hj]; exact ⟨_, tyL3, kit_no T.ic_Machine T.tc_Machine T.sb_list_Machine, nf_no T.sb_list_Machine⟩
            | 7, hj => rw [← Option.some.inj hj]; exact ⟨_, tyL4, kit_no T.ic_Machine T.tc_Machine T.sb_dict_Machine, nf_no T.sb_dict_Machine⟩
            | j + 8, hj => cases hj
          repeat walk_at "rd"
          refine r_eqMT T hm ty kt nf ?_
          repeat walk_at "rd"
          exact ⟨_, rfl, rfl⟩
        · rintro σ H' ⟨w8, rfl, rfl⟩
          clear tyL2 tyL3 tyL4 tyT eL5 eL4 eL3 eL2 eL1
          repeat walk_at "rd"
          refine ⟨p, q, 1000000000, rfl, hs11, by decide, fun r1 H12 r10 r19 hs12 b12 => ?_⟩
          repeat walk_at "rd"
          refine ⟨p, q, 1000000000, rfl, hs12, by decide, fun r2 H13 r20 r29 hs13 b13 => ?_⟩
          have bb := b12.trans b13
          have ntp : t ≠ p := hs.ne n1
          have e1 := bb _ _ e1 ntp
          have hm : MachAt a.c_Machine H13 m o l g := hm.but bb (hs2.ne nm)
          repeat walk_at "rd"
          with_reducible refine seq_with (fun σ H' => ∃ (L G : Int), σ = [some (.ref b), some (.ref p), some (.int (0 + ↑i)), some (.ref t), some (.ref u), some (.ref m), some (.ref m'), w7, w8, some (.int L), some (.int G), v11] ∧ H' = H13 ∧ (1 ≤ L ∧ L ≤ 1000000000) ∧ (1 ≤ G ∧ G ≤ 1000000000)) ?_ (fun rest => ?_)
          · rintro σ H' ⟨L, G, rfl, rfl, hL, hG⟩
            repeat walk_at "rd"
            refine ⟨L, G, rfl, hL, hG, fun pl H14 npl hpl s14 => ?_⟩
            have e1 := s14 _ _ e1
            have hs14 := hs13.keep s14
            have hm := hm.keep s14
            repeat walk_at "rd"
            walk_at "rdi"
            repeat walk_at "rd"
            refine new_at (Nat.le_of_ble_eq_true rfl) (fun z H15 nz s15 ez => ?_)
            have e1 := s15 _ _ e1
            have hs15 := hs14.keep s15
            have hm := hm.keep s15
            have hpl := hpl.keep s15
            repeat walk_at "rd"
            refine ⟨pl, z, 0, L, G, rfl, hpl, ez, fun H16 s16 => ?_⟩
            have e1 := s16 _ _ e1
            have hs16 := hs15.keep s16
            have hm := hm.keep s16
            have hpl := hpl.keep s16
            repeat walk_at "rd"
            refine r_Machine (by decide) ⟨by omega, by omega⟩ hG (by omega) (fun m2 H17 nm2 hm2 s17 => ?_)
            have e1 := s17 _ _ e1
            have hs17 := hs16.keep s17
            have hm := hm.keep s17
            have hpl := hpl.keep s17
            repeat walk_at "rd"
            refine r_eqMM T hpl hm2 ?_
            rw [decide_eq_true rfl]
            repeat walk_at "rd"
            refine ⟨m, t, o, l, g, rfl, hm, e1, fun H18 s18 => ?_⟩
            repeat walk_at "rd"
            exact ⟨_, _, _, _, _, _, _, _, _, _, rfl, hs17.keep s18⟩
          · repeat walk_at "rd"
            refine ite_d (fun h => ?_) (fun h => ?_)
            · iterate 27 walk_at "rd"
              exact rest _ _ ⟨_, _, rfl, rfl, ⟨by have := fmod_nn (a := 1 + r1) (b := 5) (by decide); omega, by have := fmod_lt (a := 1 + r1) (b := 5) (by decide); omega⟩, ⟨by have := fmod_nn (a := 1 + r2) (b := 5) (by decide); omega, by have := fmod_lt (a := 1 + r2) (b := 5) (by decide); omega⟩⟩
            · walk_at "rd"
              exact rest _ _ ⟨1 + r1, 1 + r2, rfl, rfl, ⟨by omega, by omega⟩, ⟨by omega, by omega⟩⟩
    · rintro σ H' ⟨v2, v3, v4, v5, v6, v7, v8, v9, v10, v11, rfl, _⟩
      repeat walk_at "rd"
      exact k _
end

theorem all_mk {P : Program} {w : World} {K : PySem.W.Frag} {h : Heap} {mg : Str → Option Value} {fa : Addr} (X : K.In h) (G : h.Ns mainGlobals mg) (hfa : mg "law" = some (.ref fa))
    {c_Machine : Addr} {oc_is_integer : Value} {od_is_integer : Option Addr} {an_is_integer : Option Addr} {sl_is_integer : Array (Option Value)} {kV_is_integer : Value} {dc_is_integer : Value} {pm_is_integer : Value} {cd_is_integer : Value} {ct_is_integer : Value} {f_is_integer : Addr} {oc_is_between : Value} {od_is_between : Option Addr} {an_is_between : Option Addr} {sl_is_between : Array (Option Value)} {kV_is_between : Value} {dc_is_between : Value} {pm_is_between : Value} {cd_is_between : Value} {ct_is_between : Value} {f_is_between : Addr} {oc_Machine_init : Value} {od_Machine_init : Option Addr} {an_Machine_init : Option Addr} {sl_Machine_init : Array (Option Value)} {kV_Machine_init : Value} {dc_Machine_init : Value} {pm_Machine_init : Value} {cd_Machine_init : Value} {ct_Machine_init : Value} {f_Machine_init : Addr} {oc_Machine_of : Value} {od_Machine_of : Option Addr} {an_Machine_of : Option Addr} {sl_Machine_of : Array (Option Value)} {kV_Machine_of : Value} {dc_Machine_of : Value} {pm_Machine_of : Value} {cd_Machine_of : Value} {ct_Machine_of : Value} {f_Machine_of : Addr} {p_Machine_of : Addr} {r_Machine_of : List Value} {oc_Machine_eq : Value} {od_Machine_eq : Option Addr} {an_Machine_eq : Option Addr} {sl_Machine_eq : Array (Option Value)} {kV_Machine_eq : Value} {dc_Machine_eq : Value} {pm_Machine_eq : Value} {cd_Machine_eq : Value} {ct_Machine_eq : Value} {f_Machine_eq : Addr} {oc__law_source : Value} {od__law_source : Option Addr} {an__law_source : Option Addr} {sl__law_source : Array (Option Value)} {kV__law_source : Value} {dc__law_source : Value} {pm__law_source : Value} {cd__law_source : Value} {ct__law_source : Value} {f__law_source : Addr} {oc__law_draw : Value} {od__law_draw : Option Addr} {an__law_draw : Option Addr} {sl__law_draw : Array (Option Value)} {kV__law_draw : Value} {dc__law_draw : Value} {pm__law_draw : Value} {cd__law_draw : Value} {ct__law_draw : Value} {f__law_draw : Addr} {oc__law_big : Value} {od__law_big : Option Addr} {an__law_big : Option Addr} {sl__law_big : Array (Option Value)} {kV__law_big : Value} {dc__law_big : Value} {pm__law_big : Value} {cd__law_big : Value} {ct__law_big : Value} {f__law_big : Addr} {oc__law_numbers : Value} {od__law_numbers : Option Addr} {an__law_numbers : Option Addr} {sl__law_numbers : Array (Option Value)} {kV__law_numbers : Value} {dc__law_numbers : Value} {pm__law_numbers : Value} {cd__law_numbers : Value} {ct__law_numbers : Value} {f__law_numbers : Addr} {oc__law_times : Value} {od__law_times : Option Addr} {an__law_times : Option Addr} {sl__law_times : Array (Option Value)} {kV__law_times : Value} {dc__law_times : Value} {pm__law_times : Value} {cd__law_times : Value} {ct__law_times : Value} {f__law_times : Addr} {oc__law_is : Value} {od__law_is : Option Addr} {an__law_is : Option Addr} {sl__law_is : Array (Option Value)} {kV__law_is : Value} {dc__law_is : Value} {pm__law_is : Value} {cd__law_is : Value} {ct__law_is : Value} {f__law_is : Addr} {oc__law_parts : Value} {od__law_parts : Option Addr} {an__law_parts : Option Addr} {sl__law_parts : Array (Option Value)} {kV__law_parts : Value} {dc__law_parts : Value} {pm__law_parts : Value} {cd__law_parts : Value} {ct__law_parts : Value} {f__law_parts : Addr} {oc__law_other : Value} {od__law_other : Option Addr} {an__law_other : Option Addr} {sl__law_other : Array (Option Value)} {kV__law_other : Value} {dc__law_other : Value} {pm__law_other : Value} {cd__law_other : Value} {ct__law_other : Value} {f__law_other : Addr} {oc_law : Value} {od_law : Option Addr} {an_law : Option Addr} {sl_law : Array (Option Value)} {kV_law : Value} {dc_law : Value} {pm_law : Value} {cd_law : Value} {ct_law : Value} {f_law : Addr} {t_GREATEST_PART : Tok}
    (H_g_Machine : PySem.W.nsIn K mainGlobals "Machine" = some (some (.ref c_Machine)))
    (H_a_is_integer : PySem.W.nsIn K mainGlobals "is_integer" = some (some (.ref f_is_integer)))
    (H_l_is_integer : K.lookup f_is_integer = some ⟨oc_is_integer, od_is_integer, .func (PySem.W.fnOf "is_integer" "is_integer" (defArgs s_is_integer) (defBody s_is_integer) (defScope s_is_integer) .none kV_is_integer dc_is_integer pm_is_integer an_is_integer cd_is_integer ct_is_integer), sl_is_integer⟩)
    (H_c_is_integer : PySem.W.codeIn K cd_is_integer "is_integer" = true)
    (H_k_is_integer : PySem.W.keepIn K (.ref f_is_integer) = true)
    (H_a_is_between : PySem.W.nsIn K mainGlobals "is_between" = some (some (.ref f_is_between)))
    (H_l_is_between : K.lookup f_is_between = some ⟨oc_is_between, od_is_between, .func (PySem.W.fnOf "is_between" "is_between" (defArgs s_is_between) (defBody s_is_between) (defScope s_is_between) .none kV_is_between dc_is_between pm_is_between an_is_between cd_is_between ct_is_between), sl_is_between⟩)
    (H_c_is_between : PySem.W.codeIn K cd_is_between "is_between" = true)
    (H_k_is_between : PySem.W.keepIn K (.ref f_is_between) = true)
    (H_a_Machine_init : PySem.W.findIn K (.ref c_Machine) "__init__" = some (some (.ref f_Machine_init)))
    (H_i_Machine_init : PySem.W.isFn K (.ref f_Machine_init) = true)
    (H_l_Machine_init : K.lookup f_Machine_init = some ⟨oc_Machine_init, od_Machine_init, .func (PySem.W.fnOf "__init__" "Machine.__init__" (defArgs s_Machine_init) (defBody s_Machine_init) (defScope s_Machine_init) .none kV_Machine_init dc_Machine_init pm_Machine_init an_Machine_init cd_Machine_init ct_Machine_init), sl_Machine_init⟩)
    (H_c_Machine_init : PySem.W.codeIn K cd_Machine_init "Machine.__init__" = true)
    (H_k_Machine_init : PySem.W.keepIn K (.ref f_Machine_init) = true)
    (H_q_Machine_of : PySem.W.findCls K (.ref c_Machine) (.type "type") "of" = some (.get (.builtin "classmethod.__get__") (.ref p_Machine_of) .none (.ref c_Machine)))
    (H_r_Machine_of : PySem.W.recIn K p_Machine_of "classmethod" = some (.ref f_Machine_of :: r_Machine_of))
    (H_w_Machine_of : PySem.W.fnIn K f_Machine_of = true)
    (H_rd_Machine : PySem.W.readsIn K c_Machine (.type "type") = true)
    (H_ga_Machine : PySem.W.specialIn K (.ref c_Machine) "__getattribute__" = some (some (.builtin "type.__getattribute__")))
    (H_l_Machine_of : K.lookup f_Machine_of = some ⟨oc_Machine_of, od_Machine_of, .func (PySem.W.fnOf "of" "Machine.of" (defArgs s_Machine_of) (defBody s_Machine_of) (defScope s_Machine_of) .none kV_Machine_of dc_Machine_of pm_Machine_of an_Machine_of cd_Machine_of ct_Machine_of), sl_Machine_of⟩)
    (H_c_Machine_of : PySem.W.codeIn K cd_Machine_of "Machine.of" = true)
    (H_k_Machine_of : PySem.W.keepIn K (.ref f_Machine_of) = true)
    (H_a_Machine_eq : PySem.W.findIn K (.ref c_Machine) "__eq__" = some (some (.ref f_Machine_eq)))
    (H_i_Machine_eq : PySem.W.isFn K (.ref f_Machine_eq) = true)
    (H_l_Machine_eq : K.lookup f_Machine_eq = some ⟨oc_Machine_eq, od_Machine_eq, .func (PySem.W.fnOf "__eq__" "Machine.__eq__" (defArgs s_Machine_eq) (defBody s_Machine_eq) (defScope s_Machine_eq) .none kV_Machine_eq dc_Machine_eq pm_Machine_eq an_Machine_eq cd_Machine_eq ct_Machine_eq), sl_Machine_eq⟩)
    (H_c_Machine_eq : PySem.W.codeIn K cd_Machine_eq "Machine.__eq__" = true)
    (H_k_Machine_eq : PySem.W.keepIn K (.ref f_Machine_eq) = true)
    (H_a__law_source : PySem.W.nsIn K mainGlobals "_law_source" = some (some (.ref f__law_source)))
    (H_l__law_source : K.lookup f__law_source = some ⟨oc__law_source, od__law_source, .func (PySem.W.fnOf "_law_source" "_law_source" (defArgs s__law_source) (defBody s__law_source) (defScope s__law_source) .none kV__law_source dc__law_source pm__law_source an__law_source cd__law_source ct__law_source), sl__law_source⟩)
    (H_c__law_source : PySem.W.codeIn K cd__law_source "_law_source" = true)
    (H_k__law_source : PySem.W.keepIn K (.ref f__law_source) = true)
    (H_a__law_draw : PySem.W.nsIn K mainGlobals "_law_draw" = some (some (.ref f__law_draw)))
    (H_l__law_draw : K.lookup f__law_draw = some ⟨oc__law_draw, od__law_draw, .func (PySem.W.fnOf "_law_draw" "_law_draw" (defArgs s__law_draw) (defBody s__law_draw) (defScope s__law_draw) .none kV__law_draw dc__law_draw pm__law_draw an__law_draw cd__law_draw ct__law_draw), sl__law_draw⟩)
    (H_c__law_draw : PySem.W.codeIn K cd__law_draw "_law_draw" = true)
    (H_k__law_draw : PySem.W.keepIn K (.ref f__law_draw) = true)
    (H_a__law_big : PySem.W.nsIn K mainGlobals "_law_big" = some (some (.ref f__law_big)))
    (H_l__law_big : K.lookup f__law_big = some ⟨oc__law_big, od__law_big, .func (PySem.W.fnOf "_law_big" "_law_big" (defArgs s__law_big) (defBody s__law_big) (defScope s__law_big) .none kV__law_big dc__law_big pm__law_big an__law_big cd__law_big ct__law_big), sl__law_big⟩)
    (H_c__law_big : PySem.W.codeIn K cd__law_big "_law_big" = true)
    (H_k__law_big : PySem.W.keepIn K (.ref f__law_big) = true)
    (H_a__law_numbers : PySem.W.nsIn K mainGlobals "_law_numbers" = some (some (.ref f__law_numbers)))
    (H_l__law_numbers : K.lookup f__law_numbers = some ⟨oc__law_numbers, od__law_numbers, .func (PySem.W.fnOf "_law_numbers" "_law_numbers" (defArgs s__law_numbers) (defBody s__law_numbers) (defScope s__law_numbers) .none kV__law_numbers dc__law_numbers pm__law_numbers an__law_numbers cd__law_numbers ct__law_numbers), sl__law_numbers⟩)
    (H_c__law_numbers : PySem.W.codeIn K cd__law_numbers "_law_numbers" = true)
    (H_k__law_numbers : PySem.W.keepIn K (.ref f__law_numbers) = true)
    (H_a__law_times : PySem.W.nsIn K mainGlobals "_law_times" = some (some (.ref f__law_times)))
    (H_l__law_times : K.lookup f__law_times = some ⟨oc__law_times, od__law_times, .func (PySem.W.fnOf "_law_times" "_law_times" (defArgs s__law_times) (defBody s__law_times) (defScope s__law_times) .none kV__law_times dc__law_times pm__law_times an__law_times cd__law_times ct__law_times), sl__law_times⟩)
    (H_c__law_times : PySem.W.codeIn K cd__law_times "_law_times" = true)
    (H_k__law_times : PySem.W.keepIn K (.ref f__law_times) = true)
    (H_a__law_is : PySem.W.nsIn K mainGlobals "_law_is" = some (some (.ref f__law_is)))
    (H_l__law_is : K.lookup f__law_is = some ⟨oc__law_is, od__law_is, .func (PySem.W.fnOf "_law_is" "_law_is" (defArgs s__law_is) (defBody s__law_is) (defScope s__law_is) .none kV__law_is dc__law_is pm__law_is an__law_is cd__law_is ct__law_is), sl__law_is⟩)
    (H_c__law_is : PySem.W.codeIn K cd__law_is "_law_is" = true)
    (H_k__law_is : PySem.W.keepIn K (.ref f__law_is) = true)
    (H_a__law_parts : PySem.W.nsIn K mainGlobals "_law_parts" = some (some (.ref f__law_parts)))
    (H_l__law_parts : K.lookup f__law_parts = some ⟨oc__law_parts, od__law_parts, .func (PySem.W.fnOf "_law_parts" "_law_parts" (defArgs s__law_parts) (defBody s__law_parts) (defScope s__law_parts) .none kV__law_parts dc__law_parts pm__law_parts an__law_parts cd__law_parts ct__law_parts), sl__law_parts⟩)
    (H_c__law_parts : PySem.W.codeIn K cd__law_parts "_law_parts" = true)
    (H_k__law_parts : PySem.W.keepIn K (.ref f__law_parts) = true)
    (H_a__law_other : PySem.W.nsIn K mainGlobals "_law_other" = some (some (.ref f__law_other)))
    (H_l__law_other : K.lookup f__law_other = some ⟨oc__law_other, od__law_other, .func (PySem.W.fnOf "_law_other" "_law_other" (defArgs s__law_other) (defBody s__law_other) (defScope s__law_other) .none kV__law_other dc__law_other pm__law_other an__law_other cd__law_other ct__law_other), sl__law_other⟩)
    (H_c__law_other : PySem.W.codeIn K cd__law_other "_law_other" = true)
    (H_k__law_other : PySem.W.keepIn K (.ref f__law_other) = true)
    (H_a_law : PySem.W.nsIn K mainGlobals "law" = some (some (.ref f_law)))
    (H_l_law : K.lookup f_law = some ⟨oc_law, od_law, .func (PySem.W.fnOf "law" "law" (defArgs s_law) (defBody s_law) (defScope s_law) .none kV_law dc_law pm_law an_law cd_law ct_law), sl_law⟩)
    (H_c_law : PySem.W.codeIn K cd_law "law" = true)
    (H_k_law : PySem.W.keepIn K (.ref f_law) = true)
    (H_pg_Machine : PySem.W.plainGet K c_Machine Str.empty = true)
    (H_hd_Machine : PySem.W.hasDictIn K c_Machine = true)
    (H_po_Machine : PySem.W.plainOver K c_Machine = true)
    (H_sa_Machine : PySem.W.findIn K (.ref c_Machine) "__setattr__" = some (some (.builtin "object.__setattr__")))
    (H_mk_Machine : PySem.W.makesIn K c_Machine = true)
    (H_kc_Machine : PySem.W.keepIn K (.ref c_Machine) = true)
    (H_nF_Machine_o : PySem.W.findIn K (.ref c_Machine) "o" = some none)
    (H_nF_Machine_l : PySem.W.findIn K (.ref c_Machine) "l" = some none)
    (H_nF_Machine_g : PySem.W.findIn K (.ref c_Machine) "g" = some none)
    (H_nF_Machine_letter : PySem.W.findIn K (.ref c_Machine) "letter" = some none)
    (H_nF_Machine_gap : PySem.W.findIn K (.ref c_Machine) "gap" = some none)
    (H_n_bool : PySem.W.nsIn K mainGlobals "bool" = some none)
    (H_n_cls : PySem.W.nsIn K mainGlobals "cls" = some none)
    (H_n_int : PySem.W.nsIn K mainGlobals "int" = some none)
    (H_n_isinstance : PySem.W.nsIn K mainGlobals "isinstance" = some none)
    (H_n_len : PySem.W.nsIn K mainGlobals "len" = some none)
    (H_n_list : PySem.W.nsIn K mainGlobals "list" = some none)
    (H_n_max : PySem.W.nsIn K mainGlobals "max" = some none)
    (H_n_range : PySem.W.nsIn K mainGlobals "range" = some none)
    (H_n_tuple : PySem.W.nsIn K mainGlobals "tuple" = some none)
    (H_x_GREATEST_PART : PySem.W.nsIn K mainGlobals "GREATEST_PART" = some (some (.int 1000000000 t_GREATEST_PART)))
    (H_ca_Machine : PySem.W.findIn K (.ref c_Machine) "__class__" = some (some (.builtin "object.__class__")))
    (H_ct_Machine : PySem.W.takesIn K (.builtin "object.__class__") = some true)
    (H_cg_Machine : PySem.W.specialIn K (.builtin "object.__class__") "__get__" = some (some (.builtin "getset_descriptor.__get__")))
    (H_co_Machine : PySem.W.mroIn K c_Machine (.type "object") = some true)
    (H_ic_Machine : PySem.W.isClsIn K c_Machine = true)
    (H_tc_Machine : PySem.W.typeIn K (.ref c_Machine) = some (.type "type"))
    (H_sb_NoneType_Machine : PySem.W.subIn K (.type "NoneType") (.ref c_Machine) = some false)
    (H_sb_tuple_Machine : PySem.W.subIn K (.type "tuple") (.ref c_Machine) = some false)
    (H_sb_list_Machine : PySem.W.subIn K (.type "list") (.ref c_Machine) = some false)
    (H_sb_str_Machine : PySem.W.subIn K (.type "str") (.ref c_Machine) = some false)
    (H_sb_int_Machine : PySem.W.subIn K (.type "int") (.ref c_Machine) = some false)
    (H_sb_bool_Machine : PySem.W.subIn K (.type "bool") (.ref c_Machine) = some false)
    (H_sb_dict_Machine : PySem.W.subIn K (.type "dict") (.ref c_Machine) = some false)
    : ∃ fd : FuncData, (∀ (s : Shared) (v : Value), BindsTo s fd ⟨[v], []⟩ [("_law_script", v)]) ∧ ∀ base : Heap, K.In base → base.Ns mainGlobals mg → FnOk P w K mg base CX0 9 fa fd ["_law_script"] (spLaw K) := by
  have e := hfa.symm.trans (PySem.W.mg_of X G H_a_law)
  cases e
  let a : Adr := { a_is_integer := f_is_integer, d_is_integer := PySem.W.fnOf "is_integer" "is_integer" (defArgs s_is_integer) (defBody s_is_integer) (defScope s_is_integer) .none kV_is_integer dc_is_integer pm_is_integer an_is_integer cd_is_integer ct_is_integer, a_is_between := f_is_between, d_is_between := PySem.W.fnOf "is_between" "is_between" (defArgs s_is_between) (defBody s_is_between) (defScope s_is_between) .none kV_is_between dc_is_between pm_is_between an_is_between cd_is_between ct_is_between, a_Machine_init := f_Machine_init, d_Machine_init := PySem.W.fnOf "__init__" "Machine.__init__" (defArgs s_Machine_init) (defBody s_Machine_init) (defScope s_Machine_init) .none kV_Machine_init dc_Machine_init pm_Machine_init an_Machine_init cd_Machine_init ct_Machine_init, a_Machine_of := f_Machine_of, d_Machine_of := PySem.W.fnOf "of" "Machine.of" (defArgs s_Machine_of) (defBody s_Machine_of) (defScope s_Machine_of) .none kV_Machine_of dc_Machine_of pm_Machine_of an_Machine_of cd_Machine_of ct_Machine_of, a_Machine_eq := f_Machine_eq, d_Machine_eq := PySem.W.fnOf "__eq__" "Machine.__eq__" (defArgs s_Machine_eq) (defBody s_Machine_eq) (defScope s_Machine_eq) .none kV_Machine_eq dc_Machine_eq pm_Machine_eq an_Machine_eq cd_Machine_eq ct_Machine_eq, a__law_source := f__law_source, d__law_source := PySem.W.fnOf "_law_source" "_law_source" (defArgs s__law_source) (defBody s__law_source) (defScope s__law_source) .none kV__law_source dc__law_source pm__law_source an__law_source cd__law_source ct__law_source, a__law_draw := f__law_draw, d__law_draw := PySem.W.fnOf "_law_draw" "_law_draw" (defArgs s__law_draw) (defBody s__law_draw) (defScope s__law_draw) .none kV__law_draw dc__law_draw pm__law_draw an__law_draw cd__law_draw ct__law_draw, a__law_big := f__law_big, d__law_big := PySem.W.fnOf "_law_big" "_law_big" (defArgs s__law_big) (defBody s__law_big) (defScope s__law_big) .none kV__law_big dc__law_big pm__law_big an__law_big cd__law_big ct__law_big, a__law_numbers := f__law_numbers, d__law_numbers := PySem.W.fnOf "_law_numbers" "_law_numbers" (defArgs s__law_numbers) (defBody s__law_numbers) (defScope s__law_numbers) .none kV__law_numbers dc__law_numbers pm__law_numbers an__law_numbers cd__law_numbers ct__law_numbers, a__law_times := f__law_times, d__law_times := PySem.W.fnOf "_law_times" "_law_times" (defArgs s__law_times) (defBody s__law_times) (defScope s__law_times) .none kV__law_times dc__law_times pm__law_times an__law_times cd__law_times ct__law_times, a__law_is := f__law_is, d__law_is := PySem.W.fnOf "_law_is" "_law_is" (defArgs s__law_is) (defBody s__law_is) (defScope s__law_is) .none kV__law_is dc__law_is pm__law_is an__law_is cd__law_is ct__law_is, a__law_parts := f__law_parts, d__law_parts := PySem.W.fnOf "_law_parts" "_law_parts" (defArgs s__law_parts) (defBody s__law_parts) (defScope s__law_parts) .none kV__law_parts dc__law_parts pm__law_parts an__law_parts cd__law_parts ct__law_parts, a__law_other := f__law_other, d__law_other := PySem.W.fnOf "_law_other" "_law_other" (defArgs s__law_other) (defBody s__law_other) (defScope s__law_other) .none kV__law_other dc__law_other pm__law_other an__law_other cd__law_other ct__law_other, a_law := fa, d_law := PySem.W.fnOf "law" "law" (defArgs s_law) (defBody s_law) (defScope s_law) .none kV_law dc_law pm_law an_law cd_law ct_law, c_Machine := c_Machine, p_Machine_of := p_Machine_of }
  have F_is_integer := fun_mk (st := s_is_integer) H_l_is_integer H_c_is_integer H_k_is_integer
  have F_is_between := fun_mk (st := s_is_between) H_l_is_between H_c_is_between H_k_is_between
  have F_Machine_init := fun_mk (st := s_Machine_init) H_l_Machine_init H_c_Machine_init H_k_Machine_init
  have F_Machine_of := fun_mk (st := s_Machine_of) H_l_Machine_of H_c_Machine_of H_k_Machine_of
  have F_Machine_eq := fun_mk (st := s_Machine_eq) H_l_Machine_eq H_c_Machine_eq H_k_Machine_eq
  have F__law_source := fun_mk (st := s__law_source) H_l__law_source H_c__law_source H_k__law_source
  have F__law_draw := fun_mk (st := s__law_draw) H_l__law_draw H_c__law_draw H_k__law_draw
  have F__law_big := fun_mk (st := s__law_big) H_l__law_big H_c__law_big H_k__law_big
  have F__law_numbers := fun_mk (st := s__law_numbers) H_l__law_numbers H_c__law_numbers H_k__law_numbers
  have F__law_times := fun_mk (st := s__law_times) H_l__law_times H_c__law_times H_k__law_times
  have F__law_is := fun_mk (st := s__law_is) H_l__law_is H_c__law_is H_k__law_is
  have F__law_parts := fun_mk (st := s__law_parts) H_l__law_parts H_c__law_parts H_k__law_parts
  have F__law_other := fun_mk (st := s__law_other) H_l__law_other H_c__law_other H_k__law_other
  have F_law := fun_mk (st := s_law) H_l_law H_c_law H_k_law
  have T : Txt K mg a := {
    F_is_integer := F_is_integer,
    b_is_integer := F_is_integer.binds (ps := ["thing"]) fun _ _ _ _ _ _ us hl => match us, hl with | [_], _ => rfl,
    g_is_integer := PySem.W.mg_of X G H_a_is_integer,
    F_is_between := F_is_between,
    b_is_between := F_is_between.binds (ps := ["thing", "low", "high"]) fun _ _ _ _ _ _ us hl => match us, hl with | [_, _, _], _ => rfl,
    g_is_between := PySem.W.mg_of X G H_a_is_between,
    F_Machine_init := F_Machine_init,
    b_Machine_init := F_Machine_init.binds (ps := ["self", "o", "l", "g"]) fun _ _ _ _ _ _ us hl => match us, hl with | [_, _, _, _], _ => rfl,
    mk_Machine := ⟨H_mk_Machine, H_a_Machine_init, H_i_Machine_init, H_kc_Machine⟩,
    F_Machine_of := F_Machine_of,
    b_Machine_of := F_Machine_of.binds (ps := ["cls", "letter", "gap"]) fun _ _ _ _ _ _ us hl => match us, hl with | [_, _, _], _ => rfl,
    cm_Machine_of := ⟨H_q_Machine_of, ⟨_, H_r_Machine_of⟩, H_w_Machine_of⟩,
    rd_Machine := ⟨H_rd_Machine, H_ga_Machine⟩,
    F_Machine_eq := F_Machine_eq,
    b_Machine_eq := F_Machine_eq.binds (ps := ["self", "other"]) fun _ _ _ _ _ _ us hl => match us, hl with | [_, _], _ => rfl,
    m_Machine_eq := ⟨H_a_Machine_eq, H_i_Machine_eq, H_k_Machine_eq⟩,
    e_Machine_eq := H_a_Machine_eq,
    i_Machine_eq := H_i_Machine_eq,
    F__law_source := F__law_source,
    b__law_source := F__law_source.binds (ps := ["_law_script"]) fun _ _ _ _ _ _ us hl => match us, hl with | [_], _ => rfl,
    g__law_source := PySem.W.mg_of X G H_a__law_source,
    F__law_draw := F__law_draw,
    b__law_draw := F__law_draw.binds (ps := ["_law_source_here", "_law_limit"]) fun _ _ _ _ _ _ us hl => match us, hl with | [_, _], _ => rfl,
    g__law_draw := PySem.W.mg_of X G H_a__law_draw,
    F__law_big := F__law_big,
    b__law_big := F__law_big.binds (ps := ["_law_source_here", "_law_limit"]) fun _ _ _ _ _ _ us hl => match us, hl with | [_, _], _ => rfl,
    g__law_big := PySem.W.mg_of X G H_a__law_big,
    F__law_numbers := F__law_numbers,
    b__law_numbers := F__law_numbers.binds (ps := ["_law_source_here"]) fun _ _ _ _ _ _ us hl => match us, hl with | [_], _ => rfl,
    g__law_numbers := PySem.W.mg_of X G H_a__law_numbers,
    F__law_times := F__law_times,
    b__law_times := F__law_times.binds (ps := ["_law_numbers_here"]) fun _ _ _ _ _ _ us hl => match us, hl with | [_], _ => rfl,
    g__law_times := PySem.W.mg_of X G H_a__law_times,
    F__law_is := F__law_is,
    b__law_is := F__law_is.binds (ps := ["_law_thing", "_law_due"]) fun _ _ _ _ _ _ us hl => match us, hl with | [_, _], _ => rfl,
    g__law_is := PySem.W.mg_of X G H_a__law_is,
    F__law_parts := F__law_parts,
    b__law_parts := F__law_parts.binds (ps := ["_law_machine", "_law_numbers_here"]) fun _ _ _ _ _ _ us hl => match us, hl with | [_, _], _ => rfl,
    g__law_parts := PySem.W.mg_of X G H_a__law_parts,
    F__law_other := F__law_other,
    b__law_other := F__law_other.binds (ps := ["_law_source_here", "_law_numbers_here"]) fun _ _ _ _ _ _ us hl => match us, hl with | [_, _], _ => rfl,
    g__law_other := PySem.W.mg_of X G H_a__law_other,
    F_law := F_law,
    b_law := F_law.binds (ps := ["_law_script"]) fun _ _ _ _ _ _ us hl => match us, hl with | [_], _ => rfl,
    g_law := PySem.W.mg_of X G H_a_law,
    g_Machine := PySem.W.mg_of X G H_g_Machine,
    cl_Machine := ⟨H_pg_Machine, H_hd_Machine, H_po_Machine, H_sa_Machine⟩,
    nF_Machine_o := H_nF_Machine_o,
    nF_Machine_l := H_nF_Machine_l,
    nF_Machine_g := H_nF_Machine_g,
    nF_Machine_letter := H_nF_Machine_letter,
    nF_Machine_gap := H_nF_Machine_gap,
    n_bool := PySem.W.mg_none_of X G H_n_bool,
    n_cls := PySem.W.mg_none_of X G H_n_cls,
    n_int := PySem.W.mg_none_of X G H_n_int,
    n_isinstance := PySem.W.mg_none_of X G H_n_isinstance,
    n_len := PySem.W.mg_none_of X G H_n_len,
    n_list := PySem.W.mg_none_of X G H_n_list,
    n_max := PySem.W.mg_none_of X G H_n_max,
    n_range := PySem.W.mg_none_of X G H_n_range,
    n_tuple := PySem.W.mg_none_of X G H_n_tuple,
    g_GREATEST_PART := ⟨_, PySem.W.mg_of X G H_x_GREATEST_PART⟩,
    ca_Machine := H_ca_Machine,
    ct_Machine := H_ct_Machine,
    cg_Machine := H_cg_Machine,
    co_Machine := H_co_Machine,
    ic_Machine := H_ic_Machine,
    tc_Machine := H_tc_Machine,
    sb_NoneType_Machine := H_sb_NoneType_Machine,
    sb_tuple_Machine := H_sb_tuple_Machine,
    sb_list_Machine := H_sb_list_Machine,
    sb_str_Machine := H_sb_str_Machine,
    sb_int_Machine := H_sb_int_Machine,
    sb_bool_Machine := H_sb_bool_Machine,
    sb_dict_Machine := H_sb_dict_Machine }
  exact ⟨a.d_law, fun s v => .of_eq rfl, fun base _ _ => ok_law T⟩
theorem walk {l : PySem.W.OpenLaw} {q : Program} {loose : List Str} {XP : (Str → Option Value) → Heap → Prop} {YP : World → Heap → Prop} {d : DefRec} {K : Params → PySem.W.Frag} (hn : l.most = some 63) (hdf : d.params.defaults = [])
    (hY : ∀ (w : World) (h : Heap), YP w h → (K w.params).In h)
    (F : ∀ (w : World) (mg : Str → Option Value) (fa : Addr) (h : Heap), (K w.params).In h → h.Ns mainGlobals mg → mg d.name = some (.ref fa) →
      ∃ fd : FuncData, (∀ (s : Shared) (u : Value), BindsTo s fd ⟨[u], []⟩ [("_law_script", u)]) ∧ ∀ base : Heap, (K w.params).In base → base.Ns mainGlobals mg → FnOk l.prog w (K w.params) mg base CX0 9 fa fd ["_law_script"] (spLaw (K w.params))) :
    PySem.W.WalkO q loose XP YP l.row.toRowW d [] (fun f vs => PySem.call f vs) :=
  L2.walk_of (n := 63) (k := 9) (x := "_law_script") (CX := fun _ => CX0) (sp := fun w => spLaw (K w.params)) hn (by decide) hdf ⟨rfl, by decide, by decide⟩ hY F (fun _ _ a ns hl _ hS => ⟨a, ns, rfl, hS, hl, fun _ => rfl⟩) fun _ _ _ _ _ z => z
end My
open PySem PySem.W PyProof.Rows
set_option maxRecDepth 100000 in
set_option maxHeartbeats 0 in
theorem PySem.Challenge.cw_tellontree_k01_parts_of_a_machine_holds : PySem.Challenge.rw_tellontree_k01_parts_of_a_machine.Holds := by
  w_on; o_law; k_head; (case hw => w_witness2)
  k_fill
  refine My.walk (l := PySem.Challenge.rw_tellontree_k01_parts_of_a_machine) rfl rfl (fun w h Y => PySem.W.kIn_of Y) ?F
  case F =>
    intro w mg fa h KX G hmg
    refine' My.all_mk KX G hmg ?H_g_Machine ?H_a_is_integer ?H_l_is_integer ?H_c_is_integer ?H_k_is_integer ?H_a_is_between ?H_l_is_between ?H_c_is_between ?H_k_is_between ?H_a_Machine_init ?H_i_Machine_init ?H_l_Machine_init ?H_c_Machine_init ?H_k_Machine_init ?H_q_Machine_of ?H_r_Machine_of ?H_w_Machine_of ?H_rd_Machine ?H_ga_Machine ?H_l_Machine_of ?H_c_Machine_of ?H_k_Machine_of ?H_a_Machine_eq ?H_i_Machine_eq ?H_l_Machine_eq ?H_c_Machine_eq ?H_k_Machine_eq ?H_a__law_source ?H_l__law_source ?H_c__law_source ?H_k__law_source ?H_a__law_draw ?H_l__law_draw ?H_c__law_draw ?H_k__law_draw ?H_a__law_big ?H_l__law_big ?H_c__law_big ?H_k__law_big ?H_a__law_numbers ?H_l__law_numbers ?H_c__law_numbers ?H_k__law_numbers ?H_a__law_times ?H_l__law_times ?H_c__law_times ?H_k__law_times ?H_a__law_is ?H_l__law_is ?H_c__law_is ?H_k__law_is ?H_a__law_parts ?H_l__law_parts ?H_c__law_parts ?H_k__law_parts ?H_a__law_other ?H_l__law_other ?H_c__law_other ?H_k__law_other ?H_a_law ?H_l_law ?H_c_law ?H_k_law ?H_pg_Machine ?H_hd_Machine ?H_po_Machine ?H_sa_Machine ?H_mk_Machine ?H_kc_Machine ?H_nF_Machine_o ?H_nF_Machine_l ?H_nF_Machine_g ?H_nF_Machine_letter ?H_nF_Machine_gap ?H_n_bool ?H_n_cls ?H_n_int ?H_n_isinstance ?H_n_len ?H_n_list ?H_n_max ?H_n_range ?H_n_tuple ?H_x_GREATEST_PART ?H_ca_Machine ?H_ct_Machine ?H_cg_Machine ?H_co_Machine ?H_ic_Machine ?H_tc_Machine ?H_sb_NoneType_Machine ?H_sb_tuple_Machine ?H_sb_list_Machine ?H_sb_str_Machine ?H_sb_int_Machine ?H_sb_bool_Machine ?H_sb_dict_Machine
    (case H_g_Machine => k_is)
    (case H_a_is_integer => k_is)
    (case H_l_is_integer => k_is)
    (case H_c_is_integer => k_is)
    (case H_k_is_integer => k_is)
    (case H_a_is_between => k_is)
    (case H_l_is_between => k_is)
    (case H_c_is_between => k_is)
    (case H_k_is_between => k_is)
    (case H_a_Machine_init => k_is)
    (case H_i_Machine_init => k_is)
    (case H_l_Machine_init => k_is)
    (case H_c_Machine_init => k_is)
    (case H_k_Machine_init => k_is)
    (case H_q_Machine_of => k_is)
    (case H_r_Machine_of => k_is)
    (case H_w_Machine_of => k_is)
    (case H_rd_Machine => k_is)
    (case H_ga_Machine => k_is)
    (case H_l_Machine_of => k_is)
    (case H_c_Machine_of => k_is)
    (case H_k_Machine_of => k_is)
    (case H_a_Machine_eq => k_is)
    (case H_i_Machine_eq => k_is)
    (case H_l_Machine_eq => k_is)
    (case H_c_Machine_eq => k_is)
    (case H_k_Machine_eq => k_is)
    (case H_a__law_source => k_is)
    (case H_l__law_source => k_is)
    (case H_c__law_source => k_is)
    (case H_k__law_source => k_is)
    (case H_a__law_draw => k_is)
    (case H_l__law_draw => k_is)
    (case H_c__law_draw => k_is)
    (case H_k__law_draw => k_is)
    (case H_a__law_big => k_is)
    (case H_l__law_big => k_is)
    (case H_c__law_big => k_is)
    (case H_k__law_big => k_is)
    (case H_a__law_numbers => k_is)
    (case H_l__law_numbers => k_is)
    (case H_c__law_numbers => k_is)
    (case H_k__law_numbers => k_is)
    (case H_a__law_times => k_is)
    (case H_l__law_times => k_is)
    (case H_c__law_times => k_is)
    (case H_k__law_times => k_is)
    (case H_a__law_is => k_is)
    (case H_l__law_is => k_is)
    (case H_c__law_is => k_is)
    (case H_k__law_is => k_is)
    (case H_a__law_parts => k_is)
    (case H_l__law_parts => k_is)
    (case H_c__law_parts => k_is)
    (case H_k__law_parts => k_is)
    (case H_a__law_other => k_is)
    (case H_l__law_other => k_is)
    (case H_c__law_other => k_is)
    (case H_k__law_other => k_is)
    (case H_a_law => k_is)
    (case H_l_law => k_is)
    (case H_c_law => k_is)
    (case H_k_law => k_is)
    (case H_pg_Machine => k_is)
    (case H_hd_Machine => k_is)
    (case H_po_Machine => k_is)
    (case H_sa_Machine => k_is)
    (case H_mk_Machine => k_is)
    (case H_kc_Machine => k_is)
    (case H_nF_Machine_o => k_is)
    (case H_nF_Machine_l => k_is)
    (case H_nF_Machine_g => k_is)
    (case H_nF_Machine_letter => k_is)
    (case H_nF_Machine_gap => k_is)
    (case H_n_bool => k_is)
    (case H_n_cls => k_is)
    (case H_n_int => k_is)
    (case H_n_isinstance => k_is)
    (case H_n_len => k_is)
    (case H_n_list => k_is)
    (case H_n_max => k_is)
    (case H_n_range => k_is)
    (case H_n_tuple => k_is)
    (case H_x_GREATEST_PART => k_is)
    (case H_ca_Machine => k_is)
    (case H_ct_Machine => k_is)
    (case H_cg_Machine => k_is)
    (case H_co_Machine => k_is)
    (case H_ic_Machine => k_is)
    (case H_tc_Machine => k_is)
    (case H_sb_NoneType_Machine => k_is)
    (case H_sb_tuple_Machine => k_is)
    (case H_sb_list_Machine => k_is)
    (case H_sb_str_Machine => k_is)
    (case H_sb_int_Machine => k_is)
    (case H_sb_bool_Machine => k_is)
    (case H_sb_dict_Machine => k_is)
