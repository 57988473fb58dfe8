import PyProof.Rows.All
import Wide.All
import OpenK.AllK
import Wide.FinOn
import HandS.Base
import HandS.Call
import HandS.List
import HandS.Comp
import HandS.Iter
import HandS.Ends
import HandS.Words
import HandS.WordsList
import HandS.IsInst
import HandS.Wide
import HandS.Style
import HandS.ClsMeth
import HandS.Defaults
import HandS.MakeKwOnly
import HandS.SlotsOwn
import HandS.Dict
import HandS.Gcd
import HandS.Exc
import HandS.ExcOwn
import HandS.TryOnly
import HandS.TryMany
import HandS.ExcField
import HandS.WordsExc
import KE.KExcInit
import HandS.Sort
import HandS.Conv
import KE.KMathGC
import KE.GoesMore
import PySem.Challenge.RW_tellontree_k55_rounds_told
set_option Elab.async false
set_option linter.all false
set_option maxRecDepth 100000
namespace My
open PySem L2
def top (i : Nat) : Stmt := PySem.Challenge.pw_tellontree_k55_rounds_told.main.body.getD i (.Pass ⟨0, 0, 0, 0⟩)
abbrev s_is_integer : Stmt := top 7
theorem sc_is_integer : FnScope ["thing"] ["thing"] (defScope s_is_integer) := ⟨rfl, rfl, rfl, by decide +kernel, rfl, by decide +kernel, by decide +kernel⟩
abbrev s_is_between : Stmt := top 8
theorem sc_is_between : FnScope ["thing", "low", "high"] ["thing", "low", "high"] (defScope s_is_between) := ⟨rfl, rfl, rfl, by decide +kernel, rfl, by decide +kernel, by decide +kernel⟩
abbrev s_check_count : Stmt := top 9
theorem sc_check_count : FnScope ["count", "low", "high"] ["count", "low", "high"] (defScope s_check_count) := ⟨rfl, rfl, rfl, by decide +kernel, rfl, by decide +kernel, by decide +kernel⟩
abbrev s_round_plan : Stmt := top 12
theorem sc_round_plan : FnScope ["machine", "n", "period", "hand", "turn"] ["machine", "n", "period"] (defScope s_round_plan) := ⟨rfl, rfl, rfl, by decide +kernel, rfl, by decide +kernel, by decide +kernel⟩
abbrev s_is_free : Stmt := top 13
theorem sc_is_free : FnScope ["machine", "n", "period", "q"] ["machine", "n", "period"] (defScope s_is_free) := ⟨rfl, rfl, rfl, by decide +kernel, rfl, by decide +kernel, by decide +kernel⟩
abbrev s_least_period : Stmt := top 14
theorem sc_least_period : FnScope ["machine", "n", "periods", "q", "period"] ["machine", "n"] (defScope s_least_period) := ⟨rfl, rfl, rfl, by decide +kernel, rfl, by decide +kernel, by decide +kernel⟩
abbrev s_everybody : Stmt := top 15
theorem sc_everybody : FnScope ["machine", "n", "period", "low"] ["machine", "n"] (defScope s_everybody) := ⟨rfl, rfl, rfl, by decide +kernel, rfl, by decide +kernel, by decide +kernel⟩
abbrev s_Machine_init : Stmt := inClass (top 18) 0
theorem sc_Machine_init : FnScope ["self", "o", "l", "g"] ["self", "o", "l", "g"] (defScope s_Machine_init) := ⟨rfl, rfl, rfl, by decide +kernel, rfl, by decide +kernel, by decide +kernel⟩
abbrev s__law_source : Stmt := top 20
theorem sc__law_source : FnScope ["_law_script", "_law_cell"] ["_law_script"] (defScope s__law_source) := ⟨rfl, rfl, rfl, by decide +kernel, rfl, by decide +kernel, by decide +kernel⟩
abbrev s__law_draw : Stmt := top 21
theorem sc__law_draw : FnScope ["_law_source_here", "_law_limit", "_law_cell", "_law_digit", "_law_one", "_law_two", "_law_three"] ["_law_source_here", "_law_limit"] (defScope s__law_draw) := ⟨rfl, rfl, rfl, by decide +kernel, rfl, by decide +kernel, by decide +kernel⟩
abbrev s__law_wide : Stmt := top 22
theorem sc__law_wide : FnScope ["_law_source_here", "_law_limit", "_law_high", "_law_middle", "_law_low"] ["_law_source_here", "_law_limit"] (defScope s__law_wide) := ⟨rfl, rfl, rfl, by decide +kernel, rfl, by decide +kernel, by decide +kernel⟩
abbrev s__law_numbers : Stmt := top 23
theorem sc__law_numbers : FnScope ["_law_source_here", "_law_size", "_law_kind", "_law_o", "_law_l", "_law_g"] ["_law_source_here"] (defScope s__law_numbers) := ⟨rfl, rfl, rfl, by decide +kernel, rfl, by decide +kernel, by decide +kernel⟩
abbrev s__law_integer : Stmt := top 24
theorem sc__law_integer : FnScope ["_law_thing"] ["_law_thing"] (defScope s__law_integer) := ⟨rfl, rfl, rfl, by decide +kernel, rfl, by decide +kernel, by decide +kernel⟩
abbrev s__law_same : Stmt := top 25
theorem sc__law_same : FnScope ["_law_told", "_law_due", "_law_at"] ["_law_told", "_law_due"] (defScope s__law_same) := ⟨rfl, rfl, rfl, by decide +kernel, rfl, by decide +kernel, by decide +kernel⟩
abbrev s__law_rounds : Stmt := top 26
theorem sc__law_rounds : FnScope ["_law_n", "_law_period", "_law_rows", "_law_hand", "_law_turn", "_law_to"] ["_law_n", "_law_period"] (defScope s__law_rounds) := ⟨rfl, rfl, rfl, by decide +kernel, rfl, by decide +kernel, by decide +kernel⟩
abbrev s__law_deep : Stmt := top 27
theorem sc__law_deep : FnScope ["_law_thing", "_law_k"] [] (defScope s__law_deep) := ⟨rfl, rfl, rfl, by decide +kernel, rfl, by decide +kernel, by decide +kernel⟩
abbrev s__law_answer : Stmt := top 28
theorem sc__law_answer : FnScope ["_law_which", "_law_machine", "_law_n", "_law_period"] ["_law_which", "_law_machine", "_law_n", "_law_period"] (defScope s__law_answer) := ⟨rfl, rfl, rfl, by decide +kernel, rfl, by decide +kernel, by decide +kernel⟩
abbrev s__law_refused : Stmt := top 29
theorem sc__law_refused : FnScope ["_law_source_here", "_law_machine", "_law_n", "_law_odd", "_law_count", "_law_wrong", "_law_period", "_law_which"] ["_law_source_here", "_law_machine", "_law_n"] (defScope s__law_refused) := ⟨rfl, rfl, rfl, by decide +kernel, rfl, by decide +kernel, by decide +kernel⟩
abbrev s_law : Stmt := top 30
theorem sc_law : FnScope ["_law_script", "_law_source_here", "_law_o", "_law_l", "_law_g", "_law_machine", "_law_n", "_law_least", "_law_due", "_law_told", "_law_k", "_law_some", "_law_period", "_law_turn", "_law_row"] ["_law_script"] (defScope s_law) := ⟨rfl, rfl, rfl, by decide +kernel, rfl, by decide +kernel, by decide +kernel⟩
/-! ### core: rules that the layer lacks, what a draw's source is -/
section
variable {X : Cx}
/-- xs[i], read ahead of xs[i] op= e -/
theorem gt_list : PGet X (rIxL X.K) := by
  intro pins s σ H x y v u Q I rx ry h
  obtain ⟨p, xs, i, z, rfl, rfl, hq, he, q⟩ := h
  cases rx
  obtain ⟨t, rfl⟩ := ry
  obtain ⟨its, r, pl, hz⟩ := I.list hq
  obtain ⟨j, h1, h2, h3, h4, h5⟩ := atI_get he
  obtain ⟨w, ew, rw'⟩ := r.get h2
  have hl := r.length
  have hn := line63
  have fin : EP X pins σ Q w s := ⟨z, H, I, rw', q⟩
  by_cases h0 : 0 ≤ i
  · have hj : i.toNat = j := by
      rw [seqIndex_of h0 h5] at h1
      exact Option.some.inj h1
    exact PySem.wpAny_getItem_list pl.isList h0 (by omega) (by rw [hj]; simpa using ew) fin
  · have hj : (i + (its.toArray.size : Int)).toNat = j := by
      rw [seqIndex_neg (by omega) h4] at h1
      rw [List.size_toArray, ← hl]
      exact Option.some.inj h1
    exact PySem.wpAny_getItem_list_neg pl.isList (by omega) (by rw [List.size_toArray] <;> omega) (by omega) (by rw [hj]; simpa using ew) fin
end
theorem pe_powN {X : Cx} {i j z : Int} {p q pos : Pos} {k l : Nat} (hc : CPow i j) (h : i ^ j.toNat = z) : PE X (.BinOp (.Constant (.int i) k p) .Pow (.Constant (.int j) l q) pos) (tC (.int z)) :=
  ⟨fun pins s σ H Q I g => (pe_op op_pow pe_int pe_int).run pins s σ H Q I ⟨i, j, rfl, rfl, hc, by show Q (.int (i ^ j.toNat)) H; rw [h]; exact g⟩⟩
theorem ite_tt {c A B : Prop} [Decidable c] (hc : c) (h : A) : if decide c = true then A else B := by
  rw [if_pos (decide_eq_true hc)]
  exact h
theorem ite_ff {c A B : Prop} [Decidable c] (hc : ¬ c) (h : B) : if decide c = true then A else B := by
  rw [if_neg (by rw [decide_eq_false hc]; exact Bool.false_ne_true)]
  exact h
theorem ite_d {c A B : Prop} [Decidable c] (h1 : c → A) (h2 : ¬ c → B) : if decide c = true then A else B := by
  by_cases hc : c
  · exact ite_tt hc (h1 hc)
  · exact ite_ff hc (h2 hc)
theorem ite_b {b : Bool} {A B : Prop} (h1 : b = true → A) (h2 : b = false → B) : if b = true then A else B := by
  cases b with
  | true => exact iteT (h1 rfl)
  | false => exact iteF (h2 rfl)
/-! ### readings, turn by turn -/
/-- a new object -/
def NewAt (n : Nat) (o : HO) (H : Hp) (Q : VK) : Prop := n ≤ sizeLine ∧ ∀ p, H p = none → Q (.ref p) (upd H p o)
theorem Same.new {H : Hp} {p : Addr} {o : HO} (h : H p = none) : Same H (upd H p o) := fun b u e => by rw [upd_ne (ne_of_none e h)]; exact e
theorem new_at {n : Nat} {o : HO} {H : Hp} {Q : VK} (hn : n ≤ 1000) (k : ∀ p H', H p = none → Same H H' → H' p = some o → Q (.ref p) H') : NewAt n o H Q :=
  ⟨Nat.le_trans hn (by decide), fun p hp => k p _ hp (Same.new hp) upd_same⟩
theorem new_of {o : HO} {H : Hp} {Q : VK} (k : ∀ p H', H p = none → Same H H' → H' p = some o → Q (.ref p) H') : ∀ p, H p = none → Q (.ref p) (upd H p o) := fun p hp => k p _ hp (Same.new hp) upd_same
theorem Same.at {H H' : Hp} {b : Addr} {o : HO} (s : Same H H') (h : H b = some o) : H' b = some o := s b o h
section
variable {K : PySem.W.Frag} {σ : St} {H : Hp} {Q : VK} {ta tb tc : TE} {x y v : V} {D : Ends} {t u : TS} {QT : Bool → Hp → Prop} {QA : List V → Hp → Prop} {i j : Int} {n m : Nat}
theorem r_var (e : σ[n]? = some (some v)) (q : Q v H) : tVar n σ H Q := ⟨v, e, q⟩
theorem r_c (q : Q v H) : tC v σ H Q := q
theorem r_op {r : R2} (h : ta σ H fun x H1 => tb σ H1 fun y H2 => r x y H2 Q) : tOp r ta tb σ H Q := h
theorem r_un {r : V → Hp → VK → Prop} (h : ta σ H fun x H1 => r x H1 Q) : tUn r ta σ H Q := h
theorem r_I0 {g : Int → Int → V} (q : Q (g i j) H) : rI0 g (.int i) (.int j) H Q := ⟨i, j, rfl, rfl, q⟩
theorem r_I {C : Int → Int → Prop} {g : Int → Int → V} (c : C i j) (q : Q (g i j) H) : rI C g (.int i) (.int j) H Q := ⟨i, j, rfl, rfl, c, q⟩
theorem r_add (q : Q (.int (i + j)) H) : rAdd (.int i) (.int j) H Q := ⟨i, j, rfl, rfl, q⟩
theorem r_sub (q : Q (.int (i - j)) H) : rSub (.int i) (.int j) H Q := ⟨i, j, rfl, rfl, q⟩
theorem r_U {g : Int → V} (q : Q (g i) H) : rU g (.int i) H Q := ⟨i, rfl, q⟩
theorem r_eqI (q : Q (.bl (decide (i = j))) H) : rEq (.int i) (.int j) H Q := ⟨rfl, by
  have e : decide (V.int i = V.int j) = decide (i = j) := by
    by_cases h : i = j
    · subst h; rw [decide_eq_true rfl, decide_eq_true rfl]
    · rw [decide_eq_false h, decide_eq_false fun z => h (V.int.inj z)]
  rw [e]; exact q⟩
theorem r_neI (q : Q (.bl (!decide (i = j))) H) : rNe (.int i) (.int j) H Q := ⟨rfl, by
  have e : decide (V.int i = V.int j) = decide (i = j) := by
    by_cases h : i = j
    · subst h; rw [decide_eq_true rfl, decide_eq_true rfl]
    · rw [decide_eq_false h, decide_eq_false fun z => h (V.int.inj z)]
  rw [e]; exact q⟩
theorem r_ixL {p : Addr} {xs : List V} (h : H p = some (.lst xs)) (e : atI xs i = some v) (q : Q v H) : rIxL K (.ref p) (.int i) H Q := ⟨p, xs, i, v, rfl, rfl, SqL.of h, e, q⟩
theorem r_ixT {p : Addr} {xs : List V} (h : H p = some (.tup xs)) (e : atI xs i = some v) (q : Q v H) : rIxT K (.ref p) (.int i) H Q := ⟨p, xs, i, v, rfl, rfl, SqT.of h, e, q⟩
theorem r_test (h : ta σ H fun x H' => ∃ k, x = .bl k ∧ QT k H') : tTest ta σ H QT := h
theorem r_tB (h : ta σ H fun x H' => ∃ k, x = .bl k ∧ QT k H') : tB ta σ H QT := h
theorem r_bl {b : Bool} {R : Bool → Prop} (h : R b) : ∃ k, V.bl b = .bl k ∧ R k := ⟨b, rfl, h⟩
theorem r_not {t : TT} (h : t σ H fun c H1 => QT (!c) H1) : tNot t σ H QT := h
theorem r_and {t u : TT} (h : t σ H fun c H1 => if c = true then u σ H1 QT else QT false H1) : tAnd t u σ H QT := h
theorem r_or {t u : TT} (h : t σ H fun c H1 => if c = true then QT true H1 else u σ H1 QT) : tOr t u σ H QT := h
theorem r_notV (h : ta σ H fun x H1 => ∃ c, x = .bl c ∧ Q (.bl (!c)) H1) : tNotV ta σ H Q := h
theorem r_andV (h : ta σ H fun x H1 => ∃ c, x = .bl c ∧ if c = true then tb σ H1 Q else Q (.bl false) H1) : tAndV ta tb σ H Q := h
theorem r_orV (h : ta σ H fun x H1 => ∃ c, x = .bl c ∧ if c = true then Q (.bl true) H1 else tb σ H1 Q) : tOrV ta tb σ H Q := h
theorem r_ifE {t : TT} (h : t σ H fun c H1 => if c = true then ta σ H1 Q else tb σ H1 Q) : tIf t ta tb σ H Q := h
theorem r_seq (h : t { D with nx := u D } σ H) : tSeq t u D σ H := h
theorem r_next (h : D.nx σ H) : tNext D σ H := h
theorem r_brk (h : D.bk σ H) : tBreak D σ H := h
theorem r_cont (h : D.ct σ H) : tCont D σ H := h
theorem r_drop (h : ta σ H fun _ H1 => D.nx σ H1) : tDrop ta D σ H := h
theorem r_ret (h : ta σ H D.rt) : tRet ta D σ H := h
theorem r_ifS {c : TT} (h : c σ H fun b H1 => if b = true then t D σ H1 else u D σ H1) : tIfS c t u D σ H := h
theorem r_asg {g : TG} (h : ta σ H fun x H1 => g x σ H1 D.nx) : tAsg ta g D σ H := h
theorem r_gName {R : St → Hp → Prop} (h : R (σ.set n (some v)) H) : gName n v σ H R := h
theorem r_gSub {s : TSet} {R : St → Hp → Prop} (h : ta σ H fun o H1 => tb σ H1 fun i H2 => s o i v H2 fun H3 => R σ H3) : gSub ta tb s v σ H R := h
theorem r_setL {p : Addr} {xs : List V} {k : Nat} {R : Hp → Prop} (h : H p = some (.lst xs)) (e : ixN xs.length i = some k) (q : R (upd H p (.lst (xs.set k v)))) : rSetL (.ref p) (.int i) v H R := ⟨p, xs, i, k, rfl, rfl, h, e, q⟩
theorem r_aug {ti : TIp} (e : σ[n]? = some (some x)) (h : ta σ H fun y H1 => ti x y H1 fun z H2 => D.nx (σ.set n (some z)) H2) : tAug n ta ti D σ H := ⟨x, e, h⟩
theorem r_augS {tg : V → V → Hp → VK → Prop} {tip : TIp} {ts : TSet} (h : ta σ H fun o H1 => tb σ H1 fun i H2 => tg o i H2 fun x H3 => tc σ H3 fun y H4 => tip x y H4 fun z H5 => ts o i z H5 fun H6 => D.nx σ H6) : tAugS ta tb tc tg tip ts D σ H := h
theorem r_ip {f : Int → Int → Int} (q : Q (.int (f i j)) H) : ipI f (.int i) (.int j) H Q := ⟨i, j, rfl, rfl, q⟩
theorem r_nil (h : QA [] H) : tNil σ H QA := h
theorem r_cons {tr : TA} (h : ta σ H fun x H1 => tr σ H1 fun xs H2 => QA (x :: xs) H2) : tCons ta tr σ H QA := h
theorem r_tup {t : TA} (h : t σ H fun xs H1 => NewAt xs.length (.tup xs) H1 Q) : tTup t σ H Q := h
theorem r_lst {t : TA} (h : t σ H fun xs H1 => NewAt xs.length (.lst xs) H1 Q) : tLst t σ H Q := h
theorem r_CB {r : List V → Hp → VK → Prop} {t : TA} (h : t σ H fun vs H1 => r vs H1 Q) : tCB r t σ H Q := h
theorem r_call {sp : Sp} {dvs : List V} {E : XK} {t : TA} (h : t σ H fun vs H1 => sp (vs ++ dvs) H1 Q E) : tCall sp dvs E t σ H Q := h
theorem r_callN {k l : Nat} {sp : Sp} {gV : List V → List V → List V} {E : XK} {t tk : TA} (h : t σ H fun vs H1 => tk σ H1 fun zs H2 => vs.length = k ∧ zs.length = l ∧ sp (gV vs zs) H2 Q E) : tCallN k l sp gV E t tk σ H Q := h
theorem r_fld {p C dx : Addr} {fs : List (Str × V)} {f : Str} {R : V → Prop} (hc : Cls K C) (hn : NoAttr K C f) (hx : H p = some (.ins C dx fs)) (e : fs.lookup f = some v) (q : R v) : (∃ a C dx fs v, V.ref p = .ref a ∧ H a = some (.ins C dx fs) ∧ Cls K C ∧ NoAttr K C f ∧ fs.lookup f = some v ∧ R v) := ⟨p, C, dx, fs, v, rfl, hx, hc, hn, e, q⟩
theorem r_tFld {f : Str} (h : ta σ H fun x H1 => ∃ a C dx fs v, x = .ref a ∧ H1 a = some (.ins C dx fs) ∧ Cls K C ∧ NoAttr K C f ∧ fs.lookup f = some v ∧ Q v H1) : tFld K ta f σ H Q := h
theorem r_sl {r : V → Option Int → Option Int → Hp → VK → Prop} {tl th : TO} (h : ta σ H fun x H1 => tl σ H1 fun l H2 => th σ H2 fun u H3 => r x l u H3 Q) : tSl r ta tl th σ H Q := h
theorem r_noP {R : Option Int → Hp → Prop} (h : R none H) : tNoPart σ H R := h
theorem r_part {R : Option Int → Hp → Prop} (h : ta σ H fun x H1 => ∃ i, x = .int i ∧ R (some i) H1) : tPart ta σ H R := h
theorem r_in {R : Int → Prop} (h : R i) : ∃ k, V.int i = .int k ∧ R k := ⟨i, rfl, h⟩
theorem r_Bm {T : String} {r : V → List V → Hp → VK → Prop} {t : TA} (h : ta σ H fun x H1 => tyV K T x H1 ∧ t σ H1 fun xs H2 => r x xs H2 Q) : tBM K T r ta t σ H Q := h
theorem r_app {l : Addr} {xs : List V} (h : H l = some (.lst xs)) (hz : xs.length < sizeLine) (q : Q .non (upd H l (.lst (xs ++ [y])))) : rAppend (.ref l) [y] H Q := ⟨l, xs, y, rfl, rfl, h, hz, q⟩
end
theorem at_nat {ns : List Int} {i : Int} (h0 : 0 ≤ i) (h : i < (ns.map V.int).length) : ∃ n, atI (ns.map V.int) i = some (.int n) ∧ n ∈ ns := by
  obtain ⟨j, rfl⟩ : ∃ j : Nat, i = j := ⟨i.toNat, by omega⟩
  rw [List.length_map] at h
  have hj : j < ns.length := by omega
  exact ⟨ns[j], atI_nat (by rw [List.getElem?_map, List.getElem?_eq_getElem hj]; rfl), List.getElem_mem hj⟩
theorem fmod_nn {a b : Int} (h : 0 < b) : 0 ≤ a.fmod b := by rw [Int.fmod_eq_emod_of_nonneg a (by omega)]; exact Int.emod_nonneg a (by omega)
theorem fmod_lt {a b : Int} (h : 0 < b) : a.fmod b < b := by rw [Int.fmod_eq_emod_of_nonneg a (by omega)]; exact Int.emod_lt_of_pos a h
theorem lim_div {lim : Int} (h0 : 0 < lim) (h : lim < 2 ^ 200) : CDivW lim lim := wide_div (b := 200) h0 (by omega) (by decide) (by decide)
theorem cdiv_of {i lim : Int} (h0 : 0 < lim) (h : lim < 2 ^ 200) : CDivW i lim := ⟨h0, (lim_div h0 h).2⟩
theorem mulL {i j : Int} (h1 : -(2 ^ 64) < i) (h2 : i < 2 ^ 64) : CMul i j := Or.inl ⟨h1, h2⟩
theorem mulR {i j : Int} (h1 : -(2 ^ 64) < j) (h2 : j < 2 ^ 64) : CMul i j := Or.inr ⟨h1, h2⟩
theorem powOk {i j : Int} (h1 : 0 ≤ j) (h2 : j ≤ 1000000) (h3 : i.natAbs < 2 ^ 64) : CPow i j := ⟨h1, h2, h3⟩
theorem r_for {wi : TI} {g : TG} {tb : TS} {D : Ends} {σ : St} {H : Hp} (h : wi σ H fun J H1 => ∃ W : Nat → Nat → St → Hp → Prop, (∃ m, W 0 m σ H1) ∧ ∀ i m σ H, W i m σ H →
  (J.stop i H ∧ D.nx σ H) ∨ (J.go i H ∧ ∃ N : St → Hp → Prop, (∀ σ' H', N σ' H' → ∃ m', m' < m ∧ W (i + 1) m' σ' H') ∧ ∀ x H', J.yld i H x H' → g x σ H' fun σ2 H2 => tb { D with nx := N, ct := N, bk := D.nx } σ2 H2)) : tFor wi g tb D σ H := h
theorem r_iR1 {ta : TA} {σ : St} {H : Hp} {R : It → Hp → Prop} (h : ta σ H fun vs H1 => ∃ j : Int, vs = [.int j] ∧ -(2 ^ 62) ≤ j ∧ j < 2 ^ 62 ∧ R (Itr 0 j.toNat) H1) : iRng1 ta σ H R := h
theorem r_iR2 {ta : TA} {σ : St} {H : Hp} {R : It → Hp → Prop} (h : ta σ H fun vs H1 => ∃ i j : Int, vs = [.int i, .int j] ∧ (-(2 ^ 62) ≤ i ∧ i < 2 ^ 62 ∧ -(2 ^ 62) ≤ j ∧ j < 2 ^ 62) ∧ R (Itr i (j - i).toNat) H1) : iRng2 ta σ H R := h
theorem r_tMeth {C : Addr} {m : Str} {sp : Sp} {dvs : List V} {E : XK} {ta : TE} {t : TA} {σ : St} {H : Hp} {Q : VK} (h : ta σ H fun x H1 => ∃ a dx fs, x = .ref a ∧ H1 a = some (.ins C dx fs) ∧ fs.lookup m = none ∧ t σ H1 fun vs H2 => sp (x :: (vs ++ dvs)) H2 Q E) : tMeth C m sp dvs E ta t σ H Q := h
theorem r_meth {C p dx : Addr} {fs : List (Str × V)} {m : Str} {H : Hp} {R : Prop} (hx : H p = some (.ins C dx fs)) (hl : fs.lookup m = none) (q : R) : ∃ a dx fs, V.ref p = .ref a ∧ H a = some (.ins C dx fs) ∧ fs.lookup m = none ∧ R := ⟨p, dx, fs, rfl, hx, hl, q⟩
theorem r_iT {K : PySem.W.Frag} {tl : TE} {σ : St} {H : Hp} {R : It → Hp → Prop} (h : tl σ H fun x H1 => ∃ a, x = .ref a ∧ (∃ xs, SqT K H1 a xs) ∧ R (Itt K a) H1) : iTup K tl σ H R := h
theorem r_iL {K : PySem.W.Frag} {tl : TE} {σ : St} {H : Hp} {R : It → Hp → Prop} (h : tl σ H fun x H1 => ∃ a, x = .ref a ∧ (∃ xs, SqL K H1 a xs) ∧ R (Itl K a) H1) : iList K tl σ H R := h
theorem r_lc {wi : TI} {g : TG} {tt : TT} {te : TE} {vs : List Nat} {σ : St} {H : Hp} {Q : VK} (h : wi σ H fun J H1 => ∀ D, H1 D = none → ∃ W : Nat → Nat → Hp → Prop, (∃ m, W 0 m (upd H1 D (.lst []))) ∧ ∀ i m H, W i m H →
  (J.stop i H ∧ Q (.ref D) H) ∨ (J.go i H ∧ ∃ Nx : Hp → Prop, (∀ H', Nx H' → ∃ m', m' < m ∧ W (i + 1) m' H') ∧ ∀ x H', J.yld i H x H' → g x (wipe σ vs) H' fun σ2 H2 => wipe σ2 vs = wipe σ vs ∧ tt σ2 H2 fun b H3 =>
    if b = true then te σ2 H3 fun y H4 => ∃ acc, H4 D = some (.lst acc) ∧ acc.length < sizeLine ∧ Nx (upd H4 D (.lst (acc ++ [y]))) else Nx H3)) : tLc wi g tt te vs σ H Q := h
theorem r_isiI {K : PySem.W.Frag} {H : Hp} {Q : VK} {i : Int} {n : String} (b : Bool) (h : kitB "int" n = some b) (q : Q (.bl b) H) : rIsi K [.int i, .ty n] H Q := ⟨_, _, .type "int", .type n, b, rfl, .ty n, .base (.int i), kit_ty h, q⟩
theorem r_isiB {K : PySem.W.Frag} {H : Hp} {Q : VK} {i : Bool} {n : String} (b : Bool) (h : kitB "bool" n = some b) (q : Q (.bl b) H) : rIsi K [.bl i, .ty n] H Q := ⟨_, _, .type "bool", .type n, b, rfl, .ty n, .base (.bl i), kit_ty h, q⟩
theorem r_slL {K : PySem.W.Frag} {H : Hp} {Q : VK} {a : Addr} {xs : List V} {lo hi : Option Int} (h : SqL K H a xs) (q : ∀ p H', H p = none → Same H H' → H' p = some (.lst (cutV xs lo hi)) → Q (.ref p) H') : rSlL K (.ref a) lo hi H Q := ⟨a, xs, rfl, h, new_of q⟩
theorem r_slT {K : PySem.W.Frag} {H : Hp} {Q : VK} {a : Addr} {xs : List V} {lo hi : Option Int} (h : SqT K H a xs) (hn : ¬ (HT.sIx xs.length 0 lo = 0 ∧ HT.sIx xs.length xs.length hi = xs.length)) (q : ∀ p H', H p = none → Same H H' → H' p = some (.tup (cutV xs lo hi)) → Q (.ref p) H') : rSlT K (.ref a) lo hi H Q := ⟨a, xs, rfl, h, hn, new_of q⟩
def rListOf (K : PySem.W.Frag) : List V → Hp → VK → Prop := fun xs H Q => ∃ p ys, xs = [.ref p] ∧ (SqL K H p ys ∨ SqT K H p ys) ∧ ∀ l, H l = none → Q (.ref l) (upd H l (.lst ys))
def rTupOf (K : PySem.W.Frag) : List V → Hp → VK → Prop := fun xs H Q => ∃ p ys, xs = [.ref p] ∧ ((SqL K H p ys ∧ ∀ l, H l = none → Q (.ref l) (upd H l (.tup ys))) ∨ (SqT K H p ys ∧ Q (.ref p) H))
theorem cr_list {X : Cx} : CallR X (.type "list") (rListOf X.K) := call_list_of
theorem cr_tup {X : Cx} : CallR X (.type "tuple") (rTupOf X.K) := call_tuple_of
theorem r_listS {K : PySem.W.Frag} {H : Hp} {Q : VK} {a : Addr} {xs : List V} (h : SqL K H a xs ∨ SqT K H a xs) (q : ∀ p H', H p = none → Same H H' → H' p = some (.lst xs) → Q (.ref p) H') : rListOf K [.ref a] H Q := ⟨a, xs, rfl, h, new_of q⟩
theorem r_listL {K : PySem.W.Frag} {H : Hp} {Q : VK} {a : Addr} {xs : List V} (h : H a = some (.lst xs)) (q : ∀ p H', H p = none → Same H H' → H' p = some (.lst xs) → Q (.ref p) H') : rListOf K [.ref a] H Q := r_listS (.inl (SqL.of h)) q
theorem r_listT {K : PySem.W.Frag} {H : Hp} {Q : VK} {a : Addr} {xs : List V} (h : H a = some (.tup xs)) (q : ∀ p H', H p = none → Same H H' → H' p = some (.lst xs) → Q (.ref p) H') : rListOf K [.ref a] H Q := r_listS (.inr (SqT.of h)) q
theorem r_tupL {K : PySem.W.Frag} {H : Hp} {Q : VK} {a : Addr} {xs : List V} (h : H a = some (.lst xs)) (q : ∀ p H', H p = none → Same H H' → H' p = some (.tup xs) → Q (.ref p) H') : rTupOf K [.ref a] H Q := ⟨a, xs, rfl, .inl ⟨SqL.of h, new_of q⟩⟩
theorem r_tupT {K : PySem.W.Frag} {H : Hp} {Q : VK} {a : Addr} {xs : List V} (h : H a = some (.tup xs)) (q : Q (.ref a) H) : rTupOf K [.ref a] H Q := ⟨a, xs, rfl, .inr ⟨SqT.of h, q⟩⟩
theorem r_nF {A B : Prop} (h : A) : if (!false) = true then A else B := h
theorem r_nT {A B : Prop} (h : B) : if (!true) = true then A else B := by
  rw [if_neg (by decide)]
  exact h
theorem r_nD {c A B : Prop} [Decidable c] (h1 : ¬ c → A) (h2 : c → B) : if (!decide c) = true then A else B := by
  by_cases hc : c
  · rw [decide_eq_true hc]; exact r_nT (h2 hc)
  · rw [decide_eq_false hc]; exact r_nF (h1 hc)
theorem cut_take {xs : List V} {k : Int} (h : (xs.length : Int) ≤ k) : cutV xs none (some k) = xs := by
  have e : HT.sIx xs.length xs.length (some k) = xs.length := by
    show (if k < 0 then (k + (xs.length : Int)).toNat else min k.toNat xs.length) = xs.length
    rw [if_neg (by omega)]; omega
  unfold cutV
  rw [e]
  show (xs.drop 0).take (xs.length - 0) = xs
  simp
theorem r_yes {σ : St} {H : Hp} {R : Bool → Hp → Prop} (h : R true H) : tYes σ H R := h
theorem int_of_get {ns : List Int} {i : Nat} {y : V} (h : (ns.map V.int)[i]? = some y) : ∃ z, ns[i]? = some z ∧ y = V.int z := by
  rw [List.getElem?_map] at h
  cases e : ns[i]? with
  | none => rw [e] at h; cases h
  | some z => rw [e] at h; exact ⟨z, rfl, (Option.some.inj h).symm⟩
theorem take_more {α : Type} {l : List α} {i : Nat} {x : α} (h : l[i]? = some x) : l.take (i + 1) = l.take i ++ [x] := by
  rw [List.take_succ, h]; rfl
theorem r_chain {r r' : R2} {ta tb tc : TE} {σ : St} {H : Hp} {Q : VK} (h : ta σ H fun x H1 => tb σ H1 fun y H2 => r x y H2 fun z H3 => ∃ k, z = .bl k ∧ (if k = true then tc σ H3 fun w' H4 => r' y w' H4 Q else Q (.bl false) H3)) : tChain r r' ta tb tc σ H Q := h
theorem r_sFld {K : PySem.W.Frag} {ta tv : TE} {f : Str} {D : Ends} {σ : St} {H : Hp} (h : tv σ H fun y H1 => ta σ H1 fun x H2 => ∃ a C dx fs, x = .ref a ∧ H2 a = some (.ins C dx fs) ∧ Cls K C ∧ NoAttr K C f ∧ fs.length < 1000 ∧ D.nx σ (upd H2 a (.ins C dx (putF f y fs)))) : sFld K ta tv f D σ H := h
theorem r_put {K : PySem.W.Frag} {p C dx : Addr} {fs : List (Str × V)} {f : Str} {H : Hp} {R : Addr → Addr → Addr → List (Str × V) → Prop} (hc : Cls K C) (hn : NoAttr K C f) (hx : H p = some (.ins C dx fs)) (hl : fs.length ≤ 900) (q : R p C dx fs) :
    ∃ a C dx fs, V.ref p = .ref a ∧ H a = some (.ins C dx fs) ∧ Cls K C ∧ NoAttr K C f ∧ fs.length < 1000 ∧ R a C dx fs := ⟨p, C, dx, fs, rfl, hx, hc, hn, by omega, q⟩
theorem putF_len (f : Str) (v : V) : ∀ fs : List (Str × V), (putF f v fs).length ≤ fs.length + 1
  | [] => Nat.le_refl _
  | (g, x) :: r => by
    unfold putF
    by_cases h : g = f
    · rw [if_pos h, List.length_cons, List.length_cons]; omega
    · rw [if_neg h, List.length_cons, List.length_cons]
      have := putF_len f v r
      omega
theorem putF_le {f : Str} {v : V} {fs : List (Str × V)} {n : Nat} (h : fs.length ≤ n) : (putF f v fs).length ≤ n + 1 := Nat.le_trans (putF_len f v fs) (by omega)
def MakeAt (C : Addr) (sp : Sp) (vs : List V) (E : XK) (H : Hp) (Q : VK) : Prop := ∀ x dx, H x = none → H dx = none → dx ≠ x → sp (.ref x :: vs) (upd (upd H dx (.own x)) x (.ins C dx [])) (fun v H2 => v = .non ∧ Q (.ref x) H2) E
theorem r_make {C : Addr} {sp : Sp} {dvs : List V} {E : XK} {t : TA} {σ : St} {H : Hp} {Q : VK} (h : t σ H fun vs H1 => MakeAt C sp (vs ++ dvs) E H1 Q) : tMake C sp dvs E t σ H Q := h
def rIsNo : R2 := fun x y H Q => y = .non ∧ Q (.bl (decide (x = .non))) H
def rNotNo : R2 := fun x y H Q => y = .non ∧ Q (.bl (!decide (x = .non))) H
theorem op_isNo {X : Cx} : OpR X (compareOp .Is) rIsNo := op_isN
theorem op_notNo {X : Cx} : OpR X (compareOp .IsNot) rNotNo := op_notN
theorem r_isNn {H : Hp} {Q : VK} (q : Q (.bl true) H) : rIsNo .non .non H Q := ⟨rfl, q⟩
theorem r_isNi {H : Hp} {Q : VK} {i : Int} (q : Q (.bl false) H) : rIsNo (.int i) .non H Q := ⟨rfl, q⟩
theorem r_isNr {H : Hp} {Q : VK} {i : Addr} (q : Q (.bl false) H) : rIsNo (.ref i) .non H Q := ⟨rfl, q⟩
theorem r_notNn {H : Hp} {Q : VK} (q : Q (.bl false) H) : rNotNo .non .non H Q := ⟨rfl, q⟩
theorem r_notNi {H : Hp} {Q : VK} {i : Int} (q : Q (.bl true) H) : rNotNo (.int i) .non H Q := ⟨rfl, q⟩
theorem r_notNr {H : Hp} {Q : VK} {i : Addr} (q : Q (.bl true) H) : rNotNo (.ref i) .non H Q := ⟨rfl, q⟩
theorem r_lenS {K : PySem.W.Frag} {H : Hp} {p : Addr} {xs : List V} {R : List V → Prop} (h : SqL K H p xs ∨ SqT K H p xs) (q : R xs) : ∃ (p1 : Addr) (ys : List V), [V.ref p] = [.ref p1] ∧ (SqL K H p1 ys ∨ SqT K H p1 ys) ∧ R ys := ⟨p, xs, rfl, h, q⟩
theorem r_lenL {K : PySem.W.Frag} {H : Hp} {p : Addr} {xs : List V} {R : List V → Prop} (h : H p = some (.lst xs)) (q : R xs) : ∃ (p1 : Addr) (ys : List V), [V.ref p] = [.ref p1] ∧ (SqL K H p1 ys ∨ SqT K H p1 ys) ∧ R ys := ⟨p, xs, rfl, .inl (SqL.of h), q⟩
theorem r_lenT {K : PySem.W.Frag} {H : Hp} {p : Addr} {xs : List V} {R : List V → Prop} (h : H p = some (.tup xs)) (q : R xs) : ∃ (p1 : Addr) (ys : List V), [V.ref p] = [.ref p1] ∧ (SqL K H p1 ys ∨ SqT K H p1 ys) ∧ R ys := ⟨p, xs, rfl, .inr (SqT.of h), q⟩
theorem r_in1 {i : Int} {R : Int → Prop} (h : R i) : ∃ k, [V.int i] = [.int k] ∧ R k := ⟨i, rfl, h⟩
theorem r_in2 {i j : Int} {R : Int → Int → Prop} (h : R i j) : ∃ k l, [V.int i, V.int j] = [.int k, .int l] ∧ R k l := ⟨i, j, rfl, h⟩
/-- all but what stands at p is as it was -/
def But (p : Addr) (H H' : Hp) : Prop := ∀ b o, H b = some o → b ≠ p → H' b = some o
theorem But.refl (p : Addr) (H : Hp) : But p H H := fun _ _ h _ => h
theorem But.trans {p : Addr} {H H1 H2 : Hp} (a : But p H H1) (b : But p H1 H2) : But p H H2 := fun c o h n => b c o (a c o h n) n
theorem But.of_same {p : Addr} {H H' : Hp} (h : Same H H') : But p H H' := fun b o e _ => h b o e
theorem But.upd {p : Addr} {H : Hp} {o : HO} : But p H (upd H p o) := fun b u h n => by rw [upd_ne n]; exact h
theorem But.at {p b : Addr} {H H' : Hp} {o : HO} (s : But p H H') (n : b ≠ p) (h : H b = some o) : H' b = some o := s b o h n
theorem But.new {p q : Addr} {H : Hp} {o : HO} (h : H q = none) : But p H (L2.upd H q o) := But.of_same (Same.new h)
/-- the source of draws at p, its cells at q -/
def SrcAt (H : Hp) (p q : Addr) : Prop := ∃ (cs : List Int) (i big cnt st : Int), H p = some (.lst [.ref q, .int i, .int big, .int cnt, .int st]) ∧ H q = some (.lst (cs.map V.int)) ∧ q ≠ p ∧ 0 ≤ i ∧ 0 ≤ big ∧ cs.length ≤ 63
theorem SrcAt.keep {H H' : Hp} {p q : Addr} (h : SrcAt H p q) (s : Same H H') : SrcAt H' p q := by
  obtain ⟨cs, i, big, cnt, st, h1, h2, h3⟩ := h
  exact ⟨cs, i, big, cnt, st, s _ _ h1, s _ _ h2, h3⟩
theorem SrcAt.upd {H : Hp} {p q x : Addr} {o : HO} (h : SrcAt H p q) (h1 : x ≠ p) (h2 : x ≠ q) : SrcAt (upd H x o) p q := by
  obtain ⟨cs, i, big, cnt, st, e1, e2, h3⟩ := h
  exact ⟨cs, i, big, cnt, st, (upd_ne h1.symm).trans e1, (upd_ne h2.symm).trans e2, h3⟩
theorem SrcAt.ne {H : Hp} {p q x : Addr} (h : SrcAt H p q) (hx : H x = none) : x ≠ p := by
  obtain ⟨cs, i, big, cnt, st, h1, _⟩ := h
  exact (ne_of_none h1 hx).symm
theorem SrcAt.neq {H : Hp} {p q x : Addr} (h : SrcAt H p q) (hx : H x = none) : x ≠ q := by
  obtain ⟨cs, i, big, cnt, st, _, h1, _⟩ := h
  exact (ne_of_none h1 hx).symm
theorem But.free {p q : Addr} {H H' : Hp} (b : But p H H') (hs : SrcAt H' p q) {x : Addr} (hx : H' x = none) : H x = none := by
  cases e : H x with
  | none => rfl
  | some o => exact absurd (b _ _ e (hs.ne hx)) (by rw [hx]; intro z; cases z)
theorem seq_with {t1 t2 : TS} {D : Ends} {σ : St} {H : Hp} (P : St → Hp → Prop) (h2 : ∀ σ H, P σ H → t2 D σ H) (h1 : (∀ σ H, P σ H → t2 D σ H) → t1 { D with nx := t2 D } σ H) : tSeq t1 t2 D σ H := h1 h2
theorem pe_fldK {X : Cx} {K : PySem.W.Frag} {e : Expr} {f : Str} {pos : Pos} {ta : TE} (hK : X.K = K) (he : PE X e ta) (hb : attributeBase e f X.env (eval e X.env) = eval e X.env) : PE X (.Attribute e f pos) (tFld K ta f) := by
  subst hK; exact pe_fld he hb
theorem r_cat {H : Hp} {Q : VK} {l b : Addr} {xs zs : List V} (h1 : H l = some (.lst xs)) (h2 : H b = some (.lst zs)) (hn : xs.length + zs.length ≤ 1000) (q : ∀ p H', H p = none → Same H H' → H' p = some (.lst (xs ++ zs)) → Q (.ref p) H') : rCat (.ref l) (.ref b) H Q :=
  ⟨l, b, xs, zs, rfl, rfl, h1, h2, Nat.le_trans hn (by decide), new_of q⟩
theorem r_min {K : PySem.W.Frag} {H : Hp} {Q : VK} {l : Addr} {ns : List Int} (h1 : H l = some (.lst (ns.map V.int))) (hn : 0 < ns.length) (q : ∀ m, m ∈ ns → (∀ y, y ∈ ns → m ≤ y) → Q (.int m) H) : rMin K [.ref l] H Q :=
  ⟨l, ns, rfl, SqL.of h1, hn, q⟩
section
variable {X : Cx} {K : PySem.W.Frag}
theorem ix_listK (hK : X.K = K) : IxR X (rIxL K) := by subst hK; exact ix_list
theorem ix_tupK (hK : X.K = K) : IxR X (rIxT K) := by subst hK; exact ix_tup
theorem call_len_seqK (hK : X.K = K) : CallR X (.builtin "len") (fun xs H Q => ∃ p ys, xs = [.ref p] ∧ (SqL K H p ys ∨ SqT K H p ys) ∧ Q (.int ys.length) H) := by subst hK; exact call_len_seq
theorem call_isiK (hK : X.K = K) : CallR X (.builtin "isinstance") (rIsi K) := by subst hK; exact call_isi
theorem cr_listK (hK : X.K = K) : CallR X (.type "list") (rListOf K) := by subst hK; exact cr_list
theorem cr_tupK (hK : X.K = K) : CallR X (.type "tuple") (rTupOf K) := by subst hK; exact cr_tup
end

end My
namespace PySem
namespace MyX
open PySem.W PySem.Calls PyProof.Rows PySem.HandSPX Builtin Builtin.ObjectAttr
/-! ### errors over Exception: made, and their first field -/
abbrev exM : List Value := [.type "Exception", .type "BaseException", .type "object"]
theorem exT (x : Addr) : excTail exM [.ref x, .type "Exception", .type "BaseException", .type "object"] = true := (by decide +kernel : excTail exM exM = true)
theorem one_sz (v : Value) : [v].length ≤ sizeLine := by
  rw [sizeLine_eq]
  exact (by decide : 1 ≤ 16777216)
/-- what the written part says of a class over Exception whose __init__ is its own -/
structure XCls (K : Frag) (C fI : Addr) (f : Str) : Prop where
  cls : ∃ nm q N bs bm sn sub ab col dd k0 k1 k2 k3 k5, K.lookup C = some (excClassObj nm q C N bs bm true sn sub ab col dd k0 k1 k2 k3 k5 "Exception.__new__") ∧ excTail exM bm = true
  sa : findIn K (.ref C) "__setattr__" = some (some (.builtin "object.__setattr__"))
  ga : findIn K (.ref C) "__getattribute__" = some (some (.builtin "BaseException.__getattribute__"))
  gg : findIn K (.ref C) "__getattr__" = some none
  noN : findIn K (.ref C) f = some none
  iC : findIn K (.ref C) "__init__" = some (some (.ref fI))
  tC : typeIn K (.ref fI) = some (.type "function")
  kC : keepIn K (.ref C) = true
  exC : subIn K (.ref C) (.type "BaseException") = some true
  tyC : typeIn K (.ref C) = some (.type "type")
  hdC : hasDictIn K C = true
theorem XCls.over {K : Frag} {C fI : Addr} {f : Str} (T : XCls K C fI f) : excOver K C exM = true := by
  obtain ⟨nm, q, N, bs, bm, sn, sub, ab, col, dd, k0, k1, k2, k3, k5, hC, hbm⟩ := T.cls
  have e : clsIn K C = some { name := nm, bases := bs, mro := .ref C :: bm, ns := N, qualname := q, hasDict := true, slotNames := sn, subclasses := sub, abstract := ab, collection := col, hasDel := false } := by unfold clsIn; rw [hC] <;> rfl
  unfold excOver
  rw [e]
  show (C == C && excTail exM bm) = true
  rw [hbm, beq_self_eq_true]; rfl
section
variable {prog : Program} {w : World} {A : Around} {R : Result → Shared → Prop} {s : Shared} {K : Frag}
theorem first_field {x C fI t : Addr} {f : Str} {tk : Tok} {v : Value} (T : XCls K C fI f) (X : K.In s.heap) (hx : s.heap.get? x = some (excO C t))
    (hq : ∀ h' tk' dx, (∀ b o, b ≠ x → s.heap.get? b = some o → h'.get? b = some o) → s.heap.objs.size ≤ dx → dx ≠ x → h'.get? x = some { cls := .ref C, dict := some dx, data := .fields #[.ref t, .none, .none, .none, .bool false, .none] } →
      h'.Ns1 dx (fun y => if y = f then some v else none) → R (.ok (.ret .none)) { s with heap := h', toks := tk' }) :
    codeAny (model prog w) A (.call (.builtin "object.__setattr__") ⟨[.ref x, .str f tk, v], []⟩) R s := by
  obtain ⟨hp, g, d, tok, os⟩ := s
  refine osa_openX (od := none) PySem.F.store_Exception X ⟨hx, rfl, rfl, trivial⟩ T.over (by unfold takerIn; rw [T.noN]; rfl) fun b => ?_
  obtain ⟨cd, hc, hd'⟩ := any_some T.hdC
  have lt : x < hp.objs.size := Heap.lt_size hx
  have ne : hp.objs.size ≠ x := Nat.ne_of_gt lt
  refine wpAny_bind (wpAny_pure (wpAny_bind (instanceDict_exc (t := t) (c2 := .none) hx (looks_clsIn X hc) hd' ?_)))
  show wpAny _ _ (storeInDict hp.objs.size (.str f tk) f v) _ _ _
  refine store_in_new ?_ fun h' tk' hn hs => ?_
  · exact ⟨_, #[], _, (Heap.get?_update_ne _ _ _ _ ne).trans (Heap.get?_push_at rfl rfl), rfl, fun e he => absurd he (by simp), fun _ => rfl⟩
  · have hx1 : (hp.push (dictOf [] 0)).get? x = some (excObj C t none .none) := Heap.get?_push_of_some _ hx
    refine hq h' tk' hp.objs.size (fun b o hb ho => ?_) (Nat.le_refl _) ne ?_ hn
    · exact (hs.2 b (Nat.ne_of_lt (Heap.lt_size ho))).trans ((Heap.get?_update_ne _ _ _ _ hb).trans (Heap.get?_push_of_some _ ho))
    · exact (hs.2 x ne.symm).trans (Heap.get?_update_self _ hx1 rfl)
end
end MyX
end PySem
namespace My
open PySem L2
section
variable {X : Cx} {C : Addr} {B newId initId : String} {bmB : List Value}
/-- X() of a class without an own __init__ -/
theorem pmk_bare {x : Str} {p pos : Pos} (F : ExcBaseFacts B newId initId bmB) (q : PySem.W.excIn X.K C bmB newId = true) (gC : X.mg x = some (.ref C)) (kC : PySem.W.keepIn X.K (.ref C) = true) (r : Raises X (.ref C)) (hg : Gl X x)
    (hdb : (x == ("__debug__" : Str)) = false := by decide) : PMk X (.Call (.Name x p) [] [] pos) (fun _ H Q => Q (.ref C) none H) := by
  intro pins s σ H Q I h
  refine wpAny_Call_Name_kw (ld_glob I hg gC ?_ hdb)
  refine PySem.W.callWith_K0 I.kIn kC ?_
  obtain ⟨bm, N, nm, qn, bs, hdct, sn, sub, ab, col, dd, k0, k1, k2, k3, k5, mN, hC, hN, hni, T⟩ := exc_obj I.kIn q
  exact wpAny_call_exc_subT F T hC hN hni (fun h' e hm => mk_of I hm r h (I.hok.gone hm.new)) (Nat.zero_le _)
end
theorem pcX {X : Cx} {E : XK} (tk : Takes X fun cls d _ H => E cls d H) : Passes (L2.CX X.prog X.w) X E := passes_call tk fun _ _ _ _ h => h
/-- what the clauses of a try ask, whatever the slots hold -/
def WT (n : Nat) (W : WX) : XK := fun cls d H => ∀ σ : St, σ.length = n → W cls d σ H
theorem passesT {X : Cx} {W : WX} {n : Nat} (tk : Takes X W) (hn : X.N.length = n := by rfl) : Passes (L2.CX X.prog X.w) X (WT n W) := fun _ σ _ _ e s' I c => tk e s' (XE.of_call I (fun _ _ _ h => h σ (I.len.trans hn)) c)
theorem exm_by {K : PySem.W.Frag} {S R : Addr} {b : Bool} (h1 : PySem.W.subIn K (.ref R) (.type "BaseException") = some true) (h2 : PySem.W.isClsIn K R = true) (h3 : PySem.W.typeIn K (.ref R) = some (.type "type")) (h4 : PySem.W.subIn K (.ref S) (.ref R) = some b) :
    PySem.W.exmOne K (.ref S) (.ref R) = some b := by
  have e1 : (PySem.W.subIn K (.ref R) (.type "BaseException") == some true) = true := by rw [h1] <;> rfl
  have e2 : ((PySem.W.clsIn K R).isSome && PySem.W.typeIn K (.ref R) == some (.type "type")) = true := by
    have h2' : (PySem.W.clsIn K R).isSome = true := h2
    rw [h2', h3] <;> rfl
  show (if (PySem.W.subIn K (.ref R) (.type "BaseException") == some true) = true then (if ((PySem.W.clsIn K R).isSome && PySem.W.typeIn K (.ref R) == some (.type "type")) = true then PySem.W.subIn K (.ref S) (.ref R) else none) else none) = some b
  rw [if_pos e1, if_pos e2]
  exact h4
theorem exm_self {K : PySem.W.Frag} {S : Addr} (h1 : PySem.W.subIn K (.ref S) (.type "BaseException") = some true) (h2 : PySem.W.isClsIn K S = true) (h3 : PySem.W.typeIn K (.ref S) = some (.type "type")) (h4 : PySem.W.subIn K (.ref S) (.ref S) = some true) :
    PySem.W.exmOne K (.ref S) (.ref S) = some true := exm_by h1 h2 h3 h4
theorem _root_.PySem.MyX.XCls.xf {K : PySem.W.Frag} {C fI : Addr} {f : Str} (T : PySem.MyX.XCls K C fI f) : XfC K C := ⟨T.ga, T.gg, T.exC, T.hdC⟩
/-- raised: an error of the class at C with one field -/
def Exc1 (E : XK) (C : Addr) (f : Str) (v : V) (H : Hp) : Prop := ∀ d H', Same H H' → H' d = some (.xd [(f, v)]) → E (.ref C) (some d) H'
theorem r_raise {t : St → Hp → XK → Prop} {W : WX} {σ : St} {H : Hp} {D : Ends} (h : t σ H fun cls d H' => W cls d σ H') : (fun (_ : Ends) σ H => t σ H fun cls d H' => W cls d σ H') D σ H := h

/-- where the top has written what -/
structure Adr where
  a_is_integer : Addr
  d_is_integer : FuncData
  a_is_between : Addr
  d_is_between : FuncData
  a_check_count : Addr
  d_check_count : FuncData
  a_round_plan : Addr
  d_round_plan : FuncData
  a_is_free : Addr
  d_is_free : FuncData
  a_least_period : Addr
  d_least_period : FuncData
  a_everybody : Addr
  d_everybody : FuncData
  a_Machine_init : Addr
  d_Machine_init : FuncData
  a__law_source : Addr
  d__law_source : FuncData
  a__law_draw : Addr
  d__law_draw : FuncData
  a__law_wide : Addr
  d__law_wide : FuncData
  a__law_numbers : Addr
  d__law_numbers : FuncData
  a__law_integer : Addr
  d__law_integer : FuncData
  a__law_same : Addr
  d__law_same : FuncData
  a__law_rounds : Addr
  d__law_rounds : FuncData
  a__law_deep : Addr
  d__law_deep : FuncData
  a__law_answer : Addr
  d__law_answer : FuncData
  a__law_refused : Addr
  d__law_refused : FuncData
  a_law : Addr
  d_law : FuncData
  c_Machine : Addr
  c_InvalidCount : Addr
  c_InvalidTime : Addr
/-- what the walk asks of the top -/
structure Txt (K : PySem.W.Frag) (mg : Str → Option Value) (a : Adr) : Prop where
  F_is_integer : Fun K "is_integer" "is_integer" s_is_integer a.a_is_integer a.d_is_integer
  b_is_integer : Binds K a.d_is_integer ["thing"] []
  g_is_integer : mg "is_integer" = some (.ref a.a_is_integer)
  F_is_between : Fun K "is_between" "is_between" s_is_between a.a_is_between a.d_is_between
  b_is_between : Binds K a.d_is_between ["thing", "low", "high"] []
  g_is_between : mg "is_between" = some (.ref a.a_is_between)
  F_check_count : Fun K "check_count" "check_count" s_check_count a.a_check_count a.d_check_count
  b_check_count : Binds K a.d_check_count ["count", "low", "high"] []
  g_check_count : mg "check_count" = some (.ref a.a_check_count)
  F_round_plan : FunD K "round_plan" "round_plan" (defArgs s_round_plan) (defBody s_round_plan) (defScope s_round_plan) [] [("period", .non)] a.a_round_plan a.d_round_plan
  g_round_plan : mg "round_plan" = some (.ref a.a_round_plan)
  F_is_free : Fun K "is_free" "is_free" s_is_free a.a_is_free a.d_is_free
  b_is_free : Binds K a.d_is_free ["machine", "n", "period"] []
  g_is_free : mg "is_free" = some (.ref a.a_is_free)
  F_least_period : Fun K "least_period" "least_period" s_least_period a.a_least_period a.d_least_period
  b_least_period : Binds K a.d_least_period ["machine", "n"] []
  g_least_period : mg "least_period" = some (.ref a.a_least_period)
  F_everybody : Fun K "everybody" "everybody" s_everybody a.a_everybody a.d_everybody
  b_everybody : Binds K a.d_everybody ["machine", "n"] []
  g_everybody : mg "everybody" = some (.ref a.a_everybody)
  F_Machine_init : Fun K "__init__" "Machine.__init__" s_Machine_init a.a_Machine_init a.d_Machine_init
  b_Machine_init : Binds K a.d_Machine_init ["self", "o", "l", "g"] []
  mk_Machine : Mk K a.c_Machine a.a_Machine_init
  F__law_source : Fun K "_law_source" "_law_source" s__law_source a.a__law_source a.d__law_source
  b__law_source : Binds K a.d__law_source ["_law_script"] []
  g__law_source : mg "_law_source" = some (.ref a.a__law_source)
  F__law_draw : Fun K "_law_draw" "_law_draw" s__law_draw a.a__law_draw a.d__law_draw
  b__law_draw : Binds K a.d__law_draw ["_law_source_here", "_law_limit"] []
  g__law_draw : mg "_law_draw" = some (.ref a.a__law_draw)
  F__law_wide : Fun K "_law_wide" "_law_wide" s__law_wide a.a__law_wide a.d__law_wide
  b__law_wide : Binds K a.d__law_wide ["_law_source_here", "_law_limit"] []
  g__law_wide : mg "_law_wide" = some (.ref a.a__law_wide)
  F__law_numbers : Fun K "_law_numbers" "_law_numbers" s__law_numbers a.a__law_numbers a.d__law_numbers
  b__law_numbers : Binds K a.d__law_numbers ["_law_source_here"] []
  g__law_numbers : mg "_law_numbers" = some (.ref a.a__law_numbers)
  F__law_integer : Fun K "_law_integer" "_law_integer" s__law_integer a.a__law_integer a.d__law_integer
  b__law_integer : Binds K a.d__law_integer ["_law_thing"] []
  g__law_integer : mg "_law_integer" = some (.ref a.a__law_integer)
  F__law_same : Fun K "_law_same" "_law_same" s__law_same a.a__law_same a.d__law_same
  b__law_same : Binds K a.d__law_same ["_law_told", "_law_due"] []
  g__law_same : mg "_law_same" = some (.ref a.a__law_same)
  F__law_rounds : Fun K "_law_rounds" "_law_rounds" s__law_rounds a.a__law_rounds a.d__law_rounds
  b__law_rounds : Binds K a.d__law_rounds ["_law_n", "_law_period"] []
  g__law_rounds : mg "_law_rounds" = some (.ref a.a__law_rounds)
  F__law_deep : Fun K "_law_deep" "_law_deep" s__law_deep a.a__law_deep a.d__law_deep
  b__law_deep : Binds K a.d__law_deep [] []
  g__law_deep : mg "_law_deep" = some (.ref a.a__law_deep)
  F__law_answer : Fun K "_law_answer" "_law_answer" s__law_answer a.a__law_answer a.d__law_answer
  b__law_answer : Binds K a.d__law_answer ["_law_which", "_law_machine", "_law_n", "_law_period"] []
  g__law_answer : mg "_law_answer" = some (.ref a.a__law_answer)
  F__law_refused : Fun K "_law_refused" "_law_refused" s__law_refused a.a__law_refused a.d__law_refused
  b__law_refused : Binds K a.d__law_refused ["_law_source_here", "_law_machine", "_law_n"] []
  g__law_refused : mg "_law_refused" = some (.ref a.a__law_refused)
  F_law : Fun K "law" "law" s_law a.a_law a.d_law
  b_law : Binds K a.d_law ["_law_script"] []
  g_law : mg "law" = some (.ref a.a_law)
  g_Machine : mg "Machine" = some (.ref a.c_Machine)
  cl_Machine : Cls K a.c_Machine
  nF_Machine_o : NoAttr K a.c_Machine "o"
  nF_Machine_l : NoAttr K a.c_Machine "l"
  nF_Machine_g : NoAttr K a.c_Machine "g"
  nF_Machine_letter : NoAttr K a.c_Machine "letter"
  nF_Machine_gap : NoAttr K a.c_Machine "gap"
  ca_Machine : PySem.W.findIn K (.ref a.c_Machine) "__class__" = some (some (.builtin "object.__class__"))
  ct_Machine : PySem.W.takesIn K (.builtin "object.__class__") = some true
  cg_Machine : PySem.W.specialIn K (.builtin "object.__class__") "__get__" = some (some (.builtin "getset_descriptor.__get__"))
  co_Machine : PySem.W.mroIn K a.c_Machine (.type "object") = some true
  ic_Machine : PySem.W.isClsIn K a.c_Machine = true
  tc_Machine : PySem.W.typeIn K (.ref a.c_Machine) = some (.type "type")
  su_int_Machine : PySem.W.subIn K (.ref a.c_Machine) (.type "int") = some false
  su_bool_Machine : PySem.W.subIn K (.ref a.c_Machine) (.type "bool") = some false
  g_InvalidCount : mg "InvalidCount" = some (.ref a.c_InvalidCount)
  q_InvalidCount : PySem.W.excIn K a.c_InvalidCount PySem.MyX.exM "Exception.__new__" = true
  k_InvalidCount : PySem.W.keepIn K (.ref a.c_InvalidCount) = true
  e_InvalidCount : PySem.W.subIn K (.ref a.c_InvalidCount) (.type "BaseException") = some true
  t_InvalidCount : PySem.W.typeIn K (.ref a.c_InvalidCount) = some (.type "type")
  m_InvalidCount : PySem.W.exmOne K (.ref a.c_InvalidCount) (.ref a.c_InvalidCount) = some true
  g_InvalidTime : mg "InvalidTime" = some (.ref a.c_InvalidTime)
  q_InvalidTime : PySem.W.excIn K a.c_InvalidTime PySem.MyX.exM "Exception.__new__" = true
  k_InvalidTime : PySem.W.keepIn K (.ref a.c_InvalidTime) = true
  e_InvalidTime : PySem.W.subIn K (.ref a.c_InvalidTime) (.type "BaseException") = some true
  t_InvalidTime : PySem.W.typeIn K (.ref a.c_InvalidTime) = some (.type "type")
  m_InvalidTime : PySem.W.exmOne K (.ref a.c_InvalidTime) (.ref a.c_InvalidTime) = some true
  mn_InvalidTime_InvalidCount : PySem.W.exmOne K (.ref a.c_InvalidTime) (.ref a.c_InvalidCount) = some false
  n_bool : mg "bool" = none
  n_int : mg "int" = none
  n_isinstance : mg "isinstance" = none
  n_len : mg "len" = none
  n_list : mg "list" = none
  n_max : mg "max" = none
  n_min : mg "min" = none
  n_range : mg "range" = none
  n_sorted : mg "sorted" = none
  n_str : mg "str" = none
  n_tuple : mg "tuple" = none
  g_MOST_SHARING : ∃ t, mg "MOST_SHARING" = some (.int 40 t)
  g_LONGEST_PERIOD : ∃ t, mg "LONGEST_PERIOD" = some (.int 10000000000 t)
  g_GREATEST_PART : ∃ t, mg "GREATEST_PART" = some (.int 1000000000 t)
local macro_rules | `(tactic| walk_at "src") => `(tactic| first | assumption | (refine' SrcAt.keep ?h ?s; (case s => assumption); (case h => walk_at "src")))
local macro_rules | `(tactic| walk_at "ne") => `(tactic| first | assumption | (apply Ne.symm; assumption) | (refine' SrcAt.ne ?a ?b; (case b => assumption); (case a => walk_at "src")))
local macro_rules | `(tactic| walk_at "hp") => `(tactic| first
  | assumption
  | with_reducible exact upd_same
  | (refine' Same.at ?s ?h; (case s => assumption); (case h => walk_at "hp"))
  | (refine' But.at ?s ?n ?h; (case s => assumption); (case n => walk_at "ne"); (case h => walk_at "hp"))
  | (rw [upd_ne (by first | assumption | (apply Ne.symm; assumption))]; walk_at "hp"))
local macro_rules | `(tactic| walk_at "side") => `(tactic| first | assumption | decide | omega | exact mulL (by omega) (by omega) | exact mulR (by omega) (by omega) | exact cdiv_of (by omega) (by omega) | exact powOk (by omega) (by omega) (by decide) | exact mulL (Int.lt_of_lt_of_le (by decide) (fmod_nn (by decide))) (Int.lt_trans (fmod_lt (by decide)) (by decide)))
local macro_rules | `(tactic| walk_at "pl") => `(tactic| ((repeat with_reducible refine putF_le ?_); with_unfolding_all exact Nat.le_of_ble_eq_true rfl))
local macro_rules | `(tactic| walk_at "lk") => `(tactic| first | assumption | (rw [lookup_putF, if_pos rfl]) | (rw [lookup_putF, if_neg (by decide +kernel)]; walk_at "lk"))
local macro_rules | `(tactic| walk_at "cls") => `(tactic| first | with_unfolding_all exact Txt.cl_Machine (by assumption) | with_unfolding_all exact Txt.nF_Machine_o (by assumption) | with_unfolding_all exact Txt.nF_Machine_l (by assumption) | with_unfolding_all exact Txt.nF_Machine_g (by assumption) | with_unfolding_all exact Txt.nF_Machine_letter (by assumption) | with_unfolding_all exact Txt.nF_Machine_gap (by assumption))
/-- one turn of a reading -/
local macro_rules | `(tactic| walk_at "rd") => `(tactic| with_reducible first
  | (refine r_seq ?_; fail_if_success (refine r_ifS ?_))
  | refine r_asg ?_
  | refine r_gName ?_
  | (refine' r_var ?hv ?_; (case hv => with_unfolding_all exact rfl))
  | refine r_c ?_
  | refine r_op ?_
  | refine r_I0 ?_
  | (refine' r_I ?hc ?_; (case hc => walk_at "side"))
  | refine r_add ?_
  | refine r_sub ?_
  | refine r_eqI ?_
  | refine r_neI ?_
  | (refine' r_ixL ?hp ?he ?_; (case hp => walk_at "hp"); (case he => with_unfolding_all exact rfl))
  | (refine' r_ixT ?hp ?he ?_; (case hp => walk_at "hp"); (case he => with_unfolding_all exact rfl))
  | refine r_cons ?_
  | refine r_nil ?_
  | refine r_CB ?_
  | refine r_call ?_
  | refine r_test ?_
  | refine r_tB ?_
  | refine r_bl ?_
  | refine r_in ?_
  | refine Or.inl (r_in1 ?_)
  | refine r_in1 ?_
  | refine r_in2 ?_
  | (refine' r_lenL ?hp ?_; (case hp => walk_at "hp"))
  | (refine' r_lenT ?hp ?_; (case hp => walk_at "hp"))
  | refine r_ifS ?_
  | refine r_and ?_
  | refine r_or ?_
  | refine r_not ?_
  | refine r_andV ?_
  | refine r_orV ?_
  | refine r_notV ?_
  | refine r_ifE ?_
  | refine r_ret ?_
  | refine r_next ?_
  | refine r_drop ?_
  | refine r_gSub ?_
  | (refine' r_setL ?hp ?he ?_; (case hp => walk_at "hp"); (case he => with_unfolding_all exact rfl))
  | (refine' r_aug ?he ?_; (case he => with_unfolding_all exact rfl))
  | refine r_augS ?_
  | refine r_ip ?_
  | refine r_tup ?_
  | refine r_lst ?_
  | refine r_tFld ?_
  | (refine' r_fld ?hc ?hn ?hx ?he ?_; (case hx => walk_at "hp"); (case hc => walk_at "cls"); (case hn => walk_at "cls"); (case he => walk_at "lk"))
  | (refine' r_put ?hc ?hn ?hx ?hl ?_; (case hx => walk_at "hp"); (case hc => walk_at "cls"); (case hn => walk_at "cls"); (case hl => walk_at "pl"))
  | refine r_sl ?_
  | refine r_noP ?_
  | refine r_part ?_
  | refine r_un ?_
  | refine r_U ?_
  | refine r_Bm ?_
  | refine r_cont ?_
  | refine r_brk ?_
  | refine r_isNn ?_
  | refine r_isNi ?_
  | refine r_isNr ?_
  | refine r_notNn ?_
  | refine r_notNi ?_
  | refine r_notNr ?_
  | refine r_chain ?_
  | refine r_sFld ?_
  | refine r_make ?_
  | refine r_yes ?_
  | refine r_lc ?_
  | refine r_isiI true (by decide +kernel) ?_
  | refine r_isiI false (by decide +kernel) ?_
  | refine r_for ?_
  | refine r_iR1 ?_
  | refine r_iR2 ?_
  | refine r_iL ?_
  | refine r_tMeth ?_
  | (refine' r_meth ?hx ?hl ?_; (case hx => walk_at "hp"); (case hl => walk_at "no"))
  | refine r_iT ?_
  | refine iteT ?_
  | refine r_nF ?_
  | refine r_nT ?_
  | refine iteF ?_)
local macro_rules | `(tactic| walk_at "rdi") => `(tactic| with_reducible (refine r_seq ?_; refine r_ifS ?_))

/-! ### the law's draws -/
def spDraw : Sp := fun vs H Q _ => ∃ (p q : Addr) (lim : Int), vs = [.ref p, .int lim] ∧ SrcAt H p q ∧ 0 < lim ∧ lim < 2 ^ 200 ∧
  ∀ (r : Int) (H' : Hp), 0 ≤ r → r < lim → SrcAt H' p q → But p H H' → Q (.int r) H'
section
variable {P : Program} {w : World} {K : PySem.W.Frag} {mg : Str → Option Value} {base : Heap} {a : Adr}
theorem ok__law_draw (T : Txt K mg a) : FnOk P w K mg base CX0 1 a.a__law_draw a.d__law_draw ["_law_source_here", "_law_limit"] spDraw := by
  refine T.F__law_draw.ok sc__law_draw (fun vs H Q E h => ?_) (fun cdv A outer s H vs Q E hr h => ?_)
  · obtain ⟨p, q, lim, rfl, _⟩ := h
    rfl
  · obtain ⟨p, q, lim, rfl, ⟨cs, i, big, cnt, st, h1, h2, h3, hi, hb, hl⟩, hl0, hl1, k⟩ := h
    refine ⟨_, (pss_cons (ps_augS (pv 0) pe_int gt_list pe_int ip_add set_list)
 (pss_cons (ps_if (PW.pt (pw_and (pt_cmpR op_eq (pe_ix ix_list (pv 0) pe_int (fun _ _ => rfl)) pe_int (nomark _)) (pw_and1 (pt_cmpR op_lt (pe_ix ix_list (pv 0) pe_int (fun _ _ => rfl)) (pe_callB call_len_seq (by rfl) T.n_len (by decide +kernel) (pa_cons (pe_ix ix_list (pv 0) pe_int (fun _ _ => rfl)) pa_nil)) (nomark _))))) (pss_cons (ps_set (i := 2) sc__law_draw.nd rfl (Or.inl rfl) (pe_ix ix_list (pe_ix ix_list (pv 0) pe_int (fun _ _ => rfl)) (pe_ix ix_list (pv 0) pe_int (fun _ _ => rfl)) (fun _ _ => rfl)))
 (pss_cons (ps_augS (pv 0) pe_int gt_list pe_int ip_add set_list)
 (pss_one (ps_if (pt_cmpR op_ge (pv 2) (pe_powN (z := 1000000000000000000) ⟨by decide, by decide, by decide⟩ (by decide +kernel)) (nomark _)) (pss_one (ps_asg (pv 2) (pg_sub (pv 0) pe_int set_list)))
 (pss_one (ps_asg (pe_op op_modN (pe_callTy call_int1 (by rfl) T.n_int (by decide +kernel) (pa_cons (pe_op op_add (pe_op op_add (pe_op op_mul (pe_ix ix_list (pv 0) pe_int (fun _ _ => rfl)) pe_int) (pe_op op_mul (pv 2) pe_int)) pe_int) pa_nil)) pe_int) (pg_sub (pv 0) pe_int set_list)))))))
 pss_nil)
 (pss_cons (ps_if (pt_cmpR op_gt (pe_ix ix_list (pv 0) pe_int (fun _ _ => rfl)) pe_int (nomark _)) (pss_cons (ps_set (i := 3) sc__law_draw.nd rfl (Or.inl rfl) (pe_op op_modN (pe_callTy call_int1 (by rfl) T.n_int (by decide +kernel) (pa_cons (pe_ix ix_list (pv 0) pe_int (fun _ _ => rfl)) pa_nil)) (pv 1)))
 (pss_cons (ps_asg (pe_op op_fdivW (pe_ix ix_list (pv 0) pe_int (fun _ _ => rfl)) (pv 1)) (pg_sub (pv 0) pe_int set_list))
 (pss_one (ps_ret (pv 3)))))
 pss_nil)
 (pss_cons (ps_set (i := 4) sc__law_draw.nd rfl (Or.inl rfl) (pe_op op_modN (pe_callTy call_int1 (by rfl) T.n_int (by decide +kernel) (pa_cons (pe_op op_mul (pe_op op_add (pe_op op_add (pe_ix ix_list (pv 0) pe_int (fun _ _ => rfl)) (pe_op op_mul pe_int (pe_ix ix_list (pv 0) pe_int (fun _ _ => rfl)))) pe_int) pe_int) pa_nil)) pe_int))
 (pss_cons (ps_set (i := 5) sc__law_draw.nd rfl (Or.inl rfl) (pe_op op_modN (pe_callTy call_int1 (by rfl) T.n_int (by decide +kernel) (pa_cons (pe_op op_mul (pv 4) (pe_op op_add (pe_op op_fdivW (pv 4) pe_int) pe_int)) pa_nil)) pe_int))
 (pss_cons (ps_set (i := 6) sc__law_draw.nd rfl (Or.inl rfl) (pe_op op_modN (pe_callTy call_int1 (by rfl) T.n_int (by decide +kernel) (pa_cons (pe_op op_mul (pv 5) (pe_op op_add (pe_op op_fdivW (pv 5) pe_int) pe_int)) pa_nil)) pe_int))
 (pss_one (ps_ret (pe_op op_modN (pe_callTy call_int1 (by rfl) T.n_int (by decide +kernel) (pa_cons (pe_op op_fdivW (pv 6) pe_int) pa_nil)) (pv 1)))))))))), ?_⟩
    -- src[3] += 1
    repeat walk_at "rd"
    with_reducible refine seq_with (fun σ H' => ∃ (i big cnt st : Int) (v : Option V), σ = [some (.ref p), some (.int lim), v, none, none, none, none] ∧ H' p = some (.lst [.ref q, .int i, .int big, .int cnt, .int st]) ∧ H' q = some (.lst (cs.map V.int)) ∧ But p H H' ∧ 0 ≤ i ∧ 0 ≤ big) ?_ (fun rest => ?_)
    · clear h1 h2 hi hb
      rintro σ H' ⟨i, big, cnt, st, v, rfl, hp, hq, bt, hi, hb⟩
      walk_at "rdi"
      repeat walk_at "rd"
      refine ite_d (fun hc => ?_) (fun hc => ?_)
      · repeat walk_at "rd"
        exact k _ _ (fmod_nn hl0) (fmod_lt hl0) ⟨cs, i, _, cnt, st, upd_same, (upd_ne h3).trans hq, h3, hi, Int.ediv_nonneg hb (by omega), hl⟩ (bt.trans But.upd)
      · repeat walk_at "rd"
        exact k _ _ (fmod_nn hl0) (fmod_lt hl0) ⟨cs, i, _, cnt, st, hp, hq, h3, hi, hb, hl⟩ bt
    · have nq : H q ≠ none := by rw [h2]; intro z; cases z
      have hp1 : upd H p (HO.lst ([V.ref q, V.int i, V.int big, V.int cnt, V.int st].set (Int.toNat 3) (V.int (cnt + 1)))) p = some (.lst [.ref q, .int i, .int big, .int (cnt + 1), .int st]) := upd_same
      have hq1 : upd H p (HO.lst ([V.ref q, V.int i, V.int big, V.int cnt, V.int st].set (Int.toNat 3) (V.int (cnt + 1)))) q = some (.lst (cs.map V.int)) := (upd_ne h3).trans h2
      have bt1 : But p H (upd H p (HO.lst ([V.ref q, V.int i, V.int big, V.int cnt, V.int st].set (Int.toNat 3) (V.int (cnt + 1))))) := But.upd
      generalize upd H p (HO.lst ([V.ref q, V.int i, V.int big, V.int cnt, V.int st].set (Int.toNat 3) (V.int (cnt + 1)))) = H1 at hp1 hq1 bt1 ⊢
      clear h1 h2
      have no : ∀ (v : Option V), _ := fun v => rest [some (.ref p), some (.int lim), v, none, none, none, none] H1 ⟨i, big, cnt + 1, st, v, rfl, hp1, hq1, bt1, hi, hb⟩
      repeat walk_at "rd"
      refine ite_d (fun hc => ?_) (fun hc => ?_)
      · repeat walk_at "rd"
        refine ite_d (fun hc2 => ?_) (fun hc2 => ?_)
        · obtain ⟨c, hc3, _⟩ := at_nat (ns := cs) hi hc2
          repeat walk_at "rd"
          refine r_ixL hq1 hc3 ?_
          repeat walk_at "rd"
          refine ite_d (fun hc4 => ?_) (fun hc4 => ?_)
          · repeat walk_at "rd"
            exact rest _ _ ⟨i + 1, c, cnt + 1, st, _, rfl, upd_same, (upd_ne h3).trans ((upd_ne h3).trans hq1), (bt1.trans But.upd).trans But.upd, by omega, by omega⟩
          · repeat walk_at "rd"
            exact rest _ _ ⟨i + 1, big, cnt + 1, _, _, rfl, upd_same, (upd_ne h3).trans ((upd_ne h3).trans hq1), (bt1.trans But.upd).trans But.upd, by omega, by omega⟩
        · ((repeat walk_at "rd"); exact no none)
      · ((repeat walk_at "rd"); exact no none)

end

/-! ### the machine's numbers, its times, whether a thing is an int -/
/-- o, l, g of a machine, at t -/
structure NumAt (H : Hp) (t : Addr) (o l g : Int) : Prop where
  at_ : H t = some (.tup [.int o, .int l, .int g])
  o0 : 0 ≤ o
  o9 : o ≤ 1000000000
  l0 : 0 ≤ l
  l9 : l ≤ 1000000000
  g1 : 1 ≤ g
  g9 : g ≤ 1000000000
  pos : 0 < 2 * o + l
theorem NumAt.keep {H H' : Hp} {t : Addr} {o l g : Int} (N : NumAt H t o l g) (h : H' t = H t) : NumAt H' t o l g := { N with at_ := h.trans N.at_ }
def spNumbers : Sp := fun vs H Q _ => ∃ (p q : Addr), vs = [.ref p] ∧ SrcAt H p q ∧ ∀ (t : Addr) (o l g : Int) (H' : Hp), NumAt H' t o l g → H t = none → SrcAt H' p q → But p H H' → Q (.ref t) H'
def gapOf (o g : Int) : Int := if g > o then g else o
def spSource (K : PySem.W.Frag) : Sp := fun vs H Q _ => ∃ (b : Addr) (ns : List Int), vs = [.ref b] ∧ SqL K H b (ns.map V.int) ∧ ns.length ≤ 63 ∧ ∀ (p q : Addr) (H' : Hp), SrcAt H' p q → H p = none → H q = none → Same H H' → Q (.ref p) H'
def spWide : Sp := fun vs H Q _ => ∃ (p q : Addr) (lim : Int), vs = [.ref p, .int lim] ∧ SrcAt H p q ∧ 0 < lim ∧ lim < 2 ^ 200 ∧ ∀ (r : Int) (H' : Hp), 0 ≤ r → r < lim → SrcAt H' p q → But p H H' → Q (.int r) H'
section
variable {P : Program} {w : World} {K : PySem.W.Frag} {mg : Str → Option Value} {base : Heap} {a : Adr}
theorem ok__law_source (T : Txt K mg a) : FnOk P w K mg base CX0 1 a.a__law_source a.d__law_source ["_law_script"] (spSource K) := by
  refine T.F__law_source.ok sc__law_source (fun vs H Q E h => ?_) (fun cdv A outer s H vs Q E hr h => ?_)
  · obtain ⟨i, j, rfl, _⟩ := h
    rfl
  · obtain ⟨b, ns, rfl, hS, hl, k⟩ := h
    refine ⟨_, (pss_one (ps_ret (pe_lst (pa_cons (pe_lc (own := [("_law_cell", 1)]) (g := gName 1) (tt := tYes) rfl sc__law_source.nd (pi_list (pe_slice sl_list (pv 0) po_none (po_some pe_int))) (blkOk_by (own := [("_law_cell", 1)]) (N := ["_law_script", "_law_cell"]) (sc := defScope s__law_source) (by decide +kernel)) (fun _ _ _ _ _ => (pg_name (i := 1) sc__law_source.nd rfl (Or.inl rfl))) (fun _ _ _ _ _ => pts_nil) (fun _ _ _ _ _ => (pe_callTy call_int1 (by rfl) T.n_int (by decide +kernel) (pa_cons (pv 1) pa_nil)))) (pa_cons pe_int (pa_cons pe_int (pa_cons pe_int (pa_cons pe_int pa_nil)))))))), ?_⟩
    repeat walk_at "rd"
    refine r_slL hS (fun p0 H1 n0 s1 e0 => ?_)
    rw [cut_take (by rw [List.length_map]; omega)] at e0
    refine ⟨p0, rfl, ⟨_, SqL.of e0⟩, fun D hD => lc_list (K := K) (a := p0) (xs := ns.map V.int) (fun i H' => H' D = some (.lst ((ns.take i).map V.int)) ∧ H' p0 = some (.lst (ns.map V.int)) ∧ Same H H') ?_ (fun i H' _ h => SqL.of h.2.1) ?_ ?_⟩
    · exact ⟨upd_same, (upd_ne (ne_of_none e0 hD)).trans e0, s1.trans (Same.new hD)⟩
    · rintro i x H2 hi ⟨h1, h2, h3⟩
      obtain ⟨z, hz, rfl⟩ := int_of_get hi
      repeat walk_at "rd"
      refine ⟨rfl, ?_⟩
      repeat walk_at "rd"
      have nD : H D = none := s1.free hD
      refine ⟨_, h1, small1000 (by rw [List.length_map, List.length_take]; omega), ?_, (upd_ne (ne_of_none e0 hD)).trans h2, fun b o e => (upd_ne (ne_of_none e nD)).trans (h3 b o e)⟩
      rw [upd_same, take_more hz, List.map_append]
      rfl
    · rintro H2 ⟨h1, h2, h3⟩
      repeat walk_at "rd"
      refine new_at (Nat.le_of_ble_eq_true rfl) (fun p H3 np s3 e3 => ?_)
      rw [List.length_map, List.take_length] at h1
      exact k p D _ ⟨ns, 0, 0, 0, 7, e3, s3 _ _ h1, ne_of_none h1 np, by decide, by decide, hl⟩ (h3.free np) (s1.free hD) (h3.trans s3)
theorem ok__law_wide (T : Txt K mg a) : FnOk P w K mg base CX0 2 a.a__law_wide a.d__law_wide ["_law_source_here", "_law_limit"] spWide := by
  refine T.F__law_wide.ok sc__law_wide (fun vs H Q E h => ?_) (fun cdv A outer s H vs Q E hr h => ?_)
  · obtain ⟨p, q, lim, rfl, _⟩ := h
    rfl
  · obtain ⟨p, q, lim, rfl, hs, hl0, hl1, k⟩ := h
    refine ⟨_, (pss_cons (ps_if (pt_cmpR op_le (pv 1) pe_int (nomark _)) (pss_one (ps_ret (pe_call (ok__law_draw T) (hr.mono (by decide)) (by rfl) T.g__law_draw T.F__law_draw.kp T.b__law_draw .nil pass0 (pa_cons (pv 0) (pa_cons (pv 1) pa_nil)))))
 pss_nil)
 (pss_cons (ps_set (i := 2) sc__law_wide.nd rfl (Or.inl rfl) (pe_call (ok__law_draw T) (hr.mono (by decide)) (by rfl) T.g__law_draw T.F__law_draw.kp T.b__law_draw .nil pass0 (pa_cons (pv 0) (pa_cons pe_int pa_nil))))
 (pss_cons (ps_set (i := 3) sc__law_wide.nd rfl (Or.inl rfl) (pe_call (ok__law_draw T) (hr.mono (by decide)) (by rfl) T.g__law_draw T.F__law_draw.kp T.b__law_draw .nil pass0 (pa_cons (pv 0) (pa_cons pe_int pa_nil))))
 (pss_cons (ps_set (i := 4) sc__law_wide.nd rfl (Or.inl rfl) (pe_call (ok__law_draw T) (hr.mono (by decide)) (by rfl) T.g__law_draw T.F__law_draw.kp T.b__law_draw .nil pass0 (pa_cons (pv 0) (pa_cons pe_int pa_nil))))
 (pss_one (ps_ret (pe_op op_modN (pe_callTy call_int1 (by rfl) T.n_int (by decide +kernel) (pa_cons (pe_op op_add (pe_op op_mul (pe_op op_add (pe_op op_mul (pv 2) pe_int) (pv 3)) pe_int) (pv 4)) pa_nil)) (pv 1)))))))), ?_⟩
    walk_at "rdi"
    repeat walk_at "rd"
    refine ite_d (fun hc => ?_) (fun hc => ?_)
    · repeat walk_at "rd"
      exact ⟨p, q, lim, rfl, hs, hl0, hl1, fun r H1 r0 r1 hs1 b1 => k r H1 r0 r1 hs1 b1⟩
    · repeat walk_at "rd"
      refine ⟨p, q, _, rfl, hs, by decide, by decide, fun r1 H1 r10 r11 hs1 b1 => ?_⟩
      repeat walk_at "rd"
      refine ⟨p, q, _, rfl, hs1, by decide, by decide, fun r2 H2 r20 r21 hs2 b2 => ?_⟩
      repeat walk_at "rd"
      refine ⟨p, q, _, rfl, hs2, by decide, by decide, fun r3 H3 r30 r31 hs3 b3 => ?_⟩
      repeat walk_at "rd"
      exact k _ _ (fmod_nn hl0) (fmod_lt hl0) hs3 ((b1.trans b2).trans b3)
theorem ok__law_numbers (T : Txt K mg a) : FnOk P w K mg base CX0 3 a.a__law_numbers a.d__law_numbers ["_law_source_here"] spNumbers := by
  refine T.F__law_numbers.ok sc__law_numbers (fun vs H Q E h => ?_) (fun cdv A outer s H vs Q E hr h => ?_)
  · obtain ⟨p, q, rfl, _⟩ := h
    rfl
  · obtain ⟨p, q, rfl, hs, k⟩ := h
    refine ⟨_, (pss_cons (ps_set (i := 1) sc__law_numbers.nd rfl (Or.inl rfl) (pe_ix ix_list (pe_lst (pa_cons pe_int (pa_cons pe_int (pa_cons pe_int (pa_cons pe_int (pa_cons (pe_op op_add (pe_powN (z := 1000000000) ⟨by decide, by decide, by decide⟩ (by decide +kernel)) pe_int) pa_nil)))))) (pe_call (ok__law_draw T) (hr.mono (by decide)) (by rfl) T.g__law_draw T.F__law_draw.kp T.b__law_draw .nil pass0 (pa_cons (pv 0) (pa_cons pe_int pa_nil))) (fun _ _ => rfl)))
 (pss_cons (ps_set (i := 2) sc__law_numbers.nd rfl (Or.inl rfl) (pe_call (ok__law_draw T) (hr.mono (by decide)) (by rfl) T.g__law_draw T.F__law_draw.kp T.b__law_draw .nil pass0 (pa_cons (pv 0) (pa_cons pe_int pa_nil))))
 (pss_cons (ps_set (i := 3) sc__law_numbers.nd rfl (Or.inl rfl) (pe_call (ok__law_wide T) (hr.mono (by decide)) (by rfl) T.g__law_wide T.F__law_wide.kp T.b__law_wide .nil pass0 (pa_cons (pv 0) (pa_cons (pv 1) pa_nil))))
 (pss_cons (ps_set (i := 4) sc__law_numbers.nd rfl (Or.inl rfl) (pe_call (ok__law_wide T) (hr.mono (by decide)) (by rfl) T.g__law_wide T.F__law_wide.kp T.b__law_wide .nil pass0 (pa_cons (pv 0) (pa_cons (pv 1) pa_nil))))
 (pss_cons (ps_set (i := 5) sc__law_numbers.nd rfl (Or.inl rfl) (pe_op op_add pe_int (pe_call (ok__law_wide T) (hr.mono (by decide)) (by rfl) T.g__law_wide T.F__law_wide.kp T.b__law_wide .nil pass0 (pa_cons (pv 0) (pa_cons (pe_op op_sub (pv 1) pe_int) pa_nil)))))
 (pss_cons (ps_if (pt_cmpR op_eq (pv 2) pe_int (nomark _)) (pss_one (ps_set (i := 3) sc__law_numbers.nd rfl (Or.inl rfl) pe_int))
 pss_nil)
 (pss_cons (ps_if (pt_cmpR op_eq (pv 2) pe_int (nomark _)) (pss_one (ps_set (i := 4) sc__law_numbers.nd rfl (Or.inl rfl) pe_int))
 pss_nil)
 (pss_cons (ps_if (PW.pt (pw_and (pt_cmpR op_eq (pv 2) pe_int (nomark _)) (pw_and1 (pt_cmpR op_gt (pv 1) pe_int (nomark _))))) (pss_one (ps_set (i := 5) sc__law_numbers.nd rfl (Or.inl rfl) (pe_op op_add pe_int (pe_op op_modN (pe_callTy call_int1 (by rfl) T.n_int (by decide +kernel) (pa_cons (pv 5) pa_nil)) pe_int))))
 pss_nil)
 (pss_cons (ps_if (pt_cmpR op_eq (pe_op op_add (pe_op op_mul pe_int (pv 3)) (pv 4)) pe_int (nomark _)) (pss_one (ps_set (i := 4) sc__law_numbers.nd rfl (Or.inl rfl) pe_int))
 pss_nil)
 (pss_one (ps_ret (pe_tup (pa_cons (pv 3) (pa_cons (pv 4) (pa_cons (pv 5) pa_nil))))))))))))))), ?_⟩
    repeat walk_at "rd"
    refine new_at (Nat.le_of_ble_eq_true rfl) (fun L H1 n1 s1 e1 => ?_)
    repeat walk_at "rd"
    refine ⟨p, q, 5, rfl, hs.keep s1, by decide, by decide, fun d H2 d0 d5 hs2 b2 => ?_⟩
    have e2 := b2 _ _ e1 (hs.ne n1)
    obtain ⟨size, hat, z0, z9⟩ : ∃ size : Int, atI [V.int 4, V.int 6, V.int 13, V.int 41, V.int (1000000000 + 1)] d = some (.int size) ∧ 4 ≤ size ∧ size ≤ 1000000001 := by
      have hk : d = 0 ∨ d = 1 ∨ d = 2 ∨ d = 3 ∨ d = 4 := by omega
      rcases hk with rfl | rfl | rfl | rfl | rfl
      · exact ⟨_, rfl, by decide, by decide⟩
      · exact ⟨_, rfl, by decide, by decide⟩
      · exact ⟨_, rfl, by decide, by decide⟩
      · exact ⟨_, rfl, by decide, by decide⟩
      · exact ⟨_, rfl, by decide, by decide⟩
    refine r_ixL e2 hat ?_
    have b02 : But p H H2 := (But.of_same s1).trans b2
    clear e1 e2 s1 n1 hs b2 hat d0 d5
    repeat walk_at "rd"
    refine ⟨p, q, 6, rfl, hs2, by decide, by decide, fun kind H3 k0 k6 hs3 b3 => ?_⟩
    repeat walk_at "rd"
    refine ⟨p, q, size, rfl, hs3, by omega, by omega, fun o H4 o0 o9 hs4 b4 => ?_⟩
    repeat walk_at "rd"
    refine ⟨p, q, size, rfl, hs4, by omega, by omega, fun l H5 l0 l9 hs5 b5 => ?_⟩
    repeat walk_at "rd"
    refine ⟨p, q, size - 1, rfl, hs5, by omega, by omega, fun g H6 g0 g9 hs6 b6 => ?_⟩
    have b6 : But p H H6 := (((b02.trans b3).trans b4).trans b5).trans b6
    clear hs2 hs3 hs4 hs5 b02 b3 b4 b5
    repeat walk_at "rd"
    let Pm : St → Hp → Prop := fun σ H' => ∃ (o l g : Int), σ = [some (.ref p), some (.int size), some (.int kind), some (.int o), some (.int l), some (.int g)] ∧ SrcAt H' p q ∧ But p H H' ∧ (0 ≤ o ∧ o ≤ 1000000000) ∧ (0 ≤ l ∧ l ≤ 1000000000) ∧ 1 ≤ g ∧ g ≤ 1000000000
    with_reducible refine seq_with Pm ?_ (fun rest => ?_)
    · rintro σ H' ⟨o, l, g, rfl, hs6, b6, ho, hl, hg⟩
      with_reducible refine seq_with Pm ?_ (fun rest => ?_)
      · rintro σ H' ⟨o, l, g, rfl, hs6, b6, ho, hl, hg⟩
        with_reducible refine seq_with Pm ?_ (fun rest => ?_)
        · rintro σ H' ⟨o, l, g, rfl, hs6, b6, ho, hl, hg⟩
          with_reducible refine seq_with (fun σ H' => ∃ (l : Int), σ = [some (.ref p), some (.int size), some (.int kind), some (.int o), some (.int l), some (.int g)] ∧ SrcAt H' p q ∧ But p H H' ∧ 0 < 2 * o + l ∧ 0 ≤ l ∧ l ≤ 1000000000) ?_ (fun rest => ?_)
          · rintro σ H' ⟨l, rfl, hs6, b6, hp, hl⟩
            repeat walk_at "rd"
            refine new_at (Nat.le_of_ble_eq_true rfl) (fun u H12 nu su eu => ?_)
            exact k u o l g _ ⟨eu, ho.1, ho.2, hl.1, hl.2, hg.1, hg.2, hp⟩ (b6.free hs6 nu) (hs6.keep su) (b6.trans (But.of_same su))
          · repeat walk_at "rd"
            refine ite_d (fun hc => ?_) (fun hc => ?_)
            · iterate 3 walk_at "rd"
              exact rest _ _ ⟨1, rfl, hs6, b6, by omega, by omega, by omega⟩
            · walk_at "rd"
              exact rest _ _ ⟨l, rfl, hs6, b6, by omega, hl⟩
        · repeat walk_at "rd"
          refine ite_d (fun hc => ?_) (fun hc => ?_)
          · repeat walk_at "rd"
            refine ite_d (fun hc => ?_) (fun hc => ?_)
            · repeat first | exact rest _ _ ⟨o, l, _, rfl, hs6, b6, ho, hl, by have := fmod_nn (a := g) (b := 9) (by decide); omega, by have := fmod_lt (a := g) (b := 9) (by decide); omega⟩ | walk_at "rd"
            · repeat first | exact rest _ _ ⟨o, l, g, rfl, hs6, b6, ho, hl, hg⟩ | walk_at "rd"
          · repeat first | exact rest _ _ ⟨o, l, g, rfl, hs6, b6, ho, hl, hg⟩ | walk_at "rd"
      · repeat walk_at "rd"
        refine ite_d (fun hc => ?_) (fun hc => ?_)
        · repeat first | exact rest _ _ ⟨o, 0, g, rfl, hs6, b6, ho, by decide, hg⟩ | walk_at "rd"
        · repeat first | exact rest _ _ ⟨o, l, g, rfl, hs6, b6, ho, hl, hg⟩ | walk_at "rd"
    · repeat walk_at "rd"
      refine ite_d (fun hc => ?_) (fun hc => ?_)
      · repeat first | exact rest _ _ ⟨0, l, _, rfl, hs6, b6, by decide, by omega, by omega, by omega⟩ | walk_at "rd"
      · repeat first | exact rest _ _ ⟨o, l, _, rfl, hs6, b6, by omega, by omega, by omega, by omega⟩ | walk_at "rd"
end

/-! ### integers, machines -/
/-- whether the value is an int and no bool -/
def IntV (K : PySem.W.Frag) (H : Hp) (x : V) (b : Bool) : Prop := ∃ (t : Value) (b1 b2 : Bool), TyX K H x t ∧ PySem.W.kitOne K t (.type "int") = some b1 ∧ PySem.W.kitOne K t (.type "bool") = some b2 ∧ b = (b1 && !b2)
theorem IntV.int {K : PySem.W.Frag} {H : Hp} {i : Int} : IntV K H (.int i) true := ⟨_, true, false, .base (.int i), kit_ty (by decide +kernel), kit_ty (by decide +kernel), rfl⟩
theorem r_isi {K : PySem.W.Frag} {H : Hp} {Q : VK} {x : V} {t : Value} {n : String} {b : Bool} (ty : TyX K H x t) (h : PySem.W.kitOne K t (.type n) = some b) (q : Q (.bl b) H) : rIsi K [x, .ty n] H Q := ⟨_, _, t, .type n, b, rfl, .ty n, ty, h, q⟩
def spIsInteger (K : PySem.W.Frag) : Sp := fun vs H Q _ => ∃ (x : V) (b : Bool), vs = [x] ∧ IntV K H x b ∧ Q (.bl b) H
def spBetween (K : PySem.W.Frag) : Sp := fun vs H Q _ => ∃ (x : V) (lo hi : Int) (b : Bool), vs = [x, .int lo, .int hi] ∧ IntV K H x b ∧ (b = false → Q (.bl false) H) ∧ (b = true → ∃ i, x = .int i ∧ Q (.bl (decide (lo ≤ i ∧ i ≤ hi))) H)
theorem r_between {K : PySem.W.Frag} {H : Hp} {Q : VK} {E : XK} {i lo hi : Int} (q : Q (.bl (decide (lo ≤ i ∧ i ≤ hi))) H) : spBetween K [.int i, .int lo, .int hi] H Q E := ⟨_, lo, hi, true, rfl, IntV.int, (fun z => Bool.noConfusion z), fun _ => ⟨i, rfl, q⟩⟩
/-- the attributes of a machine -/
def mf (o l g : Int) : List (Str × V) := putF "gap" (.int (gapOf o g)) (putF "letter" (.int (2 * o + l)) (putF "g" (.int g) (putF "l" (.int l) (putF "o" (.int o) []))))
def MachAt (C : Addr) (H : Hp) (m : Addr) (o l g : Int) : Prop := ∃ dx, H m = some (.ins C dx (mf o l g))
theorem MachAt.keep {C m : Addr} {H H' : Hp} {o l g : Int} (h : MachAt C H m o l g) (s : Same H H') : MachAt C H' m o l g := let ⟨dx, e⟩ := h; ⟨dx, s _ _ e⟩
theorem mf_o {o l g : Int} : (mf o l g).lookup ("o" : Str) = some (.int o) := by unfold mf; walk_at "lk"
theorem mf_l {o l g : Int} : (mf o l g).lookup ("l" : Str) = some (.int l) := by unfold mf; walk_at "lk"
theorem mf_g {o l g : Int} : (mf o l g).lookup ("g" : Str) = some (.int g) := by unfold mf; walk_at "lk"
theorem mf_letter {o l g : Int} : (mf o l g).lookup ("letter" : Str) = some (.int (2 * o + l)) := by unfold mf; walk_at "lk"
theorem mf_gap {o l g : Int} : (mf o l g).lookup ("gap" : Str) = some (.int (gapOf o g)) := by unfold mf; walk_at "lk"
theorem MachAt.but {C m p : Addr} {H H' : Hp} {o l g : Int} (h : MachAt C H m o l g) (s : But p H H') (n : m ≠ p) : MachAt C H' m o l g := let ⟨dx, e⟩ := h; ⟨dx, s _ _ e n⟩
def spMachine (C : Addr) : Sp := fun vs H Q _ => ∃ (m dx : Addr) (o l g : Int), vs = [.ref m, .int o, .int l, .int g] ∧ H m = some (.ins C dx []) ∧ (0 ≤ o ∧ o ≤ 1000000000) ∧ (0 ≤ l ∧ l ≤ 1000000000) ∧ (1 ≤ g ∧ g ≤ 1000000000) ∧ 0 < 2 * o + l ∧ ∀ H', MachAt C H' m o l g → But m H H' → Q .non H'
local macro_rules | `(tactic| walk_at "lk") => `(tactic| first | exact mf_o | exact mf_l | exact mf_g | exact mf_letter | exact mf_gap)
section
variable {P : Program} {w : World} {K : PySem.W.Frag} {mg : Str → Option Value} {base : Heap} {a : Adr}
theorem ok_is_integer (T : Txt K mg a) : FnOk P w K mg base CX0 1 a.a_is_integer a.d_is_integer ["thing"] (spIsInteger K) := by
  refine T.F_is_integer.ok sc_is_integer (fun vs H Q E h => ?_) (fun cdv A outer s H vs Q E hr h => ?_)
  · obtain ⟨x, b, rfl, _⟩ := h
    rfl
  · obtain ⟨x, b, rfl, ⟨t, b1, b2, ty, h1, h2, rfl⟩, k⟩ := h
    refine ⟨_, (pss_one (ps_ret (pe_and (pe_callB call_isi (by rfl) T.n_isinstance (by decide +kernel) (pa_cons (pv 0) (pa_cons (pe_bltn (v := .ty "int") (u := .type "int") (by rfl) T.n_int (by decide +kernel) rfl) pa_nil))) (pe_one (pe_not (pe_callB call_isi (by rfl) T.n_isinstance (by decide +kernel) (pa_cons (pv 0) (pa_cons (pe_bltn (v := .ty "bool") (u := .type "bool") (by rfl) T.n_bool (by decide +kernel) rfl) pa_nil)))))))), ?_⟩
    repeat walk_at "rd"
    refine r_isi ty h1 ?_
    refine ⟨b1, rfl, ?_⟩
    cases b1 with
    | false => exact iteF k
    | true =>
      repeat walk_at "rd"
      refine r_isi ty h2 ?_
      exact ⟨b2, rfl, k⟩
theorem ok_is_between (T : Txt K mg a) : FnOk P w K mg base CX0 2 a.a_is_between a.d_is_between ["thing", "low", "high"] (spBetween K) := by
  refine T.F_is_between.ok sc_is_between (fun vs H Q E h => ?_) (fun cdv A outer s H vs Q E hr h => ?_)
  · obtain ⟨x, lo, hi, b, rfl, _⟩ := h
    rfl
  · obtain ⟨x, lo, hi, b, rfl, iv, k0, k1⟩ := h
    refine ⟨_, (pss_one (ps_ret (pe_and (pe_call (ok_is_integer T) (hr.mono (by decide)) (by rfl) T.g_is_integer T.F_is_integer.kp T.b_is_integer .nil pass0 (pa_cons (pv 0) pa_nil)) (pe_one (pe_chain op_le op_le (pv 1) (pv 0) (pv 2)))))), ?_⟩
    repeat walk_at "rd"
    refine ⟨x, b, rfl, iv, ?_⟩
    refine ⟨b, rfl, ?_⟩
    cases b with
    | false => exact iteF (k0 rfl)
    | true =>
      obtain ⟨i, rfl, q⟩ := k1 rfl
      repeat walk_at "rd"
      refine ite_d (fun h1 => ?_) (fun h1 => ?_)
      · repeat walk_at "rd"
        rw [decide_eq_decide.mpr (show lo ≤ i ∧ i ≤ hi ↔ i ≤ hi from ⟨fun h => h.2, fun h => ⟨h1, h⟩⟩)] at q
        exact q
      · rw [decide_eq_false (show ¬ (lo ≤ i ∧ i ≤ hi) from fun h => h1 h.1)] at q
        exact q
theorem ok_Machine_init (T : Txt K mg a) : FnOk P w K mg base CX0 3 a.a_Machine_init a.d_Machine_init ["self", "o", "l", "g"] (spMachine a.c_Machine) := by
  refine T.F_Machine_init.ok sc_Machine_init (fun vs H Q E h => ?_) (fun cdv A outer s H vs Q E hr h => ?_)
  · obtain ⟨m, dx, o, l, g, rfl, _⟩ := h
    rfl
  · obtain ⟨m, dx, o, l, g, rfl, hm, ho, hl, hg, hp, k⟩ := h
    refine ⟨_, (pss_cons (ps_if (pt_not (pt_val (pe_call (ok_is_between T) (hr.mono (by decide)) (by rfl) T.g_is_between T.F_is_between.kp T.b_is_between .nil pass0 (pa_cons (pv 1) (pa_cons pe_int (pa_cons (pe_glob (v := .int 1000000000) (by rfl) T.g_GREATEST_PART.choose_spec ⟨_, rfl⟩) pa_nil)))))) (pss_one ps_never)
 pss_nil)
 (pss_cons (ps_if (pt_not (pt_val (pe_call (ok_is_between T) (hr.mono (by decide)) (by rfl) T.g_is_between T.F_is_between.kp T.b_is_between .nil pass0 (pa_cons (pv 2) (pa_cons pe_int (pa_cons (pe_glob (v := .int 1000000000) (by rfl) T.g_GREATEST_PART.choose_spec ⟨_, rfl⟩) pa_nil)))))) (pss_one ps_never)
 pss_nil)
 (pss_cons (ps_if (pt_not (pt_val (pe_call (ok_is_between T) (hr.mono (by decide)) (by rfl) T.g_is_between T.F_is_between.kp T.b_is_between .nil pass0 (pa_cons (pv 3) (pa_cons pe_int (pa_cons (pe_glob (v := .int 1000000000) (by rfl) T.g_GREATEST_PART.choose_spec ⟨_, rfl⟩) pa_nil)))))) (pss_one ps_never)
 pss_nil)
 (pss_cons (ps_if (pt_cmpR op_eq (pe_op op_add (pe_op op_mul pe_int (pv 1)) (pv 2)) pe_int (nomark _)) (pss_one ps_never)
 pss_nil)
 (pss_cons (ps_fld (pv 0) (pv 1) rfl)
 (pss_cons (ps_fld (pv 0) (pv 2) rfl)
 (pss_cons (ps_fld (pv 0) (pv 3) rfl)
 (pss_cons (ps_fld (pv 0) (pe_op op_add (pe_op op_mul pe_int (pv 1)) (pv 2)) rfl)
 (pss_one (ps_fld (pv 0) (pe_callB (call_max2 rfl) (by rfl) T.n_max (by decide +kernel) (pa_cons (pv 1) (pa_cons (pv 3) pa_nil))) rfl)))))))))), ?_⟩
    walk_at "rdi"
    repeat walk_at "rd"
    refine r_between ?_
    repeat walk_at "rd"
    refine r_nD (fun h => absurd ho h) (fun _ => ?_)
    walk_at "rd"
    walk_at "rdi"
    repeat walk_at "rd"
    refine r_between ?_
    repeat walk_at "rd"
    refine r_nD (fun h => absurd hl h) (fun _ => ?_)
    walk_at "rd"
    walk_at "rdi"
    repeat walk_at "rd"
    refine r_between ?_
    repeat walk_at "rd"
    refine r_nD (fun h => absurd hg h) (fun _ => ?_)
    walk_at "rd"
    walk_at "rdi"
    repeat walk_at "rd"
    refine ite_d (fun h => absurd h (by omega)) (fun _ => ?_)
    repeat walk_at "rd"
    refine k _ ⟨dx, ?_⟩ ?_
    · exact upd_same
    · exact But.upd.trans (But.upd.trans (But.upd.trans (But.upd.trans But.upd)))
end

/-! ### own rules: C(..) by a local name, x op y by an own def, targets in a tuple -/
/-- the slot n holds the class at C: a new instance -/
def tMakeL (n : Nat) (C : Addr) (sp : Sp) (dvs : List V) (E : XK) (t : TA) : TE := fun σ H Q => σ[n]? = some (some (.ref C)) ∧ tMake C sp dvs E t σ H Q
/-- x op y, x an instance with a dict, y of a known type -/
def rOwnD (K : PySem.W.Frag) (C : Addr) (sp : Sp) (E : XK) : R2 := fun x y H Q => ∃ m dx fs tb, x = .ref m ∧ H m = some (.ins C dx fs) ∧ TyX K H y tb ∧ PySem.W.notFirst K C tb = true ∧ sp [x, y] H Q E
section
variable {X : Cx} {CX : CXT} {k i : Nat} {f C : Addr} {fd : FuncData} {ps : List Str} {sp : Sp} {dvs : List V} {ds : List Value} {E : XK} {x : Str} {p pos : Pos} {e : Expr} {es : List Expr} {t : TA}
theorem pe_makeL (M : Mk X.K C f) (F : FnOk X.prog X.w X.K X.mg X.base CX k f fd ps sp) (hr : Room (k + 1) X.A) (hN : X.N[i]? = some x) (hv : Vis X.env.scope x) (hb : Binds X.K fd ps ds) (hd : Vals dvs ds) (hx : Passes CX X E) (ha : PA X (e :: es) t)
    (hdb : (x == ("__debug__" : Str)) = false := by decide) (hcd : (x == ("__classdict__" : Str)) = false := by decide)
    (he : starEach (e :: es) X.env = (false, eval e X.env) :: starEach es X.env := by rfl) (hpl : (backTo pos (starEach es X.env)).any (·.1) = false := by rfl) : PE X (.Call (.Name x p) (e :: es) [] pos) (tMakeL i C sp dvs E t) := by
  refine ⟨fun pins s σ H Q I h => wpAny_Call_Name_kw (thn ((pe_var (pos := p) hN hv hdb hcd).run pins s σ H (fun v H1 => v = .ref C ∧ H1 = H) I ⟨.ref C, h.1, rfl, rfl⟩) fun u s1 g => ?_)⟩
  obtain ⟨v, H1, J, r1, rfl, rfl⟩ := g
  cases r1
  exact PySem.W.callWith_K (h₀ := X.base) J.ok.mod.kin M.kp (thn (ha.run pos pins s1 σ _ _ J h.2) fun us s2 ⟨vs, H2, J2, r, q⟩ => ⟨J2.kIn, run_make M F hr hb hd hx J2 r q⟩) he hpl
theorem op_ownD {op : CmpOp} {g : Addr} {n : Nat} (hop : ∀ a b, compareOp op a b = richCompare op a b) (hs : PySem.W.findIn X.K (.ref C) (cmpInfo op).2.1 = some (some (.ref g))) (hf : PySem.W.isFn X.K (.ref g) = true) (F : FnR X.prog X.w X.K X.mg X.base CX n g sp)
    (hr : Room n X.A) (hx : Passes CX X E) : OpR X (compareOp op) (rOwnD X.K C sp E) := by
  intro pins s σ H x y v u Q I rx ry h
  obtain ⟨m, dx, fs, tb, rfl, hm, ty, hn, q⟩ := h
  obtain rfl : v = Value.ref m := rx
  obtain ⟨mA, J, _⟩ := ins_get I.hok hm
  obtain ⟨od, J, _⟩ := J.look
  obtain ⟨Pk, Z, pz, _⟩ := kit_of I ry ty
  obtain ⟨mF, hF⟩ := I.fr
  rw [hop]
  refine PySem.W.cmp_K (op := op) (tb := tb) hr.units0 hF I.ok.mod.kin J (Z.ty _ _ I.kIn pz) hn hs hf ?_
  refine wpAny_mono (wpAny_call (run_fnR (us := [.ref m, u]) (vs := [.ref m, y]) F hr hx I (.cons rfl (.cons ry .nil)) q)) (fun w s' z => ?_) fun _ _ x => x
  exact (let ⟨z', H', I', rz, qz⟩ := z; SlX.cmpback rz ⟨z', H', I', rz, qz⟩)
end
theorem kit_self {K : PySem.W.Frag} {C : Addr} : PySem.W.kitOne K (.ref C) (.ref C) = some true := by
  unfold PySem.W.kitOne
  rw [if_pos (by simp)]
theorem kit_no {K : PySem.W.Frag} {C : Addr} {n : String} (h1 : PySem.W.isClsIn K C = true) (h2 : PySem.W.typeIn K (.ref C) = some (.type "type")) (h3 : PySem.W.subIn K (.type n) (.ref C) = some false) : PySem.W.kitOne K (.type n) (.ref C) = some false := by
  have e : ((PySem.W.clsIn K C).isSome && PySem.W.typeIn K (.ref C) == some (.type "type")) = true := by
    rw [show (PySem.W.clsIn K C).isSome = true from h1, h2]
    rfl
  unfold PySem.W.kitOne
  rw [if_neg (by simp)]
  show (if ((PySem.W.clsIn K C).isSome && PySem.W.typeIn K (.ref C) == some (.type "type")) = true then PySem.W.subIn K (.type n) (.ref C) else none) = some false
  rw [if_pos e]
  exact h3
theorem nf_self {K : PySem.W.Frag} {C : Addr} : PySem.W.notFirst K C (.ref C) = true := by
  unfold PySem.W.notFirst
  simp
theorem nf_no {K : PySem.W.Frag} {C : Addr} {n : String} (h3 : PySem.W.subIn K (.type n) (.ref C) = some false) : PySem.W.notFirst K C (.type n) = true := by
  unfold PySem.W.notFirst
  rw [h3]
  simp
section
variable {K : PySem.W.Frag} {σ : St} {H : Hp} {Q : VK} {R : St → Hp → Prop} {n : Nat} {v : V} {vs : List V}
theorem r_gTup {t : TGs} {p : Addr} (h : H p = some (.tup vs)) (hl : vs.length = n) (q : t vs σ H R) : gTup K n t (.ref p) σ H R := ⟨p, vs, rfl, SqT.of h, hl, q⟩
theorem r_gCons {t : TG} {u : TGs} (h : t v σ H fun σ' H' => u vs σ' H' R) : gCons t u (v :: vs) σ H R := ⟨v, vs, rfl, h⟩
theorem r_gNil (h : R σ H) : gNil [] σ H R := ⟨rfl, h⟩
theorem r_nDT {c A B : Prop} [Decidable c] (hc : c) (h : B) : if (!decide c) = true then A else B := r_nD (fun z => absurd hc z) fun _ => h
theorem r_neB {a b : Bool} (q : Q (.bl (!decide (a = b))) H) : rNe (.bl a) (.bl b) H Q := ⟨rfl, by
  have e : decide (V.bl a = V.bl b) = decide (a = b) := by cases a <;> cases b <;> decide
  rw [e]; exact q⟩
theorem r_isB {a b : Bool} (q : Q (.bl (decide (a = b))) H) : rIsB (.bl a) (.bl b) H Q := ⟨a, b, rfl, rfl, q⟩
theorem r_notB {a b : Bool} (q : Q (.bl (!decide (a = b))) H) : rNotB (.bl a) (.bl b) H Q := ⟨a, b, rfl, rfl, q⟩
theorem r_dnew (k : ∀ p H', H p = none → Same H H' → H' p = some (.dK []) → Q (.ref p) H') : tDNewK σ H Q := new_of k
theorem r_makeL {C : Addr} {sp : Sp} {dvs : List V} {E : XK} {t : TA} (e : σ[n]? = some (some (.ref C))) (h : tMake C sp dvs E t σ H Q) : tMakeL n C sp dvs E t σ H Q := ⟨e, h⟩
theorem r_cmeth {C : Addr} {sp : Sp} {E : XK} {t : TA} (h : t σ H fun vs H2 => sp (.ref C :: vs) H2 Q E) : ClX.tCMeth C sp E (tC (.ref C)) t σ H Q := ⟨rfl, h⟩
theorem eq_ints {xs ys : List Int} : PyData.eqvAll (xs.map PyData.int) (ys.map PyData.int) = decide (xs = ys) := by
  induction xs generalizing ys with
  | nil => cases ys <;> rfl
  | cons x xs ih =>
    cases ys with
    | nil => rfl
    | cons y ys =>
      show (PyData.eqv (.int x) (.int y) && PyData.eqvAll (xs.map PyData.int) (ys.map PyData.int)) = _
      rw [ih]
      show ((x == y) && decide (xs = ys)) = _
      by_cases h : x = y
      · subst h; simp
      · simp [h]
theorem dp_ints (xs : List Int) : DpAll K H (xs.map V.int) (xs.map PyData.int) := by
  induction xs with
  | nil => exact .nil
  | cons x xs ih => exact .cons (.int x) ih
/-- == of two tuples of ints -/
theorem r_eqT {p q : Addr} {xs ys : List Int} (h1 : H p = some (.tup (xs.map V.int))) (h2 : H q = some (.tup (ys.map V.int))) (s1 : SeqAt.shaped (.tuple (xs.map PyData.int)) = true) (s2 : SeqAt.shaped (.tuple (ys.map PyData.int)) = true)
    (k : Q (.bl (decide (xs = ys))) H) : rEqD K (.ref p) (.ref q) H Q := ⟨_, _, .tup (SqT.of h1) (dp_ints xs), .tup (SqT.of h2) (dp_ints ys), s1, s2, by
  show Q (.bl (PyData.eqvAll (xs.map PyData.int) (ys.map PyData.int))) H
  rw [eq_ints]; exact k⟩
end
theorem r_Machine {C : Addr} {H : Hp} {Q : VK} {E : XK} {o l g : Int} (ho : 0 ≤ o ∧ o ≤ 1000000000) (hl : 0 ≤ l ∧ l ≤ 1000000000) (hg : 1 ≤ g ∧ g ≤ 1000000000) (hp : 0 < 2 * o + l) (k : ∀ m H', H m = none → MachAt C H' m o l g → Same H H' → Q (.ref m) H') :
    MakeAt C (spMachine C) ([.int o, .int l, .int g] ++ []) E H Q :=
  fun x dx nx nd _ => ⟨x, dx, o, l, g, rfl, upd_same, ho, hl, hg, hp, fun H' hm bt => ⟨rfl, k x H' nx hm (Same.made nx nd bt)⟩⟩

local macro_rules | `(tactic| walk_at "rd") => `(tactic| with_reducible first
  | (refine' r_gTup ?hp ?hl ?_; (case hp => walk_at "hp"); (case hl => with_unfolding_all exact rfl))
  | refine r_gCons ?_
  | refine r_gNil ?_
  | refine r_nDT rfl ?_
  | refine r_neB ?_
  | refine r_isB ?_
  | refine r_notB ?_
  | refine r_cmeth ?_
  | (refine' r_makeL ?he ?_; (case he => with_unfolding_all exact rfl))
  | refine r_isiB true (by decide +kernel) ?_
  | refine r_isiB false (by decide +kernel) ?_
  | refine r_callN ?_
  | refine r_andV ?_)

/-! ### numbers of a machine, an integer -/
/-- numbers of a machine in their ranges -/
structure Num (o l g : Int) : Prop where
  no : 0 ≤ o ∧ o ≤ 1000000000
  nl : 0 ≤ l ∧ l ≤ 1000000000
  ng : 1 ≤ g ∧ g ≤ 1000000000
  np : 0 < 2 * o + l
theorem NumAt.num {H : Hp} {t : Addr} {o l g : Int} (n : NumAt H t o l g) : Num o l g := ⟨⟨n.o0, n.o9⟩, ⟨n.l0, n.l9⟩, ⟨n.g1, n.g9⟩, n.pos⟩
theorem gap_pos {o g : Int} (h : 1 ≤ g) : 1 ≤ gapOf o g := by unfold gapOf; by_cases c : g > o <;> simp [c] <;> omega
theorem gap_le {o g : Int} (h : g ≤ 1000000000) (h2 : o ≤ 1000000000) : gapOf o g ≤ 1000000000 := by unfold gapOf; by_cases c : g > o <;> simp [c] <;> omega
section
variable {P : Program} {w : World} {K : PySem.W.Frag} {mg : Str → Option Value} {base : Heap} {a : Adr}
theorem ok__law_integer (T : Txt K mg a) : FnOk P w K mg base CX0 1 a.a__law_integer a.d__law_integer ["_law_thing"] (spIsInteger K) := by
  refine T.F__law_integer.ok sc__law_integer (fun vs H Q E h => ?_) (fun cdv A outer s H vs Q E hr h => ?_)
  · obtain ⟨x, b, rfl, _⟩ := h
    rfl
  · obtain ⟨x, b, rfl, ⟨t, b1, b2, ty, h1, h2, rfl⟩, k⟩ := h
    refine ⟨_, (pss_one (ps_ret (pe_and (pe_callB call_isi (by rfl) T.n_isinstance (by decide +kernel) (pa_cons (pv 0) (pa_cons (pe_bltn (v := .ty "int") (u := .type "int") (by rfl) T.n_int (by decide +kernel) rfl) pa_nil))) (pe_one (pe_not (pe_callB call_isi (by rfl) T.n_isinstance (by decide +kernel) (pa_cons (pv 0) (pa_cons (pe_bltn (v := .ty "bool") (u := .type "bool") (by rfl) T.n_bool (by decide +kernel) rfl) pa_nil)))))))), ?_⟩
    repeat walk_at "rd"
    refine r_isi ty h1 ?_
    refine ⟨b1, rfl, ?_⟩
    cases b1 with
    | false => exact iteF k
    | true =>
      repeat walk_at "rd"
      refine r_isi ty h2 ?_
      exact ⟨b2, rfl, k⟩
end

/-! ### least periods -/
def ceilD (D q : Int) : Int := -((-D) / q)
theorem ceil_le {D q : Int} (hq : 0 < q) : D ≤ q * ceilD D q := by
  unfold ceilD
  have h := Int.ediv_mul_le (-D) (show q ≠ 0 by omega)
  rw [Int.mul_neg, Int.mul_comm]
  omega
theorem ceil_gt {D q : Int} (hq : 0 < q) : q * (ceilD D q - 1) < D := by
  unfold ceilD
  have h := Int.lt_ediv_add_one_mul_self (-D) hq
  have e : q * (-(-D / q) - 1) = -((-D / q + 1) * q) := by
    rw [Int.mul_comm, ← Int.neg_mul]
    congr 1
    omega
  rw [e]
  omega
theorem ceil_un {D q c : Int} (hq : 0 < q) (h1 : D ≤ q * c) (h2 : q * (c - 1) < D) : c = ceilD D q := by
  have h3 := ceil_le (D := D) hq
  have h4 := ceil_gt (D := D) hq
  have a1 : q * (c - 1) < q * ceilD D q := by omega
  have a2 : q * (ceilD D q - 1) < q * c := by omega
  have b1 := Int.lt_of_mul_lt_mul_left a1 (by omega)
  have b2 := Int.lt_of_mul_lt_mul_left a2 (by omega)
  omega
theorem ceil_up {D q : Int} (hq : 0 < q) : (D - 1) / q + 1 = ceilD D q := by
  refine ceil_un hq ?_ ?_
  · have h := Int.lt_ediv_add_one_mul_self (D - 1) hq
    rw [Int.mul_comm] at h
    omega
  · have h := Int.ediv_mul_le (D - 1) (show q ≠ 0 by omega)
    rw [show (D - 1) / q + 1 - 1 = (D - 1) / q by omega, Int.mul_comm]
    omega
/-- no q from 1 to n - 2 has l < q p < D -/
def Clear (n l D p : Int) : Prop := ∀ q : Int, 1 ≤ q → q ≤ n - 2 → ¬ (l < q * p ∧ q * p < D)
def Least (n l D G P : Int) : Prop := G ≤ P ∧ Clear n l D P ∧ ∀ p, G ≤ p → Clear n l D p → P ≤ p
/-- the periods that are tried -/
def tries (n D G : Int) : List Int := G :: (List.range (n - 2).toNat).map fun i : Nat => ceilD D (1 + (i : Int))
theorem tries_mem {n D G q : Int} (h1 : 1 ≤ q) (h2 : q ≤ n - 2) : ceilD D q ∈ tries n D G := by
  refine List.mem_cons_of_mem _ (List.mem_map.mpr ⟨(q - 1).toNat, List.mem_range.mpr (by omega), ?_⟩)
  rw [show 1 + ((q - 1).toNat : Int) = q by omega]
theorem tries_len {n D G : Int} : (tries n D G).length = (n - 2).toNat + 1 := by
  unfold tries
  rw [List.length_cons, List.length_map, List.length_range]
theorem mul_ge {q p r : Int} (hq : 0 < q) (h : p ≤ r) : q * p ≤ q * r := Int.mul_le_mul_of_nonneg_left h (by omega)
theorem clear_try {n l D G : Int} : ∀ (m : Nat) (p : Int), (p - G).toNat = m → G ≤ p → Clear n l D p → ∃ c, c ∈ tries n D G ∧ G ≤ c ∧ c ≤ p ∧ Clear n l D c
  | 0, p, hm, hp, hc => ⟨p, by rw [show p = G by omega]; exact List.mem_cons_self .., hp, Int.le_refl _, hc⟩
  | m + 1, p, hm, hp, hc => by
    by_cases h : Clear n l D (p - 1)
    · obtain ⟨c, h1, h2, h3, h4⟩ := clear_try (n := n) (l := l) (D := D) (G := G) m (p - 1) (by omega) (by omega) h
      exact ⟨c, h1, h2, by omega, h4⟩
    · have : ∃ q : Int, 1 ≤ q ∧ q ≤ n - 2 ∧ l < q * (p - 1) ∧ q * (p - 1) < D := Classical.byContradiction fun z => h fun q a b ⟨c, d⟩ => z ⟨q, a, b, c, d⟩
      obtain ⟨q, h1, h2, h3, h4⟩ := this
      have h5 := mul_ge (q := q) (by omega) (show p - 1 ≤ p by omega)
      have h6 := hc q h1 h2
      have e := ceil_un (D := D) (q := q) (c := p) (by omega) (by omega) h4
      exact ⟨p, by rw [e]; exact tries_mem h1 h2, hp, Int.le_refl _, hc⟩
theorem clear_big {n l D p : Int} (hp : D ≤ p) (h0 : 0 < D) : Clear n l D p := fun q h1 _ h => by
  have := Int.mul_le_mul_of_nonneg_right (c := p) h1 (by omega)
  omega
theorem least_of {n l D G : Int} {acc : List Int} {m : Int} (h : ∀ x, x ∈ acc ↔ x ∈ tries n D G ∧ G ≤ x ∧ Clear n l D x) (hm : m ∈ acc) (hle : ∀ y, y ∈ acc → m ≤ y) : Least n l D G m := by
  have h1 := (h m).mp hm
  refine ⟨h1.2.1, h1.2.2, fun p hp hc => ?_⟩
  obtain ⟨c, c1, c2, c3, c4⟩ := clear_try _ p rfl hp hc
  have := hle c ((h c).mpr ⟨c1, c2, c4⟩)
  omega
theorem some_try {n l D G : Int} {acc : List Int} (h0 : 0 < D) (h : ∀ x, x ∈ acc ↔ x ∈ tries n D G ∧ G ≤ x ∧ Clear n l D x) : 0 < acc.length := by
  obtain ⟨c, c1, c2, c3, c4⟩ := clear_try (n := n) (l := l) (D := D) (G := G) _ (if D ≤ G then G else D) rfl (by by_cases z : D ≤ G <;> simp [z]; omega) (by by_cases z : D ≤ G <;> simp [z]; exact clear_big z h0; exact clear_big (Int.le_refl _) h0)
  exact List.length_pos_of_mem ((h c).mpr ⟨c1, c2, c4⟩)
/-- one step of the law's own search -/
def Reach (n l D p f : Int) : Prop := p ≤ f ∧ (f = p ∨ ∃ q : Int, 1 ≤ q ∧ q ≤ n - 2 ∧ l < q * p ∧ q * p < D ∧ f = ceilD D q) ∧ ∀ q : Int, 1 ≤ q → q ≤ n - 2 → l < q * p → q * p < D → ceilD D q ≤ f
theorem reach_le {n l D G P p f : Int} (hP : Least n l D G P) (hp : p ≤ P) (h : Reach n l D p f) : f ≤ P := by
  rcases h.2.1 with rfl | ⟨q, h1, h2, h3, h4, rfl⟩
  · exact hp
  · have h5 := mul_ge (q := q) (by omega) hp
    have h6 := hP.2.1 q h1 h2
    have h7 := ceil_gt (D := D) (q := q) (by omega)
    have h8 : q * (ceilD D q - 1) < q * P := by omega
    have := Int.lt_of_mul_lt_mul_left h8 (by omega)
    omega
theorem reach_stop {n l D p : Int} (h : Reach n l D p p) : Clear n l D p := fun q h1 h2 ⟨h3, h4⟩ => by
  have h5 := h.2.2 q h1 h2 h3 h4
  have h6 := ceil_le (D := D) (q := q) (by omega)
  have h7 := mul_ge (q := q) (by omega) h5
  omega
theorem reach_next {n l D p f k : Int} (h : Reach n l D p f) (hne : f ≠ p) (hk : ∀ q : Int, 1 ≤ q → q ≤ n - 2 → q * p < D → q ≤ n - 2 - k) (hf : 0 ≤ f) : ∀ q : Int, 1 ≤ q → q ≤ n - 2 → q * f < D → q ≤ n - 2 - (k + 1) := fun q h1 h2 h3 => by
  rcases h.2.1 with e | ⟨q0, a1, a2, a3, a4, rfl⟩
  · exact absurd e hne
  · have h5 := hk q0 a1 a2 a4
    have h6 := ceil_le (D := D) (q := q0) (by omega)
    have h7 : q < q0 := by
      refine Classical.byContradiction fun z => ?_
      have := Int.mul_le_mul_of_nonneg_right (c := ceilD D q0) (show q0 ≤ q by omega) hf
      omega
    omega
theorem stop_clear {n l D p k : Int} (hn : 2 ≤ n) (hk : ∀ q : Int, 1 ≤ q → q ≤ n - 2 → q * p < D → q ≤ n - 2 - k) (h : n - 2 ≤ k) : Clear n l D p := fun q h1 h2 ⟨_, h4⟩ => by
  have := hk q h1 h2 h4
  omega
def spFree (C : Addr) : Sp := fun vs H Q _ => ∃ (m : Addr) (n p o l g : Int), vs = [.ref m, .int n, .int p] ∧ MachAt C H m o l g ∧ 2 ≤ n ∧ n ≤ 40 ∧ ∀ b : Bool, (b = true ↔ Clear n l (2 * o + l) p) → Q (.bl b) H
section
variable {P : Program} {w : World} {K : PySem.W.Frag} {mg : Str → Option Value} {base : Heap} {a : Adr}
theorem ok_is_free (T : Txt K mg a) : FnOk P w K mg base CX0 1 a.a_is_free a.d_is_free ["machine", "n", "period"] (spFree a.c_Machine) := by
  refine T.F_is_free.ok sc_is_free (fun vs H Q E h => ?_) (fun cdv A outer s H vs Q E hr h => ?_)
  · obtain ⟨m, n, p, o, l, g, rfl, _⟩ := h
    rfl
  · obtain ⟨m, n, p, o, l, g, rfl, ⟨dx, hm⟩, n2, n40, k⟩ := h
    refine ⟨_, (pss_cons (ps_for (by exact PassesOwn.never) rfl (pi_range2 (by rfl) T.n_range (pa_cons pe_int (pa_cons (pe_op op_sub (pv 1) pe_int) pa_nil))) (pg_name (i := 3) sc_is_free.nd rfl (Or.inl rfl))
 (pss_one (ps_if (pt_chain op_lt op_lt (pe_fld (pv 0) rfl) (pe_op op_mul (pv 3) (pv 2)) (pe_fld (pv 0) rfl)) (pss_one (ps_ret pe_bl))
 pss_nil)))
 (pss_one (ps_ret pe_bl))), ?_⟩
    repeat walk_at "rd"
    refine ⟨by omega, for_range (lo := 1) (n := (n - 1 - 1).toNat) (fun i σ H' => ∃ v : Option V, σ = [some (.ref m), some (.int n), some (.int p), v] ∧ H' = H ∧ ∀ q : Int, 1 ≤ q → q ≤ i → ¬ (l < q * p ∧ q * p < 2 * o + l)) ⟨_, rfl, rfl, fun q _ _ => by omega⟩ ?_ ?_⟩
    · rintro i σ H1 hi ⟨v, rfl, rfl, hq⟩
      repeat walk_at "rd"
      refine ite_d (fun h1 => ?_) (fun h1 => ?_)
      · repeat walk_at "rd"
        refine ite_d (fun h2 => ?_) (fun h2 => ?_)
        · repeat walk_at "rd"
          exact k false ⟨fun z => Bool.noConfusion z, fun z => absurd ⟨h1, h2⟩ (z (1 + (i : Int)) (by omega) (by omega))⟩
        · repeat walk_at "rd"
          refine ⟨_, rfl, rfl, fun q a b => ?_⟩
          by_cases e : q = 1 + (i : Int)
          · subst e; exact fun z => h2 z.2
          · exact hq q a (by omega)
      · repeat walk_at "rd"
        refine ⟨_, rfl, rfl, fun q a b => ?_⟩
        by_cases e : q = 1 + (i : Int)
        · subst e; exact fun z => h1 z.1
        · exact hq q a (by omega)
    · rintro σ H1 ⟨v, rfl, rfl, hq⟩
      repeat walk_at "rd"
      exact k true ⟨fun _ q a b => hq q a (by omega), fun _ => rfl⟩
end

/-! ### counts of any kind, periods, rounds -/
structure Arg (K : PySem.W.Frag) (H : Hp) (x : V) (b : Bool) : Prop where
  iv : IntV K H x b
  isI : b = true → ∃ i, x = .int i
theorem Arg.int {K : PySem.W.Frag} {H : Hp} {i : Int} : Arg K H (.int i) true := ⟨IntV.int, fun _ => ⟨i, rfl⟩⟩
/-- an integer from lo to hi -/
def Okay (x : V) (b : Bool) (lo hi : Int) : Prop := ∃ i, x = .int i ∧ b = true ∧ lo ≤ i ∧ i ≤ hi
def spCountX (K : PySem.W.Frag) (C : Addr) : Sp := fun vs H Q E => ∃ (x : V) (lo hi : Int) (b : Bool), vs = [x, .int lo, .int hi] ∧ Arg K H x b ∧ (Okay x b lo hi → Q .non H) ∧ (¬ Okay x b lo hi → E (.ref C) none H)
def spLeastR (K : PySem.W.Frag) (M C : Addr) : Sp := fun vs H Q E => ∃ (m : Addr) (x : V) (b : Bool) (o l g : Int), vs = [.ref m, x] ∧ MachAt M H m o l g ∧ Num o l g ∧ Arg K H x b ∧ (¬ Okay x b 2 40 → E (.ref C) none H) ∧
  ∀ n : Int, x = .int n → b = true → 2 ≤ n → n ≤ 40 → ∀ P H', Least n l (2 * o + l) (gapOf o g) P → Same H H' → Q (.int P) H'
/-- rows at the items of a list -/
def Tups (H : Hp) : List V → List (List Int) → Prop
  | [], [] => True
  | v :: vs, r :: rs => (∃ p, v = .ref p ∧ H p = some (.tup (r.map V.int))) ∧ Tups H vs rs
  | _, _ => False
theorem Tups.keep {H H' : Hp} (s : ∀ (p : Addr) xs, H p = some (.tup xs) → H' p = some (.tup xs)) : ∀ {vs rs}, Tups H vs rs → Tups H' vs rs
  | [], [], _ => trivial
  | _ :: _, _ :: _, ⟨⟨p, e, h⟩, t⟩ => ⟨⟨p, e, s _ _ h⟩, Tups.keep s t⟩
  | [], _ :: _, h => h.elim
  | _ :: _, [], h => h.elim
theorem Tups.add {H : Hp} {p : Addr} {r : List Int} (hp : H p = some (.tup (r.map V.int))) : ∀ {vs rs}, Tups H vs rs → Tups H (vs ++ [.ref p]) (rs ++ [r])
  | [], [], _ => ⟨⟨p, rfl, hp⟩, trivial⟩
  | _ :: _, _ :: _, ⟨a, t⟩ => ⟨a, Tups.add hp t⟩
  | [], _ :: _, h => h.elim
  | _ :: _, [], h => h.elim
theorem Tups.len {H : Hp} : ∀ {vs rs}, Tups H vs rs → vs.length = rs.length
  | [], [], _ => rfl
  | _ :: _, _ :: _, ⟨_, t⟩ => by rw [List.length_cons, List.length_cons, t.len]
  | [], _ :: _, h => h.elim
  | _ :: _, [], h => h.elim
theorem Tups.get {H : Hp} : ∀ {vs rs} {i : Nat} {v : V}, Tups H vs rs → vs[i]? = some v → ∃ p r, v = .ref p ∧ rs[i]? = some r ∧ H p = some (.tup (r.map V.int))
  | [], [], i, v, _, h => by simp at h
  | _ :: _, r :: _, 0, v, ⟨⟨p, e, h⟩, _⟩, q => by
    obtain rfl := Option.some.inj q
    exact ⟨p, r, e, rfl, h⟩
  | _ :: _, _ :: _, i + 1, v, ⟨_, t⟩, q => t.get (i := i) q
  | [], _ :: _, _, _, h, _ => h.elim
  | _ :: _, [], _, _, h, _ => h.elim
/-- all rows of the first hands -/
def rt (f : Nat → Nat → List Int) (m : Nat) : Nat → List (List Int)
  | 0 => []
  | i + 1 => rt f m i ++ (List.range m).map (f i)
theorem rt_len {f : Nat → Nat → List Int} {m : Nat} : ∀ n, (rt f m n).length = n * m
  | 0 => by simp [rt]
  | n + 1 => by
    show (rt f m n ++ _).length = _
    rw [List.length_append, rt_len n, List.length_map, List.length_range, Nat.succ_mul]
def toH (n h t : Int) : Int := if h + t + 1 ≥ n then h + t + 1 - n else h + t + 1
def rowN (n P : Int) (h t : Nat) : List Int := [h, h, toH n h t, t * P]
def Rounds (H : Hp) (p : Addr) (n P : Int) : Prop := ∃ vs, H p = some (.lst vs) ∧ Tups H vs (rt (rowN n P) (n - 1).toNat n.toNat)
theorem Rounds.keep {H H' : Hp} {p : Addr} {n P : Int} (h : Rounds H p n P) (s : Same H H') : Rounds H' p n P := let ⟨vs, e, t⟩ := h; ⟨vs, s _ _ e, t.keep fun _ _ => s _ _⟩
theorem toH_mod {n h t : Int} (h0 : 0 ≤ h) (h1 : h < n) (t0 : 0 ≤ t) (t1 : t < n - 1) : (h + t + 1).fmod n = toH n h t := by
  rw [Int.fmod_eq_emod_of_nonneg _ (by omega)]
  unfold toH
  by_cases c : h + t + 1 ≥ n
  · rw [if_pos c, show h + t + 1 = (h + t + 1 - n) + n by omega, Int.add_emod_right, Int.emod_eq_of_lt (by omega) (by omega)]
    omega
  · rw [if_neg c, Int.emod_eq_of_lt (by omega) (by omega)]
def spRound (K : PySem.W.Frag) (M C Ti : Addr) : Sp := fun vs H Q E => ∃ (m : Addr) (x y : V) (b c : Bool) (o l g : Int), vs = [.ref m, x, y] ∧ MachAt M H m o l g ∧ Num o l g ∧ Arg K H x b ∧ (y = .non ∨ Arg K H y c) ∧ (¬ Okay x b 2 40 → E (.ref C) none H) ∧
  ∀ n : Int, x = .int n → b = true → 2 ≤ n → n ≤ 40 → (y = .non → ∀ P p H', Least n l (2 * o + l) (gapOf o g) P → Same H H' → H p = none → Rounds H' p n P → Q (.ref p) H') ∧ (∀ P, y = .int P → c = true → 1 ≤ P → P ≤ 10000000000 → ∀ p H', Same H H' → H p = none → Rounds H' p n P → Q (.ref p) H') ∧
    (y ≠ .non → ¬ Okay y c 1 10000000000 → E (.ref Ti) none H)
def spEvery (K : PySem.W.Frag) (M C : Addr) : Sp := fun vs H Q E => ∃ (m : Addr) (x : V) (b : Bool) (o l g : Int), vs = [.ref m, x] ∧ MachAt M H m o l g ∧ Num o l g ∧ Arg K H x b ∧ (¬ Okay x b 2 40 → E (.ref C) none H) ∧ (Okay x b 2 40 → ∀ v H', Same H H' → Q v H')
section
variable {P : Program} {w : World} {K : PySem.W.Frag} {mg : Str → Option Value} {base : Heap} {a : Adr}
theorem ok_check_count (T : Txt K mg a) : FnOk P w K mg base (L2.CX P w) 3 a.a_check_count a.d_check_count ["count", "low", "high"] (spCountX K a.c_InvalidCount) := by
  refine T.F_check_count.okX sc_check_count (fun vs H Q E h => ?_) (fun cdv A outer s H vs Q E hr h => ?_)
  · obtain ⟨x, lo, hi, b, rfl, _⟩ := h
    rfl
  · obtain ⟨x, lo, hi, b, rfl, ⟨iv, isI⟩, kQ, kE⟩ := h
    refine ⟨_, (pss_one (ps_if (pt_not (pt_val (pe_call (ok_is_between T) (hr.mono (by decide)) (by rfl) T.g_is_between T.F_is_between.kp T.b_is_between .nil pass0 (pa_cons (pv 0) (pa_cons (pv 1) (pa_cons (pv 2) pa_nil)))))) (pss_one (ps_raise rfl (takes_of rfl rfl rfl rfl) (by exact (pmk_bare PySem.F.excBase_Exception T.q_InvalidCount T.g_InvalidCount T.k_InvalidCount (raises_own T.e_InvalidCount T.t_InvalidCount) (by rfl)))))
 pss_nil)), ?_⟩
    repeat walk_at "rd"
    refine ⟨x, lo, hi, b, rfl, iv, fun eb => ?_, fun eb => ?_⟩
    · repeat walk_at "rd"
      exact kE fun ⟨i, _, e, _⟩ => by rw [eb] at e; cases e
    · obtain ⟨i, rfl⟩ := isI eb
      refine ⟨i, rfl, ?_⟩
      repeat walk_at "rd"
      refine r_nD (fun hn => ?_) (fun hy => ?_)
      · exact kE fun ⟨j, e, _, h1, h2⟩ => hn (by cases e; exact ⟨h1, h2⟩)
      · repeat walk_at "rd"
        exact kQ ⟨i, rfl, eb, hy⟩
theorem ok_least_period (T : Txt K mg a) : FnOk P w K mg base (L2.CX P w) 5 a.a_least_period a.d_least_period ["machine", "n"] (spLeastR K a.c_Machine a.c_InvalidCount) := by
  refine T.F_least_period.okX sc_least_period (fun vs H Q E h => ?_) (fun cdv A outer s H vs Q E hr h => ?_)
  · obtain ⟨m, x, b, o, l, g, rfl, _⟩ := h
    rfl
  · obtain ⟨m, x, b, o, l, g, rfl, hm, N, hx, kE, kQ⟩ := h
    obtain ⟨dx, hm⟩ := hm
    refine ⟨_, (pss_cons (ps_expr (pe_call (ok_check_count T) (hr.mono (by decide)) (by rfl) T.g_check_count T.F_check_count.kp T.b_check_count .nil (pcX (takes_of rfl rfl rfl rfl)) (pa_cons (pv 1) (pa_cons pe_int (pa_cons (pe_glob (v := .int 40) (by rfl) T.g_MOST_SHARING.choose_spec ⟨_, rfl⟩) pa_nil)))))
 (pss_cons (ps_set (i := 2) sc_least_period.nd rfl (Or.inl rfl) (pe_op op_cat (pe_lst (pa_cons (pe_fld (pv 0) rfl) pa_nil)) (pe_lc (own := [("q", 3)]) (g := gName 3) (tt := tYes) rfl sc_least_period.nd (pi_range2 (by rfl) T.n_range (pa_cons pe_int (pa_cons (pe_op op_sub (pv 1) pe_int) pa_nil))) (blkOk_by (own := [("q", 3)]) (N := ["machine", "n", "periods", "q", "period"]) (sc := defScope s_least_period) (by decide +kernel)) (fun _ _ _ _ _ => (pg_name (i := 3) sc_least_period.nd rfl (Or.inl rfl))) (fun _ _ _ _ _ => pts_nil) (fun _ _ _ _ _ => (pe_un un_neg (pe_op op_fdivW (pe_un un_neg (pe_fldK (K := K) rfl (pv 0) rfl)) (pv 3)))))))
 (pss_one (ps_ret (pe_callB (cr_min rfl) (by rfl) T.n_min (by decide +kernel) (pa_cons (pe_lc (own := [("period", 4)]) (g := gName 4) rfl sc_least_period.nd (pi_list (pv 2)) (blkOk_by (own := [("period", 4)]) (N := ["machine", "n", "periods", "q", "period"]) (sc := defScope s_least_period) (by decide +kernel)) (fun _ _ _ _ _ => (pg_name (i := 4) sc_least_period.nd rfl (Or.inl rfl))) (fun _ _ _ _ _ => pts_one (PW.pt (pw_and (pt_cmpR op_ge (pv 4) (pe_fldK (K := K) rfl (pv 0) rfl) (nomark _)) (pw_and1 (pt_val (pe_call (ok_is_free T) (hr.mono (by decide)) (by rfl) T.g_is_free T.F_is_free.kp T.b_is_free .nil pass0 (pa_cons (pv 0) (pa_cons (pv 1) (pa_cons (pv 4) pa_nil))))))))) (fun _ _ _ _ _ => (pv 4))) pa_nil)))))), ?_⟩
    repeat walk_at "rd"
    refine ⟨x, 2, 40, b, rfl, hx, fun ⟨n, ex, eb, n2, n40⟩ => ?_, kE⟩
    subst ex eb
    have k := kQ n rfl rfl n2 n40
    repeat walk_at "rd"
    refine new_at (Nat.le_of_ble_eq_true rfl) (fun L0 H1 n1 s1 e1 => ?_)
    have hm1 := s1 _ _ hm
    repeat walk_at "rd"
    refine ⟨by omega, fun L1 hL1 => lc_range (lo := 1) (n := (n - 1 - 1).toNat) (fun i H' => H' L1 = some (.lst (((List.range i).map fun i : Nat => ceilD (2 * o + l) (1 + (i : Int))).map V.int)) ∧ H' m = some (.ins a.c_Machine dx (mf o l g)) ∧ H' L0 = some (.lst [.int (gapOf o g)]) ∧ Same H1 H') ?_ ?_ ?_⟩
    · exact ⟨upd_same, (upd_ne (ne_of_none hm1 hL1)).trans hm1, (upd_ne (ne_of_none e1 hL1)).trans e1, Same.new hL1⟩
    · rintro i H2 hi ⟨h1, h2, h3, h4⟩
      repeat walk_at "rd"
      refine ⟨rfl, ?_⟩
      repeat walk_at "rd"
      refine ⟨_, h1, small1000 (by rw [List.length_map, List.length_map, List.length_range]; omega), ?_, (upd_ne (ne_of_none hm1 hL1)).trans h2, (upd_ne (ne_of_none e1 hL1)).trans h3, fun b o e => (upd_ne (ne_of_none e hL1)).trans (h4 b o e)⟩
      rw [upd_same, List.range_succ, List.map_append, List.map_append]
      rfl
    · rintro H2 ⟨h1, h2, h3, h4⟩
      repeat walk_at "rd"
      refine r_cat h3 h1 (by rw [List.length_map, List.length_map, List.length_range, List.length_singleton]; omega) (fun L2 H3 nL s3 e3 => ?_)
      have hs3 : Same H H3 := (s1.trans h4).trans s3
      have hm3 := s3 _ _ h2
      have e3 : H3 L2 = some (.lst ((tries n (2 * o + l) (gapOf o g)).map V.int)) := by
        rw [e3, show (n - 1 - 1).toNat = (n - 2).toNat by omega]
        rfl
      clear h1 h2 h3 h4 hm hm1 s1 s3 e1
      repeat walk_at "rd"
      refine ⟨L2, rfl, ⟨_, SqL.of e3⟩, fun L3 hL3 => lc_list (K := K) (a := L2) (xs := (tries n (2 * o + l) (gapOf o g)).map V.int) (fun i H' => ∃ acc : List Int, H' L3 = some (.lst (acc.map V.int)) ∧ acc.length ≤ i ∧ (∀ x, x ∈ acc ↔ x ∈ (tries n (2 * o + l) (gapOf o g)).take i ∧ gapOf o g ≤ x ∧ Clear n l (2 * o + l) x) ∧ H' m = some (.ins a.c_Machine dx (mf o l g)) ∧ H' L2 = some (.lst ((tries n (2 * o + l) (gapOf o g)).map V.int)) ∧ Same H3 H') ?_ (fun i H' _ ⟨_, _, _, _, _, h, _⟩ => SqL.of h) ?_ ?_⟩
      · exact ⟨[], upd_same, Nat.le_refl _, fun x => by rw [List.take_zero]; simp, (upd_ne (ne_of_none hm3 hL3)).trans hm3, (upd_ne (ne_of_none e3 hL3)).trans e3, Same.new hL3⟩
      · rintro i x H4 hi ⟨acc, h1, h2, h3, h4, h5, h6⟩
        obtain ⟨z, hz, rfl⟩ := int_of_get hi
        have hlt : i < (n - 2).toNat + 1 := by
          have := (List.getElem?_eq_some_iff.mp hz).1
          rw [tries_len] at this
          exact this
        have skip : ¬ (gapOf o g ≤ z ∧ Clear n l (2 * o + l) z) → ∀ x, x ∈ acc ↔ x ∈ (tries n (2 * o + l) (gapOf o g)).take (i + 1) ∧ gapOf o g ≤ x ∧ Clear n l (2 * o + l) x := fun hno x => by
          rw [h3, take_more hz, List.mem_append, List.mem_singleton]
          constructor
          · exact fun w => ⟨Or.inl w.1, w.2⟩
          · rintro ⟨w | rfl, w2⟩
            · exact ⟨w, w2⟩
            · exact absurd w2 hno
        repeat walk_at "rd"
        refine ⟨rfl, ?_⟩
        repeat walk_at "rd"
        refine ite_d (fun hg => ?_) (fun hg => ?_)
        · repeat walk_at "rd"
          refine ⟨m, n, z, o, l, g, rfl, ⟨dx, h4⟩, n2, n40, fun b hb => ⟨b, rfl, ?_⟩⟩
          cases b with
          | true =>
            refine iteT ?_
            repeat walk_at "rd"
            refine ⟨_, h1, small1000 (by rw [List.length_map]; omega), acc ++ [z], ?_, by rw [List.length_append, List.length_singleton]; omega, fun x => ?_, (upd_ne (ne_of_none hm3 hL3)).trans h4, (upd_ne (ne_of_none e3 hL3)).trans h5, fun b o e => (upd_ne (ne_of_none e hL3)).trans (h6 b o e)⟩
            · rw [upd_same, List.map_append]
              rfl
            · rw [List.mem_append, h3, take_more hz, List.mem_append, List.mem_singleton]
              constructor
              · rintro (w | rfl)
                · exact ⟨Or.inl w.1, w.2⟩
                · exact ⟨Or.inr rfl, hg, hb.mp rfl⟩
              · rintro ⟨w | rfl, w2⟩
                · exact Or.inl ⟨w, w2⟩
                · exact Or.inr rfl
          | false => exact iteF ⟨acc, h1, by omega, skip (fun w => Bool.noConfusion (hb.mpr w.2)), h4, h5, h6⟩
        · exact ⟨acc, h1, by omega, skip (fun w => hg w.1), h4, h5, h6⟩
      · rintro H4 ⟨acc, h1, h2, h3, h4, h5, h6⟩
        rw [List.length_map, List.take_length] at h3
        repeat walk_at "rd"
        refine r_min h1 (some_try N.np h3) (fun M hM hle => ?_)
        exact k M H4 (least_of h3 hM hle) (hs3.trans h6)
end

/-! ### rounds, and what they need of everybody -/
section
variable {K : PySem.W.Frag} {H : Hp} {Q : VK} {x : V}
theorem r_isNx (q : Q (.bl (decide (x = .non))) H) : rIsNo x .non H Q := ⟨rfl, q⟩
theorem r_isNno (h : x ≠ .non) (q : Q (.bl false) H) : rIsNo x .non H Q := ⟨rfl, by rw [decide_eq_false h]; exact q⟩
theorem r_lc2 {wi wi1 : TI} {g g1 : TG} {tt tt1 : TT} {te : TE} {vs vs1 : List Nat} {σ : St} (h : wi σ H fun J H1 => ∀ D, H1 D = none → ∃ W : Nat → Nat → Hp → Prop, (∃ m, W 0 m (upd H1 D (.lst []))) ∧ ∀ i m H, W i m H →
  (J.stop i H ∧ Q (.ref D) H) ∨ (J.go i H ∧ ∃ Nx : Hp → Prop, (∀ H', Nx H' → ∃ m', m' < m ∧ W (i + 1) m' H') ∧ ∀ x H', J.yld i H x H' → g x (wipe σ vs) H' fun σ2 H2 => wipe σ2 vs = wipe σ vs ∧ tt σ2 H2 fun b H3 =>
    if b = true then wi1 σ2 H3 fun J1 H4 => ∃ W1 : Nat → Nat → Hp → Prop, (∃ m, W1 0 m H4) ∧ ∀ j k H, W1 j k H →
      (J1.stop j H ∧ Nx H) ∨ (J1.go j H ∧ ∃ Nx1 : Hp → Prop, (∀ H', Nx1 H' → ∃ k', k' < k ∧ W1 (j + 1) k' H') ∧ ∀ x H', J1.yld j H x H' → g1 x (wipe σ2 vs1) H' fun σ3 H5 => wipe σ3 vs1 = wipe σ2 vs1 ∧ tt1 σ3 H5 fun b H6 =>
        if b = true then te σ3 H6 fun y H7 => ∃ acc, H7 D = some (.lst acc) ∧ acc.length < sizeLine ∧ Nx1 (upd H7 D (.lst (acc ++ [y]))) else Nx1 H6)
    else Nx H3)) : tLc2 wi g tt wi1 g1 tt1 te vs vs1 σ H Q := h
end
section
variable {P : Program} {w : World} {K : PySem.W.Frag} {mg : Str → Option Value} {base : Heap} {a : Adr}
theorem ok_everybody (T : Txt K mg a) : FnOk P w K mg base (L2.CX P w) 6 a.a_everybody a.d_everybody ["machine", "n"] (spEvery K a.c_Machine a.c_InvalidCount) := by
  refine T.F_everybody.okX sc_everybody (fun vs H Q E h => ?_) (fun cdv A outer s H vs Q E hr h => ?_)
  · obtain ⟨m, x, b, o, l, g, rfl, _⟩ := h
    rfl
  · obtain ⟨m, x, b, o, l, g, rfl, ⟨dx, hm⟩, N, hx, kE, kQ⟩ := h
    refine ⟨_, (pss_cons (ps_set (i := 2) sc_everybody.nd rfl (Or.inl rfl) (pe_call (ok_least_period T) (hr.mono (by decide)) (by rfl) T.g_least_period T.F_least_period.kp T.b_least_period .nil (pcX (takes_of rfl rfl rfl rfl)) (pa_cons (pv 0) (pa_cons (pv 1) pa_nil))))
 (pss_cons (ps_set (i := 3) sc_everybody.nd rfl (Or.inl rfl) (pe_callB (call_max2 rfl) (by rfl) T.n_max (by decide +kernel) (pa_cons (pe_op op_add (pe_fld (pv 0) rfl) (pe_op op_mul (pe_op op_sub (pv 1) pe_int) (pe_fld (pv 0) rfl))) (pa_cons (pe_op op_mul (pe_op op_mul pe_int (pe_fld (pv 0) rfl)) (pe_op op_sub (pv 1) pe_int)) pa_nil))))
 (pss_one (ps_ret (pe_tup (pa_cons (pv 3) (pa_cons (pe_op op_add (pe_fld (pv 0) rfl) (pe_op op_mul (pe_op op_sub (pv 1) pe_int) (pv 2))) pa_nil))))))), ?_⟩
    repeat walk_at "rd"
    refine ⟨m, x, b, o, l, g, rfl, ⟨dx, hm⟩, N, hx, kE, fun n ex eb n2 n40 P H1 hP s1 => ?_⟩
    subst ex
    have hm := s1 _ _ hm
    have k := kQ ⟨n, rfl, eb, n2, n40⟩
    repeat walk_at "rd"
    refine new_at (Nat.le_of_ble_eq_true rfl) (fun p H2 n2 s2 e2 => k _ _ (s1.trans s2))
theorem ok_round_plan (T : Txt K mg a) : FnOk P w K mg base (L2.CX P w) 6 a.a_round_plan a.d_round_plan ["machine", "n", "period"] (spRound K a.c_Machine a.c_InvalidCount a.c_InvalidTime) := by
  refine T.F_round_plan.ok sc_round_plan (fun vs H Q E h => ?_) (fun cdv A outer s H vs Q E hr h => ?_)
  · obtain ⟨m, x, y, b, c, o, l, g, rfl, _⟩ := h
    rfl
  · obtain ⟨m, x, y, b, c, o, l, g, rfl, hm, N, hx, hy, kE, k⟩ := h
    refine ⟨_, (pss_cons (ps_expr (pe_call (ok_check_count T) (hr.mono (by decide)) (by rfl) T.g_check_count T.F_check_count.kp T.b_check_count .nil (pcX (takes_of rfl rfl rfl rfl)) (pa_cons (pv 1) (pa_cons pe_int (pa_cons (pe_glob (v := .int 40) (by rfl) T.g_MOST_SHARING.choose_spec ⟨_, rfl⟩) pa_nil)))))
 (pss_cons (ps_if (pt_cmpR op_isNo (pv 2) pe_non (nomark _)) (pss_one (ps_set (i := 2) sc_round_plan.nd rfl (Or.inr rfl) (pe_call (ok_least_period T) (hr.mono (by decide)) (by rfl) T.g_least_period T.F_least_period.kp T.b_least_period .nil (pcX (takes_of rfl rfl rfl rfl)) (pa_cons (pv 0) (pa_cons (pv 1) pa_nil)))))
 (pss_one (ps_if (pt_not (pt_val (pe_call (ok_is_between T) (hr.mono (by decide)) (by rfl) T.g_is_between T.F_is_between.kp T.b_is_between .nil pass0 (pa_cons (pv 2) (pa_cons pe_int (pa_cons (pe_glob (v := .int 10000000000) (by rfl) T.g_LONGEST_PERIOD.choose_spec ⟨_, rfl⟩) pa_nil)))))) (pss_one (ps_raise rfl (takes_of rfl rfl rfl rfl) (by exact (pmk_bare PySem.F.excBase_Exception T.q_InvalidTime T.g_InvalidTime T.k_InvalidTime (raises_own T.e_InvalidTime T.t_InvalidTime) (by rfl)))))
 pss_nil)))
 (pss_one (ps_ret (pe_lc2 (own := [("hand", 3), ("turn", 4)]) (vs1 := [4]) (g := gName 3) (g1 := gName 4) (tt := tYes) (tt1 := tYes) rfl sc_round_plan.nd (pi_range1 (by rfl) T.n_range (pa_cons (pv 1) pa_nil)) (blkOk_by (own := [("hand", 3), ("turn", 4)]) (N := ["machine", "n", "period", "hand", "turn"]) (sc := defScope s_round_plan) (by decide +kernel)) (by decide) (fun _ _ _ _ _ => (pg_name (i := 3) sc_round_plan.nd rfl (Or.inl rfl))) (fun _ _ _ _ _ => pts_nil) (fun _ _ _ _ _ => (pi_range1 (by rfl) T.n_range (pa_cons (pe_op op_sub (pv 1) pe_int) pa_nil))) (fun _ _ _ _ _ => (pg_name (i := 4) sc_round_plan.nd rfl (Or.inl rfl))) (fun _ _ _ _ _ => pts_nil) (fun _ _ _ _ _ => (pe_tup (pa_cons (pv 3) (pa_cons (pv 3) (pa_cons (pe_op op_modN (pe_op op_add (pe_op op_add (pv 3) (pv 4)) pe_int) (pv 1)) (pa_cons (pe_op op_mul (pv 4) (pv 2)) pa_nil))))))))))), ?_⟩
    repeat walk_at "rd"
    refine ⟨x, 2, 40, b, rfl, hx, fun ⟨n, ex, eb, n2, n40⟩ => ?_, kE⟩
    subst ex
    obtain ⟨k1, k2, k3⟩ := k n rfl eb n2 n40
    with_reducible refine seq_with (fun σ H' => ∃ P : Int, σ = [some (.ref m), some (.int n), some (.int P), none, none] ∧ Same H H' ∧ (∀ p H'', Same H' H'' → H' p = none → Rounds H'' p n P → Q (.ref p) H'')) ?_ (fun rest => ?_)
    · rintro σ H1 ⟨P, rfl, s1, kk⟩
      have e1 : (n - 1).toNat < 10000 := by omega
      repeat walk_at "rd"
      refine r_lc2 ?_
      repeat walk_at "rd"
      refine ⟨by omega, by omega, fun D hD => ?_⟩
      let mm := (n - 1).toNat
      let Pv : Nat → Nat → Hp → Prop := fun i j H' => ∃ vs, H' D = some (.lst vs) ∧ Tups H' vs (rt (rowN n P) mm i ++ (List.range j).map (rowN n P i)) ∧ Same H1 H'
      have row : ∀ i H', Pv i mm H' → Pv (i + 1) 0 H' := fun i H' ⟨vs, h1, h2, h3⟩ => ⟨vs, h1, by rw [List.range_zero, List.map_nil, List.append_nil]; exact h2, h3⟩
      refine ⟨fun i m' H' => i ≤ n.toNat ∧ m' = n.toNat - i ∧ Pv i 0 H', ⟨n.toNat, Nat.zero_le _, by omega, [], upd_same, trivial, Same.new hD⟩, ?_⟩
      rintro i m' H2 ⟨hi, rfl, hp⟩
      by_cases hlt : i < n.toNat
      · refine .inr ⟨hlt, Pv (i + 1) 0, fun H' p' => ⟨n.toNat - (i + 1), by omega, hlt, rfl, p'⟩, fun x H' yl => ?_⟩
        obtain ⟨ex, eH⟩ := yl
        subst ex eH
        repeat walk_at "rd"
        refine ⟨rfl, ?_⟩
        repeat walk_at "rd"
        refine ⟨by omega, by omega, ?_⟩
        rw [show (n - 1).toNat = mm from rfl]
        refine ⟨fun j k' H' => j ≤ mm ∧ k' = mm - j ∧ Pv i j H', ⟨mm, Nat.zero_le _, by omega, hp⟩, ?_⟩
        rintro j k' H3 ⟨hj, rfl, hp3⟩
        by_cases hlj : j < mm
        · refine .inr ⟨hlj, Pv i (j + 1), fun H' p' => ⟨mm - (j + 1), by omega, hlj, rfl, p'⟩, fun x H' yl => ?_⟩
          obtain ⟨ex, eH⟩ := yl
          subst ex eH
          obtain ⟨vs, h1, h2, h3⟩ := hp3
          repeat walk_at "rd"
          refine ⟨rfl, ?_⟩
          repeat walk_at "rd"
          have hjn : (j : Int) < n - 1 := by omega
          refine new_at (Nat.le_of_ble_eq_true rfl) (fun p H4 n4 s4 e4 => ?_)
          have hl := h2.len
          rw [List.length_append, rt_len, List.length_map, List.length_range] at hl
          have hb : i * mm + mm ≤ 40 * 40 := by
            have a1 : (i + 1) * mm ≤ 40 * 40 := Nat.mul_le_mul (by omega) (by omega)
            rw [Nat.succ_mul] at a1
            exact a1
          refine ⟨vs, s4 _ _ h1, by rw [sizeLine_eq]; omega, vs ++ [.ref p], upd_same, ?_, fun b o e => (upd_ne (ne_of_none e hD)).trans (s4 _ _ (h3 b o e))⟩
          have nDp : p ≠ D := by intro z; subst z; rw [h1] at n4; cases n4
          have e4' : H4 p = some (.tup ((rowN n P i j).map V.int)) := by
            rw [e4, show (0 + (i : Int)) = i by omega, show (0 + (j : Int)) = j by omega, toH_mod (by omega) (by omega) (by omega) hjn]
            rfl
          rw [List.range_succ, List.map_append, ← List.append_assoc]
          refine Tups.add ((upd_ne nDp).trans e4') (h2.keep fun q xs hq => ?_)
          have : q ≠ D := by intro z; subst z; rw [h1] at hq; cases hq
          exact (upd_ne this).trans (s4 _ _ hq)
        · refine .inl ⟨by show mm ≤ j; omega, row i H3 ?_⟩
          rw [show mm = j by omega]
          rw [show j = mm by omega] at hp3 ⊢
          exact hp3
      · refine .inl ⟨by show n.toNat ≤ i; omega, ?_⟩
        obtain ⟨vs, h1, h2, h3⟩ := hp
        refine kk D H2 h3 hD ⟨vs, h1, ?_⟩
        rw [List.range_zero, List.map_nil, List.append_nil, show i = n.toNat by omega] at h2
        exact h2
    · refine r_ifS ?_
      repeat walk_at "rd"
      refine r_isNx ?_
      refine ⟨_, rfl, ?_⟩
      by_cases hy0 : y = .non
      · subst hy0
        refine ite_tt rfl ?_
        repeat walk_at "rd"
        refine ⟨m, .int n, true, o, l, g, rfl, hm, N, Arg.int, fun z => absurd ⟨n, rfl, rfl, n2, n40⟩ z, fun n' en _ _ _ P H1 hP s1 => ?_⟩
        cases en
        repeat first | exact rest _ _ ⟨P, rfl, s1, fun p H2 s2 np hr => k1 rfl P p H2 hP (s1.trans s2) (s1.free np) hr⟩ | walk_at "rd"
      · refine ite_ff hy0 ?_
        repeat walk_at "rd"
        obtain ⟨iv, isI⟩ := hy.resolve_left hy0
        refine ⟨y, 1, 10000000000, c, rfl, iv, fun ec => ?_, fun ec => ?_⟩
        · repeat walk_at "rd"
          exact k3 hy0 fun ⟨i, _, e, _⟩ => by rw [ec] at e; cases e
        · obtain ⟨P, rfl⟩ := isI ec
          refine ⟨P, rfl, ?_⟩
          repeat walk_at "rd"
          refine r_nD (fun hn => ?_) (fun hp => ?_)
          · exact k3 hy0 fun ⟨j, e, _, h1, h2⟩ => hn (by cases e; exact ⟨h1, h2⟩)
          · repeat first | exact rest _ _ ⟨P, rfl, Same.refl _, fun p H2 s2 np hr => k2 P rfl ec hp.1 hp.2 p H2 s2 np hr⟩ | walk_at "rd"
end

/-! ### things of any kind -/
theorem kit_own {K : PySem.W.Frag} {C : Addr} {n : String} (h : PySem.W.subIn K (.ref C) (.type n) = some false) (hm : PySem.W.kitMeta n = true) : PySem.W.kitOne K (.ref C) (.type n) = some false := by
  unfold PySem.W.kitOne PySem.W.kitCls
  rw [if_neg (by simp)]
  show (if PySem.W.kitMeta n = true then PySem.W.subIn K (.ref C) (.type n) else none) = some false
  rw [if_pos hm]
  exact h
/-- a value that the law hands in: nothing of it lies at p0 -/
def Thing (M p0 : Addr) (H : Hp) (x : V) : Prop := (∃ i, x = .int i) ∨ (∃ b, x = .bl b) ∨ x = .non ∨ (∃ s, x = .str s) ∨ ∃ p, x = .ref p ∧ p ≠ p0 ∧ ((∃ xs, H p = some (.lst xs)) ∨ (∃ xs, H p = some (.tup xs)) ∨ H p = some (.dK []) ∨ ∃ dx fs, H p = some (.ins M dx fs))
theorem Thing.but {M p0 : Addr} {H H' : Hp} {x : V} (h : Thing M p0 H x) (s : But p0 H H') : Thing M p0 H' x := by
  rcases h with h | h | h | h | ⟨p, e, n, h⟩
  · exact .inl h
  · exact .inr (.inl h)
  · exact .inr (.inr (.inl h))
  · exact .inr (.inr (.inr (.inl h)))
  · refine .inr (.inr (.inr (.inr ⟨p, e, n, ?_⟩)))
    rcases h with ⟨xs, h⟩ | ⟨xs, h⟩ | h | ⟨dx, fs, h⟩
    · exact .inl ⟨xs, s _ _ h n⟩
    · exact .inr (.inl ⟨xs, s _ _ h n⟩)
    · exact .inr (.inr (.inl (s _ _ h n)))
    · exact .inr (.inr (.inr ⟨dx, fs, s _ _ h n⟩))
theorem Thing.keep {M p0 : Addr} {H H' : Hp} {x : V} (h : Thing M p0 H x) (s : Same H H') : Thing M p0 H' x := h.but (But.of_same s)
theorem Thing.int {M p0 : Addr} {H : Hp} {i : Int} : Thing M p0 H (.int i) := .inl ⟨i, rfl⟩
theorem Thing.bl {M p0 : Addr} {H : Hp} {i : Bool} : Thing M p0 H (.bl i) := .inr (.inl ⟨i, rfl⟩)
theorem Thing.non {M p0 : Addr} {H : Hp} : Thing M p0 H .non := .inr (.inr (.inl rfl))
theorem Thing.str {M p0 : Addr} {H : Hp} {i : Str} : Thing M p0 H (.str i) := .inr (.inr (.inr (.inl ⟨i, rfl⟩)))
theorem Thing.lst {M p0 p : Addr} {H : Hp} {xs : List V} (n : p ≠ p0) (h : H p = some (.lst xs)) : Thing M p0 H (.ref p) := .inr (.inr (.inr (.inr ⟨p, rfl, n, .inl ⟨xs, h⟩⟩)))
theorem Thing.tup {M p0 p : Addr} {H : Hp} {xs : List V} (n : p ≠ p0) (h : H p = some (.tup xs)) : Thing M p0 H (.ref p) := .inr (.inr (.inr (.inr ⟨p, rfl, n, .inr (.inl ⟨xs, h⟩)⟩)))
theorem Thing.dic {M p0 p : Addr} {H : Hp} (n : p ≠ p0) (h : H p = some (.dK [])) : Thing M p0 H (.ref p) := .inr (.inr (.inr (.inr ⟨p, rfl, n, .inr (.inr (.inl h))⟩)))
theorem Thing.mach {M p0 p : Addr} {H : Hp} {o l g : Int} (n : p ≠ p0) (h : MachAt M H p o l g) : Thing M p0 H (.ref p) := let ⟨dx, e⟩ := h; .inr (.inr (.inr (.inr ⟨p, rfl, n, .inr (.inr (.inr ⟨dx, _, e⟩))⟩)))
theorem Thing.arg {K : PySem.W.Frag} {mg : Str → Option Value} {a : Adr} (T : Txt K mg a) {p0 : Addr} {H : Hp} {x : V} (h : Thing a.c_Machine p0 H x) : ∃ b, Arg K H x b := by
  rcases h with ⟨i, rfl⟩ | ⟨i, rfl⟩ | rfl | ⟨i, rfl⟩ | ⟨p, rfl, _, ⟨xs, h⟩ | ⟨xs, h⟩ | h | ⟨dx, fs, h⟩⟩
  · exact ⟨true, Arg.int⟩
  · exact ⟨false, ⟨_, true, true, .base (.bl _), kit_ty (by decide +kernel), kit_ty (by decide +kernel), rfl⟩, fun z => Bool.noConfusion z⟩
  · exact ⟨false, ⟨_, false, false, .base .non, kit_ty (by decide +kernel), kit_ty (by decide +kernel), rfl⟩, fun z => Bool.noConfusion z⟩
  · exact ⟨false, ⟨_, false, false, .base (.str _), kit_ty (by decide +kernel), kit_ty (by decide +kernel), rfl⟩, fun z => Bool.noConfusion z⟩
  · exact ⟨false, ⟨_, false, false, .base (.lst h), kit_ty (by decide +kernel), kit_ty (by decide +kernel), rfl⟩, fun z => Bool.noConfusion z⟩
  · exact ⟨false, ⟨_, false, false, .base (.tup h), kit_ty (by decide +kernel), kit_ty (by decide +kernel), rfl⟩, fun z => Bool.noConfusion z⟩
  · exact ⟨false, ⟨_, false, false, .base (.dK h), kit_ty (by decide +kernel), kit_ty (by decide +kernel), rfl⟩, fun z => Bool.noConfusion z⟩
  · exact ⟨false, ⟨_, false, false, .base (.ins h T.cl_Machine T.ca_Machine T.cg_Machine T.ct_Machine T.co_Machine), kit_own T.su_int_Machine (by decide +kernel), kit_own T.su_bool_Machine (by decide +kernel), rfl⟩, fun z => Bool.noConfusion z⟩

/-! ### the law of k55: its helpers -/
theorem r_isiT {K : PySem.W.Frag} {H : Hp} {Q : VK} {p : Addr} {xs : List V} {n : String} (b : Bool) (h : H p = some (.tup xs)) (hk : kitB "tuple" n = some b) (q : Q (.bl b) H) : rIsi K [.ref p, .ty n] H Q := r_isi (.base (.tup h)) (kit_ty hk) q
theorem r_isiL {K : PySem.W.Frag} {H : Hp} {Q : VK} {p : Addr} {xs : List V} {n : String} (b : Bool) (h : H p = some (.lst xs)) (hk : kitB "list" n = some b) (q : Q (.bl b) H) : rIsi K [.ref p, .ty n] H Q := r_isi (.base (.lst h)) (kit_ty hk) q
def spNo : Sp := fun _ _ _ _ => False
def spSameI : Sp := fun vs H Q _ => ∃ i : Int, vs = [.int i, .int i] ∧ Q (.bl true) H
def spSameT : Sp := fun vs H Q _ => ∃ (p q : Addr) (r : List Int), vs = [.ref p, .ref q] ∧ H p = some (.tup (r.map V.int)) ∧ H q = some (.tup (r.map V.int)) ∧ r.length ≤ 1000 ∧ Q (.bl true) H
def spSameL : Sp := fun vs H Q _ => ∃ (p q : Addr) (us ws : List V) (rs : List (List Int)), vs = [.ref p, .ref q] ∧ H p = some (.lst us) ∧ H q = some (.lst ws) ∧ Tups H us rs ∧ Tups H ws rs ∧ rs.length ≤ 10000 ∧ (∀ r, r ∈ rs → r.length ≤ 1000) ∧ Q (.bl true) H
def spDeep : Sp := fun vs H Q _ => vs = [] ∧ ∀ p xs H', Same H H' → H p = none → H' p = some (.lst xs) → Q (.ref p) H'
def spRows : Sp := fun vs H Q _ => ∃ n P : Int, vs = [.int n, .int P] ∧ 2 ≤ n ∧ n ≤ 40 ∧ ∀ p H', Same H H' → H p = none → Rounds H' p n P → Q (.ref p) H'
section
variable {P : Program} {w : World} {K : PySem.W.Frag} {mg : Str → Option Value} {base : Heap} {a : Adr}
theorem no__law_same (T : Txt K mg a) : FnOk P w K mg base CX0 2 a.a__law_same a.d__law_same ["_law_told", "_law_due"] spNo := by
  refine T.F__law_same.ok sc__law_same (fun vs H Q E h => h.elim) (fun cdv A outer s H vs Q E hr h => h.elim)
theorem is__law_same (T : Txt K mg a) : FnOk P w K mg base CX0 3 a.a__law_same a.d__law_same ["_law_told", "_law_due"] spSameI := by
  refine T.F__law_same.ok sc__law_same (fun vs H Q E h => ?_) (fun cdv A outer s H vs Q E hr h => ?_)
  · obtain ⟨i, rfl, _⟩ := h
    rfl
  · obtain ⟨i, rfl, k⟩ := h
    refine ⟨_, (pss_cons (ps_if (pt_cmpR op_isNo (pv 1) pe_non (nomark _)) (pss_one (ps_ret (pe_cmpR op_isNo (pv 0) pe_non (nomark _))))
 pss_nil)
 (pss_cons (ps_if (pt_val (pe_callB call_isi (by rfl) T.n_isinstance (by decide +kernel) (pa_cons (pv 1) (pa_cons (pe_bltn (v := .ty "bool") (u := .type "bool") (by rfl) T.n_bool (by decide +kernel) rfl) pa_nil)))) (pss_one (ps_ret (pe_and (pe_callB call_isi (by rfl) T.n_isinstance (by decide +kernel) (pa_cons (pv 0) (pa_cons (pe_bltn (v := .ty "bool") (u := .type "bool") (by rfl) T.n_bool (by decide +kernel) rfl) pa_nil))) (pe_one (pe_cmpR op_eq (pv 0) (pv 1) (nomark _))))))
 pss_nil)
 (pss_cons (ps_if (pt_val (pe_callB call_isi (by rfl) T.n_isinstance (by decide +kernel) (pa_cons (pv 1) (pa_cons (pe_bltn (v := .ty "int") (u := .type "int") (by rfl) T.n_int (by decide +kernel) rfl) pa_nil)))) (pss_one (ps_ret (pe_and (pe_call (ok__law_integer T) (hr.mono (by decide)) (by rfl) T.g__law_integer T.F__law_integer.kp T.b__law_integer .nil pass0 (pa_cons (pv 0) pa_nil)) (pe_one (pe_cmpR op_eq (pv 0) (pv 1) (nomark _))))))
 pss_nil)
 (pss_cons (ps_if (pt_val (pe_callB call_isi (by rfl) T.n_isinstance (by decide +kernel) (pa_cons (pv 1) (pa_cons (pe_bltn (v := .ty "str") (u := .type "str") (by rfl) T.n_str (by decide +kernel) rfl) pa_nil)))) (pss_one (ps_ret (pe_and (pe_callB call_isi (by rfl) T.n_isinstance (by decide +kernel) (pa_cons (pv 0) (pa_cons (pe_bltn (v := .ty "str") (u := .type "str") (by rfl) T.n_str (by decide +kernel) rfl) pa_nil))) (pe_one (pe_cmpR op_eq (pv 0) (pv 1) (nomark _))))))
 pss_nil)
 (pss_cons (ps_if (PW.pt (pw_and (pt_val (pe_callB call_isi (by rfl) T.n_isinstance (by decide +kernel) (pa_cons (pv 1) (pa_cons (pe_bltn (v := .ty "list") (u := .type "list") (by rfl) T.n_list (by decide +kernel) rfl) pa_nil)))) (pw_and1 (pt_not (pt_val (pe_callB call_isi (by rfl) T.n_isinstance (by decide +kernel) (pa_cons (pv 0) (pa_cons (pe_bltn (v := .ty "list") (u := .type "list") (by rfl) T.n_list (by decide +kernel) rfl) pa_nil)))))))) (pss_one (ps_ret pe_bl))
 pss_nil)
 (pss_cons (ps_if (PW.pt (pw_and (pt_val (pe_callB call_isi (by rfl) T.n_isinstance (by decide +kernel) (pa_cons (pv 1) (pa_cons (pe_bltn (v := .ty "tuple") (u := .type "tuple") (by rfl) T.n_tuple (by decide +kernel) rfl) pa_nil)))) (pw_and1 (pt_not (pt_val (pe_callB call_isi (by rfl) T.n_isinstance (by decide +kernel) (pa_cons (pv 0) (pa_cons (pe_bltn (v := .ty "tuple") (u := .type "tuple") (by rfl) T.n_tuple (by decide +kernel) rfl) pa_nil)))))))) (pss_one (ps_ret pe_bl))
 pss_nil)
 (pss_cons (ps_if (pt_cmpR op_ne (pe_callB call_len_seq (by rfl) T.n_len (by decide +kernel) (pa_cons (pv 0) pa_nil)) (pe_callB call_len_seq (by rfl) T.n_len (by decide +kernel) (pa_cons (pv 1) pa_nil)) (nomark _)) (pss_one (ps_ret pe_bl))
 pss_nil)
 (pss_cons (ps_for (by exact PassesOwn.never) rfl (pi_range1 (by rfl) T.n_range (pa_cons (pe_callB call_len_seq (by rfl) T.n_len (by decide +kernel) (pa_cons (pv 1) pa_nil)) pa_nil)) (pg_name (i := 2) sc__law_same.nd rfl (Or.inl rfl))
 (pss_one (ps_if (pt_not (pt_val (pe_call (no__law_same T) (hr.mono (by decide)) (by rfl) T.g__law_same T.F__law_same.kp T.b__law_same .nil pass0 (pa_cons (pe_ix ix_seq (pv 0) (pv 2) (fun _ _ => rfl)) (pa_cons (pe_ix ix_seq (pv 1) (pv 2) (fun _ _ => rfl)) pa_nil))))) (pss_one (ps_ret pe_bl))
 pss_nil)))
 (pss_one (ps_ret pe_bl)))))))))), ?_⟩
    walk_at "rdi"
    repeat walk_at "rd"
    walk_at "rdi"
    repeat walk_at "rd"
    walk_at "rdi"
    repeat walk_at "rd"
    refine ⟨_, true, rfl, IntV.int, ?_⟩
    repeat walk_at "rd"
    rw [decide_eq_true rfl]
    exact k
theorem ts__law_same (T : Txt K mg a) : FnOk P w K mg base CX0 4 a.a__law_same a.d__law_same ["_law_told", "_law_due"] spSameT := by
  refine T.F__law_same.ok sc__law_same (fun vs H Q E h => ?_) (fun cdv A outer s H vs Q E hr h => ?_)
  · obtain ⟨p, q, r, rfl, _⟩ := h
    rfl
  · obtain ⟨p, q, r, rfl, hp, hq, hl, k⟩ := h
    refine ⟨_, (pss_cons (ps_if (pt_cmpR op_isNo (pv 1) pe_non (nomark _)) (pss_one (ps_ret (pe_cmpR op_isNo (pv 0) pe_non (nomark _))))
 pss_nil)
 (pss_cons (ps_if (pt_val (pe_callB call_isi (by rfl) T.n_isinstance (by decide +kernel) (pa_cons (pv 1) (pa_cons (pe_bltn (v := .ty "bool") (u := .type "bool") (by rfl) T.n_bool (by decide +kernel) rfl) pa_nil)))) (pss_one (ps_ret (pe_and (pe_callB call_isi (by rfl) T.n_isinstance (by decide +kernel) (pa_cons (pv 0) (pa_cons (pe_bltn (v := .ty "bool") (u := .type "bool") (by rfl) T.n_bool (by decide +kernel) rfl) pa_nil))) (pe_one (pe_cmpR op_eq (pv 0) (pv 1) (nomark _))))))
 pss_nil)
 (pss_cons (ps_if (pt_val (pe_callB call_isi (by rfl) T.n_isinstance (by decide +kernel) (pa_cons (pv 1) (pa_cons (pe_bltn (v := .ty "int") (u := .type "int") (by rfl) T.n_int (by decide +kernel) rfl) pa_nil)))) (pss_one (ps_ret (pe_and (pe_call (ok__law_integer T) (hr.mono (by decide)) (by rfl) T.g__law_integer T.F__law_integer.kp T.b__law_integer .nil pass0 (pa_cons (pv 0) pa_nil)) (pe_one (pe_cmpR op_eq (pv 0) (pv 1) (nomark _))))))
 pss_nil)
 (pss_cons (ps_if (pt_val (pe_callB call_isi (by rfl) T.n_isinstance (by decide +kernel) (pa_cons (pv 1) (pa_cons (pe_bltn (v := .ty "str") (u := .type "str") (by rfl) T.n_str (by decide +kernel) rfl) pa_nil)))) (pss_one (ps_ret (pe_and (pe_callB call_isi (by rfl) T.n_isinstance (by decide +kernel) (pa_cons (pv 0) (pa_cons (pe_bltn (v := .ty "str") (u := .type "str") (by rfl) T.n_str (by decide +kernel) rfl) pa_nil))) (pe_one (pe_cmpR op_eq (pv 0) (pv 1) (nomark _))))))
 pss_nil)
 (pss_cons (ps_if (PW.pt (pw_and (pt_val (pe_callB call_isi (by rfl) T.n_isinstance (by decide +kernel) (pa_cons (pv 1) (pa_cons (pe_bltn (v := .ty "list") (u := .type "list") (by rfl) T.n_list (by decide +kernel) rfl) pa_nil)))) (pw_and1 (pt_not (pt_val (pe_callB call_isi (by rfl) T.n_isinstance (by decide +kernel) (pa_cons (pv 0) (pa_cons (pe_bltn (v := .ty "list") (u := .type "list") (by rfl) T.n_list (by decide +kernel) rfl) pa_nil)))))))) (pss_one (ps_ret pe_bl))
 pss_nil)
 (pss_cons (ps_if (PW.pt (pw_and (pt_val (pe_callB call_isi (by rfl) T.n_isinstance (by decide +kernel) (pa_cons (pv 1) (pa_cons (pe_bltn (v := .ty "tuple") (u := .type "tuple") (by rfl) T.n_tuple (by decide +kernel) rfl) pa_nil)))) (pw_and1 (pt_not (pt_val (pe_callB call_isi (by rfl) T.n_isinstance (by decide +kernel) (pa_cons (pv 0) (pa_cons (pe_bltn (v := .ty "tuple") (u := .type "tuple") (by rfl) T.n_tuple (by decide +kernel) rfl) pa_nil)))))))) (pss_one (ps_ret pe_bl))
 pss_nil)
 (pss_cons (ps_if (pt_cmpR op_ne (pe_callB call_len_seq (by rfl) T.n_len (by decide +kernel) (pa_cons (pv 0) pa_nil)) (pe_callB call_len_seq (by rfl) T.n_len (by decide +kernel) (pa_cons (pv 1) pa_nil)) (nomark _)) (pss_one (ps_ret pe_bl))
 pss_nil)
 (pss_cons (ps_for (by exact PassesOwn.never) rfl (pi_range1 (by rfl) T.n_range (pa_cons (pe_callB call_len_seq (by rfl) T.n_len (by decide +kernel) (pa_cons (pv 1) pa_nil)) pa_nil)) (pg_name (i := 2) sc__law_same.nd rfl (Or.inl rfl))
 (pss_one (ps_if (pt_not (pt_val (pe_call (is__law_same T) (hr.mono (by decide)) (by rfl) T.g__law_same T.F__law_same.kp T.b__law_same .nil pass0 (pa_cons (pe_ix ix_seq (pv 0) (pv 2) (fun _ _ => rfl)) (pa_cons (pe_ix ix_seq (pv 1) (pv 2) (fun _ _ => rfl)) pa_nil))))) (pss_one (ps_ret pe_bl))
 pss_nil)))
 (pss_one (ps_ret pe_bl)))))))))), ?_⟩
    walk_at "rdi"
    repeat walk_at "rd"
    walk_at "rdi"
    repeat first | refine r_isiT false hq (by decide +kernel) ?_ | refine r_isiT true hq (by decide +kernel) ?_ | refine r_isiT true hp (by decide +kernel) ?_ | walk_at "rd" | walk_at "rdi"
    refine ⟨by rw [List.length_map]; omega, by rw [List.length_map]; omega, ?_⟩
    rw [Int.toNat_natCast, List.length_map]
    refine for_range (lo := 0) (n := r.length) (fun i σ H' => ∃ v : Option V, σ = [some (.ref p), some (.ref q), v] ∧ H' = H) ⟨_, rfl, rfl⟩ ?_ ?_
    · rintro i σ H1 hi ⟨v, rfl, rfl⟩
      have at_ : atI (r.map V.int) (0 + (i : Int)) = some (.int r[i]) := by
        rw [show 0 + (i : Int) = i by omega]
        exact atI_nat (by rw [List.getElem?_map, List.getElem?_eq_getElem hi]; rfl)
      repeat walk_at "rd"
      refine Or.inr (Or.inl (r_ixT hp at_ ?_))
      repeat walk_at "rd"
      refine Or.inr (Or.inl (r_ixT hq at_ ?_))
      repeat walk_at "rd"
      refine ⟨_, rfl, ?_⟩
      repeat walk_at "rd"
      exact ⟨_, rfl, rfl⟩
    · rintro σ H1 ⟨v, rfl, rfl⟩
      repeat walk_at "rd"
      exact k
theorem ok__law_same (T : Txt K mg a) : FnOk P w K mg base CX0 5 a.a__law_same a.d__law_same ["_law_told", "_law_due"] spSameL := by
  refine T.F__law_same.ok sc__law_same (fun vs H Q E h => ?_) (fun cdv A outer s H vs Q E hr h => ?_)
  · obtain ⟨p, q, us, ws, rs, rfl, _⟩ := h
    rfl
  · obtain ⟨p, q, us, ws, rs, rfl, hp, hq, hu, hw, hl, hl2, k⟩ := h
    refine ⟨_, (pss_cons (ps_if (pt_cmpR op_isNo (pv 1) pe_non (nomark _)) (pss_one (ps_ret (pe_cmpR op_isNo (pv 0) pe_non (nomark _))))
 pss_nil)
 (pss_cons (ps_if (pt_val (pe_callB call_isi (by rfl) T.n_isinstance (by decide +kernel) (pa_cons (pv 1) (pa_cons (pe_bltn (v := .ty "bool") (u := .type "bool") (by rfl) T.n_bool (by decide +kernel) rfl) pa_nil)))) (pss_one (ps_ret (pe_and (pe_callB call_isi (by rfl) T.n_isinstance (by decide +kernel) (pa_cons (pv 0) (pa_cons (pe_bltn (v := .ty "bool") (u := .type "bool") (by rfl) T.n_bool (by decide +kernel) rfl) pa_nil))) (pe_one (pe_cmpR op_eq (pv 0) (pv 1) (nomark _))))))
 pss_nil)
 (pss_cons (ps_if (pt_val (pe_callB call_isi (by rfl) T.n_isinstance (by decide +kernel) (pa_cons (pv 1) (pa_cons (pe_bltn (v := .ty "int") (u := .type "int") (by rfl) T.n_int (by decide +kernel) rfl) pa_nil)))) (pss_one (ps_ret (pe_and (pe_call (ok__law_integer T) (hr.mono (by decide)) (by rfl) T.g__law_integer T.F__law_integer.kp T.b__law_integer .nil pass0 (pa_cons (pv 0) pa_nil)) (pe_one (pe_cmpR op_eq (pv 0) (pv 1) (nomark _))))))
 pss_nil)
 (pss_cons (ps_if (pt_val (pe_callB call_isi (by rfl) T.n_isinstance (by decide +kernel) (pa_cons (pv 1) (pa_cons (pe_bltn (v := .ty "str") (u := .type "str") (by rfl) T.n_str (by decide +kernel) rfl) pa_nil)))) (pss_one (ps_ret (pe_and (pe_callB call_isi (by rfl) T.n_isinstance (by decide +kernel) (pa_cons (pv 0) (pa_cons (pe_bltn (v := .ty "str") (u := .type "str") (by rfl) T.n_str (by decide +kernel) rfl) pa_nil))) (pe_one (pe_cmpR op_eq (pv 0) (pv 1) (nomark _))))))
 pss_nil)
 (pss_cons (ps_if (PW.pt (pw_and (pt_val (pe_callB call_isi (by rfl) T.n_isinstance (by decide +kernel) (pa_cons (pv 1) (pa_cons (pe_bltn (v := .ty "list") (u := .type "list") (by rfl) T.n_list (by decide +kernel) rfl) pa_nil)))) (pw_and1 (pt_not (pt_val (pe_callB call_isi (by rfl) T.n_isinstance (by decide +kernel) (pa_cons (pv 0) (pa_cons (pe_bltn (v := .ty "list") (u := .type "list") (by rfl) T.n_list (by decide +kernel) rfl) pa_nil)))))))) (pss_one (ps_ret pe_bl))
 pss_nil)
 (pss_cons (ps_if (PW.pt (pw_and (pt_val (pe_callB call_isi (by rfl) T.n_isinstance (by decide +kernel) (pa_cons (pv 1) (pa_cons (pe_bltn (v := .ty "tuple") (u := .type "tuple") (by rfl) T.n_tuple (by decide +kernel) rfl) pa_nil)))) (pw_and1 (pt_not (pt_val (pe_callB call_isi (by rfl) T.n_isinstance (by decide +kernel) (pa_cons (pv 0) (pa_cons (pe_bltn (v := .ty "tuple") (u := .type "tuple") (by rfl) T.n_tuple (by decide +kernel) rfl) pa_nil)))))))) (pss_one (ps_ret pe_bl))
 pss_nil)
 (pss_cons (ps_if (pt_cmpR op_ne (pe_callB call_len_seq (by rfl) T.n_len (by decide +kernel) (pa_cons (pv 0) pa_nil)) (pe_callB call_len_seq (by rfl) T.n_len (by decide +kernel) (pa_cons (pv 1) pa_nil)) (nomark _)) (pss_one (ps_ret pe_bl))
 pss_nil)
 (pss_cons (ps_for (by exact PassesOwn.never) rfl (pi_range1 (by rfl) T.n_range (pa_cons (pe_callB call_len_seq (by rfl) T.n_len (by decide +kernel) (pa_cons (pv 1) pa_nil)) pa_nil)) (pg_name (i := 2) sc__law_same.nd rfl (Or.inl rfl))
 (pss_one (ps_if (pt_not (pt_val (pe_call (ts__law_same T) (hr.mono (by decide)) (by rfl) T.g__law_same T.F__law_same.kp T.b__law_same .nil pass0 (pa_cons (pe_ix ix_seq (pv 0) (pv 2) (fun _ _ => rfl)) (pa_cons (pe_ix ix_seq (pv 1) (pv 2) (fun _ _ => rfl)) pa_nil))))) (pss_one (ps_ret pe_bl))
 pss_nil)))
 (pss_one (ps_ret pe_bl)))))))))), ?_⟩
    walk_at "rdi"
    repeat walk_at "rd"
    walk_at "rdi"
    have eu := hu.len
    have ew := hw.len
    repeat first | refine r_isiL false hq (by decide +kernel) ?_ | refine r_isiL true hq (by decide +kernel) ?_ | refine r_isiL true hp (by decide +kernel) ?_ | walk_at "rd" | walk_at "rdi"
    refine r_nDT (show ((us.length : Nat) : Int) = ws.length by rw [eu, ew]) ?_
    repeat walk_at "rd"
    refine ⟨by omega, by omega, ?_⟩
    rw [Int.toNat_natCast]
    refine for_range (lo := 0) (n := ws.length) (fun i σ H' => ∃ v : Option V, σ = [some (.ref p), some (.ref q), v] ∧ H' = H) ⟨_, rfl, rfl⟩ ?_ ?_
    · rintro i σ H1 hi ⟨v, rfl, rfl⟩
      have g1 : us[i]? = some us[i] := List.getElem?_eq_getElem (by omega)
      have g2 : ws[i]? = some ws[i] := List.getElem?_eq_getElem hi
      obtain ⟨p1, r1, v1, h1, e1⟩ := hu.get g1
      obtain ⟨p2, r2, v2, h2, e2⟩ := hw.get g2
      obtain rfl : r1 = r2 := Option.some.inj (h1.symm.trans h2)
      repeat walk_at "rd"
      refine Or.inl (r_ixL hp (by rw [show 0 + (i : Int) = i by omega]; exact atI_nat g1) ?_)
      repeat walk_at "rd"
      refine Or.inl (r_ixL hq (by rw [show 0 + (i : Int) = i by omega]; exact atI_nat g2) ?_)
      repeat walk_at "rd"
      refine ⟨p1, p2, r1, by rw [v1, v2]; rfl, e1, e2, hl2 r1 (List.mem_iff_getElem?.mpr ⟨i, h1⟩), ?_⟩
      repeat walk_at "rd"
      exact ⟨_, rfl, rfl⟩
    · rintro σ H1 ⟨v, rfl, rfl⟩
      repeat walk_at "rd"
      exact k
theorem ok__law_deep (T : Txt K mg a) : FnOk P w K mg base CX0 1 a.a__law_deep a.d__law_deep [] spDeep := by
  refine T.F__law_deep.ok sc__law_deep (fun vs H Q E h => ?_) (fun cdv A outer s H vs Q E hr h => ?_)
  · obtain ⟨rfl, _⟩ := h
    rfl
  · obtain ⟨rfl, k⟩ := h
    refine ⟨_, (pss_cons (ps_set (i := 0) sc__law_deep.nd rfl (Or.inl rfl) pe_int)
 (pss_cons (ps_for (by exact PassesOwn.never) rfl (pi_range1 (by rfl) T.n_range (pa_cons pe_int pa_nil)) (pg_name (i := 1) sc__law_deep.nd rfl (Or.inl rfl))
 (pss_one (ps_set (i := 0) sc__law_deep.nd rfl (Or.inl rfl) (pe_lst (pa_cons (pv 0) pa_nil)))))
 (pss_one (ps_ret (pv 0))))), ?_⟩
    repeat walk_at "rd"
    refine ⟨by omega, by omega, for_range (lo := 0) (n := 17) (fun i σ H' => ∃ (v : V) (w : Option V), σ = [some v, w] ∧ Same H H' ∧ (0 < i → ∃ p xs, v = .ref p ∧ H p = none ∧ H' p = some (.lst xs))) ⟨_, _, rfl, Same.refl _, fun z => absurd z (by decide)⟩ ?_ ?_⟩
    · rintro i σ H1 hi ⟨v, w, rfl, s1, _⟩
      repeat walk_at "rd"
      refine new_at (Nat.le_of_ble_eq_true rfl) (fun p H2 n2 s2 e2 => ?_)
      repeat walk_at "rd"
      exact ⟨_, _, rfl, s1.trans s2, fun _ => ⟨p, _, rfl, s1.free n2, e2⟩⟩
    · rintro σ H1 ⟨v, w, rfl, s1, h⟩
      obtain ⟨p, xs, rfl, np, hp⟩ := h (by decide)
      repeat walk_at "rd"
      exact k p xs H1 s1 np hp
theorem ok__law_rounds (T : Txt K mg a) : FnOk P w K mg base CX0 1 a.a__law_rounds a.d__law_rounds ["_law_n", "_law_period"] spRows := by
  refine T.F__law_rounds.ok sc__law_rounds (fun vs H Q E h => ?_) (fun cdv A outer s H vs Q E hr h => ?_)
  · obtain ⟨n, P, rfl, _⟩ := h
    rfl
  · obtain ⟨n, P, rfl, n2, n40, k⟩ := h
    refine ⟨_, (pss_cons (ps_set (i := 2) sc__law_rounds.nd rfl (Or.inl rfl) (pe_lst pa_nil))
 (pss_cons (ps_for (by exact PassesOwn.never) rfl (pi_range1 (by rfl) T.n_range (pa_cons (pv 0) pa_nil)) (pg_name (i := 3) sc__law_rounds.nd rfl (Or.inl rfl))
 (pss_one (ps_for (by exact PassesOwn.never) rfl (pi_range1 (by rfl) T.n_range (pa_cons (pe_op op_sub (pv 0) pe_int) pa_nil)) (pg_name (i := 4) sc__law_rounds.nd rfl (Or.inl rfl))
 (pss_cons (ps_set (i := 5) sc__law_rounds.nd rfl (Or.inl rfl) (pe_op op_add (pe_op op_add (pv 3) (pv 4)) pe_int))
 (pss_cons (ps_if (pt_cmpR op_ge (pv 5) (pv 0) (nomark _)) (pss_one (ps_set (i := 5) sc__law_rounds.nd rfl (Or.inl rfl) (pe_op op_sub (pv 5) (pv 0))))
 pss_nil)
 (pss_one (ps_expr (pe_bm PySem.F.plainAttrs_list PySem.F.slot_list_append PySem.F.type_list_append mt_append (pv 2) (pa_cons (pe_tup (pa_cons (pv 3) (pa_cons (pv 3) (pa_cons (pv 5) (pa_cons (pe_op op_mul (pv 4) (pv 1)) pa_nil))))) pa_nil)))))))))
 (pss_one (ps_ret (pv 2))))), ?_⟩
    repeat walk_at "rd"
    refine new_at (Nat.le_of_ble_eq_true rfl) (fun L H1 nL s1 e1 => ?_)
    let mm := (n - 1).toNat
    let Pv : Nat → Nat → Hp → Prop := fun i j H' => ∃ vs, H' L = some (.lst vs) ∧ Tups H' vs (rt (rowN n P) mm i ++ (List.range j).map (rowN n P i)) ∧ Same H H'
    have row : ∀ i H', Pv i mm H' → Pv (i + 1) 0 H' := fun i H' ⟨vs, h1, h2, h3⟩ => ⟨vs, h1, by rw [List.range_zero, List.map_nil, List.append_nil]; exact h2, h3⟩
    repeat walk_at "rd"
    refine ⟨by omega, by omega, for_range (lo := 0) (n := n.toNat) (fun i σ H' => ∃ v3 v4 v5 : Option V, σ = [some (.int n), some (.int P), some (.ref L), v3, v4, v5] ∧ Pv i 0 H') ⟨_, _, _, rfl, [], e1, trivial, s1⟩ ?_ ?_⟩
    · clear e1
      rintro i σ H2 hi ⟨v3, v4, v5, rfl, hp⟩
      repeat walk_at "rd"
      refine ⟨by omega, by omega, for_range (lo := 0) (n := mm) (fun j σ H' => ∃ v4 v5 : Option V, σ = [some (.int n), some (.int P), some (.ref L), some (.int (0 + (i : Int))), v4, v5] ∧ Pv i j H') ⟨_, _, rfl, hp⟩ ?_ ?_⟩
      · clear hp
        rintro j σ H3 hj ⟨v4, v5, rfl, vs, h1, h2, h3⟩
        have hjn : (j : Int) < n - 1 := by omega
        repeat walk_at "rd"
        rw [show 0 + (i : Int) = i by omega, show 0 + (j : Int) = j by omega]
        with_reducible refine seq_with (fun σ H' => σ = [some (.int n), some (.int P), some (.ref L), some (.int i), some (.int j), some (.int (toH n i j))] ∧ H' = H3) ?_ (fun rest => ?_)
        · rintro σ H' ⟨rfl, rfl⟩
          repeat walk_at "rd"
          refine ⟨.inl ⟨rfl, _, SqL.of h1⟩, ?_⟩
          repeat walk_at "rd"
          refine new_at (Nat.le_of_ble_eq_true rfl) (fun p H4 n4 s4 e4 => ?_)
          have hl := h2.len
          rw [List.length_append, rt_len, List.length_map, List.length_range] at hl
          have hb : i * mm + mm ≤ 40 * 40 := by
            have a1 : (i + 1) * mm ≤ 40 * 40 := Nat.mul_le_mul (by omega) (by omega)
            rw [Nat.succ_mul] at a1
            exact a1
          repeat walk_at "rd"
          refine r_app (s4 _ _ h1) (by rw [sizeLine_eq]; omega) ?_
          have nLp : p ≠ L := by intro z; subst z; rw [h1] at n4; cases n4
          refine ⟨_, _, rfl, vs ++ [.ref p], upd_same, ?_, fun b o e => (upd_ne (ne_of_none e nL)).trans (s4 _ _ (h3 b o e))⟩
          rw [List.range_succ, List.map_append, ← List.append_assoc]
          refine Tups.add ((upd_ne nLp).trans e4) (h2.keep fun q xs hq => ?_)
          have : q ≠ L := by intro z; subst z; rw [h1] at hq; cases hq
          exact (upd_ne this).trans (s4 _ _ hq)
        · repeat walk_at "rd"
          refine ite_d (fun hc => ?_) (fun hc => ?_)
          · have e : toH n i j = i + j + 1 - n := if_pos hc
            repeat first | exact rest _ _ ⟨by rw [e]; rfl, rfl⟩ | walk_at "rd"
          · have e : toH n i j = i + j + 1 := if_neg hc
            repeat first | exact rest _ _ ⟨by rw [e]; rfl, rfl⟩ | walk_at "rd"
      · rintro σ H3 ⟨v4, v5, rfl, hp⟩
        exact ⟨_, _, _, rfl, row i H3 hp⟩
    · rintro σ H2 ⟨v3, v4, v5, rfl, vs, h1, h2, h3⟩
      repeat walk_at "rd"
      rw [List.range_zero, List.map_nil, List.append_nil] at h2
      exact k L H2 h3 nL ⟨vs, h1, h2⟩
end

/-! ### asked, and refused -/
theorem kb_round_plan_period {K : PySem.W.Frag} {mg : Str → Option Value} {a : Adr} (T : Txt K mg a) : ∃ mv : List Value, KBn K a.d_round_plan ["machine", "n", "period"] 2 ["period"] (fun us ws => us ++ ws ++ mv) (fun vs zs => vs ++ zs ++ []) :=
  FunD.kbinds0 T.F_round_plan 2 ["period"] [] (fun us mv ws => us ++ ws ++ mv) (by simp) (by simp) (fun r1 r2 r3 => (r1.append r3).append r2) fun D doc pm an cdv ct us mv ws h1 h2 h3 => match us, mv, ws, h1, h2, h3 with
    | [_, _], [], [_], _, _, _ => rfl
def spAnswer (K : PySem.W.Frag) (M : Addr) : Sp := fun vs H Q _ => ∃ (i : Int) (m : Addr) (x y : V) (b c : Bool) (o l g : Int), vs = [.int i, .ref m, x, y] ∧ MachAt M H m o l g ∧ Num o l g ∧ Arg K H x b ∧ (y = .non ∨ Arg K H y c) ∧ (¬ Okay x b 2 40 → ∀ H', Same H H' → Q (.str "count") H') ∧
  (Okay x b 2 40 → (i ≠ 0 ∨ y = .non ∨ Okay y c 1 10000000000) → ∀ H', Same H H' → Q (.str "told") H') ∧ (Okay x b 2 40 → i = 0 → y ≠ .non → ¬ Okay y c 1 10000000000 → ∀ H', Same H H' → Q (.str "time") H')
def spRefused (M : Addr) : Sp := fun vs H Q _ => ∃ (p q m : Addr) (n o l g : Int), vs = [.ref p, .ref m, .int n] ∧ SrcAt H p q ∧ MachAt M H m o l g ∧ Num o l g ∧ m ≠ p ∧ 2 ≤ n ∧ n ≤ 40 ∧ ∀ H', SrcAt H' p q → But p H H' → Q (.bl true) H'
section
variable {P : Program} {w : World} {K : PySem.W.Frag} {mg : Str → Option Value} {base : Heap} {a : Adr}
theorem ok__law_answer (T : Txt K mg a) : FnOk P w K mg base CX0 7 a.a__law_answer a.d__law_answer ["_law_which", "_law_machine", "_law_n", "_law_period"] (spAnswer K a.c_Machine) := by
  refine T.F__law_answer.ok sc__law_answer (fun vs H Q E h => ?_) (fun cdv A outer s H vs Q E hr h => ?_)
  · obtain ⟨i, m, x, y, b, c, o, l, g, rfl, _⟩ := h
    rfl
  · obtain ⟨i, m, x, y, b, c, o, l, g, rfl, hm, N, hx, hy, kC, kT, kI⟩ := h
    refine ⟨_, (pss_cons (ps_try_many rfl rfl takes0 (fun W pn xe tk _ => (pss_one (ps_if (pt_cmpR op_eq (pv 0) pe_int (nomark _)) (pss_one (ps_expr (pe_callN (ok_round_plan T) (hr.mono (by decide)) (by rfl) T.g_round_plan T.F_round_plan.kp (kb_round_plan_period T).choose_spec (passesT tk) (pa_cons (pv 1) (pa_cons (pv 2) pa_nil)) (pk_cons (pv 3) pk_nil))))
 (pss_one (ps_if (pt_cmpR op_eq (pv 0) pe_int (nomark _)) (pss_one (ps_expr (pe_call (ok_least_period T) (hr.mono (by decide)) (by rfl) T.g_least_period T.F_least_period.kp T.b_least_period .nil (passesT tk) (pa_cons (pv 1) (pa_cons (pv 2) pa_nil)))))
 (pss_one (ps_expr (pe_call (ok_everybody T) (hr.mono (by decide)) (by rfl) T.g_everybody T.F_everybody.kp T.b_everybody .nil (passesT tk) (pa_cons (pv 1) (pa_cons (pv 2) pa_nil)))))))))) (HdsOk.cons ⟨rfl, by decide, Or.inl T.g_InvalidCount⟩ (fun a0 oe cls d pn hz hf => (pss_one (ps_ret pe_str))) (HdsOk.cons ⟨rfl, by decide, Or.inl T.g_InvalidTime⟩ (fun a0 oe cls d pn hz hf => (pss_one (ps_ret pe_str))) HdsOk.nil)))
 (pss_one (ps_ret pe_str))), ?_⟩
    have cE : ¬ Okay x b 2 40 → ∀ (n : Nat) (Wout : WX) (D : Ends) (l2 : List (Value × (Addr → Value → Option Addr → TS))), D.rt = Q → WT n (wMany K Wout D ((.ref a.c_InvalidCount, fun _ _ _ => tRet (tC (.str "count"))) :: l2)) (.ref a.c_InvalidCount) none H := fun hno n Wout D l2 hD σ _ =>
      ⟨true, T.m_InvalidCount, fun _ a0 _ => by show D.rt _ _; rw [hD]; exact kC hno H (Same.refl _), fun z => Bool.noConfusion z⟩
    refine r_seq ?_
    refine r_ifS ?_
    repeat walk_at "rd"
    refine ite_d (fun h0 => ?_) (fun h0 => ?_)
    · subst h0
      repeat walk_at "rd"
      refine ⟨rfl, rfl, m, x, y, b, c, o, l, g, rfl, hm, N, hx, hy, fun hno => cE hno _ _ _ _ rfl, fun n en eb n2 n40 => ⟨fun ey P p H1 _ s1 _ _ => ?_, fun P ey ec p1 p2 p H1 s1 _ _ => ?_, fun hy0 hno σ hσ => ?_⟩⟩
      · repeat walk_at "rd"
        exact kT ⟨n, en, eb, n2, n40⟩ (.inr (.inl ey)) H1 s1
      · repeat walk_at "rd"
        exact kT ⟨n, en, eb, n2, n40⟩ (.inr (.inr ⟨P, ey, ec, p1, p2⟩)) H1 s1
      · refine ⟨false, T.mn_InvalidTime_InvalidCount, fun z => Bool.noConfusion z, fun _ => ⟨true, T.m_InvalidTime, fun _ a0 _ => ?_, fun z => Bool.noConfusion z⟩⟩
        repeat walk_at "rd"
        exact kI ⟨n, en, eb, n2, n40⟩ rfl hy0 hno H (Same.refl _)
    · refine r_ifS ?_
      repeat walk_at "rd"
      refine ite_d (fun h1 => ?_) (fun h1 => ?_)
      · repeat walk_at "rd"
        refine ⟨m, x, b, o, l, g, rfl, hm, N, hx, fun hno => cE hno _ _ _ _ rfl, fun n en eb n2 n40 P H1 _ s1 => ?_⟩
        repeat walk_at "rd"
        exact kT ⟨n, en, eb, n2, n40⟩ (.inl h0) H1 s1
      · repeat walk_at "rd"
        refine ⟨m, x, b, o, l, g, rfl, hm, N, hx, fun hno => cE hno _ _ _ _ rfl, fun hok v H1 s1 => ?_⟩
        repeat walk_at "rd"
        exact kT hok (.inl h0) H1 s1
theorem ok__law_refused (T : Txt K mg a) : FnOk P w K mg base CX0 8 a.a__law_refused a.d__law_refused ["_law_source_here", "_law_machine", "_law_n"] (spRefused a.c_Machine) := by
  refine T.F__law_refused.ok sc__law_refused (fun vs H Q E h => ?_) (fun cdv A outer s H vs Q E hr h => ?_)
  · obtain ⟨p, q, m, n, o, l, g, rfl, _⟩ := h
    rfl
  · obtain ⟨p, q, m, n, o, l, g, rfl, hs, hm, N, mp, n2, n40, k⟩ := h
    refine ⟨_, (pss_cons (ps_set (i := 3) sc__law_refused.nd rfl (Or.inl rfl) (pe_lst (pa_cons pe_int (pa_cons pe_int (pa_cons pe_int (pa_cons (pe_un un_neg pe_int) (pa_cons (pe_op op_add pe_int (pe_call (ok__law_wide T) (hr.mono (by decide)) (by rfl) T.g__law_wide T.F__law_wide.kp T.b__law_wide .nil pass0 (pa_cons (pv 0) (pa_cons (pe_powN (z := 100000000000000000) ⟨by decide, by decide, by decide⟩ (by decide +kernel)) pa_nil)))) (pa_cons pe_bl (pa_cons pe_non (pa_cons pe_str (pa_cons (pe_lst (pa_cons pe_int pa_nil)) (pa_cons (pe_tup (pa_cons pe_int pa_nil)) (pa_cons (pv 1) (pa_cons (pe_call0 (ok__law_deep T) (hr.mono (by decide)) (by rfl) T.g__law_deep T.F__law_deep.kp T.b__law_deep .nil pass0) pa_nil))))))))))))))
 (pss_cons (ps_set (i := 4) sc__law_refused.nd rfl (Or.inl rfl) (pe_ix ix_list (pv 3) (pe_call (ok__law_draw T) (hr.mono (by decide)) (by rfl) T.g__law_draw T.F__law_draw.kp T.b__law_draw .nil pass0 (pa_cons (pv 0) (pa_cons (pe_callB call_len_seq (by rfl) T.n_len (by decide +kernel) (pa_cons (pv 3) pa_nil)) pa_nil))) (fun _ _ => rfl)))
 (pss_cons (ps_set (i := 5) sc__law_refused.nd rfl (Or.inl rfl) (pe_lst (pa_cons pe_int (pa_cons (pe_op op_sub (pe_un un_neg pe_int) (pe_call (ok__law_draw T) (hr.mono (by decide)) (by rfl) T.g__law_draw T.F__law_draw.kp T.b__law_draw .nil pass0 (pa_cons (pv 0) (pa_cons pe_int pa_nil)))) (pa_cons (pe_op op_add (pe_op op_add (pe_powN (z := 10000000000) ⟨by decide, by decide, by decide⟩ (by decide +kernel)) pe_int) (pe_call (ok__law_wide T) (hr.mono (by decide)) (by rfl) T.g__law_wide T.F__law_wide.kp T.b__law_wide .nil pass0 (pa_cons (pv 0) (pa_cons (pe_powN (z := 100000000000000000) ⟨by decide, by decide, by decide⟩ (by decide +kernel)) pa_nil)))) (pa_cons pe_bl (pa_cons pe_bl (pa_cons pe_str (pa_cons (pe_lst (pa_cons pe_int pa_nil)) (pa_cons (pe_tup (pa_cons pe_int pa_nil)) (pa_cons pe_dnewK (pa_cons (pv 1) (pa_cons (pe_call0 (ok__law_deep T) (hr.mono (by decide)) (by rfl) T.g__law_deep T.F__law_deep.kp T.b__law_deep .nil pass0) pa_nil)))))))))))))
 (pss_cons (ps_set (i := 6) sc__law_refused.nd rfl (Or.inl rfl) (pe_ix ix_list (pv 5) (pe_call (ok__law_draw T) (hr.mono (by decide)) (by rfl) T.g__law_draw T.F__law_draw.kp T.b__law_draw .nil pass0 (pa_cons (pv 0) (pa_cons (pe_callB call_len_seq (by rfl) T.n_len (by decide +kernel) (pa_cons (pv 5) pa_nil)) pa_nil))) (fun _ _ => rfl)))
 (pss_cons (ps_for (by exact PassesOwn.never) rfl (pi_range1 (by rfl) T.n_range (pa_cons pe_int pa_nil)) (pg_name (i := 7) sc__law_refused.nd rfl (Or.inl rfl))
 (pss_cons (ps_if (pt_cmpR op_ne (pe_call (ok__law_answer T) (hr.mono (by decide)) (by rfl) T.g__law_answer T.F__law_answer.kp T.b__law_answer .nil pass0 (pa_cons (pv 7) (pa_cons (pv 1) (pa_cons (pv 4) (pa_cons (pe_ix ix_list (pe_lst (pa_cons (pv 6) (pa_cons pe_int (pa_cons pe_non pa_nil)))) (pe_call (ok__law_draw T) (hr.mono (by decide)) (by rfl) T.g__law_draw T.F__law_draw.kp T.b__law_draw .nil pass0 (pa_cons (pv 0) (pa_cons pe_int pa_nil))) (fun _ _ => rfl)) pa_nil))))) pe_str (nomark _)) (pss_one (ps_ret pe_bl))
 pss_nil)
 (pss_one (ps_if (pt_cmpR op_ne (pe_call (ok__law_answer T) (hr.mono (by decide)) (by rfl) T.g__law_answer T.F__law_answer.kp T.b__law_answer .nil pass0 (pa_cons (pv 7) (pa_cons (pv 1) (pa_cons (pv 2) (pa_cons (pe_powN (z := 10000000000) ⟨by decide, by decide, by decide⟩ (by decide +kernel)) pa_nil))))) pe_str (nomark _)) (pss_one (ps_ret pe_bl))
 pss_nil))))
 (pss_one (ps_ret (pe_cmpR op_eq (pe_call (ok__law_answer T) (hr.mono (by decide)) (by rfl) T.g__law_answer T.F__law_answer.kp T.b__law_answer .nil pass0 (pa_cons pe_int (pa_cons (pv 1) (pa_cons (pv 2) (pa_cons (pv 6) pa_nil))))) pe_str (nomark _))))))))), ?_⟩
    repeat walk_at "rd"
    refine ⟨p, q, 100000000000000000, rfl, hs, by decide, by decide, fun x1 H1 x10 _ hs1 b1 => ?_⟩
    have hm := hm.but b1 mp
    repeat walk_at "rd"
    refine new_at (Nat.le_of_ble_eq_true rfl) (fun L1 H2 nL1 s2 e2 => ?_)
    have pL1 := hs1.ne nL1
    repeat walk_at "rd"
    refine new_at (Nat.le_of_ble_eq_true rfl) (fun L2 H3 nL2 s3 e3 => ?_)
    have pL2 := (hs1.keep s2).ne nL2
    repeat walk_at "rd"
    refine ⟨rfl, fun L3 xs3 H4 s4 nL3 e4 => ?_⟩
    have pL3 := ((hs1.keep s2).keep s3).ne nL3
    repeat walk_at "rd"
    refine new_at (Nat.le_of_ble_eq_true rfl) (fun L H5 nL s5 e5 => ?_)
    have hs5 := (((hs1.keep s2).keep s3).keep s4).keep s5
    have pL := (((hs1.keep s2).keep s3).keep s4).ne nL
    have e2 := s5 _ _ (s4 _ _ (s3 _ _ e2))
    have e3 := s5 _ _ (s4 _ _ e3)
    have e4 := s5 _ _ e4
    have hm := (((hm.keep s2).keep s3).keep s4).keep s5
    have b5 : But p H H5 := b1.trans (But.of_same (((s2.trans s3).trans s4).trans s5))
    clear s2 s3 s4 s5 b1 hs hs1 nL nL1 nL2 nL3
    repeat walk_at "rd"
    refine ⟨p, q, 12, rfl, hs5, by decide, by decide, fun d H6 d0 d12 hs6 b6 => ?_⟩
    obtain ⟨x, hat, hx, hbad⟩ : ∃ x, atI [V.int 1, .int 0, .int 41, .int (-2), .int (41 + x1), .bl true, .non, .str "2", .ref L1, .ref L2, .ref m, .ref L3] d = some x ∧ Thing a.c_Machine p H5 x ∧ ∀ i, x = .int i → ¬ (2 ≤ i ∧ i ≤ 40) := by
      have hk : d = 0 ∨ d = 1 ∨ d = 2 ∨ d = 3 ∨ d = 4 ∨ d = 5 ∨ d = 6 ∨ d = 7 ∨ d = 8 ∨ d = 9 ∨ d = 10 ∨ d = 11 := by omega
      rcases hk with rfl | rfl | rfl | rfl | rfl | rfl | rfl | rfl | rfl | rfl | rfl | rfl
      · exact ⟨_, rfl, Thing.int, fun i e => by cases e; omega⟩
      · exact ⟨_, rfl, Thing.int, fun i e => by cases e; omega⟩
      · exact ⟨_, rfl, Thing.int, fun i e => by cases e; omega⟩
      · exact ⟨_, rfl, Thing.int, fun i e => by cases e; omega⟩
      · exact ⟨_, rfl, Thing.int, fun i e => by cases e; omega⟩
      · exact ⟨_, rfl, Thing.bl, fun i e => by cases e⟩
      · exact ⟨_, rfl, Thing.non, fun i e => by cases e⟩
      · exact ⟨_, rfl, Thing.str, fun i e => by cases e⟩
      · exact ⟨_, rfl, Thing.lst pL1 e2, fun i e => by cases e⟩
      · exact ⟨_, rfl, Thing.tup pL2 e3, fun i e => by cases e⟩
      · exact ⟨_, rfl, Thing.mach mp hm, fun i e => by cases e⟩
      · exact ⟨_, rfl, Thing.lst pL3 e4, fun i e => by cases e⟩
    refine r_ixL (b6 _ _ e5 pL) hat ?_
    have hx := hx.but b6
    have hm := hm.but b6 mp
    have b6 := b5.trans b6
    clear hat e2 e3 e4 e5 pL pL1 pL2 pL3 b5 hs5 d0 d12
    repeat walk_at "rd"
    refine ⟨p, q, 50, rfl, hs6, by decide, by decide, fun x2 H7 x20 _ hs7 b7 => ?_⟩
    repeat walk_at "rd"
    refine ⟨p, q, 100000000000000000, rfl, hs7, by decide, by decide, fun x3 H8 x30 _ hs8 b8 => ?_⟩
    have hm := (hm.but b7 mp).but b8 mp
    have hx := (hx.but b7).but b8
    have b8 := (b6.trans b7).trans b8
    clear hs6 hs7 b6 b7
    repeat walk_at "rd"
    refine new_at (Nat.le_of_ble_eq_true rfl) (fun L1 H2 nL1 s2 e2 => ?_)
    have pL1 := hs8.ne nL1
    repeat walk_at "rd"
    refine new_at (Nat.le_of_ble_eq_true rfl) (fun L2 H3 nL2 s3 e3 => ?_)
    have pL2 := (hs8.keep s2).ne nL2
    repeat walk_at "rd"
    refine r_dnew (fun L0 H9 nL0 s9 e9 => ?_)
    have pL0 := ((hs8.keep s2).keep s3).ne nL0
    repeat walk_at "rd"
    refine ⟨rfl, fun L3 xs3 H4 s4 nL3 e4 => ?_⟩
    have pL3 := (((hs8.keep s2).keep s3).keep s9).ne nL3
    repeat walk_at "rd"
    refine new_at (Nat.le_of_ble_eq_true rfl) (fun L H5 nL s5 e5 => ?_)
    have hs5 := ((((hs8.keep s2).keep s3).keep s9).keep s4).keep s5
    have pL := ((((hs8.keep s2).keep s3).keep s9).keep s4).ne nL
    have e2 := s5 _ _ (s4 _ _ (s9 _ _ (s3 _ _ e2)))
    have e3 := s5 _ _ (s4 _ _ (s9 _ _ e3))
    have e9 := s5 _ _ (s4 _ _ e9)
    have e4 := s5 _ _ e4
    have sA := (((s2.trans s3).trans s9).trans s4).trans s5
    have hm := hm.keep sA
    have hx := hx.keep sA
    have b5 : But p H H5 := b8.trans (But.of_same sA)
    clear s2 s3 s4 s5 s9 sA hs8 nL nL0 nL1 nL2 nL3
    repeat walk_at "rd"
    refine ⟨p, q, 11, rfl, hs5, by decide, by decide, fun d H6 d0 d12 hs6 b6 => ?_⟩
    obtain ⟨y, hat, hy, hy0, hyb⟩ : ∃ y, atI [V.int 0, .int (-1 - x2), .int (10000000000 + 1 + x3), .bl true, .bl false, .str "1", .ref L1, .ref L2, .ref L0, .ref m, .ref L3] d = some y ∧ Thing a.c_Machine p H5 y ∧ y ≠ .non ∧ ∀ i, y = .int i → ¬ (1 ≤ i ∧ i ≤ 10000000000) := by
      have hk : d = 0 ∨ d = 1 ∨ d = 2 ∨ d = 3 ∨ d = 4 ∨ d = 5 ∨ d = 6 ∨ d = 7 ∨ d = 8 ∨ d = 9 ∨ d = 10 := by omega
      rcases hk with rfl | rfl | rfl | rfl | rfl | rfl | rfl | rfl | rfl | rfl | rfl
      · exact ⟨_, rfl, Thing.int, (fun z => nomatch z), fun i e => by cases e; omega⟩
      · exact ⟨_, rfl, Thing.int, (fun z => nomatch z), fun i e => by cases e; omega⟩
      · exact ⟨_, rfl, Thing.int, (fun z => nomatch z), fun i e => by cases e; omega⟩
      · exact ⟨_, rfl, Thing.bl, (fun z => nomatch z), fun i e => by cases e⟩
      · exact ⟨_, rfl, Thing.bl, (fun z => nomatch z), fun i e => by cases e⟩
      · exact ⟨_, rfl, Thing.str, (fun z => nomatch z), fun i e => by cases e⟩
      · exact ⟨_, rfl, Thing.lst pL1 e2, (fun z => nomatch z), fun i e => by cases e⟩
      · exact ⟨_, rfl, Thing.tup pL2 e3, (fun z => nomatch z), fun i e => by cases e⟩
      · exact ⟨_, rfl, Thing.dic pL0 e9, (fun z => nomatch z), fun i e => by cases e⟩
      · exact ⟨_, rfl, Thing.mach mp hm, (fun z => nomatch z), fun i e => by cases e⟩
      · exact ⟨_, rfl, Thing.lst pL3 e4, (fun z => nomatch z), fun i e => by cases e⟩
    refine r_ixL (b6 _ _ e5 pL) hat ?_
    have hx := hx.but b6
    have hy := hy.but b6
    have hm := hm.but b6 mp
    have b6 := b5.trans b6
    clear hat e2 e3 e4 e5 e9 pL pL0 pL1 pL2 pL3 b5 hs5 d0 d12
    repeat walk_at "rd"
    refine ⟨by decide, by decide, for_range (lo := 0) (n := 3) (fun i σ H' => ∃ v : Option V, σ = [some (.ref p), some (.ref m), some (.int n), some (.ref _), some x, some (.ref _), some y, v] ∧ SrcAt H' p q ∧ But p H H' ∧ MachAt a.c_Machine H' m o l g ∧ Thing a.c_Machine p H' x ∧ Thing a.c_Machine p H' y) ⟨_, rfl, hs6, b6, hm, hx, hy⟩ ?_ ?_⟩
    · clear hs6 b6 hm hx hy
      rintro i σ H1 hi ⟨v, rfl, hs, b0, hm, hx, hy⟩
      repeat walk_at "rd"
      walk_at "rdi"
      repeat walk_at "rd"
      refine new_at (Nat.le_of_ble_eq_true rfl) (fun L H2 nL s2 e2 => ?_)
      repeat walk_at "rd"
      refine ⟨p, q, 3, rfl, hs.keep s2, by decide, by decide, fun d H3 d0 d3 hs3 b3 => ?_⟩
      obtain ⟨z, hat, hz⟩ : ∃ z, atI [y, V.int 1, .non] d = some z ∧ Thing a.c_Machine p H1 z := by
        have hk : d = 0 ∨ d = 1 ∨ d = 2 := by omega
        rcases hk with rfl | rfl | rfl
        · exact ⟨_, rfl, hy⟩
        · exact ⟨_, rfl, Thing.int⟩
        · exact ⟨_, rfl, Thing.non⟩
      refine r_ixL (b3 _ _ e2 (hs.ne nL)) hat ?_
      have b23 := (But.of_same (p := p) s2).trans b3
      have hz := hz.but b23
      have hx := hx.but b23
      have hy := hy.but b23
      have hm := hm.but b23 mp
      have b0 := b0.trans b23
      clear hat e2 s2 b3 nL hs b23 d0 d3
      obtain ⟨bx, ax⟩ := hx.arg T
      obtain ⟨bz, az⟩ := hz.arg T
      repeat walk_at "rd"
      refine ⟨_, m, x, z, bx, bz, o, l, g, rfl, hm, N, ax, .inr az, fun _ H4 s4 => ?_, fun ⟨j, e, _, h1, h2⟩ => absurd ⟨h1, h2⟩ (hbad j e), fun ⟨j, e, _, h1, h2⟩ => absurd ⟨h1, h2⟩ (hbad j e)⟩
      have hm := hm.keep s4
      have hx := hx.keep s4
      have hy := hy.keep s4
      have hs4 := hs3.keep s4
      have b0 := b0.trans (But.of_same s4)
      repeat walk_at "rd"
      refine ⟨rfl, ?_⟩
      rw [decide_eq_true rfl]
      repeat walk_at "rd"
      refine ⟨_, m, .int n, .int 10000000000, true, true, o, l, g, rfl, hm, N, Arg.int, .inr Arg.int, fun z => absurd ⟨n, rfl, rfl, n2, n40⟩ z, fun _ _ H5 s5 => ?_, fun _ _ _ z => absurd ⟨_, rfl, rfl, by decide, by decide⟩ z⟩
      repeat walk_at "rd"
      refine ⟨rfl, ?_⟩
      rw [decide_eq_true rfl]
      repeat walk_at "rd"
      exact ⟨_, rfl, hs4.keep s5, b0.trans (But.of_same s5), hm.keep s5, hx.keep s5, hy.keep s5⟩
    · clear hs6 b6 hm hx hy
      rintro σ H1 ⟨v, rfl, hs, b0, hm, hx, hy⟩
      obtain ⟨by_, ay⟩ := hy.arg T
      repeat walk_at "rd"
      refine ⟨_, m, .int n, y, true, by_, o, l, g, rfl, hm, N, Arg.int, .inr ay, fun z => absurd ⟨n, rfl, rfl, n2, n40⟩ z, fun _ hz => ?_, fun _ _ _ _ H5 s5 => ?_⟩
      · rcases hz with hz | hz | ⟨j, e, _, h1, h2⟩
        · exact absurd rfl hz
        · exact absurd hz hy0
        · exact absurd ⟨h1, h2⟩ (hyb j e)
      · repeat walk_at "rd"
        refine ⟨rfl, ?_⟩
        rw [decide_eq_true rfl]
        exact k H5 (hs.keep s5) (b0.trans (But.of_same s5))
end

/-! ### the receivers of a round -/
def pick (c : Int) : List Int → Option Int
  | [_, _, t, s] => if s = c then some t else none
  | _ => none
theorem pick_row {n P : Int} {h t k : Nat} (hP : 0 < P) : pick (k * P) (rowN n P h t) = if t = k then some (toH n h t) else none := by
  show (if (t : Int) * P = k * P then some (toH n h t) else none) = _
  by_cases e : t = k
  · subst e; rw [if_pos rfl, if_pos rfl]
  · rw [if_neg e, if_neg fun z => e (by have := Int.eq_of_mul_eq_mul_right (by omega) z; omega)]
theorem pick_hand {n P : Int} {h k : Nat} (hP : 0 < P) : ∀ m : Nat, ((List.range m).map (rowN n P h)).filterMap (pick (k * P)) = if k < m then [toH n h k] else []
  | 0 => rfl
  | m + 1 => by
    rw [List.range_succ, List.map_append, List.filterMap_append, pick_hand hP m]
    show _ ++ List.filterMap (pick (k * P)) [rowN n P h m] = _
    rw [List.filterMap_cons, pick_row hP]
    by_cases e : m = k
    · subst e
      rw [if_pos rfl, if_neg (by omega), if_pos (by omega)]; rfl
    · rw [if_neg e]
      by_cases c : k < m
      · rw [if_pos c, if_pos (by omega)]; rfl
      · rw [if_neg c, if_neg (by omega)]; rfl
theorem pick_all {n P : Int} {k m : Nat} (hP : 0 < P) (hk : k < m) : ∀ N : Nat, (rt (rowN n P) m N).filterMap (pick (k * P)) = (List.range N).map fun h : Nat => toH n h k
  | 0 => rfl
  | N + 1 => by
    show (rt (rowN n P) m N ++ (List.range m).map (rowN n P N)).filterMap _ = _
    rw [List.filterMap_append, pick_all hP hk N, pick_hand hP, if_pos hk, List.range_succ, List.map_append]
    rfl
theorem turn_perm {n k : Nat} (hk : k + 1 < n) : ((List.range n).map fun h : Nat => toH n h k).Perm ((List.range n).map fun h : Nat => (h : Int)) := by
  have e1 : (List.range n).map (fun h : Nat => toH n h k) = (List.range (n - (k + 1))).map (fun x : Nat => ((k + 1 + x : Nat) : Int)) ++ (List.range (k + 1)).map (fun x : Nat => (x : Int)) := by
    have : n = (n - (k + 1)) + (k + 1) := by omega
    conv => lhs; rw [this]
    rw [List.range_add, List.map_append, List.map_map]
    congr 1
    · refine List.map_congr_left fun x hx => ?_
      have hx := List.mem_range.mp hx
      unfold toH
      rw [if_neg (by omega)]
      omega
    · refine List.map_congr_left fun x hx => ?_
      have hx := List.mem_range.mp hx
      show toH _ ((n - (k + 1) + x : Nat) : Int) k = _
      unfold toH
      rw [if_pos (by omega)]
      omega
  have e2 : (List.range n).map (fun h : Nat => (h : Int)) = (List.range (k + 1)).map (fun x : Nat => (x : Int)) ++ (List.range (n - (k + 1))).map (fun x : Nat => ((k + 1 + x : Nat) : Int)) := by
    have : n = (k + 1) + (n - (k + 1)) := by omega
    conv => lhs; rw [this]
    rw [List.range_add, List.map_append, List.map_map]
    rfl
  rw [e1, e2]
  exact List.perm_append_comm
theorem range_le (n : Nat) : ((List.range n).map fun h : Nat => (h : Int)).Pairwise (· ≤ ·) := by
  rw [List.pairwise_map]
  exact List.pairwise_lt_range.imp fun h => by omega
theorem sorted_is {ns ns' : List Int} {n k : Nat} (hk : k + 1 < n) (hn : ns = (List.range n).map fun h : Nat => toH n h k) (hp : ns'.Perm ns) (hs : ns'.Pairwise (· ≤ ·)) : ns' = (List.range n).map fun h : Nat => (h : Int) := by
  subst hn
  exact List.Perm.eq_of_pairwise (fun x y _ _ h1 h2 => Int.le_antisymm h1 h2) hs (range_le n) (hp.trans (turn_perm hk))
theorem sh_all : ∀ rs : List Int, PyData.canLayAll0 (rs.map PyData.int) = true
  | [] => rfl
  | r :: rs => by
    show (true && PyData.canLayAll0 (rs.map PyData.int)) = true
    rw [sh_all rs]; rfl
theorem Rounds.but {H H' : Hp} {p x : Addr} {n P : Int} (h : Rounds H p n P) (s : But x H H') (hp : p ≠ x) (hx : ∃ xs, H x = some (.lst xs)) : Rounds H' p n P := by
  obtain ⟨vs, e, t⟩ := h
  obtain ⟨xs, hx⟩ := hx
  refine ⟨vs, s _ _ e hp, t.keep fun q ys hq => s _ _ hq ?_⟩
  intro z; subst z; rw [hx] at hq; cases hq
theorem rt_mem {n R : Int} {m : Nat} : ∀ {N : Nat} {r : List Int}, r ∈ rt (rowN n R) m N → ∃ h t : Nat, r = rowN n R h t
  | 0, r, h => by cases h
  | N + 1, r, h => by
    rcases List.mem_append.mp (show r ∈ rt (rowN n R) m N ++ (List.range m).map (rowN n R N) from h) with h | h
    · exact rt_mem h
    · obtain ⟨x, _, rfl⟩ := List.mem_map.mp h
      exact ⟨N, x, rfl⟩
theorem eqv_self : ∀ rs : List Int, PyData.eqvAll (rs.map PyData.int) (rs.map PyData.int) = true
  | [] => rfl
  | r :: rs => by
    show (PyData.eqv (.int r) (.int r) && PyData.eqvAll (rs.map PyData.int) (rs.map PyData.int)) = true
    rw [eqv_self rs]
    simp [PyData.eqv]
theorem dp_all {K : PySem.W.Frag} {H : Hp} : ∀ rs : List Int, DpAll K H (rs.map V.int) (rs.map PyData.int)
  | [] => .nil
  | _ :: rs => .cons (.int _) (dp_all rs)
theorem dep_all : ∀ rs : List Int, PyData.depthAll (rs.map PyData.int) = 0
  | [] => rfl
  | r :: rs => by
    show max (PyData.depth (.int r)) (PyData.depthAll (rs.map PyData.int)) = 0
    rw [dep_all rs]; rfl
theorem sh_list (rs : List Int) : SeqAt.shaped (.list (rs.map PyData.int)) = true := by
  show (PyData.canLayAll0 (rs.map PyData.int) && decide (PyData.depthAll (rs.map PyData.int) + 1 ≤ 64)) = true
  rw [sh_all, dep_all]; rfl
theorem r_neSame {K : PySem.W.Frag} {H : Hp} {Q : VK} {p q : Addr} {rs : List Int} (h1 : H p = some (.lst (rs.map V.int))) (h2 : H q = some (.lst (rs.map V.int))) (k : Q (.bl false) H) : rNeD K (.ref p) (.ref q) H Q := by
  refine ⟨_, _, .lst (SqL.of h1) (dp_all rs), .lst (SqL.of h2) (dp_all rs), sh_list rs, sh_list rs, ?_⟩
  rw [show PyData.eqv (.list (rs.map PyData.int)) (.list (rs.map PyData.int)) = true from eqv_self rs]
  exact k
theorem r_lstRg {ta : TE} {σ : St} {H : Hp} {Q : VK} (h : ta σ H fun x H1 => ∃ n, x = .int n ∧ (RgOk 0 n ∧ ∀ q, H1 q = none → Q (.ref q) (upd H1 q (.lst (rgV 0 n))))) : tLstRg (tRg1 ta) σ H Q := h
theorem rg_is {n : Int} (h : 0 ≤ n) : rgV 0 n = ((List.range n.toNat).map fun h : Nat => (h : Int)).map V.int := by
  unfold rgV
  rw [Int.sub_zero, List.map_map]
  refine List.map_congr_left fun x _ => ?_
  show V.int (0 + (x : Int)) = V.int x
  rw [Int.zero_add]

/-! ### the law of k55: its def -/
theorem bd_round_plan {K : PySem.W.Frag} {mg : Str → Option Value} {a : Adr} (T : Txt K mg a) : ∃ ds : List Value, Vals [.non] ds ∧ Binds K a.d_round_plan ["machine", "n", "period"] ds :=
  FunD.binds0 T.F_round_plan 2 (by simp) rfl fun D doc pm an cdv ct us ks h1 h2 => match us, ks, h1, h2 with
    | [_, _], [_], _, _ => ⟨_, _, _, _, _, _, rfl, rfl, rfl⟩
def spLaw (K : PySem.W.Frag) : Sp := fun vs H Q _ => ∃ (b : Addr) (ns : List Int), vs = [.ref b] ∧ SqL K H b (ns.map V.int) ∧ ns.length ≤ 63 ∧ ∀ H', Q (.bl true) H'
theorem r_Bm0 {K : PySem.W.Frag} {T : String} {r : V → List V → Hp → VK → Prop} {ta : TE} {σ : St} {H : Hp} {Q : VK} (h : ta σ H fun x H1 => tyV K T x H1 ∧ r x [] H1 Q) : tBM0 K T r ta σ H Q := h
section
variable {P : Program} {w : World} {K : PySem.W.Frag} {mg : Str → Option Value} {base : Heap} {a : Adr}
set_option maxHeartbeats 0 in
theorem ok_law (T : Txt K mg a) : FnOk P w K mg base CX0 10 a.a_law a.d_law ["_law_script"] (spLaw K) := by
  refine T.F_law.ok sc_law (fun vs H Q E h => ?_) (fun cdv A outer s H vs Q E hr h => ?_)
  · obtain ⟨b, ns, rfl, _⟩ := h
    rfl
  · obtain ⟨b, ns, rfl, hS, hl, k⟩ := h
    refine ⟨_, (pss_cons (ps_set (i := 1) sc_law.nd rfl (Or.inl rfl) (pe_call (ok__law_source T) (hr.mono (by decide)) (by rfl) T.g__law_source T.F__law_source.kp T.b__law_source .nil pass0 (pa_cons (pv 0) pa_nil)))
 (pss_cons (ps_asg (pe_call (ok__law_numbers T) (hr.mono (by decide)) (by rfl) T.g__law_numbers T.F__law_numbers.kp T.b__law_numbers .nil pass0 (pa_cons (pv 1) pa_nil)) (pg_tup (by rfl) (pgs_cons (pg_name (i := 2) sc_law.nd rfl (Or.inl rfl)) (pgs_cons (pg_name (i := 3) sc_law.nd rfl (Or.inl rfl)) (pgs_cons (pg_name (i := 4) sc_law.nd rfl (Or.inl rfl)) pgs_nil)))))
 (pss_cons (ps_set (i := 5) sc_law.nd rfl (Or.inl rfl) (pe_make T.mk_Machine (ok_Machine_init T) (hr.mono (by decide)) (by rfl) T.g_Machine T.b_Machine_init .nil pass0 (pa_cons (pv 2) (pa_cons (pv 3) (pa_cons (pv 4) pa_nil)))))
 (pss_cons (ps_set (i := 6) sc_law.nd rfl (Or.inl rfl) (pe_ix ix_list (pe_lst (pa_cons pe_int (pa_cons pe_int (pa_cons pe_int (pa_cons pe_int (pa_cons pe_int (pa_cons pe_int pa_nil))))))) (pe_call (ok__law_draw T) (hr.mono (by decide)) (by rfl) T.g__law_draw T.F__law_draw.kp T.b__law_draw .nil pass0 (pa_cons (pv 1) (pa_cons pe_int pa_nil))) (fun _ _ => rfl)))
 (pss_cons (ps_if (pt_cmpR op_eq (pe_call (ok__law_draw T) (hr.mono (by decide)) (by rfl) T.g__law_draw T.F__law_draw.kp T.b__law_draw .nil pass0 (pa_cons (pv 1) (pa_cons pe_int pa_nil))) pe_int (nomark _)) (pss_one (ps_set (i := 6) sc_law.nd rfl (Or.inl rfl) pe_int))
 pss_nil)
 (pss_cons (ps_if (pt_not (pt_val (pe_call (ok__law_refused T) (hr.mono (by decide)) (by rfl) T.g__law_refused T.F__law_refused.kp T.b__law_refused .nil pass0 (pa_cons (pv 1) (pa_cons (pv 5) (pa_cons (pv 6) pa_nil)))))) (pss_one (ps_ret pe_bl))
 pss_nil)
 (pss_cons (ps_set (i := 7) sc_law.nd rfl (Or.inl rfl) (pe_call (ok_least_period T) (hr.mono (by decide)) (by rfl) T.g_least_period T.F_least_period.kp T.b_least_period .nil (passes_call takes0 (fun _ _ _ _ h => h)) (pa_cons (pv 5) (pa_cons (pv 6) pa_nil))))
 (pss_cons (ps_if (PW.pt (pw_or (pt_not (pt_val (pe_call (ok__law_integer T) (hr.mono (by decide)) (by rfl) T.g__law_integer T.F__law_integer.kp T.b__law_integer .nil pass0 (pa_cons (pv 7) pa_nil)))) (pw_or1 (pt_cmpR op_lt (pv 7) pe_int (nomark _))))) (pss_one (ps_ret pe_bl))
 pss_nil)
 (pss_cons (ps_set (i := 8) sc_law.nd rfl (Or.inl rfl) (pe_call (ok__law_rounds T) (hr.mono (by decide)) (by rfl) T.g__law_rounds T.F__law_rounds.kp T.b__law_rounds .nil pass0 (pa_cons (pv 6) (pa_cons (pv 7) pa_nil))))
 (pss_cons (ps_set (i := 9) sc_law.nd rfl (Or.inl rfl) (pe_call (ok_round_plan T) (hr.mono (by decide)) (by rfl) T.g_round_plan T.F_round_plan.kp (bd_round_plan T).choose_spec.2 (bd_round_plan T).choose_spec.1 (passes_call takes0 (fun _ _ _ _ h => h)) (pa_cons (pv 5) (pa_cons (pv 6) pa_nil))))
 (pss_cons (ps_if (PW.pt (pw_or (pt_not (pt_val (pe_call (ok__law_same T) (hr.mono (by decide)) (by rfl) T.g__law_same T.F__law_same.kp T.b__law_same .nil pass0 (pa_cons (pv 9) (pa_cons (pv 8) pa_nil))))) (pw_or1 (pt_not (pt_val (pe_call (ok__law_same T) (hr.mono (by decide)) (by rfl) T.g__law_same T.F__law_same.kp T.b__law_same .nil pass0 (pa_cons (pe_callN (ok_round_plan T) (hr.mono (by decide)) (by rfl) T.g_round_plan T.F_round_plan.kp (kb_round_plan_period T).choose_spec (passes_call takes0 (fun _ _ _ _ h => h)) (pa_cons (pv 5) (pa_cons (pv 6) pa_nil)) (pk_cons pe_non pk_nil)) (pa_cons (pv 8) pa_nil)))))))) (pss_one (ps_ret pe_bl))
 pss_nil)
 (pss_cons (ps_expr (pe_bm0 PySem.F.plainAttrs_list PySem.F.slot_list_pop PySem.F.type_list_pop mt_pop (pv 9)))
 (pss_cons (ps_for (by exact PassesOwn.never) rfl (pi_range1 (by rfl) T.n_range (pa_cons pe_int pa_nil)) (pg_name (i := 10) sc_law.nd rfl (Or.inl rfl))
 (pss_cons (ps_set (i := 11) sc_law.nd rfl (Or.inl rfl) (pe_lst (pa_cons pe_int (pa_cons (pe_callB (call_max2 rfl) (by rfl) T.n_max (by decide +kernel) (pa_cons (pv 2) (pa_cons (pv 4) pa_nil))) (pa_cons (pe_op op_add (pe_op op_mul pe_int (pv 2)) (pv 3)) (pa_cons (pe_powN (z := 10000000000) ⟨by decide, by decide, by decide⟩ (by decide +kernel)) (pa_cons (pe_callB (call_max2 rfl) (by rfl) T.n_max (by decide +kernel) (pa_cons pe_int (pa_cons (pe_op op_sub (pv 4) pe_int) pa_nil))) (pa_cons (pe_op op_add pe_int (pe_call (ok__law_wide T) (hr.mono (by decide)) (by rfl) T.g__law_wide T.F__law_wide.kp T.b__law_wide .nil pass0 (pa_cons (pv 1) (pa_cons (pe_powN (z := 10000000000) ⟨by decide, by decide, by decide⟩ (by decide +kernel)) pa_nil)))) pa_nil))))))))
 (pss_cons (ps_set (i := 12) sc_law.nd rfl (Or.inr rfl) (pe_ix ix_list (pv 11) (pe_call (ok__law_draw T) (hr.mono (by decide)) (by rfl) T.g__law_draw T.F__law_draw.kp T.b__law_draw .nil pass0 (pa_cons (pv 1) (pa_cons (pe_callB call_len_seq (by rfl) T.n_len (by decide +kernel) (pa_cons (pv 11) pa_nil)) pa_nil))) (fun _ _ => rfl)))
 (pss_cons (ps_set (i := 9) sc_law.nd rfl (Or.inl rfl) (pe_callN (ok_round_plan T) (hr.mono (by decide)) (by rfl) T.g_round_plan T.F_round_plan.kp (kb_round_plan_period T).choose_spec (passes_call takes0 (fun _ _ _ _ h => h)) (pa_cons (pv 5) (pa_cons (pv 6) pa_nil)) (pk_cons (pv 12) pk_nil)))
 (pss_cons (ps_if (pt_not (pt_val (pe_call (ok__law_same T) (hr.mono (by decide)) (by rfl) T.g__law_same T.F__law_same.kp T.b__law_same .nil pass0 (pa_cons (pv 9) (pa_cons (pe_call (ok__law_rounds T) (hr.mono (by decide)) (by rfl) T.g__law_rounds T.F__law_rounds.kp T.b__law_rounds .nil pass0 (pa_cons (pv 6) (pa_cons (pv 12) pa_nil))) pa_nil))))) (pss_one (ps_ret pe_bl))
 pss_nil)
 (pss_one (ps_for (by exact PassesOwn.never) rfl (pi_range1 (by rfl) T.n_range (pa_cons (pe_op op_sub (pv 6) pe_int) pa_nil)) (pg_name (i := 13) sc_law.nd rfl (Or.inr rfl))
 (pss_one (ps_if (pt_cmpR (op_neD hr.units) (pe_callB cr_sorted (by rfl) T.n_sorted (by decide +kernel) (pa_cons (pe_lc (own := [("_law_row", 14)]) (g := gName 14) rfl sc_law.nd (pi_list (pv 9)) (blkOk_by (own := [("_law_row", 14)]) (N := ["_law_script", "_law_source_here", "_law_o", "_law_l", "_law_g", "_law_machine", "_law_n", "_law_least", "_law_due", "_law_told", "_law_k", "_law_some", "_law_period", "_law_turn", "_law_row"]) (sc := defScope s_law) (by decide +kernel)) (fun _ _ _ _ _ => (pg_name (i := 14) sc_law.nd rfl (Or.inl rfl))) (fun _ _ _ _ _ => pts_one (pt_cmpR op_eq (pe_ix (ix_tupK (K := K) rfl) (pv 14) pe_int (fun _ _ => rfl)) (pe_op op_mul (pv 13) (pv 12)) (nomark _))) (fun _ _ _ _ _ => (pe_ix (ix_tupK (K := K) rfl) (pv 14) pe_int (fun _ _ => rfl)))) pa_nil)) (pe_listRg rfl (by rfl) T.n_list (prg_1 (by rfl) T.n_range (pv 6))) (nomark _)) (pss_one (ps_ret pe_bl))
 pss_nil)))))))))
 (pss_one (ps_ret (pe_call (ok__law_same T) (hr.mono (by decide)) (by rfl) T.g__law_same T.F__law_same.kp T.b__law_same .nil pass0 (pa_cons (pe_call (ok_round_plan T) (hr.mono (by decide)) (by rfl) T.g_round_plan T.F_round_plan.kp (bd_round_plan T).choose_spec.2 (bd_round_plan T).choose_spec.1 (passes_call takes0 (fun _ _ _ _ h => h)) (pa_cons (pv 5) (pa_cons (pv 6) pa_nil))) (pa_cons (pv 8) pa_nil)))))))))))))))))), ?_⟩
    repeat walk_at "rd"
    refine ⟨b, ns, rfl, hS, hl, fun p q H0 hs0 np nq s0 => ?_⟩
    repeat walk_at "rd"
    refine ⟨p, q, rfl, hs0, fun t o l g H1 N1 n1 hs1 b1 => ?_⟩
    have e1 := N1.at_
    have N := N1.num
    repeat walk_at "rd"
    refine r_Machine N.no N.nl N.ng N.np (fun m H2 n2 hm s2 => ?_)
    have nmp := hs1.ne n2
    have hs2 := hs1.keep s2
    clear hs0 hs1 s0 b1 n1 s2 np nq hS N1 e1 n2
    repeat walk_at "rd"
    refine new_at (Nat.le_of_ble_eq_true rfl) (fun L H3 nL s3 e3 => ?_)
    have hm := hm.keep s3
    repeat walk_at "rd"
    refine ⟨p, q, 6, rfl, hs2.keep s3, by decide, by decide, fun d H4 d0 d7 hs4 b4 => ?_⟩
    obtain ⟨n, hat, n2, n40⟩ : ∃ n : Int, atI [V.int 3, V.int 2, V.int 4, V.int 5, V.int 8, V.int 16] d = some (.int n) ∧ 2 ≤ n ∧ n ≤ 40 := by
      have hk : d = 0 ∨ d = 1 ∨ d = 2 ∨ d = 3 ∨ d = 4 ∨ d = 5 := by omega
      rcases hk with rfl | rfl | rfl | rfl | rfl | rfl <;> exact ⟨_, rfl, by decide, by decide⟩
    refine r_ixL (b4 _ _ e3 (hs2.ne nL)) hat ?_
    have hm := hm.but b4 nmp
    clear hs2 e3 s3 nL b4 hat d0 d7
    repeat walk_at "rd"
    with_reducible refine seq_with (fun σ H' => ∃ n : Int, σ = [some (.ref b), some (.ref p), some (.int o), some (.int l), some (.int g), some (.ref m), some (.int n), none, none, none, none, none, none, none, none] ∧ SrcAt H' p q ∧ MachAt a.c_Machine H' m o l g ∧ 2 ≤ n ∧ n ≤ 40) ?_ (fun rest => ?_)
    · clear hs4 hm n2 n40
      rintro σ H ⟨n, rfl, hs, hm, n2, n40⟩
      walk_at "rdi"
      repeat walk_at "rd"
      refine ⟨p, q, m, n, o, l, g, rfl, hs, hm, N, nmp, n2, n40, fun H1 hs1 b1 => ?_⟩
      have hm := hm.but b1 nmp
      clear hs b1
      repeat walk_at "rd"
      refine ⟨m, .int n, true, o, l, g, rfl, hm, N, Arg.int, fun z => absurd ⟨n, rfl, rfl, n2, n40⟩ z, fun n' en _ _ _ P H2 hP s2 => ?_⟩
      obtain rfl : n = n' := V.int.inj en
      have hm := hm.keep s2
      have hs := hs1.keep s2
      have hP1 : 1 ≤ P := by have := hP.1; have := gap_pos (o := o) N.ng.1; omega
      clear hs1 s2 en
      repeat walk_at "rd"
      walk_at "rdi"
      repeat walk_at "rd"
      refine ⟨.int P, true, rfl, IntV.int, ?_⟩
      repeat walk_at "rd"
      refine ite_ff (by omega) ?_
      repeat walk_at "rd"
      refine ⟨n, P, rfl, n2, n40, fun du H3 s3 ndu rdu => ?_⟩
      have hm := hm.keep s3
      have dup := hs.ne ndu
      have hs := hs.keep s3
      have ndm : m ≠ du := by obtain ⟨dx, e⟩ := hm; obtain ⟨vs, e2, _⟩ := rdu; intro z; subst z; rw [e] at e2; cases e2
      clear s3 ndu
      repeat walk_at "rd"
      have unique : ∀ P', Least n l (2 * o + l) (gapOf o g) P' → P' = P := fun P' h => by
        have h1 := hP.2.2 P' h.1 h.2.1
        have h2 := h.2.2 P hP.1 hP.2.1
        omega
      -- round_plan(machine, n) with the period left out, or None
      have ask : ∀ {H : Hp} {Q : VK} {E : XK}, MachAt a.c_Machine H m o l g → (∀ to H', Same H H' → H to = none → Rounds H' to n P → Q (.ref to) H') → spRound K a.c_Machine a.c_InvalidCount a.c_InvalidTime [.ref m, .int n, .non] H Q E := fun hm kk =>
        ⟨m, .int n, .non, true, true, o, l, g, rfl, hm, N, Arg.int, .inl rfl, fun z => absurd ⟨n, rfl, rfl, n2, n40⟩ z, fun n' en _ _ _ => by
          obtain rfl : n = n' := V.int.inj en
          exact ⟨fun _ P' to H' hP' s np hr => kk to H' s np (by rw [unique P' hP'] at hr; exact hr), fun _ e => (nomatch e), fun z => absurd rfl z⟩⟩
      have same : ∀ {H : Hp} {Q : VK} {E : XK} {P : Int} {u v : Addr}, Rounds H u n P → Rounds H v n P → Q (.bl true) H → spSameL [.ref u, .ref v] H Q E := fun {H Q E P u v} hu hv q => by
        obtain ⟨us, e1, t1⟩ := hu
        obtain ⟨ws, e2, t2⟩ := hv
        refine ⟨u, v, us, ws, _, rfl, e1, e2, t1, t2, ?_, ?_, q⟩
        · rw [rt_len]
          have : n.toNat * (n - 1).toNat ≤ 40 * 40 := Nat.mul_le_mul (by omega) (by omega)
          omega
        · have key : ∀ m N, ∀ r, r ∈ rt (rowN n P) m N → r.length ≤ 1000 := fun m N => by
            induction N with
            | zero => intro r h; cases h
            | succ N ih =>
              intro r h
              rcases List.mem_append.mp (show r ∈ rt (rowN n P) m N ++ (List.range m).map (rowN n P N) from h) with h | h
              · exact ih r h
              · obtain ⟨x, _, rfl⟩ := List.mem_map.mp h
                exact (by decide : 4 ≤ 1000)
          exact key _ _
      refine ask hm (fun to H4 s4 nto rto => ?_)
      have dto : du ≠ to := by obtain ⟨vs, e, _⟩ := id rdu; exact ne_of_none e nto
      have mto : m ≠ to := by obtain ⟨dx, e⟩ := id hm; exact ne_of_none e nto
      have top := hs.ne nto
      have toq := hs.neq nto
      have hm := hm.keep s4
      have rdu := rdu.keep s4
      have hs := hs.keep s4
      clear s4 nto
      repeat walk_at "rd"
      walk_at "rdi"
      repeat walk_at "rd"
      refine same rto rdu ?_
      repeat walk_at "rd"
      refine ⟨rfl, rfl, ask hm (fun t2 H5 s5 nt2 rt2 => ?_)⟩
      have hm := hm.keep s5
      have rdu := rdu.keep s5
      have rto := rto.keep s5
      have hs := hs.keep s5
      repeat walk_at "rd"
      refine same rt2 rdu ?_
      repeat walk_at "rd"
      clear s5 nt2 rt2 t2
      obtain ⟨vt, eto, tto⟩ := rto
      have hlen : 0 < vt.length := by
        rw [tto.len, rt_len]
        exact Nat.mul_pos (by omega) (by omega)
      refine r_Bm0 ?_
      repeat walk_at "rd"
      obtain ⟨yl, hyl⟩ : ∃ y, vt[vt.length - 1]? = some y := ⟨_, List.getElem?_eq_getElem (by omega)⟩
      refine ⟨.inl ⟨rfl, _, SqL.of eto⟩, to, vt, yl, rfl, rfl, eto, hyl, ?_⟩
      have hm : MachAt a.c_Machine (upd H5 to (.lst vt.dropLast)) m o l g := by obtain ⟨dx, e⟩ := hm; exact ⟨dx, (upd_ne mto).trans e⟩
      have rdu := rdu.but (H' := upd H5 to (.lst vt.dropLast)) But.upd dto ⟨_, eto⟩
      have hs := hs.upd (o := .lst vt.dropLast) top toq
      clear tto eto hlen hyl
      show _
      generalize upd H5 to (.lst vt.dropLast) = H6 at hm rdu hs ⊢
      repeat walk_at "rd"
      refine ⟨by decide, by decide, for_range (lo := 0) (n := 3) (fun i σ H' => ∃ v9 v10 v11 v12 v13 v14 : Option V, σ = [some (.ref b), some (.ref p), some (.int o), some (.int l), some (.int g), some (.ref m), some (.int n), some (.int P), some (.ref du), v9, v10, v11, v12, v13, v14] ∧ SrcAt H' p q ∧ MachAt a.c_Machine H' m o l g ∧ Rounds H' du n P) ⟨_, _, _, _, _, _, rfl, hs, hm, rdu⟩ ?_ ?_⟩
      · clear hs hm rdu
        rintro i σ H7 hi ⟨v9, v10, v11, v12, v13, v14, rfl, hs, hm, rdu⟩
        repeat walk_at "rd"
        refine ⟨p, q, 10000000000, rfl, hs, by decide, by decide, fun x6 H8 x60 x69 hs8 b8 => ?_⟩
        repeat walk_at "rd"
        refine new_at (Nat.le_of_ble_eq_true rfl) (fun L H9 nL s9 e9 => ?_)
        have nLp := hs8.ne nL
        have hm := (hm.but b8 nmp).keep s9
        have rdu := (rdu.but b8 dup (let ⟨cs, i, big, cnt, st, h1, _⟩ := hs; ⟨_, h1⟩)).keep s9
        repeat walk_at "rd"
        refine ⟨p, q, 6, rfl, hs8.keep s9, by decide, by decide, fun d H10 d0 d6 hs10 b10 => ?_⟩
        have hm := hm.but b10 nmp
        have rdu := rdu.but b10 dup (let ⟨cs, i, big, cnt, st, h1, _⟩ := hs8.keep s9; ⟨_, h1⟩)
        obtain ⟨R, hat, R1, R9⟩ : ∃ R : Int, atI [V.int 1, .int (if g > o then g else o), .int (2 * o + l), .int 10000000000, .int (if g - 1 > 1 then g - 1 else 1), .int (1 + x6)] d = some (.int R) ∧ 1 ≤ R ∧ R ≤ 10000000000 := by
          have a1 := gap_pos (o := o) N.ng.1
          have a2 := gap_le (o := o) N.ng.2 N.no.2
          have a3 := N.nl
          have a4 := N.no
          have a5 := N.ng
          have a6 := N.np
          have hk : d = 0 ∨ d = 1 ∨ d = 2 ∨ d = 3 ∨ d = 4 ∨ d = 5 := by omega
          rcases hk with rfl | rfl | rfl | rfl | rfl | rfl
          · exact ⟨_, rfl, by decide, by decide⟩
          · exact ⟨_, rfl, a1, by show gapOf o g ≤ _; omega⟩
          · exact ⟨_, rfl, by omega, by omega⟩
          · exact ⟨_, rfl, by decide, by decide⟩
          · exact ⟨_, rfl, by by_cases c : g - 1 > 1 <;> simp [c] <;> omega, by by_cases c : g - 1 > 1 <;> simp [c] <;> omega⟩
          · exact ⟨_, rfl, by omega, by omega⟩
        refine r_ixL (b10 _ _ e9 nLp) hat ?_
        clear hs8 hs nL s9 e9 hat b8 b10 d0 d6 x60 x69 nLp
        repeat walk_at "rd"
        refine ⟨rfl, rfl, m, .int n, .int R, true, true, o, l, g, rfl, hm, N, Arg.int, .inr Arg.int, fun z => absurd ⟨n, rfl, rfl, n2, n40⟩ z, fun n' en _ _ _ => ?_⟩
        obtain rfl : n = n' := V.int.inj en
        refine ⟨fun e => (nomatch e), fun R' eR _ _ _ to2 H11 s11 nt2 rt2 => ?_, fun _ z => absurd ⟨R, rfl, rfl, R1, R9⟩ z⟩
        obtain rfl : R = R' := V.int.inj eR
        have hm := hm.keep s11
        have rdu := rdu.keep s11
        have hs := hs10.keep s11
        clear s11 nt2 eR en hs10
        repeat walk_at "rd"
        walk_at "rdi"
        repeat walk_at "rd"
        refine ⟨n, R, rfl, n2, n40, fun d2 H12 s12 nd2 rd2 => ?_⟩
        have hm := hm.keep s12
        have rdu := rdu.keep s12
        have rt2 := rt2.keep s12
        have hs := hs.keep s12
        repeat walk_at "rd"
        refine same rt2 rd2 ?_
        repeat walk_at "rd"
        clear s12 nd2 rd2 d2
        refine ⟨by omega, by omega, ?_⟩
        refine for_range (lo := 0) (n := (n - 1).toNat) (fun j σ H' => ∃ v13 v14 : Option V, σ = [some (.ref b), some (.ref p), some (.int o), some (.int l), some (.int g), some (.ref m), some (.int n), some (.int P), some (.ref du), some (.ref to2), some (.int (0 + (i : Int))), some (.ref L), some (.int R), v13, v14] ∧ SrcAt H' p q ∧ MachAt a.c_Machine H' m o l g ∧ Rounds H' du n P ∧ Rounds H' to2 n R) ⟨_, _, rfl, hs, hm, rdu, rt2⟩ ?_ ?_
        · clear hs hm rdu rt2
          rintro j σ H13 hj ⟨v13, v14, rfl, hs, hm, rdu, rt2⟩
          obtain ⟨vt, et, tt⟩ := id rt2
          rw [show (0 + (j : Int)) = j by omega]
          repeat walk_at "rd"
          refine ⟨to2, rfl, ⟨_, SqL.of et⟩, fun D hD => lc_list (K := K) (a := to2) (xs := vt) (fun i H' => H' D = some (.lst ((((rt (rowN n R) (n - 1).toNat n.toNat).take i).filterMap (pick (j * R))).map V.int)) ∧ Same H13 H') ?_ (fun i H' _ h => SqL.of (h.2 _ _ et)) ?_ ?_⟩
          · exact ⟨by rw [upd_same]; rfl, Same.new hD⟩
          · rintro i x H14 hi ⟨h1, h2⟩
            obtain ⟨pr, r, rfl, hr, er⟩ := tt.get hi
            obtain ⟨hh, tn, rfl⟩ := rt_mem (List.mem_iff_getElem?.mpr ⟨i, hr⟩)
            have er := h2 _ _ er
            have hpk : pick ((j : Int) * R) (rowN n R hh tn) = if (tn : Int) * R = j * R then some (toH n hh tn) else none := rfl
            repeat walk_at "rd"
            refine ⟨rfl, ?_⟩
            repeat walk_at "rd"
            refine ite_d (fun hc => ?_) (fun hc => ?_)
            · repeat walk_at "rd"
              refine ⟨_, h1, ?_, ?_, fun b o e => (upd_ne (ne_of_none e hD)).trans (h2 b o e)⟩
              · rw [List.length_map, sizeLine_eq]
                have a1 := List.length_filterMap_le (pick ((j : Int) * R)) ((rt (rowN n R) (n - 1).toNat n.toNat).take i)
                have a2 : ((rt (rowN n R) (n - 1).toNat n.toNat).take i).length ≤ (rt (rowN n R) (n - 1).toNat n.toNat).length := by rw [List.length_take]; omega
                have a3 : (rt (rowN n R) (n - 1).toNat n.toNat).length ≤ 40 * 40 := by rw [rt_len]; exact Nat.mul_le_mul (by omega) (by omega)
                omega
              · rw [upd_same, take_more hr, List.filterMap_append, List.map_append]
                show _ = some (HO.lst (_ ++ List.map V.int (List.filterMap _ [rowN n R hh tn])))
                rw [List.filterMap_cons, hpk, if_pos hc]
                rfl
            · refine ⟨?_, h2⟩
              rw [h1, take_more hr, List.filterMap_append, List.filterMap_cons, hpk, if_neg hc]
              simp
          · rintro H14 ⟨h1, h2⟩
            rw [tt.len, List.take_length, pick_all (by omega) hj] at h1
            have hm := hm.keep h2
            have rdu := rdu.keep h2
            have rt2 := rt2.keep h2
            have hs := hs.keep h2
            repeat walk_at "rd"
            refine ⟨D, _, rfl, SqL.of h1, by rw [List.length_map, List.length_range]; omega, fun ns' S perm pw nS => ?_⟩
            have es : ns' = (List.range n.toNat).map fun h : Nat => (h : Int) := by
              refine sorted_is (n := n.toNat) (k := j) (by omega) rfl (perm.trans ?_) pw
              rw [show ((n.toNat : Nat) : Int) = n by omega]
            have sS : Same H14 (upd H14 S (.lst (ns'.map V.int))) := Same.new nS
            have eS : upd H14 S (.lst (ns'.map V.int)) S = some (.lst (ns'.map V.int)) := upd_same
            generalize upd H14 S (.lst (ns'.map V.int)) = H15 at sS eS ⊢
            subst es
            have hm := hm.keep sS
            have rdu := rdu.keep sS
            have rt2 := rt2.keep sS
            have hs := hs.keep sS
            refine r_lstRg ?_
            repeat walk_at "rd"
            refine ⟨RgOk.of_le (by omega) (by omega) (by omega) (by omega), fun S2 nS2 => ?_⟩
            have sS2 : Same H15 (upd H15 S2 (.lst (rgV 0 n))) := Same.new nS2
            refine r_neSame (sS2 _ _ eS) (by rw [upd_same, rg_is (by omega)]) ?_
            repeat walk_at "rd"
            exact ⟨_, _, rfl, hs.keep sS2, hm.keep sS2, rdu.keep sS2, rt2.keep sS2⟩
        · rintro σ H13 ⟨v13, v14, rfl, hs, hm, rdu, rt2⟩
          exact ⟨_, _, _, _, _, _, rfl, hs, hm, rdu⟩
      · clear hs hm rdu
        rintro σ H7 ⟨v9, v10, v11, v12, v13, v14, rfl, hs, hm, rdu⟩
        repeat walk_at "rd"
        refine ask hm (fun t3 H8 s8 nt3 rt3 => ?_)
        repeat walk_at "rd"
        exact same rt3 (rdu.keep s8) (k _)
    · repeat walk_at "rd"
      refine ⟨p, q, 30, rfl, hs4, by decide, by decide, fun d H5 d0 d7 hs5 b5 => ?_⟩
      repeat walk_at "rd"
      refine ite_d (fun hc => ?_) (fun hc => ?_)
      · repeat first | exact rest _ _ ⟨40, rfl, hs5, hm.but b5 nmp, by decide, by decide⟩ | walk_at "rd"
      · repeat first | exact rest _ _ ⟨n, rfl, hs5, hm.but b5 nmp, n2, n40⟩ | walk_at "rd"
end

theorem all_mk {P : Program} {w : World} {K : PySem.W.Frag} {h : Heap} {mg : Str → Option Value} {fa : Addr} (X : K.In h) (G : h.Ns mainGlobals mg) (hfa : mg "law" = some (.ref fa))
    {c_Machine : Addr} {oc_is_integer : Value} {od_is_integer : Option Addr} {an_is_integer : Option Addr} {sl_is_integer : Array (Option Value)} {kV_is_integer : Value} {dc_is_integer : Value} {pm_is_integer : Value} {cd_is_integer : Value} {ct_is_integer : Value} {f_is_integer : Addr} {oc_is_between : Value} {od_is_between : Option Addr} {an_is_between : Option Addr} {sl_is_between : Array (Option Value)} {kV_is_between : Value} {dc_is_between : Value} {pm_is_between : Value} {cd_is_between : Value} {ct_is_between : Value} {f_is_between : Addr} {oc_check_count : Value} {od_check_count : Option Addr} {an_check_count : Option Addr} {sl_check_count : Array (Option Value)} {kV_check_count : Value} {dc_check_count : Value} {pm_check_count : Value} {cd_check_count : Value} {ct_check_count : Value} {f_check_count : Addr} {oc_round_plan : Value} {od_round_plan : Option Addr} {an_round_plan : Option Addr} {sl_round_plan : Array (Option Value)} {dc_round_plan : Value} {pm_round_plan : Value} {cd_round_plan : Value} {ct_round_plan : Value} {f_round_plan : Addr} {D_round_plan : Addr} {oc_is_free : Value} {od_is_free : Option Addr} {an_is_free : Option Addr} {sl_is_free : Array (Option Value)} {kV_is_free : Value} {dc_is_free : Value} {pm_is_free : Value} {cd_is_free : Value} {ct_is_free : Value} {f_is_free : Addr} {oc_least_period : Value} {od_least_period : Option Addr} {an_least_period : Option Addr} {sl_least_period : Array (Option Value)} {kV_least_period : Value} {dc_least_period : Value} {pm_least_period : Value} {cd_least_period : Value} {ct_least_period : Value} {f_least_period : Addr} {oc_everybody : Value} {od_everybody : Option Addr} {an_everybody : Option Addr} {sl_everybody : Array (Option Value)} {kV_everybody : Value} {dc_everybody : Value} {pm_everybody : Value} {cd_everybody : Value} {ct_everybody : Value} {f_everybody : Addr} {oc_Machine_init : Value} {od_Machine_init : Option Addr} {an_Machine_init : Option Addr} {sl_Machine_init : Array (Option Value)} {kV_Machine_init : Value} {dc_Machine_init : Value} {pm_Machine_init : Value} {cd_Machine_init : Value} {ct_Machine_init : Value} {f_Machine_init : Addr} {oc__law_source : Value} {od__law_source : Option Addr} {an__law_source : Option Addr} {sl__law_source : Array (Option Value)} {kV__law_source : Value} {dc__law_source : Value} {pm__law_source : Value} {cd__law_source : Value} {ct__law_source : Value} {f__law_source : Addr} {oc__law_draw : Value} {od__law_draw : Option Addr} {an__law_draw : Option Addr} {sl__law_draw : Array (Option Value)} {kV__law_draw : Value} {dc__law_draw : Value} {pm__law_draw : Value} {cd__law_draw : Value} {ct__law_draw : Value} {f__law_draw : Addr} {oc__law_wide : Value} {od__law_wide : Option Addr} {an__law_wide : Option Addr} {sl__law_wide : Array (Option Value)} {kV__law_wide : Value} {dc__law_wide : Value} {pm__law_wide : Value} {cd__law_wide : Value} {ct__law_wide : Value} {f__law_wide : Addr} {oc__law_numbers : Value} {od__law_numbers : Option Addr} {an__law_numbers : Option Addr} {sl__law_numbers : Array (Option Value)} {kV__law_numbers : Value} {dc__law_numbers : Value} {pm__law_numbers : Value} {cd__law_numbers : Value} {ct__law_numbers : Value} {f__law_numbers : Addr} {oc__law_integer : Value} {od__law_integer : Option Addr} {an__law_integer : Option Addr} {sl__law_integer : Array (Option Value)} {kV__law_integer : Value} {dc__law_integer : Value} {pm__law_integer : Value} {cd__law_integer : Value} {ct__law_integer : Value} {f__law_integer : Addr} {oc__law_same : Value} {od__law_same : Option Addr} {an__law_same : Option Addr} {sl__law_same : Array (Option Value)} {kV__law_same : Value} {dc__law_same : Value} {pm__law_same : Value} {cd__law_same : Value} {ct__law_same : Value} {f__law_same : Addr} {oc__law_rounds : Value} {od__law_rounds : Option Addr} {an__law_rounds : Option Addr} {sl__law_rounds : Array (Option Value)} {kV__law_rounds : Value} {dc__law_rounds : Value} {pm__law_rounds : Value} {cd__law_rounds : Value} {ct__law_rounds : Value} {f__law_rounds : Addr} {oc__law_deep : Value} {od__law_deep : Option Addr} {an__law_deep : Option Addr} {sl__law_deep : Array (Option Value)} {kV__law_deep : Value} {dc__law_deep : Value} {pm__law_deep : Value} {cd__law_deep : Value} {ct__law_deep : Value} {f__law_deep : Addr} {oc__law_answer : Value} {od__law_answer : Option Addr} {an__law_answer : Option Addr} {sl__law_answer : Array (Option Value)} {kV__law_answer : Value} {dc__law_answer : Value} {pm__law_answer : Value} {cd__law_answer : Value} {ct__law_answer : Value} {f__law_answer : Addr} {oc__law_refused : Value} {od__law_refused : Option Addr} {an__law_refused : Option Addr} {sl__law_refused : Array (Option Value)} {kV__law_refused : Value} {dc__law_refused : Value} {pm__law_refused : Value} {cd__law_refused : Value} {ct__law_refused : Value} {f__law_refused : Addr} {oc_law : Value} {od_law : Option Addr} {an_law : Option Addr} {sl_law : Array (Option Value)} {kV_law : Value} {dc_law : Value} {pm_law : Value} {cd_law : Value} {ct_law : Value} {f_law : Addr} {c_InvalidCount : Addr} {c_InvalidTime : Addr} {t_MOST_SHARING : Tok} {t_LONGEST_PERIOD : Tok} {t_GREATEST_PART : Tok}
    (H_g_Machine : PySem.W.nsIn K mainGlobals "Machine" = some (some (.ref c_Machine)))
    (H_a_is_integer : PySem.W.nsIn K mainGlobals "is_integer" = some (some (.ref f_is_integer)))
    (H_l_is_integer : K.lookup f_is_integer = some ⟨oc_is_integer, od_is_integer, .func (PySem.W.fnOf "is_integer" "is_integer" (defArgs s_is_integer) (defBody s_is_integer) (defScope s_is_integer) .none kV_is_integer dc_is_integer pm_is_integer an_is_integer cd_is_integer ct_is_integer), sl_is_integer⟩)
    (H_c_is_integer : PySem.W.codeIn K cd_is_integer "is_integer" = true)
    (H_k_is_integer : PySem.W.keepIn K (.ref f_is_integer) = true)
    (H_a_is_between : PySem.W.nsIn K mainGlobals "is_between" = some (some (.ref f_is_between)))
    (H_l_is_between : K.lookup f_is_between = some ⟨oc_is_between, od_is_between, .func (PySem.W.fnOf "is_between" "is_between" (defArgs s_is_between) (defBody s_is_between) (defScope s_is_between) .none kV_is_between dc_is_between pm_is_between an_is_between cd_is_between ct_is_between), sl_is_between⟩)
    (H_c_is_between : PySem.W.codeIn K cd_is_between "is_between" = true)
    (H_k_is_between : PySem.W.keepIn K (.ref f_is_between) = true)
    (H_a_check_count : PySem.W.nsIn K mainGlobals "check_count" = some (some (.ref f_check_count)))
    (H_l_check_count : K.lookup f_check_count = some ⟨oc_check_count, od_check_count, .func (PySem.W.fnOf "check_count" "check_count" (defArgs s_check_count) (defBody s_check_count) (defScope s_check_count) .none kV_check_count dc_check_count pm_check_count an_check_count cd_check_count ct_check_count), sl_check_count⟩)
    (H_c_check_count : PySem.W.codeIn K cd_check_count "check_count" = true)
    (H_k_check_count : PySem.W.keepIn K (.ref f_check_count) = true)
    (H_a_round_plan : PySem.W.nsIn K mainGlobals "round_plan" = some (some (.ref f_round_plan)))
    (H_l_round_plan : K.lookup f_round_plan = some ⟨oc_round_plan, od_round_plan, .func (PySem.W.fnOf "round_plan" "round_plan" (defArgs s_round_plan) (defBody s_round_plan) (defScope s_round_plan) .none (.ref D_round_plan) dc_round_plan pm_round_plan an_round_plan cd_round_plan ct_round_plan), sl_round_plan⟩)
    (H_kw_round_plan_period : PySem.W.nsIn K D_round_plan "period" = some (some .none))
    (H_c_round_plan : PySem.W.codeIn K cd_round_plan "round_plan" = true)
    (H_k_round_plan : PySem.W.keepIn K (.ref f_round_plan) = true)
    (H_a_is_free : PySem.W.nsIn K mainGlobals "is_free" = some (some (.ref f_is_free)))
    (H_l_is_free : K.lookup f_is_free = some ⟨oc_is_free, od_is_free, .func (PySem.W.fnOf "is_free" "is_free" (defArgs s_is_free) (defBody s_is_free) (defScope s_is_free) .none kV_is_free dc_is_free pm_is_free an_is_free cd_is_free ct_is_free), sl_is_free⟩)
    (H_c_is_free : PySem.W.codeIn K cd_is_free "is_free" = true)
    (H_k_is_free : PySem.W.keepIn K (.ref f_is_free) = true)
    (H_a_least_period : PySem.W.nsIn K mainGlobals "least_period" = some (some (.ref f_least_period)))
    (H_l_least_period : K.lookup f_least_period = some ⟨oc_least_period, od_least_period, .func (PySem.W.fnOf "least_period" "least_period" (defArgs s_least_period) (defBody s_least_period) (defScope s_least_period) .none kV_least_period dc_least_period pm_least_period an_least_period cd_least_period ct_least_period), sl_least_period⟩)
    (H_c_least_period : PySem.W.codeIn K cd_least_period "least_period" = true)
    (H_k_least_period : PySem.W.keepIn K (.ref f_least_period) = true)
    (H_a_everybody : PySem.W.nsIn K mainGlobals "everybody" = some (some (.ref f_everybody)))
    (H_l_everybody : K.lookup f_everybody = some ⟨oc_everybody, od_everybody, .func (PySem.W.fnOf "everybody" "everybody" (defArgs s_everybody) (defBody s_everybody) (defScope s_everybody) .none kV_everybody dc_everybody pm_everybody an_everybody cd_everybody ct_everybody), sl_everybody⟩)
    (H_c_everybody : PySem.W.codeIn K cd_everybody "everybody" = true)
    (H_k_everybody : PySem.W.keepIn K (.ref f_everybody) = true)
    (H_a_Machine_init : PySem.W.findIn K (.ref c_Machine) "__init__" = some (some (.ref f_Machine_init)))
    (H_i_Machine_init : PySem.W.isFn K (.ref f_Machine_init) = true)
    (H_l_Machine_init : K.lookup f_Machine_init = some ⟨oc_Machine_init, od_Machine_init, .func (PySem.W.fnOf "__init__" "Machine.__init__" (defArgs s_Machine_init) (defBody s_Machine_init) (defScope s_Machine_init) .none kV_Machine_init dc_Machine_init pm_Machine_init an_Machine_init cd_Machine_init ct_Machine_init), sl_Machine_init⟩)
    (H_c_Machine_init : PySem.W.codeIn K cd_Machine_init "Machine.__init__" = true)
    (H_k_Machine_init : PySem.W.keepIn K (.ref f_Machine_init) = true)
    (H_a__law_source : PySem.W.nsIn K mainGlobals "_law_source" = some (some (.ref f__law_source)))
    (H_l__law_source : K.lookup f__law_source = some ⟨oc__law_source, od__law_source, .func (PySem.W.fnOf "_law_source" "_law_source" (defArgs s__law_source) (defBody s__law_source) (defScope s__law_source) .none kV__law_source dc__law_source pm__law_source an__law_source cd__law_source ct__law_source), sl__law_source⟩)
    (H_c__law_source : PySem.W.codeIn K cd__law_source "_law_source" = true)
    (H_k__law_source : PySem.W.keepIn K (.ref f__law_source) = true)
    (H_a__law_draw : PySem.W.nsIn K mainGlobals "_law_draw" = some (some (.ref f__law_draw)))
    (H_l__law_draw : K.lookup f__law_draw = some ⟨oc__law_draw, od__law_draw, .func (PySem.W.fnOf "_law_draw" "_law_draw" (defArgs s__law_draw) (defBody s__law_draw) (defScope s__law_draw) .none kV__law_draw dc__law_draw pm__law_draw an__law_draw cd__law_draw ct__law_draw), sl__law_draw⟩)
    (H_c__law_draw : PySem.W.codeIn K cd__law_draw "_law_draw" = true)
    (H_k__law_draw : PySem.W.keepIn K (.ref f__law_draw) = true)
    (H_a__law_wide : PySem.W.nsIn K mainGlobals "_law_wide" = some (some (.ref f__law_wide)))
    (H_l__law_wide : K.lookup f__law_wide = some ⟨oc__law_wide, od__law_wide, .func (PySem.W.fnOf "_law_wide" "_law_wide" (defArgs s__law_wide) (defBody s__law_wide) (defScope s__law_wide) .none kV__law_wide dc__law_wide pm__law_wide an__law_wide cd__law_wide ct__law_wide), sl__law_wide⟩)
    (H_c__law_wide : PySem.W.codeIn K cd__law_wide "_law_wide" = true)
    (H_k__law_wide : PySem.W.keepIn K (.ref f__law_wide) = true)
    (H_a__law_numbers : PySem.W.nsIn K mainGlobals "_law_numbers" = some (some (.ref f__law_numbers)))
    (H_l__law_numbers : K.lookup f__law_numbers = some ⟨oc__law_numbers, od__law_numbers, .func (PySem.W.fnOf "_law_numbers" "_law_numbers" (defArgs s__law_numbers) (defBody s__law_numbers) (defScope s__law_numbers) .none kV__law_numbers dc__law_numbers pm__law_numbers an__law_numbers cd__law_numbers ct__law_numbers), sl__law_numbers⟩)
    (H_c__law_numbers : PySem.W.codeIn K cd__law_numbers "_law_numbers" = true)
    (H_k__law_numbers : PySem.W.keepIn K (.ref f__law_numbers) = true)
    (H_a__law_integer : PySem.W.nsIn K mainGlobals "_law_integer" = some (some (.ref f__law_integer)))
    (H_l__law_integer : K.lookup f__law_integer = some ⟨oc__law_integer, od__law_integer, .func (PySem.W.fnOf "_law_integer" "_law_integer" (defArgs s__law_integer) (defBody s__law_integer) (defScope s__law_integer) .none kV__law_integer dc__law_integer pm__law_integer an__law_integer cd__law_integer ct__law_integer), sl__law_integer⟩)
    (H_c__law_integer : PySem.W.codeIn K cd__law_integer "_law_integer" = true)
    (H_k__law_integer : PySem.W.keepIn K (.ref f__law_integer) = true)
    (H_a__law_same : PySem.W.nsIn K mainGlobals "_law_same" = some (some (.ref f__law_same)))
    (H_l__law_same : K.lookup f__law_same = some ⟨oc__law_same, od__law_same, .func (PySem.W.fnOf "_law_same" "_law_same" (defArgs s__law_same) (defBody s__law_same) (defScope s__law_same) .none kV__law_same dc__law_same pm__law_same an__law_same cd__law_same ct__law_same), sl__law_same⟩)
    (H_c__law_same : PySem.W.codeIn K cd__law_same "_law_same" = true)
    (H_k__law_same : PySem.W.keepIn K (.ref f__law_same) = true)
    (H_a__law_rounds : PySem.W.nsIn K mainGlobals "_law_rounds" = some (some (.ref f__law_rounds)))
    (H_l__law_rounds : K.lookup f__law_rounds = some ⟨oc__law_rounds, od__law_rounds, .func (PySem.W.fnOf "_law_rounds" "_law_rounds" (defArgs s__law_rounds) (defBody s__law_rounds) (defScope s__law_rounds) .none kV__law_rounds dc__law_rounds pm__law_rounds an__law_rounds cd__law_rounds ct__law_rounds), sl__law_rounds⟩)
    (H_c__law_rounds : PySem.W.codeIn K cd__law_rounds "_law_rounds" = true)
    (H_k__law_rounds : PySem.W.keepIn K (.ref f__law_rounds) = true)
    (H_a__law_deep : PySem.W.nsIn K mainGlobals "_law_deep" = some (some (.ref f__law_deep)))
    (H_l__law_deep : K.lookup f__law_deep = some ⟨oc__law_deep, od__law_deep, .func (PySem.W.fnOf "_law_deep" "_law_deep" (defArgs s__law_deep) (defBody s__law_deep) (defScope s__law_deep) .none kV__law_deep dc__law_deep pm__law_deep an__law_deep cd__law_deep ct__law_deep), sl__law_deep⟩)
    (H_c__law_deep : PySem.W.codeIn K cd__law_deep "_law_deep" = true)
    (H_k__law_deep : PySem.W.keepIn K (.ref f__law_deep) = true)
    (H_a__law_answer : PySem.W.nsIn K mainGlobals "_law_answer" = some (some (.ref f__law_answer)))
    (H_l__law_answer : K.lookup f__law_answer = some ⟨oc__law_answer, od__law_answer, .func (PySem.W.fnOf "_law_answer" "_law_answer" (defArgs s__law_answer) (defBody s__law_answer) (defScope s__law_answer) .none kV__law_answer dc__law_answer pm__law_answer an__law_answer cd__law_answer ct__law_answer), sl__law_answer⟩)
    (H_c__law_answer : PySem.W.codeIn K cd__law_answer "_law_answer" = true)
    (H_k__law_answer : PySem.W.keepIn K (.ref f__law_answer) = true)
    (H_a__law_refused : PySem.W.nsIn K mainGlobals "_law_refused" = some (some (.ref f__law_refused)))
    (H_l__law_refused : K.lookup f__law_refused = some ⟨oc__law_refused, od__law_refused, .func (PySem.W.fnOf "_law_refused" "_law_refused" (defArgs s__law_refused) (defBody s__law_refused) (defScope s__law_refused) .none kV__law_refused dc__law_refused pm__law_refused an__law_refused cd__law_refused ct__law_refused), sl__law_refused⟩)
    (H_c__law_refused : PySem.W.codeIn K cd__law_refused "_law_refused" = true)
    (H_k__law_refused : PySem.W.keepIn K (.ref f__law_refused) = true)
    (H_a_law : PySem.W.nsIn K mainGlobals "law" = some (some (.ref f_law)))
    (H_l_law : K.lookup f_law = some ⟨oc_law, od_law, .func (PySem.W.fnOf "law" "law" (defArgs s_law) (defBody s_law) (defScope s_law) .none kV_law dc_law pm_law an_law cd_law ct_law), sl_law⟩)
    (H_c_law : PySem.W.codeIn K cd_law "law" = true)
    (H_k_law : PySem.W.keepIn K (.ref f_law) = true)
    (H_pg_Machine : PySem.W.plainGet K c_Machine Str.empty = true)
    (H_hd_Machine : PySem.W.hasDictIn K c_Machine = true)
    (H_po_Machine : PySem.W.plainOver K c_Machine = true)
    (H_sa_Machine : PySem.W.findIn K (.ref c_Machine) "__setattr__" = some (some (.builtin "object.__setattr__")))
    (H_mk_Machine : PySem.W.makesIn K c_Machine = true)
    (H_kc_Machine : PySem.W.keepIn K (.ref c_Machine) = true)
    (H_nF_Machine_o : PySem.W.findIn K (.ref c_Machine) "o" = some none)
    (H_nF_Machine_l : PySem.W.findIn K (.ref c_Machine) "l" = some none)
    (H_nF_Machine_g : PySem.W.findIn K (.ref c_Machine) "g" = some none)
    (H_nF_Machine_letter : PySem.W.findIn K (.ref c_Machine) "letter" = some none)
    (H_nF_Machine_gap : PySem.W.findIn K (.ref c_Machine) "gap" = some none)
    (H_g_InvalidCount : PySem.W.nsIn K mainGlobals "InvalidCount" = some (some (.ref c_InvalidCount)))
    (H_k_InvalidCount : PySem.W.keepIn K (.ref c_InvalidCount) = true)
    (H_e_InvalidCount : PySem.W.subIn K (.ref c_InvalidCount) (.type "BaseException") = some true)
    (H_t_InvalidCount : PySem.W.typeIn K (.ref c_InvalidCount) = some (.type "type"))
    (H_I_InvalidCount : PySem.W.isClsIn K c_InvalidCount = true)
    (H_S_InvalidCount : PySem.W.subIn K (.ref c_InvalidCount) (.ref c_InvalidCount) = some true)
    (H_q_InvalidCount : PySem.W.excIn K c_InvalidCount PySem.MyX.exM "Exception.__new__" = true)
    (H_g_InvalidTime : PySem.W.nsIn K mainGlobals "InvalidTime" = some (some (.ref c_InvalidTime)))
    (H_k_InvalidTime : PySem.W.keepIn K (.ref c_InvalidTime) = true)
    (H_e_InvalidTime : PySem.W.subIn K (.ref c_InvalidTime) (.type "BaseException") = some true)
    (H_t_InvalidTime : PySem.W.typeIn K (.ref c_InvalidTime) = some (.type "type"))
    (H_I_InvalidTime : PySem.W.isClsIn K c_InvalidTime = true)
    (H_S_InvalidTime : PySem.W.subIn K (.ref c_InvalidTime) (.ref c_InvalidTime) = some true)
    (H_q_InvalidTime : PySem.W.excIn K c_InvalidTime PySem.MyX.exM "Exception.__new__" = true)
    (H_sn_InvalidTime_InvalidCount : PySem.W.subIn K (.ref c_InvalidTime) (.ref c_InvalidCount) = some false)
    (H_n_bool : PySem.W.nsIn K mainGlobals "bool" = some none)
    (H_n_int : PySem.W.nsIn K mainGlobals "int" = some none)
    (H_n_isinstance : PySem.W.nsIn K mainGlobals "isinstance" = some none)
    (H_n_len : PySem.W.nsIn K mainGlobals "len" = some none)
    (H_n_list : PySem.W.nsIn K mainGlobals "list" = some none)
    (H_n_max : PySem.W.nsIn K mainGlobals "max" = some none)
    (H_n_min : PySem.W.nsIn K mainGlobals "min" = some none)
    (H_n_range : PySem.W.nsIn K mainGlobals "range" = some none)
    (H_n_sorted : PySem.W.nsIn K mainGlobals "sorted" = some none)
    (H_n_str : PySem.W.nsIn K mainGlobals "str" = some none)
    (H_n_tuple : PySem.W.nsIn K mainGlobals "tuple" = some none)
    (H_x_MOST_SHARING : PySem.W.nsIn K mainGlobals "MOST_SHARING" = some (some (.int 40 t_MOST_SHARING)))
    (H_x_LONGEST_PERIOD : PySem.W.nsIn K mainGlobals "LONGEST_PERIOD" = some (some (.int 10000000000 t_LONGEST_PERIOD)))
    (H_x_GREATEST_PART : PySem.W.nsIn K mainGlobals "GREATEST_PART" = some (some (.int 1000000000 t_GREATEST_PART)))
    (H_ca_Machine : PySem.W.findIn K (.ref c_Machine) "__class__" = some (some (.builtin "object.__class__")))
    (H_ct_Machine : PySem.W.takesIn K (.builtin "object.__class__") = some true)
    (H_cg_Machine : PySem.W.specialIn K (.builtin "object.__class__") "__get__" = some (some (.builtin "getset_descriptor.__get__")))
    (H_co_Machine : PySem.W.mroIn K c_Machine (.type "object") = some true)
    (H_ic_Machine : PySem.W.isClsIn K c_Machine = true)
    (H_tc_Machine : PySem.W.typeIn K (.ref c_Machine) = some (.type "type"))
    (H_su_int_Machine : PySem.W.subIn K (.ref c_Machine) (.type "int") = some false)
    (H_su_bool_Machine : PySem.W.subIn K (.ref c_Machine) (.type "bool") = some false)
    : ∃ fd : FuncData, (∀ (s : Shared) (v : Value), BindsTo s fd ⟨[v], []⟩ [("_law_script", v)]) ∧ ∀ base : Heap, K.In base → base.Ns mainGlobals mg → FnOk P w K mg base CX0 10 fa fd ["_law_script"] (spLaw K) := by
  have e := hfa.symm.trans (PySem.W.mg_of X G H_a_law)
  cases e
  let a : Adr := { a_is_integer := f_is_integer, d_is_integer := PySem.W.fnOf "is_integer" "is_integer" (defArgs s_is_integer) (defBody s_is_integer) (defScope s_is_integer) .none kV_is_integer dc_is_integer pm_is_integer an_is_integer cd_is_integer ct_is_integer, a_is_between := f_is_between, d_is_between := PySem.W.fnOf "is_between" "is_between" (defArgs s_is_between) (defBody s_is_between) (defScope s_is_between) .none kV_is_between dc_is_between pm_is_between an_is_between cd_is_between ct_is_between, a_check_count := f_check_count, d_check_count := PySem.W.fnOf "check_count" "check_count" (defArgs s_check_count) (defBody s_check_count) (defScope s_check_count) .none kV_check_count dc_check_count pm_check_count an_check_count cd_check_count ct_check_count, a_round_plan := f_round_plan, d_round_plan := PySem.W.fnOf "round_plan" "round_plan" (defArgs s_round_plan) (defBody s_round_plan) (defScope s_round_plan) .none (.ref D_round_plan) dc_round_plan pm_round_plan an_round_plan cd_round_plan ct_round_plan, a_is_free := f_is_free, d_is_free := PySem.W.fnOf "is_free" "is_free" (defArgs s_is_free) (defBody s_is_free) (defScope s_is_free) .none kV_is_free dc_is_free pm_is_free an_is_free cd_is_free ct_is_free, a_least_period := f_least_period, d_least_period := PySem.W.fnOf "least_period" "least_period" (defArgs s_least_period) (defBody s_least_period) (defScope s_least_period) .none kV_least_period dc_least_period pm_least_period an_least_period cd_least_period ct_least_period, a_everybody := f_everybody, d_everybody := PySem.W.fnOf "everybody" "everybody" (defArgs s_everybody) (defBody s_everybody) (defScope s_everybody) .none kV_everybody dc_everybody pm_everybody an_everybody cd_everybody ct_everybody, a_Machine_init := f_Machine_init, d_Machine_init := PySem.W.fnOf "__init__" "Machine.__init__" (defArgs s_Machine_init) (defBody s_Machine_init) (defScope s_Machine_init) .none kV_Machine_init dc_Machine_init pm_Machine_init an_Machine_init cd_Machine_init ct_Machine_init, a__law_source := f__law_source, d__law_source := PySem.W.fnOf "_law_source" "_law_source" (defArgs s__law_source) (defBody s__law_source) (defScope s__law_source) .none kV__law_source dc__law_source pm__law_source an__law_source cd__law_source ct__law_source, a__law_draw := f__law_draw, d__law_draw := PySem.W.fnOf "_law_draw" "_law_draw" (defArgs s__law_draw) (defBody s__law_draw) (defScope s__law_draw) .none kV__law_draw dc__law_draw pm__law_draw an__law_draw cd__law_draw ct__law_draw, a__law_wide := f__law_wide, d__law_wide := PySem.W.fnOf "_law_wide" "_law_wide" (defArgs s__law_wide) (defBody s__law_wide) (defScope s__law_wide) .none kV__law_wide dc__law_wide pm__law_wide an__law_wide cd__law_wide ct__law_wide, a__law_numbers := f__law_numbers, d__law_numbers := PySem.W.fnOf "_law_numbers" "_law_numbers" (defArgs s__law_numbers) (defBody s__law_numbers) (defScope s__law_numbers) .none kV__law_numbers dc__law_numbers pm__law_numbers an__law_numbers cd__law_numbers ct__law_numbers, a__law_integer := f__law_integer, d__law_integer := PySem.W.fnOf "_law_integer" "_law_integer" (defArgs s__law_integer) (defBody s__law_integer) (defScope s__law_integer) .none kV__law_integer dc__law_integer pm__law_integer an__law_integer cd__law_integer ct__law_integer, a__law_same := f__law_same, d__law_same := PySem.W.fnOf "_law_same" "_law_same" (defArgs s__law_same) (defBody s__law_same) (defScope s__law_same) .none kV__law_same dc__law_same pm__law_same an__law_same cd__law_same ct__law_same, a__law_rounds := f__law_rounds, d__law_rounds := PySem.W.fnOf "_law_rounds" "_law_rounds" (defArgs s__law_rounds) (defBody s__law_rounds) (defScope s__law_rounds) .none kV__law_rounds dc__law_rounds pm__law_rounds an__law_rounds cd__law_rounds ct__law_rounds, a__law_deep := f__law_deep, d__law_deep := PySem.W.fnOf "_law_deep" "_law_deep" (defArgs s__law_deep) (defBody s__law_deep) (defScope s__law_deep) .none kV__law_deep dc__law_deep pm__law_deep an__law_deep cd__law_deep ct__law_deep, a__law_answer := f__law_answer, d__law_answer := PySem.W.fnOf "_law_answer" "_law_answer" (defArgs s__law_answer) (defBody s__law_answer) (defScope s__law_answer) .none kV__law_answer dc__law_answer pm__law_answer an__law_answer cd__law_answer ct__law_answer, a__law_refused := f__law_refused, d__law_refused := PySem.W.fnOf "_law_refused" "_law_refused" (defArgs s__law_refused) (defBody s__law_refused) (defScope s__law_refused) .none kV__law_refused dc__law_refused pm__law_refused an__law_refused cd__law_refused ct__law_refused, a_law := fa, d_law := PySem.W.fnOf "law" "law" (defArgs s_law) (defBody s_law) (defScope s_law) .none kV_law dc_law pm_law an_law cd_law ct_law, c_Machine := c_Machine, c_InvalidCount := c_InvalidCount, c_InvalidTime := c_InvalidTime }
  have F_is_integer := fun_mk (st := s_is_integer) H_l_is_integer H_c_is_integer H_k_is_integer
  have F_is_between := fun_mk (st := s_is_between) H_l_is_between H_c_is_between H_k_is_between
  have F_check_count := fun_mk (st := s_check_count) H_l_check_count H_c_check_count H_k_check_count
  have F_round_plan : FunD K "round_plan" "round_plan" (defArgs s_round_plan) (defBody s_round_plan) (defScope s_round_plan) [] [("period", .non)] f_round_plan (PySem.W.fnOf "round_plan" "round_plan" (defArgs s_round_plan) (defBody s_round_plan) (defScope s_round_plan) .none (.ref D_round_plan) dc_round_plan pm_round_plan an_round_plan cd_round_plan ct_round_plan) :=
    ⟨⟨_, _, .none, .ref D_round_plan, _, _, _, _, _, _, rfl, H_l_round_plan, H_c_round_plan, .inl ⟨rfl, rfl⟩, .inr ⟨D_round_plan, rfl, fun q hq => by
      simp only [List.mem_cons, List.not_mem_nil, or_false] at hq
      rcases hq with rfl
      · exact ⟨.none, H_kw_round_plan_period, rfl⟩
      ⟩⟩, H_k_round_plan⟩
  have F_is_free := fun_mk (st := s_is_free) H_l_is_free H_c_is_free H_k_is_free
  have F_least_period := fun_mk (st := s_least_period) H_l_least_period H_c_least_period H_k_least_period
  have F_everybody := fun_mk (st := s_everybody) H_l_everybody H_c_everybody H_k_everybody
  have F_Machine_init := fun_mk (st := s_Machine_init) H_l_Machine_init H_c_Machine_init H_k_Machine_init
  have F__law_source := fun_mk (st := s__law_source) H_l__law_source H_c__law_source H_k__law_source
  have F__law_draw := fun_mk (st := s__law_draw) H_l__law_draw H_c__law_draw H_k__law_draw
  have F__law_wide := fun_mk (st := s__law_wide) H_l__law_wide H_c__law_wide H_k__law_wide
  have F__law_numbers := fun_mk (st := s__law_numbers) H_l__law_numbers H_c__law_numbers H_k__law_numbers
  have F__law_integer := fun_mk (st := s__law_integer) H_l__law_integer H_c__law_integer H_k__law_integer
  have F__law_same := fun_mk (st := s__law_same) H_l__law_same H_c__law_same H_k__law_same
  have F__law_rounds := fun_mk (st := s__law_rounds) H_l__law_rounds H_c__law_rounds H_k__law_rounds
  have F__law_deep := fun_mk (st := s__law_deep) H_l__law_deep H_c__law_deep H_k__law_deep
  have F__law_answer := fun_mk (st := s__law_answer) H_l__law_answer H_c__law_answer H_k__law_answer
  have F__law_refused := fun_mk (st := s__law_refused) H_l__law_refused H_c__law_refused H_k__law_refused
  have F_law := fun_mk (st := s_law) H_l_law H_c_law H_k_law
  have T : Txt K mg a := {
    F_is_integer := F_is_integer,
    b_is_integer := F_is_integer.binds (ps := ["thing"]) fun _ _ _ _ _ _ us hl => match us, hl with | [_], _ => rfl,
    g_is_integer := PySem.W.mg_of X G H_a_is_integer,
    F_is_between := F_is_between,
    b_is_between := F_is_between.binds (ps := ["thing", "low", "high"]) fun _ _ _ _ _ _ us hl => match us, hl with | [_, _, _], _ => rfl,
    g_is_between := PySem.W.mg_of X G H_a_is_between,
    F_check_count := F_check_count,
    b_check_count := F_check_count.binds (ps := ["count", "low", "high"]) fun _ _ _ _ _ _ us hl => match us, hl with | [_, _, _], _ => rfl,
    g_check_count := PySem.W.mg_of X G H_a_check_count,
    F_round_plan := F_round_plan,
    g_round_plan := PySem.W.mg_of X G H_a_round_plan,
    F_is_free := F_is_free,
    b_is_free := F_is_free.binds (ps := ["machine", "n", "period"]) fun _ _ _ _ _ _ us hl => match us, hl with | [_, _, _], _ => rfl,
    g_is_free := PySem.W.mg_of X G H_a_is_free,
    F_least_period := F_least_period,
    b_least_period := F_least_period.binds (ps := ["machine", "n"]) fun _ _ _ _ _ _ us hl => match us, hl with | [_, _], _ => rfl,
    g_least_period := PySem.W.mg_of X G H_a_least_period,
    F_everybody := F_everybody,
    b_everybody := F_everybody.binds (ps := ["machine", "n"]) fun _ _ _ _ _ _ us hl => match us, hl with | [_, _], _ => rfl,
    g_everybody := PySem.W.mg_of X G H_a_everybody,
    F_Machine_init := F_Machine_init,
    b_Machine_init := F_Machine_init.binds (ps := ["self", "o", "l", "g"]) fun _ _ _ _ _ _ us hl => match us, hl with | [_, _, _, _], _ => rfl,
    mk_Machine := ⟨H_mk_Machine, H_a_Machine_init, H_i_Machine_init, H_kc_Machine⟩,
    F__law_source := F__law_source,
    b__law_source := F__law_source.binds (ps := ["_law_script"]) fun _ _ _ _ _ _ us hl => match us, hl with | [_], _ => rfl,
    g__law_source := PySem.W.mg_of X G H_a__law_source,
    F__law_draw := F__law_draw,
    b__law_draw := F__law_draw.binds (ps := ["_law_source_here", "_law_limit"]) fun _ _ _ _ _ _ us hl => match us, hl with | [_, _], _ => rfl,
    g__law_draw := PySem.W.mg_of X G H_a__law_draw,
    F__law_wide := F__law_wide,
    b__law_wide := F__law_wide.binds (ps := ["_law_source_here", "_law_limit"]) fun _ _ _ _ _ _ us hl => match us, hl with | [_, _], _ => rfl,
    g__law_wide := PySem.W.mg_of X G H_a__law_wide,
    F__law_numbers := F__law_numbers,
    b__law_numbers := F__law_numbers.binds (ps := ["_law_source_here"]) fun _ _ _ _ _ _ us hl => match us, hl with | [_], _ => rfl,
    g__law_numbers := PySem.W.mg_of X G H_a__law_numbers,
    F__law_integer := F__law_integer,
    b__law_integer := F__law_integer.binds (ps := ["_law_thing"]) fun _ _ _ _ _ _ us hl => match us, hl with | [_], _ => rfl,
    g__law_integer := PySem.W.mg_of X G H_a__law_integer,
    F__law_same := F__law_same,
    b__law_same := F__law_same.binds (ps := ["_law_told", "_law_due"]) fun _ _ _ _ _ _ us hl => match us, hl with | [_, _], _ => rfl,
    g__law_same := PySem.W.mg_of X G H_a__law_same,
    F__law_rounds := F__law_rounds,
    b__law_rounds := F__law_rounds.binds (ps := ["_law_n", "_law_period"]) fun _ _ _ _ _ _ us hl => match us, hl with | [_, _], _ => rfl,
    g__law_rounds := PySem.W.mg_of X G H_a__law_rounds,
    F__law_deep := F__law_deep,
    b__law_deep := F__law_deep.binds (ps := []) fun _ _ _ _ _ _ us hl => match us, hl with | [], _ => rfl,
    g__law_deep := PySem.W.mg_of X G H_a__law_deep,
    F__law_answer := F__law_answer,
    b__law_answer := F__law_answer.binds (ps := ["_law_which", "_law_machine", "_law_n", "_law_period"]) fun _ _ _ _ _ _ us hl => match us, hl with | [_, _, _, _], _ => rfl,
    g__law_answer := PySem.W.mg_of X G H_a__law_answer,
    F__law_refused := F__law_refused,
    b__law_refused := F__law_refused.binds (ps := ["_law_source_here", "_law_machine", "_law_n"]) fun _ _ _ _ _ _ us hl => match us, hl with | [_, _, _], _ => rfl,
    g__law_refused := PySem.W.mg_of X G H_a__law_refused,
    F_law := F_law,
    b_law := F_law.binds (ps := ["_law_script"]) fun _ _ _ _ _ _ us hl => match us, hl with | [_], _ => rfl,
    g_law := PySem.W.mg_of X G H_a_law,
    g_Machine := PySem.W.mg_of X G H_g_Machine,
    cl_Machine := ⟨H_pg_Machine, H_hd_Machine, H_po_Machine, H_sa_Machine⟩,
    nF_Machine_o := H_nF_Machine_o,
    nF_Machine_l := H_nF_Machine_l,
    nF_Machine_g := H_nF_Machine_g,
    nF_Machine_letter := H_nF_Machine_letter,
    nF_Machine_gap := H_nF_Machine_gap,
    n_bool := PySem.W.mg_none_of X G H_n_bool,
    n_int := PySem.W.mg_none_of X G H_n_int,
    n_isinstance := PySem.W.mg_none_of X G H_n_isinstance,
    n_len := PySem.W.mg_none_of X G H_n_len,
    n_list := PySem.W.mg_none_of X G H_n_list,
    n_max := PySem.W.mg_none_of X G H_n_max,
    n_min := PySem.W.mg_none_of X G H_n_min,
    n_range := PySem.W.mg_none_of X G H_n_range,
    n_sorted := PySem.W.mg_none_of X G H_n_sorted,
    n_str := PySem.W.mg_none_of X G H_n_str,
    n_tuple := PySem.W.mg_none_of X G H_n_tuple,
    g_MOST_SHARING := ⟨_, PySem.W.mg_of X G H_x_MOST_SHARING⟩,
    g_LONGEST_PERIOD := ⟨_, PySem.W.mg_of X G H_x_LONGEST_PERIOD⟩,
    g_GREATEST_PART := ⟨_, PySem.W.mg_of X G H_x_GREATEST_PART⟩,
    ca_Machine := H_ca_Machine,
    ct_Machine := H_ct_Machine,
    cg_Machine := H_cg_Machine,
    co_Machine := H_co_Machine,
    ic_Machine := H_ic_Machine,
    tc_Machine := H_tc_Machine,
    su_int_Machine := H_su_int_Machine,
    su_bool_Machine := H_su_bool_Machine,
    g_InvalidCount := PySem.W.mg_of X G H_g_InvalidCount,
    q_InvalidCount := H_q_InvalidCount,
    k_InvalidCount := H_k_InvalidCount,
    e_InvalidCount := H_e_InvalidCount,
    t_InvalidCount := H_t_InvalidCount,
    m_InvalidCount := exm_self H_e_InvalidCount H_I_InvalidCount H_t_InvalidCount H_S_InvalidCount,
    g_InvalidTime := PySem.W.mg_of X G H_g_InvalidTime,
    q_InvalidTime := H_q_InvalidTime,
    k_InvalidTime := H_k_InvalidTime,
    e_InvalidTime := H_e_InvalidTime,
    t_InvalidTime := H_t_InvalidTime,
    m_InvalidTime := exm_self H_e_InvalidTime H_I_InvalidTime H_t_InvalidTime H_S_InvalidTime,
    mn_InvalidTime_InvalidCount := exm_by H_e_InvalidCount H_I_InvalidCount H_t_InvalidCount H_sn_InvalidTime_InvalidCount }
  exact ⟨a.d_law, fun s v => .of_eq rfl, fun base _ _ => ok_law T⟩
theorem walk {l : PySem.W.OpenLaw} {q : Program} {loose : List Str} {XP : (Str → Option Value) → Heap → Prop} {YP : World → Heap → Prop} {d : DefRec} {K : Params → PySem.W.Frag} (hn : l.most = some 63) (hdf : d.params.defaults = [])
    (hY : ∀ (w : World) (h : Heap), YP w h → (K w.params).In h)
    (F : ∀ (w : World) (mg : Str → Option Value) (fa : Addr) (h : Heap), (K w.params).In h → h.Ns mainGlobals mg → mg d.name = some (.ref fa) →
      ∃ fd : FuncData, (∀ (s : Shared) (u : Value), BindsTo s fd ⟨[u], []⟩ [("_law_script", u)]) ∧ ∀ base : Heap, (K w.params).In base → base.Ns mainGlobals mg → FnOk l.prog w (K w.params) mg base CX0 10 fa fd ["_law_script"] (spLaw (K w.params))) :
    PySem.W.WalkO q loose XP YP l.row.toRowW d [] (fun f vs => PySem.call f vs) :=
  L2.walk_of (n := 63) (k := 10) (x := "_law_script") (CX := fun _ => CX0) (sp := fun w => spLaw (K w.params)) hn (by decide) hdf ⟨rfl, by decide, by decide⟩ hY F (fun _ _ a ns hl _ hS => ⟨a, ns, rfl, hS, hl, fun _ => rfl⟩) fun _ _ _ _ _ z => z
end My
open PySem PySem.W PyProof.Rows
set_option maxRecDepth 100000 in
set_option maxHeartbeats 0 in
theorem PySem.Challenge.cw_tellontree_k55_rounds_told_holds : PySem.Challenge.rw_tellontree_k55_rounds_told.Holds := by
  w_on; o_law; k_head; (case hw => w_witness2)
  k_fill
  refine My.walk (l := PySem.Challenge.rw_tellontree_k55_rounds_told) rfl rfl (fun w h Y => PySem.W.kIn_of Y) ?F
  case F =>
    intro w mg fa h KX G hmg
    refine' My.all_mk KX G hmg ?H_g_Machine ?H_a_is_integer ?H_l_is_integer ?H_c_is_integer ?H_k_is_integer ?H_a_is_between ?H_l_is_between ?H_c_is_between ?H_k_is_between ?H_a_check_count ?H_l_check_count ?H_c_check_count ?H_k_check_count ?H_a_round_plan ?H_l_round_plan ?H_kw_round_plan_period ?H_c_round_plan ?H_k_round_plan ?H_a_is_free ?H_l_is_free ?H_c_is_free ?H_k_is_free ?H_a_least_period ?H_l_least_period ?H_c_least_period ?H_k_least_period ?H_a_everybody ?H_l_everybody ?H_c_everybody ?H_k_everybody ?H_a_Machine_init ?H_i_Machine_init ?H_l_Machine_init ?H_c_Machine_init ?H_k_Machine_init ?H_a__law_source ?H_l__law_source ?H_c__law_source ?H_k__law_source ?H_a__law_draw ?H_l__law_draw ?H_c__law_draw ?H_k__law_draw ?H_a__law_wide ?H_l__law_wide ?H_c__law_wide ?H_k__law_wide ?H_a__law_numbers ?H_l__law_numbers ?H_c__law_numbers ?H_k__law_numbers ?H_a__law_integer ?H_l__law_integer ?H_c__law_integer ?H_k__law_integer ?H_a__law_same ?H_l__law_same ?H_c__law_same ?H_k__law_same ?H_a__law_rounds ?H_l__law_rounds ?H_c__law_rounds ?H_k__law_rounds ?H_a__law_deep ?H_l__law_deep ?H_c__law_deep ?H_k__law_deep ?H_a__law_answer ?H_l__law_answer ?H_c__law_answer ?H_k__law_answer ?H_a__law_refused ?H_l__law_refused ?H_c__law_refused ?H_k__law_refused ?H_a_law ?H_l_law ?H_c_law ?H_k_law ?H_pg_Machine ?H_hd_Machine ?H_po_Machine ?H_sa_Machine ?H_mk_Machine ?H_kc_Machine ?H_nF_Machine_o ?H_nF_Machine_l ?H_nF_Machine_g ?H_nF_Machine_letter ?H_nF_Machine_gap ?H_g_InvalidCount ?H_k_InvalidCount ?H_e_InvalidCount ?H_t_InvalidCount ?H_I_InvalidCount ?H_S_InvalidCount ?H_q_InvalidCount ?H_g_InvalidTime ?H_k_InvalidTime ?H_e_InvalidTime ?H_t_InvalidTime ?H_I_InvalidTime ?H_S_InvalidTime ?H_q_InvalidTime ?H_sn_InvalidTime_InvalidCount ?H_n_bool ?H_n_int ?H_n_isinstance ?H_n_len ?H_n_list ?H_n_max ?H_n_min ?H_n_range ?H_n_sorted ?H_n_str ?H_n_tuple ?H_x_MOST_SHARING ?H_x_LONGEST_PERIOD ?H_x_GREATEST_PART ?H_ca_Machine ?H_ct_Machine ?H_cg_Machine ?H_co_Machine ?H_ic_Machine ?H_tc_Machine ?H_su_int_Machine ?H_su_bool_Machine
    (case H_g_Machine => k_is)
    (case H_a_is_integer => k_is)
    (case H_l_is_integer => k_is)
    (case H_c_is_integer => k_is)
    (case H_k_is_integer => k_is)
    (case H_a_is_between => k_is)
    (case H_l_is_between => k_is)
    (case H_c_is_between => k_is)
    (case H_k_is_between => k_is)
    (case H_a_check_count => k_is)
    (case H_l_check_count => k_is)
    (case H_c_check_count => k_is)
    (case H_k_check_count => k_is)
    (case H_a_round_plan => k_is)
    (case H_l_round_plan => k_is)
    (case H_kw_round_plan_period => k_is)
    (case H_c_round_plan => k_is)
    (case H_k_round_plan => k_is)
    (case H_a_is_free => k_is)
    (case H_l_is_free => k_is)
    (case H_c_is_free => k_is)
    (case H_k_is_free => k_is)
    (case H_a_least_period => k_is)
    (case H_l_least_period => k_is)
    (case H_c_least_period => k_is)
    (case H_k_least_period => k_is)
    (case H_a_everybody => k_is)
    (case H_l_everybody => k_is)
    (case H_c_everybody => k_is)
    (case H_k_everybody => k_is)
    (case H_a_Machine_init => k_is)
    (case H_i_Machine_init => k_is)
    (case H_l_Machine_init => k_is)
    (case H_c_Machine_init => k_is)
    (case H_k_Machine_init => k_is)
    (case H_a__law_source => k_is)
    (case H_l__law_source => k_is)
    (case H_c__law_source => k_is)
    (case H_k__law_source => k_is)
    (case H_a__law_draw => k_is)
    (case H_l__law_draw => k_is)
    (case H_c__law_draw => k_is)
    (case H_k__law_draw => k_is)
    (case H_a__law_wide => k_is)
    (case H_l__law_wide => k_is)
    (case H_c__law_wide => k_is)
    (case H_k__law_wide => k_is)
    (case H_a__law_numbers => k_is)
    (case H_l__law_numbers => k_is)
    (case H_c__law_numbers => k_is)
    (case H_k__law_numbers => k_is)
    (case H_a__law_integer => k_is)
    (case H_l__law_integer => k_is)
    (case H_c__law_integer => k_is)
    (case H_k__law_integer => k_is)
    (case H_a__law_same => k_is)
    (case H_l__law_same => k_is)
    (case H_c__law_same => k_is)
    (case H_k__law_same => k_is)
    (case H_a__law_rounds => k_is)
    (case H_l__law_rounds => k_is)
    (case H_c__law_rounds => k_is)
    (case H_k__law_rounds => k_is)
    (case H_a__law_deep => k_is)
    (case H_l__law_deep => k_is)
    (case H_c__law_deep => k_is)
    (case H_k__law_deep => k_is)
    (case H_a__law_answer => k_is)
    (case H_l__law_answer => k_is)
    (case H_c__law_answer => k_is)
    (case H_k__law_answer => k_is)
    (case H_a__law_refused => k_is)
    (case H_l__law_refused => k_is)
    (case H_c__law_refused => k_is)
    (case H_k__law_refused => k_is)
    (case H_a_law => k_is)
    (case H_l_law => k_is)
    (case H_c_law => k_is)
    (case H_k_law => k_is)
    (case H_pg_Machine => k_is)
    (case H_hd_Machine => k_is)
    (case H_po_Machine => k_is)
    (case H_sa_Machine => k_is)
    (case H_mk_Machine => k_is)
    (case H_kc_Machine => k_is)
    (case H_nF_Machine_o => k_is)
    (case H_nF_Machine_l => k_is)
    (case H_nF_Machine_g => k_is)
    (case H_nF_Machine_letter => k_is)
    (case H_nF_Machine_gap => k_is)
    (case H_g_InvalidCount => k_is)
    (case H_k_InvalidCount => k_is)
    (case H_e_InvalidCount => k_is)
    (case H_t_InvalidCount => k_is)
    (case H_I_InvalidCount => k_is)
    (case H_S_InvalidCount => k_is)
    (case H_q_InvalidCount => k_exc)
    (case H_g_InvalidTime => k_is)
    (case H_k_InvalidTime => k_is)
    (case H_e_InvalidTime => k_is)
    (case H_t_InvalidTime => k_is)
    (case H_I_InvalidTime => k_is)
    (case H_S_InvalidTime => k_is)
    (case H_q_InvalidTime => k_exc)
    (case H_sn_InvalidTime_InvalidCount => k_is)
    (case H_n_bool => k_is)
    (case H_n_int => k_is)
    (case H_n_isinstance => k_is)
    (case H_n_len => k_is)
    (case H_n_list => k_is)
    (case H_n_max => k_is)
    (case H_n_min => k_is)
    (case H_n_range => k_is)
    (case H_n_sorted => k_is)
    (case H_n_str => k_is)
    (case H_n_tuple => k_is)
    (case H_x_MOST_SHARING => k_is)
    (case H_x_LONGEST_PERIOD => k_is)
    (case H_x_GREATEST_PART => k_is)
    (case H_ca_Machine => k_is)
    (case H_ct_Machine => k_is)
    (case H_cg_Machine => k_is)
    (case H_co_Machine => k_is)
    (case H_ic_Machine => k_is)
    (case H_tc_Machine => k_is)
    (case H_su_int_Machine => k_is)
    (case H_su_bool_Machine => k_is)
