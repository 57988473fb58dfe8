import PyProof.Rows.All
import Wide.All
import OpenK.AllK
import Wide.FinOn
import HandS.Base
import HandS.Call
import HandS.List
import HandS.Comp
import HandS.Iter
import HandS.Ends
import HandS.Words
import HandS.WordsList
import HandS.IsInst
import HandS.Wide
import HandS.Style
import HandS.ClsMeth
import HandS.Defaults
import HandS.MakeKwOnly
import HandS.SlotsOwn
import HandS.Dict
import HandS.Gcd
import HandS.Exc
import HandS.ExcOwn
import HandS.TryOnly
import HandS.TryMany
import HandS.ExcField
import HandS.WordsExc
import KE.KExcInit
import HandS.SetFor
import KE.KMathGC
import KE.GoesMore
import KE.KTupSum
import PySem.Challenge.RW_tellontree_k14_names_and_their_times
set_option Elab.async false
set_option linter.all false
set_option maxRecDepth 100000
namespace My
open PySem L2
def top (i : Nat) : Stmt := PySem.Challenge.pw_tellontree_k14_names_and_their_times.main.body.getD i (.Pass ⟨0, 0, 0, 0⟩)
abbrev s_is_integer : Stmt := top 13
theorem sc_is_integer : FnScope ["thing"] ["thing"] (defScope s_is_integer) := ⟨rfl, rfl, rfl, by decide +kernel, rfl, by decide +kernel, by decide +kernel⟩
abbrev s_is_between : Stmt := top 14
theorem sc_is_between : FnScope ["thing", "low", "high"] ["thing", "low", "high"] (defScope s_is_between) := ⟨rfl, rfl, rfl, by decide +kernel, rfl, by decide +kernel, by decide +kernel⟩
abbrev s_check_turns : Stmt := top 15
theorem sc_check_turns : FnScope ["turns"] ["turns"] (defScope s_check_turns) := ⟨rfl, rfl, rfl, by decide +kernel, rfl, by decide +kernel, by decide +kernel⟩
abbrev s_check_roots : Stmt := top 16
theorem sc_check_roots : FnScope ["roots", "before", "at", "root"] ["roots"] (defScope s_check_roots) := ⟨rfl, rfl, rfl, by decide +kernel, rfl, by decide +kernel, by decide +kernel⟩
abbrev s_wrong_in_name : Stmt := top 17
theorem sc_wrong_in_name : FnScope ["thing", "turns", "roots", "greatest", "at", "item"] ["thing", "turns", "roots"] (defScope s_wrong_in_name) := ⟨rfl, rfl, rfl, by decide +kernel, rfl, by decide +kernel, by decide +kernel⟩
abbrev s_check_name : Stmt := top 18
theorem sc_check_name : FnScope ["thing", "turns", "roots", "at"] ["thing", "turns", "roots"] (defScope s_check_name) := ⟨rfl, rfl, rfl, by decide +kernel, rfl, by decide +kernel, by decide +kernel⟩
abbrev s_Tree_init : Stmt := inClass (top 22) 0
theorem sc_Tree_init : FnScope ["self", "machine", "turns", "roots", "k"] ["self", "machine", "turns", "roots"] (defScope s_Tree_init) := ⟨rfl, rfl, rfl, by decide +kernel, rfl, by decide +kernel, by decide +kernel⟩
abbrev s_time_of : Stmt := top 24
theorem sc_time_of : FnScope ["tree", "name"] ["tree", "name"] (defScope s_time_of) := ⟨rfl, rfl, rfl, by decide +kernel, rfl, by decide +kernel, by decide +kernel⟩
abbrev s_is_name : Stmt := top 25
theorem sc_is_name : FnScope ["thing", "turns", "roots"] ["thing", "turns", "roots"] (defScope s_is_name) := ⟨rfl, rfl, rfl, by decide +kernel, rfl, by decide +kernel, by decide +kernel⟩
abbrev s_known_at : Stmt := top 26
theorem sc_known_at : FnScope ["machine", "name", "turns", "roots", "tree"] ["machine", "name", "turns", "roots"] (defScope s_known_at) := ⟨rfl, rfl, rfl, by decide +kernel, rfl, by decide +kernel, by decide +kernel⟩
abbrev s_Machine_init : Stmt := inClass (top 29) 0
theorem sc_Machine_init : FnScope ["self", "o", "l", "g"] ["self", "o", "l", "g"] (defScope s_Machine_init) := ⟨rfl, rfl, rfl, by decide +kernel, rfl, by decide +kernel, by decide +kernel⟩
abbrev s__law_source : Stmt := top 31
theorem sc__law_source : FnScope ["_law_script", "_law_cell"] ["_law_script"] (defScope s__law_source) := ⟨rfl, rfl, rfl, by decide +kernel, rfl, by decide +kernel, by decide +kernel⟩
abbrev s__law_draw : Stmt := top 32
theorem sc__law_draw : FnScope ["_law_source_here", "_law_limit", "_law_cell", "_law_digit", "_law_one", "_law_two", "_law_three"] ["_law_source_here", "_law_limit"] (defScope s__law_draw) := ⟨rfl, rfl, rfl, by decide +kernel, rfl, by decide +kernel, by decide +kernel⟩
abbrev s__law_big : Stmt := top 33
theorem sc__law_big : FnScope ["_law_source_here", "_law_limit", "_law_number", "_law_k"] ["_law_source_here", "_law_limit"] (defScope s__law_big) := ⟨rfl, rfl, rfl, by decide +kernel, rfl, by decide +kernel, by decide +kernel⟩
abbrev s__law_numbers : Stmt := top 34
theorem sc__law_numbers : FnScope ["_law_source_here", "_law_kind", "_law_tops", "_law_o", "_law_l", "_law_g"] ["_law_source_here"] (defScope s__law_numbers) := ⟨rfl, rfl, rfl, by decide +kernel, rfl, by decide +kernel, by decide +kernel⟩
abbrev s__law_times : Stmt := top 35
theorem sc__law_times : FnScope ["_law_numbers_here"] ["_law_numbers_here"] (defScope s__law_times) := ⟨rfl, rfl, rfl, by decide +kernel, rfl, by decide +kernel, by decide +kernel⟩
abbrev s__law_within : Stmt := top 37
theorem sc__law_within : FnScope ["_law_thing_here", "_law_low", "_law_high"] ["_law_thing_here", "_law_low", "_law_high"] (defScope s__law_within) := ⟨rfl, rfl, rfl, by decide +kernel, rfl, by decide +kernel, by decide +kernel⟩
abbrev s__law_wrong : Stmt := top 38
theorem sc__law_wrong : FnScope ["_law_thing_here", "_law_turns", "_law_many", "_law_at"] ["_law_thing_here", "_law_turns", "_law_many"] (defScope s__law_wrong) := ⟨rfl, rfl, rfl, by decide +kernel, rfl, by decide +kernel, by decide +kernel⟩
abbrev s__law_thing : Stmt := top 39
theorem sc__law_thing : FnScope ["_law_source_here", "_law_turns", "_law_many", "_law_machine", "_law_size", "_law_top", "_law_items", "_law_k", "_law_kind", "_law_wrong_here"] ["_law_source_here", "_law_turns", "_law_many", "_law_machine"] (defScope s__law_thing) := ⟨rfl, rfl, rfl, by decide +kernel, rfl, by decide +kernel, by decide +kernel⟩
abbrev s__law_asked : Stmt := top 40
theorem sc__law_asked : FnScope ["_law_machine", "_law_thing_here", "_law_turns", "_law_roots", "_law_time", "e"] ["_law_machine", "_law_thing_here", "_law_turns", "_law_roots"] (defScope s__law_asked) := ⟨rfl, rfl, rfl, by decide +kernel, rfl, by decide +kernel, by decide +kernel⟩
abbrev s_law : Stmt := top 41
theorem sc_law : FnScope ["_law_script", "_law_source_here", "_law_numbers_here", "_law_letter", "_law_gap", "_law_machine", "_law_k", "_law_turns", "_law_roots", "_law_least", "_law_at", "_law_thing_here", "_law_wrong_here", "_law_told", "_law_due"] ["_law_script"] (defScope s_law) := ⟨rfl, rfl, rfl, by decide +kernel, rfl, by decide +kernel, by decide +kernel⟩
/-! ### core: rules that the layer lacks, what a draw's source is -/
section
variable {X : Cx}
/-- xs[i], read ahead of xs[i] op= e -/
theorem gt_list : PGet X (rIxL X.K) := by
  intro pins s σ H x y v u Q I rx ry h
  obtain ⟨p, xs, i, z, rfl, rfl, hq, he, q⟩ := h
  cases rx
  obtain ⟨t, rfl⟩ := ry
  obtain ⟨its, r, pl, hz⟩ := I.list hq
  obtain ⟨j, h1, h2, h3, h4, h5⟩ := atI_get he
  obtain ⟨w, ew, rw'⟩ := r.get h2
  have hl := r.length
  have hn := line63
  have fin : EP X pins σ Q w s := ⟨z, H, I, rw', q⟩
  by_cases h0 : 0 ≤ i
  · have hj : i.toNat = j := by
      rw [seqIndex_of h0 h5] at h1
      exact Option.some.inj h1
    exact PySem.wpAny_getItem_list pl.isList h0 (by omega) (by rw [hj]; simpa using ew) fin
  · have hj : (i + (its.toArray.size : Int)).toNat = j := by
      rw [seqIndex_neg (by omega) h4] at h1
      rw [List.size_toArray, ← hl]
      exact Option.some.inj h1
    exact PySem.wpAny_getItem_list_neg pl.isList (by omega) (by rw [List.size_toArray] <;> omega) (by omega) (by rw [hj]; simpa using ew) fin
end
theorem pe_powN {X : Cx} {i j z : Int} {p q pos : Pos} {k l : Nat} (hc : CPow i j) (h : i ^ j.toNat = z) : PE X (.BinOp (.Constant (.int i) k p) .Pow (.Constant (.int j) l q) pos) (tC (.int z)) :=
  ⟨fun pins s σ H Q I g => (pe_op op_pow pe_int pe_int).run pins s σ H Q I ⟨i, j, rfl, rfl, hc, by show Q (.int (i ^ j.toNat)) H; rw [h]; exact g⟩⟩
theorem ite_tt {c A B : Prop} [Decidable c] (hc : c) (h : A) : if decide c = true then A else B := by
  rw [if_pos (decide_eq_true hc)]
  exact h
theorem ite_ff {c A B : Prop} [Decidable c] (hc : ¬ c) (h : B) : if decide c = true then A else B := by
  rw [if_neg (by rw [decide_eq_false hc]; exact Bool.false_ne_true)]
  exact h
theorem ite_d {c A B : Prop} [Decidable c] (h1 : c → A) (h2 : ¬ c → B) : if decide c = true then A else B := by
  by_cases hc : c
  · exact ite_tt hc (h1 hc)
  · exact ite_ff hc (h2 hc)
theorem ite_b {b : Bool} {A B : Prop} (h1 : b = true → A) (h2 : b = false → B) : if b = true then A else B := by
  cases b with
  | true => exact iteT (h1 rfl)
  | false => exact iteF (h2 rfl)
/-! ### readings, turn by turn -/
/-- a new object -/
def NewAt (n : Nat) (o : HO) (H : Hp) (Q : VK) : Prop := n ≤ sizeLine ∧ ∀ p, H p = none → Q (.ref p) (upd H p o)
theorem Same.new {H : Hp} {p : Addr} {o : HO} (h : H p = none) : Same H (upd H p o) := fun b u e => by rw [upd_ne (ne_of_none e h)]; exact e
theorem new_at {n : Nat} {o : HO} {H : Hp} {Q : VK} (hn : n ≤ 1000) (k : ∀ p H', H p = none → Same H H' → H' p = some o → Q (.ref p) H') : NewAt n o H Q :=
  ⟨Nat.le_trans hn (by decide), fun p hp => k p _ hp (Same.new hp) upd_same⟩
theorem new_of {o : HO} {H : Hp} {Q : VK} (k : ∀ p H', H p = none → Same H H' → H' p = some o → Q (.ref p) H') : ∀ p, H p = none → Q (.ref p) (upd H p o) := fun p hp => k p _ hp (Same.new hp) upd_same
theorem Same.at {H H' : Hp} {b : Addr} {o : HO} (s : Same H H') (h : H b = some o) : H' b = some o := s b o h
section
variable {K : PySem.W.Frag} {σ : St} {H : Hp} {Q : VK} {ta tb tc : TE} {x y v : V} {D : Ends} {t u : TS} {QT : Bool → Hp → Prop} {QA : List V → Hp → Prop} {i j : Int} {n m : Nat}
theorem r_var (e : σ[n]? = some (some v)) (q : Q v H) : tVar n σ H Q := ⟨v, e, q⟩
theorem r_c (q : Q v H) : tC v σ H Q := q
theorem r_op {r : R2} (h : ta σ H fun x H1 => tb σ H1 fun y H2 => r x y H2 Q) : tOp r ta tb σ H Q := h
theorem r_un {r : V → Hp → VK → Prop} (h : ta σ H fun x H1 => r x H1 Q) : tUn r ta σ H Q := h
theorem r_I0 {g : Int → Int → V} (q : Q (g i j) H) : rI0 g (.int i) (.int j) H Q := ⟨i, j, rfl, rfl, q⟩
theorem r_I {C : Int → Int → Prop} {g : Int → Int → V} (c : C i j) (q : Q (g i j) H) : rI C g (.int i) (.int j) H Q := ⟨i, j, rfl, rfl, c, q⟩
theorem r_add (q : Q (.int (i + j)) H) : rAdd (.int i) (.int j) H Q := ⟨i, j, rfl, rfl, q⟩
theorem r_sub (q : Q (.int (i - j)) H) : rSub (.int i) (.int j) H Q := ⟨i, j, rfl, rfl, q⟩
theorem r_U {g : Int → V} (q : Q (g i) H) : rU g (.int i) H Q := ⟨i, rfl, q⟩
theorem r_eqI (q : Q (.bl (decide (i = j))) H) : rEq (.int i) (.int j) H Q := ⟨rfl, by
  have e : decide (V.int i = V.int j) = decide (i = j) := by
    by_cases h : i = j
    · subst h; rw [decide_eq_true rfl, decide_eq_true rfl]
    · rw [decide_eq_false h, decide_eq_false fun z => h (V.int.inj z)]
  rw [e]; exact q⟩
theorem r_neI (q : Q (.bl (!decide (i = j))) H) : rNe (.int i) (.int j) H Q := ⟨rfl, by
  have e : decide (V.int i = V.int j) = decide (i = j) := by
    by_cases h : i = j
    · subst h; rw [decide_eq_true rfl, decide_eq_true rfl]
    · rw [decide_eq_false h, decide_eq_false fun z => h (V.int.inj z)]
  rw [e]; exact q⟩
theorem r_ixL {p : Addr} {xs : List V} (h : H p = some (.lst xs)) (e : atI xs i = some v) (q : Q v H) : rIxL K (.ref p) (.int i) H Q := ⟨p, xs, i, v, rfl, rfl, SqL.of h, e, q⟩
theorem r_ixT {p : Addr} {xs : List V} (h : H p = some (.tup xs)) (e : atI xs i = some v) (q : Q v H) : rIxT K (.ref p) (.int i) H Q := ⟨p, xs, i, v, rfl, rfl, SqT.of h, e, q⟩
theorem r_test (h : ta σ H fun x H' => ∃ k, x = .bl k ∧ QT k H') : tTest ta σ H QT := h
theorem r_tB (h : ta σ H fun x H' => ∃ k, x = .bl k ∧ QT k H') : tB ta σ H QT := h
theorem r_bl {b : Bool} {R : Bool → Prop} (h : R b) : ∃ k, V.bl b = .bl k ∧ R k := ⟨b, rfl, h⟩
theorem r_not {t : TT} (h : t σ H fun c H1 => QT (!c) H1) : tNot t σ H QT := h
theorem r_and {t u : TT} (h : t σ H fun c H1 => if c = true then u σ H1 QT else QT false H1) : tAnd t u σ H QT := h
theorem r_or {t u : TT} (h : t σ H fun c H1 => if c = true then QT true H1 else u σ H1 QT) : tOr t u σ H QT := h
theorem r_notV (h : ta σ H fun x H1 => ∃ c, x = .bl c ∧ Q (.bl (!c)) H1) : tNotV ta σ H Q := h
theorem r_andV (h : ta σ H fun x H1 => ∃ c, x = .bl c ∧ if c = true then tb σ H1 Q else Q (.bl false) H1) : tAndV ta tb σ H Q := h
theorem r_orV (h : ta σ H fun x H1 => ∃ c, x = .bl c ∧ if c = true then Q (.bl true) H1 else tb σ H1 Q) : tOrV ta tb σ H Q := h
theorem r_ifE {t : TT} (h : t σ H fun c H1 => if c = true then ta σ H1 Q else tb σ H1 Q) : tIf t ta tb σ H Q := h
theorem r_seq (h : t { D with nx := u D } σ H) : tSeq t u D σ H := h
theorem r_next (h : D.nx σ H) : tNext D σ H := h
theorem r_brk (h : D.bk σ H) : tBreak D σ H := h
theorem r_cont (h : D.ct σ H) : tCont D σ H := h
theorem r_drop (h : ta σ H fun _ H1 => D.nx σ H1) : tDrop ta D σ H := h
theorem r_ret (h : ta σ H D.rt) : tRet ta D σ H := h
theorem r_ifS {c : TT} (h : c σ H fun b H1 => if b = true then t D σ H1 else u D σ H1) : tIfS c t u D σ H := h
theorem r_asg {g : TG} (h : ta σ H fun x H1 => g x σ H1 D.nx) : tAsg ta g D σ H := h
theorem r_gName {R : St → Hp → Prop} (h : R (σ.set n (some v)) H) : gName n v σ H R := h
theorem r_gSub {s : TSet} {R : St → Hp → Prop} (h : ta σ H fun o H1 => tb σ H1 fun i H2 => s o i v H2 fun H3 => R σ H3) : gSub ta tb s v σ H R := h
theorem r_setL {p : Addr} {xs : List V} {k : Nat} {R : Hp → Prop} (h : H p = some (.lst xs)) (e : ixN xs.length i = some k) (q : R (upd H p (.lst (xs.set k v)))) : rSetL (.ref p) (.int i) v H R := ⟨p, xs, i, k, rfl, rfl, h, e, q⟩
theorem r_aug {ti : TIp} (e : σ[n]? = some (some x)) (h : ta σ H fun y H1 => ti x y H1 fun z H2 => D.nx (σ.set n (some z)) H2) : tAug n ta ti D σ H := ⟨x, e, h⟩
theorem r_augS {tg : V → V → Hp → VK → Prop} {tip : TIp} {ts : TSet} (h : ta σ H fun o H1 => tb σ H1 fun i H2 => tg o i H2 fun x H3 => tc σ H3 fun y H4 => tip x y H4 fun z H5 => ts o i z H5 fun H6 => D.nx σ H6) : tAugS ta tb tc tg tip ts D σ H := h
theorem r_ip {f : Int → Int → Int} (q : Q (.int (f i j)) H) : ipI f (.int i) (.int j) H Q := ⟨i, j, rfl, rfl, q⟩
theorem r_nil (h : QA [] H) : tNil σ H QA := h
theorem r_cons {tr : TA} (h : ta σ H fun x H1 => tr σ H1 fun xs H2 => QA (x :: xs) H2) : tCons ta tr σ H QA := h
theorem r_tup {t : TA} (h : t σ H fun xs H1 => NewAt xs.length (.tup xs) H1 Q) : tTup t σ H Q := h
theorem r_lst {t : TA} (h : t σ H fun xs H1 => NewAt xs.length (.lst xs) H1 Q) : tLst t σ H Q := h
theorem r_CB {r : List V → Hp → VK → Prop} {t : TA} (h : t σ H fun vs H1 => r vs H1 Q) : tCB r t σ H Q := h
theorem r_call {sp : Sp} {dvs : List V} {E : XK} {t : TA} (h : t σ H fun vs H1 => sp (vs ++ dvs) H1 Q E) : tCall sp dvs E t σ H Q := h
theorem r_callN {k l : Nat} {sp : Sp} {gV : List V → List V → List V} {E : XK} {t tk : TA} (h : t σ H fun vs H1 => tk σ H1 fun zs H2 => vs.length = k ∧ zs.length = l ∧ sp (gV vs zs) H2 Q E) : tCallN k l sp gV E t tk σ H Q := h
theorem r_fld {p C dx : Addr} {fs : List (Str × V)} {f : Str} {R : V → Prop} (hc : Cls K C) (hn : NoAttr K C f) (hx : H p = some (.ins C dx fs)) (e : fs.lookup f = some v) (q : R v) : (∃ a C dx fs v, V.ref p = .ref a ∧ H a = some (.ins C dx fs) ∧ Cls K C ∧ NoAttr K C f ∧ fs.lookup f = some v ∧ R v) := ⟨p, C, dx, fs, v, rfl, hx, hc, hn, e, q⟩
theorem r_tFld {f : Str} (h : ta σ H fun x H1 => ∃ a C dx fs v, x = .ref a ∧ H1 a = some (.ins C dx fs) ∧ Cls K C ∧ NoAttr K C f ∧ fs.lookup f = some v ∧ Q v H1) : tFld K ta f σ H Q := h
theorem r_sl {r : V → Option Int → Option Int → Hp → VK → Prop} {tl th : TO} (h : ta σ H fun x H1 => tl σ H1 fun l H2 => th σ H2 fun u H3 => r x l u H3 Q) : tSl r ta tl th σ H Q := h
theorem r_noP {R : Option Int → Hp → Prop} (h : R none H) : tNoPart σ H R := h
theorem r_part {R : Option Int → Hp → Prop} (h : ta σ H fun x H1 => ∃ i, x = .int i ∧ R (some i) H1) : tPart ta σ H R := h
theorem r_in {R : Int → Prop} (h : R i) : ∃ k, V.int i = .int k ∧ R k := ⟨i, rfl, h⟩
theorem r_Bm {T : String} {r : V → List V → Hp → VK → Prop} {t : TA} (h : ta σ H fun x H1 => tyV K T x H1 ∧ t σ H1 fun xs H2 => r x xs H2 Q) : tBM K T r ta t σ H Q := h
theorem r_app {l : Addr} {xs : List V} (h : H l = some (.lst xs)) (hz : xs.length < sizeLine) (q : Q .non (upd H l (.lst (xs ++ [y])))) : rAppend (.ref l) [y] H Q := ⟨l, xs, y, rfl, rfl, h, hz, q⟩
end
theorem at_nat {ns : List Int} {i : Int} (h0 : 0 ≤ i) (h : i < (ns.map V.int).length) : ∃ n, atI (ns.map V.int) i = some (.int n) ∧ n ∈ ns := by
  obtain ⟨j, rfl⟩ : ∃ j : Nat, i = j := ⟨i.toNat, by omega⟩
  rw [List.length_map] at h
  have hj : j < ns.length := by omega
  exact ⟨ns[j], atI_nat (by rw [List.getElem?_map, List.getElem?_eq_getElem hj]; rfl), List.getElem_mem hj⟩
theorem fmod_nn {a b : Int} (h : 0 < b) : 0 ≤ a.fmod b := by rw [Int.fmod_eq_emod_of_nonneg a (by omega)]; exact Int.emod_nonneg a (by omega)
theorem fmod_lt {a b : Int} (h : 0 < b) : a.fmod b < b := by rw [Int.fmod_eq_emod_of_nonneg a (by omega)]; exact Int.emod_lt_of_pos a h
theorem lim_div {lim : Int} (h0 : 0 < lim) (h : lim < 2 ^ 200) : CDivW lim lim := wide_div (b := 200) h0 (by omega) (by decide) (by decide)
theorem cdiv_of {i lim : Int} (h0 : 0 < lim) (h : lim < 2 ^ 200) : CDivW i lim := ⟨h0, (lim_div h0 h).2⟩
theorem mulL {i j : Int} (h1 : -(2 ^ 64) < i) (h2 : i < 2 ^ 64) : CMul i j := Or.inl ⟨h1, h2⟩
theorem mulR {i j : Int} (h1 : -(2 ^ 64) < j) (h2 : j < 2 ^ 64) : CMul i j := Or.inr ⟨h1, h2⟩
theorem powOk {i j : Int} (h1 : 0 ≤ j) (h2 : j ≤ 1000000) (h3 : i.natAbs < 2 ^ 64) : CPow i j := ⟨h1, h2, h3⟩
theorem r_for {wi : TI} {g : TG} {tb : TS} {D : Ends} {σ : St} {H : Hp} (h : wi σ H fun J H1 => ∃ W : Nat → Nat → St → Hp → Prop, (∃ m, W 0 m σ H1) ∧ ∀ i m σ H, W i m σ H →
  (J.stop i H ∧ D.nx σ H) ∨ (J.go i H ∧ ∃ N : St → Hp → Prop, (∀ σ' H', N σ' H' → ∃ m', m' < m ∧ W (i + 1) m' σ' H') ∧ ∀ x H', J.yld i H x H' → g x σ H' fun σ2 H2 => tb { D with nx := N, ct := N, bk := D.nx } σ2 H2)) : tFor wi g tb D σ H := h
theorem r_iR1 {ta : TA} {σ : St} {H : Hp} {R : It → Hp → Prop} (h : ta σ H fun vs H1 => ∃ j : Int, vs = [.int j] ∧ -(2 ^ 62) ≤ j ∧ j < 2 ^ 62 ∧ R (Itr 0 j.toNat) H1) : iRng1 ta σ H R := h
theorem r_iR2 {ta : TA} {σ : St} {H : Hp} {R : It → Hp → Prop} (h : ta σ H fun vs H1 => ∃ i j : Int, vs = [.int i, .int j] ∧ (-(2 ^ 62) ≤ i ∧ i < 2 ^ 62 ∧ -(2 ^ 62) ≤ j ∧ j < 2 ^ 62) ∧ R (Itr i (j - i).toNat) H1) : iRng2 ta σ H R := h
theorem r_tMeth {C : Addr} {m : Str} {sp : Sp} {dvs : List V} {E : XK} {ta : TE} {t : TA} {σ : St} {H : Hp} {Q : VK} (h : ta σ H fun x H1 => ∃ a dx fs, x = .ref a ∧ H1 a = some (.ins C dx fs) ∧ fs.lookup m = none ∧ t σ H1 fun vs H2 => sp (x :: (vs ++ dvs)) H2 Q E) : tMeth C m sp dvs E ta t σ H Q := h
theorem r_meth {C p dx : Addr} {fs : List (Str × V)} {m : Str} {H : Hp} {R : Prop} (hx : H p = some (.ins C dx fs)) (hl : fs.lookup m = none) (q : R) : ∃ a dx fs, V.ref p = .ref a ∧ H a = some (.ins C dx fs) ∧ fs.lookup m = none ∧ R := ⟨p, dx, fs, rfl, hx, hl, q⟩
theorem r_iT {K : PySem.W.Frag} {tl : TE} {σ : St} {H : Hp} {R : It → Hp → Prop} (h : tl σ H fun x H1 => ∃ a, x = .ref a ∧ (∃ xs, SqT K H1 a xs) ∧ R (Itt K a) H1) : iTup K tl σ H R := h
theorem r_iL {K : PySem.W.Frag} {tl : TE} {σ : St} {H : Hp} {R : It → Hp → Prop} (h : tl σ H fun x H1 => ∃ a, x = .ref a ∧ (∃ xs, SqL K H1 a xs) ∧ R (Itl K a) H1) : iList K tl σ H R := h
theorem r_lc {wi : TI} {g : TG} {tt : TT} {te : TE} {vs : List Nat} {σ : St} {H : Hp} {Q : VK} (h : wi σ H fun J H1 => ∀ D, H1 D = none → ∃ W : Nat → Nat → Hp → Prop, (∃ m, W 0 m (upd H1 D (.lst []))) ∧ ∀ i m H, W i m H →
  (J.stop i H ∧ Q (.ref D) H) ∨ (J.go i H ∧ ∃ Nx : Hp → Prop, (∀ H', Nx H' → ∃ m', m' < m ∧ W (i + 1) m' H') ∧ ∀ x H', J.yld i H x H' → g x (wipe σ vs) H' fun σ2 H2 => wipe σ2 vs = wipe σ vs ∧ tt σ2 H2 fun b H3 =>
    if b = true then te σ2 H3 fun y H4 => ∃ acc, H4 D = some (.lst acc) ∧ acc.length < sizeLine ∧ Nx (upd H4 D (.lst (acc ++ [y]))) else Nx H3)) : tLc wi g tt te vs σ H Q := h
theorem r_isiI {K : PySem.W.Frag} {H : Hp} {Q : VK} {i : Int} {n : String} (b : Bool) (h : kitB "int" n = some b) (q : Q (.bl b) H) : rIsi K [.int i, .ty n] H Q := ⟨_, _, .type "int", .type n, b, rfl, .ty n, .base (.int i), kit_ty h, q⟩
theorem r_isiB {K : PySem.W.Frag} {H : Hp} {Q : VK} {i : Bool} {n : String} (b : Bool) (h : kitB "bool" n = some b) (q : Q (.bl b) H) : rIsi K [.bl i, .ty n] H Q := ⟨_, _, .type "bool", .type n, b, rfl, .ty n, .base (.bl i), kit_ty h, q⟩
theorem r_slL {K : PySem.W.Frag} {H : Hp} {Q : VK} {a : Addr} {xs : List V} {lo hi : Option Int} (h : SqL K H a xs) (q : ∀ p H', H p = none → Same H H' → H' p = some (.lst (cutV xs lo hi)) → Q (.ref p) H') : rSlL K (.ref a) lo hi H Q := ⟨a, xs, rfl, h, new_of q⟩
theorem r_slT {K : PySem.W.Frag} {H : Hp} {Q : VK} {a : Addr} {xs : List V} {lo hi : Option Int} (h : SqT K H a xs) (hn : ¬ (HT.sIx xs.length 0 lo = 0 ∧ HT.sIx xs.length xs.length hi = xs.length)) (q : ∀ p H', H p = none → Same H H' → H' p = some (.tup (cutV xs lo hi)) → Q (.ref p) H') : rSlT K (.ref a) lo hi H Q := ⟨a, xs, rfl, h, hn, new_of q⟩
def rListOf (K : PySem.W.Frag) : List V → Hp → VK → Prop := fun xs H Q => ∃ p ys, xs = [.ref p] ∧ (SqL K H p ys ∨ SqT K H p ys) ∧ ∀ l, H l = none → Q (.ref l) (upd H l (.lst ys))
def rTupOf (K : PySem.W.Frag) : List V → Hp → VK → Prop := fun xs H Q => ∃ p ys, xs = [.ref p] ∧ ((SqL K H p ys ∧ ∀ l, H l = none → Q (.ref l) (upd H l (.tup ys))) ∨ (SqT K H p ys ∧ Q (.ref p) H))
theorem cr_list {X : Cx} : CallR X (.type "list") (rListOf X.K) := call_list_of
theorem cr_tup {X : Cx} : CallR X (.type "tuple") (rTupOf X.K) := call_tuple_of
theorem r_listS {K : PySem.W.Frag} {H : Hp} {Q : VK} {a : Addr} {xs : List V} (h : SqL K H a xs ∨ SqT K H a xs) (q : ∀ p H', H p = none → Same H H' → H' p = some (.lst xs) → Q (.ref p) H') : rListOf K [.ref a] H Q := ⟨a, xs, rfl, h, new_of q⟩
theorem r_listL {K : PySem.W.Frag} {H : Hp} {Q : VK} {a : Addr} {xs : List V} (h : H a = some (.lst xs)) (q : ∀ p H', H p = none → Same H H' → H' p = some (.lst xs) → Q (.ref p) H') : rListOf K [.ref a] H Q := r_listS (.inl (SqL.of h)) q
theorem r_listT {K : PySem.W.Frag} {H : Hp} {Q : VK} {a : Addr} {xs : List V} (h : H a = some (.tup xs)) (q : ∀ p H', H p = none → Same H H' → H' p = some (.lst xs) → Q (.ref p) H') : rListOf K [.ref a] H Q := r_listS (.inr (SqT.of h)) q
theorem r_tupL {K : PySem.W.Frag} {H : Hp} {Q : VK} {a : Addr} {xs : List V} (h : H a = some (.lst xs)) (q : ∀ p H', H p = none → Same H H' → H' p = some (.tup xs) → Q (.ref p) H') : rTupOf K [.ref a] H Q := ⟨a, xs, rfl, .inl ⟨SqL.of h, new_of q⟩⟩
theorem r_tupT {K : PySem.W.Frag} {H : Hp} {Q : VK} {a : Addr} {xs : List V} (h : H a = some (.tup xs)) (q : Q (.ref a) H) : rTupOf K [.ref a] H Q := ⟨a, xs, rfl, .inr ⟨SqT.of h, q⟩⟩
theorem r_nF {A B : Prop} (h : A) : if (!false) = true then A else B := h
theorem r_nT {A B : Prop} (h : B) : if (!true) = true then A else B := by
  rw [if_neg (by decide)]
  exact h
theorem r_nD {c A B : Prop} [Decidable c] (h1 : ¬ c → A) (h2 : c → B) : if (!decide c) = true then A else B := by
  by_cases hc : c
  · rw [decide_eq_true hc]; exact r_nT (h2 hc)
  · rw [decide_eq_false hc]; exact r_nF (h1 hc)
theorem cut_take {xs : List V} {k : Int} (h : (xs.length : Int) ≤ k) : cutV xs none (some k) = xs := by
  have e : HT.sIx xs.length xs.length (some k) = xs.length := by
    show (if k < 0 then (k + (xs.length : Int)).toNat else min k.toNat xs.length) = xs.length
    rw [if_neg (by omega)]; omega
  unfold cutV
  rw [e]
  show (xs.drop 0).take (xs.length - 0) = xs
  simp
theorem r_yes {σ : St} {H : Hp} {R : Bool → Hp → Prop} (h : R true H) : tYes σ H R := h
theorem int_of_get {ns : List Int} {i : Nat} {y : V} (h : (ns.map V.int)[i]? = some y) : ∃ z, ns[i]? = some z ∧ y = V.int z := by
  rw [List.getElem?_map] at h
  cases e : ns[i]? with
  | none => rw [e] at h; cases h
  | some z => rw [e] at h; exact ⟨z, rfl, (Option.some.inj h).symm⟩
theorem take_more {α : Type} {l : List α} {i : Nat} {x : α} (h : l[i]? = some x) : l.take (i + 1) = l.take i ++ [x] := by
  rw [List.take_succ, h]; rfl
theorem r_chain {r r' : R2} {ta tb tc : TE} {σ : St} {H : Hp} {Q : VK} (h : ta σ H fun x H1 => tb σ H1 fun y H2 => r x y H2 fun z H3 => ∃ k, z = .bl k ∧ (if k = true then tc σ H3 fun w' H4 => r' y w' H4 Q else Q (.bl false) H3)) : tChain r r' ta tb tc σ H Q := h
theorem r_sFld {K : PySem.W.Frag} {ta tv : TE} {f : Str} {D : Ends} {σ : St} {H : Hp} (h : tv σ H fun y H1 => ta σ H1 fun x H2 => ∃ a C dx fs, x = .ref a ∧ H2 a = some (.ins C dx fs) ∧ Cls K C ∧ NoAttr K C f ∧ fs.length < 1000 ∧ D.nx σ (upd H2 a (.ins C dx (putF f y fs)))) : sFld K ta tv f D σ H := h
theorem r_put {K : PySem.W.Frag} {p C dx : Addr} {fs : List (Str × V)} {f : Str} {H : Hp} {R : Addr → Addr → Addr → List (Str × V) → Prop} (hc : Cls K C) (hn : NoAttr K C f) (hx : H p = some (.ins C dx fs)) (hl : fs.length ≤ 900) (q : R p C dx fs) :
    ∃ a C dx fs, V.ref p = .ref a ∧ H a = some (.ins C dx fs) ∧ Cls K C ∧ NoAttr K C f ∧ fs.length < 1000 ∧ R a C dx fs := ⟨p, C, dx, fs, rfl, hx, hc, hn, by omega, q⟩
theorem putF_len (f : Str) (v : V) : ∀ fs : List (Str × V), (putF f v fs).length ≤ fs.length + 1
  | [] => Nat.le_refl _
  | (g, x) :: r => by
    unfold putF
    by_cases h : g = f
    · rw [if_pos h, List.length_cons, List.length_cons]; omega
    · rw [if_neg h, List.length_cons, List.length_cons]
      have := putF_len f v r
      omega
theorem putF_le {f : Str} {v : V} {fs : List (Str × V)} {n : Nat} (h : fs.length ≤ n) : (putF f v fs).length ≤ n + 1 := Nat.le_trans (putF_len f v fs) (by omega)
def MakeAt (C : Addr) (sp : Sp) (vs : List V) (E : XK) (H : Hp) (Q : VK) : Prop := ∀ x dx, H x = none → H dx = none → dx ≠ x → sp (.ref x :: vs) (upd (upd H dx (.own x)) x (.ins C dx [])) (fun v H2 => v = .non ∧ Q (.ref x) H2) E
theorem r_make {C : Addr} {sp : Sp} {dvs : List V} {E : XK} {t : TA} {σ : St} {H : Hp} {Q : VK} (h : t σ H fun vs H1 => MakeAt C sp (vs ++ dvs) E H1 Q) : tMake C sp dvs E t σ H Q := h
def rIsNo : R2 := fun x y H Q => y = .non ∧ Q (.bl (decide (x = .non))) H
def rNotNo : R2 := fun x y H Q => y = .non ∧ Q (.bl (!decide (x = .non))) H
theorem op_isNo {X : Cx} : OpR X (compareOp .Is) rIsNo := op_isN
theorem op_notNo {X : Cx} : OpR X (compareOp .IsNot) rNotNo := op_notN
theorem r_isNn {H : Hp} {Q : VK} (q : Q (.bl true) H) : rIsNo .non .non H Q := ⟨rfl, q⟩
theorem r_isNi {H : Hp} {Q : VK} {i : Int} (q : Q (.bl false) H) : rIsNo (.int i) .non H Q := ⟨rfl, q⟩
theorem r_isNr {H : Hp} {Q : VK} {i : Addr} (q : Q (.bl false) H) : rIsNo (.ref i) .non H Q := ⟨rfl, q⟩
theorem r_notNn {H : Hp} {Q : VK} (q : Q (.bl false) H) : rNotNo .non .non H Q := ⟨rfl, q⟩
theorem r_notNi {H : Hp} {Q : VK} {i : Int} (q : Q (.bl true) H) : rNotNo (.int i) .non H Q := ⟨rfl, q⟩
theorem r_notNr {H : Hp} {Q : VK} {i : Addr} (q : Q (.bl true) H) : rNotNo (.ref i) .non H Q := ⟨rfl, q⟩
theorem r_lenS {K : PySem.W.Frag} {H : Hp} {p : Addr} {xs : List V} {R : List V → Prop} (h : SqL K H p xs ∨ SqT K H p xs) (q : R xs) : ∃ (p1 : Addr) (ys : List V), [V.ref p] = [.ref p1] ∧ (SqL K H p1 ys ∨ SqT K H p1 ys) ∧ R ys := ⟨p, xs, rfl, h, q⟩
theorem r_lenL {K : PySem.W.Frag} {H : Hp} {p : Addr} {xs : List V} {R : List V → Prop} (h : H p = some (.lst xs)) (q : R xs) : ∃ (p1 : Addr) (ys : List V), [V.ref p] = [.ref p1] ∧ (SqL K H p1 ys ∨ SqT K H p1 ys) ∧ R ys := ⟨p, xs, rfl, .inl (SqL.of h), q⟩
theorem r_lenT {K : PySem.W.Frag} {H : Hp} {p : Addr} {xs : List V} {R : List V → Prop} (h : H p = some (.tup xs)) (q : R xs) : ∃ (p1 : Addr) (ys : List V), [V.ref p] = [.ref p1] ∧ (SqL K H p1 ys ∨ SqT K H p1 ys) ∧ R ys := ⟨p, xs, rfl, .inr (SqT.of h), q⟩
theorem r_in1 {i : Int} {R : Int → Prop} (h : R i) : ∃ k, [V.int i] = [.int k] ∧ R k := ⟨i, rfl, h⟩
theorem r_in2 {i j : Int} {R : Int → Int → Prop} (h : R i j) : ∃ k l, [V.int i, V.int j] = [.int k, .int l] ∧ R k l := ⟨i, j, rfl, h⟩
/-- all but what stands at p is as it was -/
def But (p : Addr) (H H' : Hp) : Prop := ∀ b o, H b = some o → b ≠ p → H' b = some o
theorem But.refl (p : Addr) (H : Hp) : But p H H := fun _ _ h _ => h
theorem But.trans {p : Addr} {H H1 H2 : Hp} (a : But p H H1) (b : But p H1 H2) : But p H H2 := fun c o h n => b c o (a c o h n) n
theorem But.of_same {p : Addr} {H H' : Hp} (h : Same H H') : But p H H' := fun b o e _ => h b o e
theorem But.upd {p : Addr} {H : Hp} {o : HO} : But p H (upd H p o) := fun b u h n => by rw [upd_ne n]; exact h
theorem But.at {p b : Addr} {H H' : Hp} {o : HO} (s : But p H H') (n : b ≠ p) (h : H b = some o) : H' b = some o := s b o h n
theorem But.new {p q : Addr} {H : Hp} {o : HO} (h : H q = none) : But p H (L2.upd H q o) := But.of_same (Same.new h)
/-- the source of draws at p, its cells at q -/
def SrcAt (H : Hp) (p q : Addr) : Prop := ∃ (cs : List Int) (i big cnt st : Int), H p = some (.lst [.ref q, .int i, .int big, .int cnt, .int st]) ∧ H q = some (.lst (cs.map V.int)) ∧ q ≠ p ∧ 0 ≤ i ∧ 0 ≤ big ∧ cs.length ≤ 63
theorem SrcAt.keep {H H' : Hp} {p q : Addr} (h : SrcAt H p q) (s : Same H H') : SrcAt H' p q := by
  obtain ⟨cs, i, big, cnt, st, h1, h2, h3⟩ := h
  exact ⟨cs, i, big, cnt, st, s _ _ h1, s _ _ h2, h3⟩
theorem SrcAt.upd {H : Hp} {p q x : Addr} {o : HO} (h : SrcAt H p q) (h1 : x ≠ p) (h2 : x ≠ q) : SrcAt (upd H x o) p q := by
  obtain ⟨cs, i, big, cnt, st, e1, e2, h3⟩ := h
  exact ⟨cs, i, big, cnt, st, (upd_ne h1.symm).trans e1, (upd_ne h2.symm).trans e2, h3⟩
theorem SrcAt.ne {H : Hp} {p q x : Addr} (h : SrcAt H p q) (hx : H x = none) : x ≠ p := by
  obtain ⟨cs, i, big, cnt, st, h1, _⟩ := h
  exact (ne_of_none h1 hx).symm
theorem SrcAt.neq {H : Hp} {p q x : Addr} (h : SrcAt H p q) (hx : H x = none) : x ≠ q := by
  obtain ⟨cs, i, big, cnt, st, _, h1, _⟩ := h
  exact (ne_of_none h1 hx).symm
theorem But.free {p q : Addr} {H H' : Hp} (b : But p H H') (hs : SrcAt H' p q) {x : Addr} (hx : H' x = none) : H x = none := by
  cases e : H x with
  | none => rfl
  | some o => exact absurd (b _ _ e (hs.ne hx)) (by rw [hx]; intro z; cases z)
theorem seq_with {t1 t2 : TS} {D : Ends} {σ : St} {H : Hp} (P : St → Hp → Prop) (h2 : ∀ σ H, P σ H → t2 D σ H) (h1 : (∀ σ H, P σ H → t2 D σ H) → t1 { D with nx := t2 D } σ H) : tSeq t1 t2 D σ H := h1 h2
theorem pe_fldK {X : Cx} {K : PySem.W.Frag} {e : Expr} {f : Str} {pos : Pos} {ta : TE} (hK : X.K = K) (he : PE X e ta) (hb : attributeBase e f X.env (eval e X.env) = eval e X.env) : PE X (.Attribute e f pos) (tFld K ta f) := by
  subst hK; exact pe_fld he hb
theorem r_cat {H : Hp} {Q : VK} {l b : Addr} {xs zs : List V} (h1 : H l = some (.lst xs)) (h2 : H b = some (.lst zs)) (hn : xs.length + zs.length ≤ 1000) (q : ∀ p H', H p = none → Same H H' → H' p = some (.lst (xs ++ zs)) → Q (.ref p) H') : rCat (.ref l) (.ref b) H Q :=
  ⟨l, b, xs, zs, rfl, rfl, h1, h2, Nat.le_trans hn (by decide), new_of q⟩
theorem r_min {K : PySem.W.Frag} {H : Hp} {Q : VK} {l : Addr} {ns : List Int} (h1 : H l = some (.lst (ns.map V.int))) (hn : 0 < ns.length) (q : ∀ m, m ∈ ns → (∀ y, y ∈ ns → m ≤ y) → Q (.int m) H) : rMin K [.ref l] H Q :=
  ⟨l, ns, rfl, SqL.of h1, hn, q⟩
section
variable {X : Cx} {K : PySem.W.Frag}
theorem ix_listK (hK : X.K = K) : IxR X (rIxL K) := by subst hK; exact ix_list
theorem ix_tupK (hK : X.K = K) : IxR X (rIxT K) := by subst hK; exact ix_tup
theorem call_len_seqK (hK : X.K = K) : CallR X (.builtin "len") (fun xs H Q => ∃ p ys, xs = [.ref p] ∧ (SqL K H p ys ∨ SqT K H p ys) ∧ Q (.int ys.length) H) := by subst hK; exact call_len_seq
theorem call_isiK (hK : X.K = K) : CallR X (.builtin "isinstance") (rIsi K) := by subst hK; exact call_isi
theorem cr_listK (hK : X.K = K) : CallR X (.type "list") (rListOf K) := by subst hK; exact cr_list
theorem cr_tupK (hK : X.K = K) : CallR X (.type "tuple") (rTupOf K) := by subst hK; exact cr_tup
end

end My
namespace PySem
namespace MyX
open PySem.W PySem.Calls PyProof.Rows PySem.HandSPX Builtin Builtin.ObjectAttr
/-! ### errors over Exception: made, and their first field -/
abbrev exM : List Value := [.type "Exception", .type "BaseException", .type "object"]
theorem exT (x : Addr) : excTail exM [.ref x, .type "Exception", .type "BaseException", .type "object"] = true := (by decide +kernel : excTail exM exM = true)
theorem one_sz (v : Value) : [v].length ≤ sizeLine := by
  rw [sizeLine_eq]
  exact (by decide : 1 ≤ 16777216)
/-- what the written part says of a class over Exception whose __init__ is its own -/
structure XCls (K : Frag) (C fI : Addr) (f : Str) : Prop where
  cls : ∃ nm q N bs bm sn sub ab col dd k0 k1 k2 k3 k5, K.lookup C = some (excClassObj nm q C N bs bm true sn sub ab col dd k0 k1 k2 k3 k5 "Exception.__new__") ∧ excTail exM bm = true
  sa : findIn K (.ref C) "__setattr__" = some (some (.builtin "object.__setattr__"))
  ga : findIn K (.ref C) "__getattribute__" = some (some (.builtin "BaseException.__getattribute__"))
  gg : findIn K (.ref C) "__getattr__" = some none
  noN : findIn K (.ref C) f = some none
  iC : findIn K (.ref C) "__init__" = some (some (.ref fI))
  tC : typeIn K (.ref fI) = some (.type "function")
  kC : keepIn K (.ref C) = true
  exC : subIn K (.ref C) (.type "BaseException") = some true
  tyC : typeIn K (.ref C) = some (.type "type")
  hdC : hasDictIn K C = true
theorem XCls.over {K : Frag} {C fI : Addr} {f : Str} (T : XCls K C fI f) : excOver K C exM = true := by
  obtain ⟨nm, q, N, bs, bm, sn, sub, ab, col, dd, k0, k1, k2, k3, k5, hC, hbm⟩ := T.cls
  have e : clsIn K C = some { name := nm, bases := bs, mro := .ref C :: bm, ns := N, qualname := q, hasDict := true, slotNames := sn, subclasses := sub, abstract := ab, collection := col, hasDel := false } := by unfold clsIn; rw [hC] <;> rfl
  unfold excOver
  rw [e]
  show (C == C && excTail exM bm) = true
  rw [hbm, beq_self_eq_true]; rfl
section
variable {prog : Program} {w : World} {A : Around} {R : Result → Shared → Prop} {s : Shared} {K : Frag}
theorem first_field {x C fI t : Addr} {f : Str} {tk : Tok} {v : Value} (T : XCls K C fI f) (X : K.In s.heap) (hx : s.heap.get? x = some (excO C t))
    (hq : ∀ h' tk' dx, (∀ b o, b ≠ x → s.heap.get? b = some o → h'.get? b = some o) → s.heap.objs.size ≤ dx → dx ≠ x → h'.get? x = some { cls := .ref C, dict := some dx, data := .fields #[.ref t, .none, .none, .none, .bool false, .none] } →
      h'.Ns1 dx (fun y => if y = f then some v else none) → R (.ok (.ret .none)) { s with heap := h', toks := tk' }) :
    codeAny (model prog w) A (.call (.builtin "object.__setattr__") ⟨[.ref x, .str f tk, v], []⟩) R s := by
  obtain ⟨hp, g, d, tok, os⟩ := s
  refine osa_openX (od := none) PySem.F.store_Exception X ⟨hx, rfl, rfl, trivial⟩ T.over (by unfold takerIn; rw [T.noN]; rfl) fun b => ?_
  obtain ⟨cd, hc, hd'⟩ := any_some T.hdC
  have lt : x < hp.objs.size := Heap.lt_size hx
  have ne : hp.objs.size ≠ x := Nat.ne_of_gt lt
  refine wpAny_bind (wpAny_pure (wpAny_bind (instanceDict_exc (t := t) (c2 := .none) hx (looks_clsIn X hc) hd' ?_)))
  show wpAny _ _ (storeInDict hp.objs.size (.str f tk) f v) _ _ _
  refine store_in_new ?_ fun h' tk' hn hs => ?_
  · exact ⟨_, #[], _, (Heap.get?_update_ne _ _ _ _ ne).trans (Heap.get?_push_at rfl rfl), rfl, fun e he => absurd he (by simp), fun _ => rfl⟩
  · have hx1 : (hp.push (dictOf [] 0)).get? x = some (excObj C t none .none) := Heap.get?_push_of_some _ hx
    refine hq h' tk' hp.objs.size (fun b o hb ho => ?_) (Nat.le_refl _) ne ?_ hn
    · exact (hs.2 b (Nat.ne_of_lt (Heap.lt_size ho))).trans ((Heap.get?_update_ne _ _ _ _ hb).trans (Heap.get?_push_of_some _ ho))
    · exact (hs.2 x ne.symm).trans (Heap.get?_update_self _ hx1 rfl)
end
end MyX
end PySem
namespace My
open PySem L2
section
variable {X : Cx} {C : Addr} {B newId initId : String} {bmB : List Value}
/-- X() of a class without an own __init__ -/
theorem pmk_bare {x : Str} {p pos : Pos} (F : ExcBaseFacts B newId initId bmB) (q : PySem.W.excIn X.K C bmB newId = true) (gC : X.mg x = some (.ref C)) (kC : PySem.W.keepIn X.K (.ref C) = true) (r : Raises X (.ref C)) (hg : Gl X x)
    (hdb : (x == ("__debug__" : Str)) = false := by decide) : PMk X (.Call (.Name x p) [] [] pos) (fun _ H Q => Q (.ref C) none H) := by
  intro pins s σ H Q I h
  refine wpAny_Call_Name_kw (ld_glob I hg gC ?_ hdb)
  refine PySem.W.callWith_K0 I.kIn kC ?_
  obtain ⟨bm, N, nm, qn, bs, hdct, sn, sub, ab, col, dd, k0, k1, k2, k3, k5, mN, hC, hN, hni, T⟩ := exc_obj I.kIn q
  exact wpAny_call_exc_subT F T hC hN hni (fun h' e hm => mk_of I hm r h (I.hok.gone hm.new)) (Nat.zero_le _)
end
theorem pcX {X : Cx} {E : XK} (tk : Takes X fun cls d _ H => E cls d H) : Passes (L2.CX X.prog X.w) X E := passes_call tk fun _ _ _ _ h => h
/-- what the clauses of a try ask, whatever the slots hold -/
def WT (n : Nat) (W : WX) : XK := fun cls d H => ∀ σ : St, σ.length = n → W cls d σ H
theorem passesT {X : Cx} {W : WX} {n : Nat} (tk : Takes X W) (hn : X.N.length = n := by rfl) : Passes (L2.CX X.prog X.w) X (WT n W) := fun _ σ _ _ e s' I c => tk e s' (XE.of_call I (fun _ _ _ h => h σ (I.len.trans hn)) c)
theorem exm_by {K : PySem.W.Frag} {S R : Addr} {b : Bool} (h1 : PySem.W.subIn K (.ref R) (.type "BaseException") = some true) (h2 : PySem.W.isClsIn K R = true) (h3 : PySem.W.typeIn K (.ref R) = some (.type "type")) (h4 : PySem.W.subIn K (.ref S) (.ref R) = some b) :
    PySem.W.exmOne K (.ref S) (.ref R) = some b := by
  have e1 : (PySem.W.subIn K (.ref R) (.type "BaseException") == some true) = true := by rw [h1] <;> rfl
  have e2 : ((PySem.W.clsIn K R).isSome && PySem.W.typeIn K (.ref R) == some (.type "type")) = true := by
    have h2' : (PySem.W.clsIn K R).isSome = true := h2
    rw [h2', h3] <;> rfl
  show (if (PySem.W.subIn K (.ref R) (.type "BaseException") == some true) = true then (if ((PySem.W.clsIn K R).isSome && PySem.W.typeIn K (.ref R) == some (.type "type")) = true then PySem.W.subIn K (.ref S) (.ref R) else none) else none) = some b
  rw [if_pos e1, if_pos e2]
  exact h4
theorem exm_self {K : PySem.W.Frag} {S : Addr} (h1 : PySem.W.subIn K (.ref S) (.type "BaseException") = some true) (h2 : PySem.W.isClsIn K S = true) (h3 : PySem.W.typeIn K (.ref S) = some (.type "type")) (h4 : PySem.W.subIn K (.ref S) (.ref S) = some true) :
    PySem.W.exmOne K (.ref S) (.ref S) = some true := exm_by h1 h2 h3 h4
theorem _root_.PySem.MyX.XCls.xf {K : PySem.W.Frag} {C fI : Addr} {f : Str} (T : PySem.MyX.XCls K C fI f) : XfC K C := ⟨T.ga, T.gg, T.exC, T.hdC⟩
/-- raised: an error of the class at C with one field -/
def Exc1 (E : XK) (C : Addr) (f : Str) (v : V) (H : Hp) : Prop := ∀ d H', Same H H' → H' d = some (.xd [(f, v)]) → E (.ref C) (some d) H'
theorem r_raise {t : St → Hp → XK → Prop} {W : WX} {σ : St} {H : Hp} {D : Ends} (h : t σ H fun cls d H' => W cls d σ H') : (fun (_ : Ends) σ H => t σ H fun cls d H' => W cls d σ H') D σ H := h
end My
namespace PySem
namespace MyXInvalidName
open PySem.W PySem.Calls PyProof.Rows PySem.HandSPX PySem.MyX
/-! ### InvalidName(e), as the hand's example of an own error shows it -/
def iA (p1 p2 : Pos) : Arguments := { posonlyargs := [], args := [{ arg := "self", annotation := none, pos := p1 }, { arg := "at", annotation := none, pos := p2 }], vararg := none, kwonlyargs := [], kw_defaults := [], kwarg := none, defaults := [] }
def iB (q1 q2 q3 q4 : Pos) : List Stmt := [.Assign [.Attribute (.Name "self" q1) "at" q2] (.Name "at" q3) q4]
def iS : Scope := { kind := .function, names := [(PySem.Str.ofString "self", .local), (PySem.Str.ofString "at", .local)], isGenerator := false, isCoroutine := false, more := [] }
structure ETxt (K : Frag) (mg : Str → Option Value) (C fI : Addr) : Prop where
  gC : mg "InvalidName" = some (.ref C)
  xc : XCls K C fI "at"
  fn : ∃ (oc : Value) (od : Option Addr) (doc pm : Value) (an : Option Addr) (cdv ct : Value) (osl : Array (Option Value)) (p1 p2 q1 q2 q3 q4 : Pos),
    K.lookup fI = some ⟨oc, od, .func (fnOf "__init__" "InvalidName.__init__" (iA p1 p2) (iB q1 q2 q3 q4) iS .none .none doc pm an cdv ct), osl⟩ ∧ codeIn K cdv "InvalidName.__init__" = true
/-- what __init__ leaves of a fresh exception at x -/
structure InitEnd (h h' : Heap) (x C dx t1 : Addr) (v : Value) : Prop where
  keep : ∀ b o, b ≠ x → h.get? b = some o → h'.get? b = some o
  obj : h'.get? x = some { cls := .ref C, dict := some dx, data := .fields #[.ref t1, .none, .none, .none, .bool false, .none] }
  dbig : h.objs.size ≤ dx
  dne : dx ≠ x
  ns : h'.Ns1 dx (fun y => if y = "at" then some v else none)
structure OwnMade (h h' : Heap) (e C d : Addr) (v : Value) : Prop where
  keep : ∀ b o, h.get? b = some o → h'.get? b = some o
  new : h.objs.size ≤ e
  obj : ∃ oe vs, h'.get? e = some oe ∧ oe.cls = .ref C ∧ oe.dict = some d ∧ oe.data = .fields vs ∧ vs[1]? = some .none
  dbig : h.objs.size ≤ d
  dne : d ≠ e
  ns : h'.Ns1 d (fun y => if y = "at" then some v else none)
theorem ldC {M : Model} {s : Shared} {name : Str} {scope : Scope} {L a : Addr} {cd : Value} {m : Str → Option Value} {x : Str} {pos : Pos} {v : Value} {Q : Value → Shared → Prop} {A : Around} {E : Value → Shared → Prop} (hn : s.heap.Ns L m) (hv : m x = some v) (h : Q v s)
    (hk : scope.kind = .function := by rfl) (hl : (envOfC name scope L a cd).kindOf x = some .local := by rfl) (hd : (x == ("__debug__" : Str)) = false := by decide) :
    wpAny M A (eval (.Name x pos) (envOfC name scope L a cd)) Q E s := wpAny_Name (wpAny_loadName_local hk hl hn hv h) hd
section
variable {prog : Program} {w : World} {A : Around} {E : Value → Shared → Prop} {R : Result → Shared → Prop} {s : Shared} {K : Frag} {mg : Str → Option Value} {C fI : Addr}
theorem e_init (T : ETxt K mg C fI) {x t0 : Addr} {v : Value} (X : K.In s.heap) (hlim : s.heap.NoLimit) (hx : s.heap.get? x = some (excO C t0)) (hroom : A.depth < recursionLimit)
    (hq : ∀ h' tk dx, InitEnd s.heap h' x C dx t0 v → R (.ok (.ret .none)) { s with heap := h', toks := tk }) :
    codeAny (model prog w) A (.call (.ref fI) ⟨[.ref x, v], []⟩) R s := by
  obtain ⟨oc, od, doc, pm, an, cdv, ct, osl, p1, p2, q1, q2, q3, q4, ho, hcd⟩ := T.fn
  refine Att.call_fn (binds := [("self", .ref x), ("at", v)]) X hlim ho hcd hroom (BindsTo.of_eq (by first | rfl | with_unfolding_all rfl)) (by first | rfl | decide | with_unfolding_all rfl) (fun s₁ IC => ?_) rfl rfl rfl
  obtain ⟨h₁, tk₁, rfl⟩ := IC.toInCall.same
  have k : ∀ b o, s.heap.get? b = some o → h₁.get? b = some o := IC.toInCall.keep
  have hn := IC.toInCall.ns
  have X₁ : K.In h₁ := X.keeps k
  have hx₁ := k _ _ hx
  show wpAny _ _ (execs _ _) _ _ _
  refine wpAny_execs_cons (plainObj_wpAny_Assign_Attribute ?_)
  refine ldC (v := v) hn (by first | rfl | with_unfolding_all rfl | kernel_rfl) (ldC (v := .ref x) hn (by first | rfl | with_unfolding_all rfl | kernel_rfl) ?_)
  refine set_plain X₁ (ox := excO C t0) (od := none) ⟨hx₁, rfl, rfl, trivial⟩ T.xc.sa ?_
  refine first_field T.xc X₁ hx₁ (fun h₃ tk₃ dx k₃ dn dne hx₃ hn₃ => ?_)
  show wpAny _ _ (execs _ _) _ _ _
  have z : s.heap.objs.size < h₁.objs.size := hn.lt
  exact wpAny_execs_nil (hq h₃ tk₃ dx ⟨fun b o hb e => k₃ b o hb (k b o e), hx₃, Nat.le_of_lt (Nat.lt_of_lt_of_le z dn), dne, hn₃⟩)
theorem e_made (T : ETxt K mg C fI) {v : Value} (X : K.In s.heap) (hlim : s.heap.NoLimit) (hroom : A.depth + 1 < recursionLimit)
    (hq : ∀ h' tk e d, OwnMade s.heap h' e C d v → R (.ok (.ret (.ref e))) { s with heap := h', toks := tk }) :
    codeAny (model prog w) A (.call (.ref C) ⟨[v], []⟩) R s := by
  obtain ⟨nm, q, N, bs, bm, sn, sub, ab, col, dd, k0, k1, k2, k3, k5, hC, hbm⟩ := T.xc.cls
  obtain ⟨hp, g, dr, tk, os⟩ := s
  have k : ∀ b o, hp.get? b = some o → ((hp.push (kdv_tup [v])).push (excO C hp.objs.size)).get? b = some o := fun b o e => Heap.get?_push_of_some _ (Heap.get?_push_of_some _ e)
  have hget : ((hp.push (kdv_tup [v])).push (excO C hp.objs.size)).get? (hp.objs.size + 1) = some (excO C hp.objs.size) := by heap_get
  refine call_own F.excBase_Exception (fun X => excTail_contains X bm hbm) (X _ _ hC) (looks_findIn X T.xc.iC) (fun self => bind_fn X self T.xc.tC) (one_sz v) ?_
  refine e_init (s := ⟨(hp.push (kdv_tup [v])).push (excO C hp.objs.size), g, dr, tk, os⟩) T (X.keeps k) (hlim.keeps k) hget ?_ fun h' tk' dx ⟨k', hx, dn, dne, hns⟩ => ?_
  · show A.depth + 1 < recursionLimit
    exact hroom
  · have old : ∀ b o, hp.get? b = some o → h'.get? b = some o := fun b o e => k' b o (Nat.ne_of_lt (Nat.lt_succ_of_lt (Heap.lt_size e))) (k b o e)
    have z : hp.objs.size + 1 + 1 ≤ dx := by
      first
        | (simpa only [Heap.size_push] using dn)
        | exact dn
        | (have q := dn; rw [Heap.size_push, Heap.size_push] at q; exact q)
    exact ⟨rfl, hq h' tk' (hp.objs.size + 1) dx ⟨old, Nat.le_succ _, ⟨_, _, hx, rfl, rfl, rfl, rfl⟩, Nat.le_trans (Nat.le_trans (Nat.le_succ _) (Nat.le_succ _)) z, dne, hns⟩⟩
end
end MyXInvalidName
end PySem
namespace My
open PySem L2
theorem relO_InvalidName {v : V} {v' : Value} (r : RelV v v') (f : Str) : RelO (List.lookup f [(("at" : Str), v)]) (if f = "at" then some v' else none) := by
  by_cases hw : f = "at"
  · subst hw
    rw [if_pos rfl]
    have q : List.lookup ("at" : Str) [(("at" : Str), v)] = some v := by simp [List.lookup]
    rw [q]
    exact r
  · rw [if_neg hw]
    have qw : (f == ("at" : Str)) = false := by simpa using hw
    have q2 : List.lookup f [(("at" : Str), v)] = none := by simp [List.lookup, qw]
    rw [q2]
    trivial
/-- InvalidName(e), whatever is done with it -/
def tMkInvalidName (C : Addr) (ta : TA) : St → Hp → XK → Prop := fun σ H Q => ta σ H fun vs H1 => ∃ v, vs = [v] ∧ Exc1 Q C "at" v H1
section
variable {X : Cx} {C fI : Addr}
theorem pmk_InvalidName {a : Expr} {ta : TA} {p pos : Pos} {k : Nat} (T : PySem.MyXInvalidName.ETxt X.K X.mg C fI) (hr : Room k X.A) (ha : PA X [a] ta) (hg : Gl X "InvalidName" := by rfl)
    (he : starEach (a :: []) X.env = (false, eval a X.env) :: starEach [] X.env := by rfl) (hpl : (backTo pos (starEach [] X.env)).any (·.1) = false := by rfl) :
    PMk X (.Call (.Name "InvalidName" p) [a] [] pos) (tMkInvalidName C ta) := by
  intro pins s σ H Q I h
  refine wpAny_Call_Name_kw (ld_glob I hg T.gC ?_)
  refine PySem.W.callWith_K (h₀ := X.base) I.ok.mod.kin T.xc.kC (thn (ha.run pos pins s σ H _ I h) fun us s1 hh => ?_) he hpl
  obtain ⟨vs, H1, I1, r1, v, ev, q1⟩ := hh
  subst ev
  refine ⟨I1.kIn, ?_⟩
  cases r1 with
  | cons rv rn =>
    rename_i v' us'
    cases rn
    show wpAny _ _ (call (.ref C) [v']) _ _ _
    have hlim := I1.nolimit
    obtain ⟨hp, g, dr, tk, os⟩ := s1
    refine wpAny_call (PySem.MyXInvalidName.e_made T I1.kIn hlim (by have := hr.dp; omega) fun h' tk' e d M => ?_)
    show MkP X pins σ Q (.ref e) ⟨h', g, dr, tk', os⟩
    obtain ⟨oe, fv, hoe, hc, hd, hdat, h1⟩ := M.obj
    have hns := M.ns
    obtain ⟨G', g1, g2⟩ := restrict h' fun b => decide (b ≠ e)
    have gk : ∀ b, b ≠ e → G'.get? b = h'.get? b := fun b hb => g1 b (decide_eq_true hb)
    have ge : G'.get? e = none := g2 e (by simp)
    have old : ∀ b o, hp.get? b = some o → G'.get? b = some o := fun b o q => (gk b (Nat.ne_of_lt (Nat.lt_of_lt_of_le (Heap.lt_size q) M.new))).trans (M.keep b o q)
    have ob : ObjOk X.prog X.w (upd H1 d (.xd [(("at" : Str), v)])) G' d (.xd [(("at" : Str), v)]) :=
      ⟨_, hns.at (fun o q => (gk d M.dne).trans q), fun f => relO_InvalidName rv f⟩
    have J : Inv X pins σ (upd H1 d (.xd [(("at" : Str), v)])) ⟨G', g, dr, tk', os⟩ := I1.laid (t' := tk') old M.dbig ob
    refine ⟨e, oe, fv, ⟨G', g, dr, tk', os⟩, _, .ref C, some d, rfl, J, fun b o q => ?_, ge, hoe, ⟨hc, hd⟩, hdat, h1, ?_, rfl, I1.bare, raises_own T.xc.exC T.xc.tyC, q1 d _ (Same.new (I1.hok.fresh M.dbig)) upd_same⟩
    · by_cases hb : b = e
      · have q' : G'.get? b = some o := q
        rw [hb, ge] at q'; cases q'
      · exact (gk b hb).symm.trans q
    · rw [upd_ne (Ne.symm M.dne)]
      exact I1.hok.fresh M.new
end
theorem r_mkInvalidName {C : Addr} {ta : TA} {σ : St} {H : Hp} {Q : XK} (h : ta σ H fun vs H1 => ∃ v, vs = [v] ∧ Exc1 Q C "at" v H1) : tMkInvalidName C ta σ H Q := h

/-- where the top has written what -/
structure Adr where
  a_is_integer : Addr
  d_is_integer : FuncData
  a_is_between : Addr
  d_is_between : FuncData
  a_check_turns : Addr
  d_check_turns : FuncData
  a_check_roots : Addr
  d_check_roots : FuncData
  a_wrong_in_name : Addr
  d_wrong_in_name : FuncData
  a_check_name : Addr
  d_check_name : FuncData
  a_Tree_init : Addr
  d_Tree_init : FuncData
  a_time_of : Addr
  d_time_of : FuncData
  a_is_name : Addr
  d_is_name : FuncData
  t_is_name_roots : Addr
  a_known_at : Addr
  d_known_at : FuncData
  t_known_at_roots : Addr
  a_Machine_init : Addr
  d_Machine_init : FuncData
  a__law_source : Addr
  d__law_source : FuncData
  a__law_draw : Addr
  d__law_draw : FuncData
  a__law_big : Addr
  d__law_big : FuncData
  a__law_numbers : Addr
  d__law_numbers : FuncData
  a__law_times : Addr
  d__law_times : FuncData
  a__law_within : Addr
  d__law_within : FuncData
  a__law_wrong : Addr
  d__law_wrong : FuncData
  a__law_thing : Addr
  d__law_thing : FuncData
  a__law_asked : Addr
  d__law_asked : FuncData
  a_law : Addr
  d_law : FuncData
  c_Tree : Addr
  c_Machine : Addr
  c_InvalidName : Addr
  i_InvalidName : Addr
/-- what the walk asks of the top -/
structure Txt (K : PySem.W.Frag) (mg : Str → Option Value) (a : Adr) : Prop where
  F_is_integer : Fun K "is_integer" "is_integer" s_is_integer a.a_is_integer a.d_is_integer
  b_is_integer : Binds K a.d_is_integer ["thing"] []
  g_is_integer : mg "is_integer" = some (.ref a.a_is_integer)
  F_is_between : Fun K "is_between" "is_between" s_is_between a.a_is_between a.d_is_between
  b_is_between : Binds K a.d_is_between ["thing", "low", "high"] []
  g_is_between : mg "is_between" = some (.ref a.a_is_between)
  F_check_turns : Fun K "check_turns" "check_turns" s_check_turns a.a_check_turns a.d_check_turns
  b_check_turns : Binds K a.d_check_turns ["turns"] []
  g_check_turns : mg "check_turns" = some (.ref a.a_check_turns)
  F_check_roots : Fun K "check_roots" "check_roots" s_check_roots a.a_check_roots a.d_check_roots
  b_check_roots : Binds K a.d_check_roots ["roots"] []
  g_check_roots : mg "check_roots" = some (.ref a.a_check_roots)
  F_wrong_in_name : Fun K "wrong_in_name" "wrong_in_name" s_wrong_in_name a.a_wrong_in_name a.d_wrong_in_name
  b_wrong_in_name : Binds K a.d_wrong_in_name ["thing", "turns", "roots"] []
  g_wrong_in_name : mg "wrong_in_name" = some (.ref a.a_wrong_in_name)
  F_check_name : Fun K "check_name" "check_name" s_check_name a.a_check_name a.d_check_name
  b_check_name : Binds K a.d_check_name ["thing", "turns", "roots"] []
  g_check_name : mg "check_name" = some (.ref a.a_check_name)
  F_Tree_init : Fun K "__init__" "Tree.__init__" s_Tree_init a.a_Tree_init a.d_Tree_init
  b_Tree_init : Binds K a.d_Tree_init ["self", "machine", "turns", "roots"] []
  mk_Tree : Mk K a.c_Tree a.a_Tree_init
  F_time_of : Fun K "time_of" "time_of" s_time_of a.a_time_of a.d_time_of
  b_time_of : Binds K a.d_time_of ["tree", "name"] []
  g_time_of : mg "time_of" = some (.ref a.a_time_of)
  F_is_name : FunD K "is_name" "is_name" (defArgs s_is_name) (defBody s_is_name) (defScope s_is_name) [] [("turns", .non), ("roots", .ref a.t_is_name_roots)] a.a_is_name a.d_is_name
  t_is_name_roots : ∀ H, SqT K H a.t_is_name_roots [.int 0]
  g_is_name : mg "is_name" = some (.ref a.a_is_name)
  F_known_at : FunD K "known_at" "known_at" (defArgs s_known_at) (defBody s_known_at) (defScope s_known_at) [] [("turns", .non), ("roots", .ref a.t_known_at_roots)] a.a_known_at a.d_known_at
  t_known_at_roots : ∀ H, SqT K H a.t_known_at_roots [.int 0]
  g_known_at : mg "known_at" = some (.ref a.a_known_at)
  F_Machine_init : Fun K "__init__" "Machine.__init__" s_Machine_init a.a_Machine_init a.d_Machine_init
  b_Machine_init : Binds K a.d_Machine_init ["self", "o", "l", "g"] []
  mk_Machine : Mk K a.c_Machine a.a_Machine_init
  F__law_source : Fun K "_law_source" "_law_source" s__law_source a.a__law_source a.d__law_source
  b__law_source : Binds K a.d__law_source ["_law_script"] []
  g__law_source : mg "_law_source" = some (.ref a.a__law_source)
  F__law_draw : Fun K "_law_draw" "_law_draw" s__law_draw a.a__law_draw a.d__law_draw
  b__law_draw : Binds K a.d__law_draw ["_law_source_here", "_law_limit"] []
  g__law_draw : mg "_law_draw" = some (.ref a.a__law_draw)
  F__law_big : Fun K "_law_big" "_law_big" s__law_big a.a__law_big a.d__law_big
  b__law_big : Binds K a.d__law_big ["_law_source_here", "_law_limit"] []
  g__law_big : mg "_law_big" = some (.ref a.a__law_big)
  F__law_numbers : Fun K "_law_numbers" "_law_numbers" s__law_numbers a.a__law_numbers a.d__law_numbers
  b__law_numbers : Binds K a.d__law_numbers ["_law_source_here"] []
  g__law_numbers : mg "_law_numbers" = some (.ref a.a__law_numbers)
  F__law_times : Fun K "_law_times" "_law_times" s__law_times a.a__law_times a.d__law_times
  b__law_times : Binds K a.d__law_times ["_law_numbers_here"] []
  g__law_times : mg "_law_times" = some (.ref a.a__law_times)
  F__law_within : Fun K "_law_within" "_law_within" s__law_within a.a__law_within a.d__law_within
  b__law_within : Binds K a.d__law_within ["_law_thing_here", "_law_low", "_law_high"] []
  g__law_within : mg "_law_within" = some (.ref a.a__law_within)
  F__law_wrong : Fun K "_law_wrong" "_law_wrong" s__law_wrong a.a__law_wrong a.d__law_wrong
  b__law_wrong : Binds K a.d__law_wrong ["_law_thing_here", "_law_turns", "_law_many"] []
  g__law_wrong : mg "_law_wrong" = some (.ref a.a__law_wrong)
  F__law_thing : Fun K "_law_thing" "_law_thing" s__law_thing a.a__law_thing a.d__law_thing
  b__law_thing : Binds K a.d__law_thing ["_law_source_here", "_law_turns", "_law_many", "_law_machine"] []
  g__law_thing : mg "_law_thing" = some (.ref a.a__law_thing)
  F__law_asked : Fun K "_law_asked" "_law_asked" s__law_asked a.a__law_asked a.d__law_asked
  b__law_asked : Binds K a.d__law_asked ["_law_machine", "_law_thing_here", "_law_turns", "_law_roots"] []
  g__law_asked : mg "_law_asked" = some (.ref a.a__law_asked)
  F_law : Fun K "law" "law" s_law a.a_law a.d_law
  b_law : Binds K a.d_law ["_law_script"] []
  g_law : mg "law" = some (.ref a.a_law)
  g_Tree : mg "Tree" = some (.ref a.c_Tree)
  cl_Tree : Cls K a.c_Tree
  nF_Tree_letter : NoAttr K a.c_Tree "letter"
  nF_Tree_gap : NoAttr K a.c_Tree "gap"
  nF_Tree_turns : NoAttr K a.c_Tree "turns"
  nF_Tree_roots : NoAttr K a.c_Tree "roots"
  nF_Tree_horizon : NoAttr K a.c_Tree "horizon"
  nF_Tree_powers : NoAttr K a.c_Tree "powers"
  g_Machine : mg "Machine" = some (.ref a.c_Machine)
  cl_Machine : Cls K a.c_Machine
  nF_Machine_o : NoAttr K a.c_Machine "o"
  nF_Machine_l : NoAttr K a.c_Machine "l"
  nF_Machine_g : NoAttr K a.c_Machine "g"
  nF_Machine_letter : NoAttr K a.c_Machine "letter"
  nF_Machine_gap : NoAttr K a.c_Machine "gap"
  ca_Machine : PySem.W.findIn K (.ref a.c_Machine) "__class__" = some (some (.builtin "object.__class__"))
  ct_Machine : PySem.W.takesIn K (.builtin "object.__class__") = some true
  cg_Machine : PySem.W.specialIn K (.builtin "object.__class__") "__get__" = some (some (.builtin "getset_descriptor.__get__"))
  co_Machine : PySem.W.mroIn K a.c_Machine (.type "object") = some true
  ic_Machine : PySem.W.isClsIn K a.c_Machine = true
  tc_Machine : PySem.W.typeIn K (.ref a.c_Machine) = some (.type "type")
  su_int_Machine : PySem.W.subIn K (.ref a.c_Machine) (.type "int") = some false
  su_bool_Machine : PySem.W.subIn K (.ref a.c_Machine) (.type "bool") = some false
  su_tuple_Machine : PySem.W.subIn K (.ref a.c_Machine) (.type "tuple") = some false
  g_InvalidName : mg "InvalidName" = some (.ref a.c_InvalidName)
  x_InvalidName : PySem.MyXInvalidName.ETxt K mg a.c_InvalidName a.i_InvalidName
  m_InvalidName : PySem.W.exmOne K (.ref a.c_InvalidName) (.ref a.c_InvalidName) = some true
  n_bool : mg "bool" = none
  n_enumerate : mg "enumerate" = none
  n_int : mg "int" = none
  n_isinstance : mg "isinstance" = none
  n_len : mg "len" = none
  n_list : mg "list" = none
  n_max : mg "max" = none
  n_min : mg "min" = none
  n_range : mg "range" = none
  n_sum : mg "sum" = none
  n_tuple : mg "tuple" = none
  g_MOST_TURNS : ∃ t, mg "MOST_TURNS" = some (.int 1000000000000 t)
  g_MOST_ROOTS : ∃ t, mg "MOST_ROOTS" = some (.int 6 t)
  g_LATEST_ROOT : ∃ t, mg "LATEST_ROOT" = some (.int 1000000000000 t)
  g_LONGEST_NAME : ∃ t, mg "LONGEST_NAME" = some (.int 200 t)
  g_GREATEST_ITEM : ∃ t, mg "GREATEST_ITEM" = some (.int 1000000000000000 t)
  g_FREE_DEPTHS : ∃ t, mg "FREE_DEPTHS" = some (.int 120 t)
  g_TURNS_DEPTHS : ∃ t, mg "TURNS_DEPTHS" = some (.int 40 t)
  g_GREATEST_PART : ∃ t, mg "GREATEST_PART" = some (.int 1000000000 t)
local macro_rules | `(tactic| walk_at "src") => `(tactic| first | assumption | (refine' SrcAt.keep ?h ?s; (case s => assumption); (case h => walk_at "src")))
local macro_rules | `(tactic| walk_at "ne") => `(tactic| first | assumption | (apply Ne.symm; assumption) | (refine' SrcAt.ne ?a ?b; (case b => assumption); (case a => walk_at "src")))
local macro_rules | `(tactic| walk_at "hp") => `(tactic| first
  | assumption
  | with_reducible exact upd_same
  | (refine' Same.at ?s ?h; (case s => assumption); (case h => walk_at "hp"))
  | (refine' But.at ?s ?n ?h; (case s => assumption); (case n => walk_at "ne"); (case h => walk_at "hp"))
  | (rw [upd_ne (by first | assumption | (apply Ne.symm; assumption))]; walk_at "hp"))
local macro_rules | `(tactic| walk_at "side") => `(tactic| first | assumption | decide | omega | exact mulL (by omega) (by omega) | exact mulR (by omega) (by omega) | exact cdiv_of (by omega) (by omega) | exact powOk (by omega) (by omega) (by decide) | exact mulL (Int.lt_of_lt_of_le (by decide) (fmod_nn (by decide))) (Int.lt_trans (fmod_lt (by decide)) (by decide)))
local macro_rules | `(tactic| walk_at "pl") => `(tactic| ((repeat with_reducible refine putF_le ?_); with_unfolding_all exact Nat.le_of_ble_eq_true rfl))
local macro_rules | `(tactic| walk_at "lk") => `(tactic| first | assumption | (rw [lookup_putF, if_pos rfl]) | (rw [lookup_putF, if_neg (by decide +kernel)]; walk_at "lk"))
local macro_rules | `(tactic| walk_at "cls") => `(tactic| first | with_unfolding_all exact Txt.cl_Tree (by assumption) | with_unfolding_all exact Txt.nF_Tree_letter (by assumption) | with_unfolding_all exact Txt.nF_Tree_gap (by assumption) | with_unfolding_all exact Txt.nF_Tree_turns (by assumption) | with_unfolding_all exact Txt.nF_Tree_roots (by assumption) | with_unfolding_all exact Txt.nF_Tree_horizon (by assumption) | with_unfolding_all exact Txt.nF_Tree_powers (by assumption) | with_unfolding_all exact Txt.cl_Machine (by assumption) | with_unfolding_all exact Txt.nF_Machine_o (by assumption) | with_unfolding_all exact Txt.nF_Machine_l (by assumption) | with_unfolding_all exact Txt.nF_Machine_g (by assumption) | with_unfolding_all exact Txt.nF_Machine_letter (by assumption) | with_unfolding_all exact Txt.nF_Machine_gap (by assumption))
/-- one turn of a reading -/
local macro_rules | `(tactic| walk_at "rd") => `(tactic| with_reducible first
  | (refine r_seq ?_; fail_if_success (refine r_ifS ?_))
  | refine r_asg ?_
  | refine r_gName ?_
  | (refine' r_var ?hv ?_; (case hv => with_unfolding_all exact rfl))
  | refine r_c ?_
  | refine r_op ?_
  | refine r_I0 ?_
  | (refine' r_I ?hc ?_; (case hc => walk_at "side"))
  | refine r_add ?_
  | refine r_sub ?_
  | refine r_eqI ?_
  | refine r_neI ?_
  | (refine' r_ixL ?hp ?he ?_; (case hp => walk_at "hp"); (case he => with_unfolding_all exact rfl))
  | (refine' r_ixT ?hp ?he ?_; (case hp => walk_at "hp"); (case he => with_unfolding_all exact rfl))
  | refine r_cons ?_
  | refine r_nil ?_
  | refine r_CB ?_
  | refine r_call ?_
  | refine r_test ?_
  | refine r_tB ?_
  | refine r_bl ?_
  | refine r_in ?_
  | refine Or.inl (r_in1 ?_)
  | refine r_in1 ?_
  | refine r_in2 ?_
  | (refine' r_lenL ?hp ?_; (case hp => walk_at "hp"))
  | (refine' r_lenT ?hp ?_; (case hp => walk_at "hp"))
  | refine r_ifS ?_
  | refine r_and ?_
  | refine r_or ?_
  | refine r_not ?_
  | refine r_andV ?_
  | refine r_orV ?_
  | refine r_notV ?_
  | refine r_ifE ?_
  | refine r_ret ?_
  | refine r_next ?_
  | refine r_drop ?_
  | refine r_gSub ?_
  | (refine' r_setL ?hp ?he ?_; (case hp => walk_at "hp"); (case he => with_unfolding_all exact rfl))
  | (refine' r_aug ?he ?_; (case he => with_unfolding_all exact rfl))
  | refine r_augS ?_
  | refine r_ip ?_
  | refine r_tup ?_
  | refine r_lst ?_
  | refine r_tFld ?_
  | (refine' r_fld ?hc ?hn ?hx ?he ?_; (case hx => walk_at "hp"); (case hc => walk_at "cls"); (case hn => walk_at "cls"); (case he => walk_at "lk"))
  | (refine' r_put ?hc ?hn ?hx ?hl ?_; (case hx => walk_at "hp"); (case hc => walk_at "cls"); (case hn => walk_at "cls"); (case hl => walk_at "pl"))
  | refine r_sl ?_
  | refine r_noP ?_
  | refine r_part ?_
  | refine r_un ?_
  | refine r_U ?_
  | refine r_Bm ?_
  | refine r_cont ?_
  | refine r_brk ?_
  | refine r_isNn ?_
  | refine r_isNi ?_
  | refine r_isNr ?_
  | refine r_notNn ?_
  | refine r_notNi ?_
  | refine r_notNr ?_
  | refine r_chain ?_
  | refine r_sFld ?_
  | refine r_make ?_
  | refine r_yes ?_
  | refine r_lc ?_
  | refine r_isiI true (by decide +kernel) ?_
  | refine r_isiI false (by decide +kernel) ?_
  | refine r_for ?_
  | refine r_iR1 ?_
  | refine r_iR2 ?_
  | refine r_iL ?_
  | refine r_tMeth ?_
  | (refine' r_meth ?hx ?hl ?_; (case hx => walk_at "hp"); (case hl => walk_at "no"))
  | refine r_iT ?_
  | refine iteT ?_
  | refine r_nF ?_
  | refine r_nT ?_
  | refine iteF ?_)
local macro_rules | `(tactic| walk_at "rdi") => `(tactic| with_reducible (refine r_seq ?_; refine r_ifS ?_))

/-! ### the law's draws -/
def spDraw : Sp := fun vs H Q _ => ∃ (p q : Addr) (lim : Int), vs = [.ref p, .int lim] ∧ SrcAt H p q ∧ 0 < lim ∧ lim < 2 ^ 200 ∧
  ∀ (r : Int) (H' : Hp), 0 ≤ r → r < lim → SrcAt H' p q → But p H H' → Q (.int r) H'
section
variable {P : Program} {w : World} {K : PySem.W.Frag} {mg : Str → Option Value} {base : Heap} {a : Adr}
theorem ok__law_draw (T : Txt K mg a) : FnOk P w K mg base CX0 1 a.a__law_draw a.d__law_draw ["_law_source_here", "_law_limit"] spDraw := by
  refine T.F__law_draw.ok sc__law_draw (fun vs H Q E h => ?_) (fun cdv A outer s H vs Q E hr h => ?_)
  · obtain ⟨p, q, lim, rfl, _⟩ := h
    rfl
  · obtain ⟨p, q, lim, rfl, ⟨cs, i, big, cnt, st, h1, h2, h3, hi, hb, hl⟩, hl0, hl1, k⟩ := h
    refine ⟨_, (pss_cons (ps_augS (pv 0) pe_int gt_list pe_int ip_add set_list)
 (pss_cons (ps_if (PW.pt (pw_and (pt_cmpR op_eq (pe_ix ix_list (pv 0) pe_int (fun _ _ => rfl)) pe_int (nomark _)) (pw_and1 (pt_cmpR op_lt (pe_ix ix_list (pv 0) pe_int (fun _ _ => rfl)) (pe_callB call_len_seq (by rfl) T.n_len (by decide +kernel) (pa_cons (pe_ix ix_list (pv 0) pe_int (fun _ _ => rfl)) pa_nil)) (nomark _))))) (pss_cons (ps_set (i := 2) sc__law_draw.nd rfl (Or.inl rfl) (pe_ix ix_list (pe_ix ix_list (pv 0) pe_int (fun _ _ => rfl)) (pe_ix ix_list (pv 0) pe_int (fun _ _ => rfl)) (fun _ _ => rfl)))
 (pss_cons (ps_augS (pv 0) pe_int gt_list pe_int ip_add set_list)
 (pss_one (ps_if (pt_cmpR op_ge (pv 2) (pe_powN (z := 1000000000000000000) ⟨by decide, by decide, by decide⟩ (by decide +kernel)) (nomark _)) (pss_one (ps_asg (pv 2) (pg_sub (pv 0) pe_int set_list)))
 (pss_one (ps_asg (pe_op op_modN (pe_callTy call_int1 (by rfl) T.n_int (by decide +kernel) (pa_cons (pe_op op_add (pe_op op_add (pe_op op_mul (pe_ix ix_list (pv 0) pe_int (fun _ _ => rfl)) pe_int) (pe_op op_mul (pv 2) pe_int)) pe_int) pa_nil)) pe_int) (pg_sub (pv 0) pe_int set_list)))))))
 pss_nil)
 (pss_cons (ps_if (pt_cmpR op_gt (pe_ix ix_list (pv 0) pe_int (fun _ _ => rfl)) pe_int (nomark _)) (pss_cons (ps_set (i := 3) sc__law_draw.nd rfl (Or.inl rfl) (pe_op op_modN (pe_callTy call_int1 (by rfl) T.n_int (by decide +kernel) (pa_cons (pe_ix ix_list (pv 0) pe_int (fun _ _ => rfl)) pa_nil)) (pv 1)))
 (pss_cons (ps_asg (pe_op op_fdivW (pe_ix ix_list (pv 0) pe_int (fun _ _ => rfl)) (pv 1)) (pg_sub (pv 0) pe_int set_list))
 (pss_one (ps_ret (pv 3)))))
 pss_nil)
 (pss_cons (ps_set (i := 4) sc__law_draw.nd rfl (Or.inl rfl) (pe_op op_modN (pe_callTy call_int1 (by rfl) T.n_int (by decide +kernel) (pa_cons (pe_op op_mul (pe_op op_add (pe_ix ix_list (pv 0) pe_int (fun _ _ => rfl)) (pe_op op_mul pe_int (pe_ix ix_list (pv 0) pe_int (fun _ _ => rfl)))) pe_int) pa_nil)) pe_int))
 (pss_cons (ps_set (i := 5) sc__law_draw.nd rfl (Or.inl rfl) (pe_op op_modN (pe_callTy call_int1 (by rfl) T.n_int (by decide +kernel) (pa_cons (pe_op op_mul (pv 4) (pe_op op_add (pe_op op_fdivW (pv 4) pe_int) pe_int)) pa_nil)) pe_int))
 (pss_cons (ps_set (i := 6) sc__law_draw.nd rfl (Or.inl rfl) (pe_op op_modN (pe_callTy call_int1 (by rfl) T.n_int (by decide +kernel) (pa_cons (pe_op op_mul (pv 5) (pe_op op_add (pe_op op_fdivW (pv 5) pe_int) pe_int)) pa_nil)) pe_int))
 (pss_one (ps_ret (pe_op op_modN (pe_callTy call_int1 (by rfl) T.n_int (by decide +kernel) (pa_cons (pe_op op_fdivW (pv 6) pe_int) pa_nil)) (pv 1)))))))))), ?_⟩
    -- src[3] += 1
    repeat walk_at "rd"
    with_reducible refine seq_with (fun σ H' => ∃ (i big cnt st : Int) (v : Option V), σ = [some (.ref p), some (.int lim), v, none, none, none, none] ∧ H' p = some (.lst [.ref q, .int i, .int big, .int cnt, .int st]) ∧ H' q = some (.lst (cs.map V.int)) ∧ But p H H' ∧ 0 ≤ i ∧ 0 ≤ big) ?_ (fun rest => ?_)
    · clear h1 h2 hi hb
      rintro σ H' ⟨i, big, cnt, st, v, rfl, hp, hq, bt, hi, hb⟩
      walk_at "rdi"
      repeat walk_at "rd"
      refine ite_d (fun hc => ?_) (fun hc => ?_)
      · repeat walk_at "rd"
        exact k _ _ (fmod_nn hl0) (fmod_lt hl0) ⟨cs, i, _, cnt, st, upd_same, (upd_ne h3).trans hq, h3, hi, Int.ediv_nonneg hb (by omega), hl⟩ (bt.trans But.upd)
      · repeat walk_at "rd"
        exact k _ _ (fmod_nn hl0) (fmod_lt hl0) ⟨cs, i, _, cnt, st, hp, hq, h3, hi, hb, hl⟩ bt
    · have nq : H q ≠ none := by rw [h2]; intro z; cases z
      have hp1 : upd H p (HO.lst ([V.ref q, V.int i, V.int big, V.int cnt, V.int st].set (Int.toNat 3) (V.int (cnt + 1)))) p = some (.lst [.ref q, .int i, .int big, .int (cnt + 1), .int st]) := upd_same
      have hq1 : upd H p (HO.lst ([V.ref q, V.int i, V.int big, V.int cnt, V.int st].set (Int.toNat 3) (V.int (cnt + 1)))) q = some (.lst (cs.map V.int)) := (upd_ne h3).trans h2
      have bt1 : But p H (upd H p (HO.lst ([V.ref q, V.int i, V.int big, V.int cnt, V.int st].set (Int.toNat 3) (V.int (cnt + 1))))) := But.upd
      generalize upd H p (HO.lst ([V.ref q, V.int i, V.int big, V.int cnt, V.int st].set (Int.toNat 3) (V.int (cnt + 1)))) = H1 at hp1 hq1 bt1 ⊢
      clear h1 h2
      have no : ∀ (v : Option V), _ := fun v => rest [some (.ref p), some (.int lim), v, none, none, none, none] H1 ⟨i, big, cnt + 1, st, v, rfl, hp1, hq1, bt1, hi, hb⟩
      repeat walk_at "rd"
      refine ite_d (fun hc => ?_) (fun hc => ?_)
      · repeat walk_at "rd"
        refine ite_d (fun hc2 => ?_) (fun hc2 => ?_)
        · obtain ⟨c, hc3, _⟩ := at_nat (ns := cs) hi hc2
          repeat walk_at "rd"
          refine r_ixL hq1 hc3 ?_
          repeat walk_at "rd"
          refine ite_d (fun hc4 => ?_) (fun hc4 => ?_)
          · repeat walk_at "rd"
            exact rest _ _ ⟨i + 1, c, cnt + 1, st, _, rfl, upd_same, (upd_ne h3).trans ((upd_ne h3).trans hq1), (bt1.trans But.upd).trans But.upd, by omega, by omega⟩
          · repeat walk_at "rd"
            exact rest _ _ ⟨i + 1, big, cnt + 1, _, _, rfl, upd_same, (upd_ne h3).trans ((upd_ne h3).trans hq1), (bt1.trans But.upd).trans But.upd, by omega, by omega⟩
        · ((repeat walk_at "rd"); exact no none)
      · ((repeat walk_at "rd"); exact no none)

def spBig : Sp := fun vs H Q _ => ∃ (p q : Addr) (lim : Int), vs = [.ref p, .int lim] ∧ SrcAt H p q ∧ 0 < lim ∧
  ∀ (r : Int) (H' : Hp), 0 ≤ r → r < lim → SrcAt H' p q → But p H H' → Q (.int r) H'
theorem ok__law_big (T : Txt K mg a) : FnOk P w K mg base CX0 2 a.a__law_big a.d__law_big ["_law_source_here", "_law_limit"] spBig := by
  refine T.F__law_big.ok sc__law_big (fun vs H Q E h => ?_) (fun cdv A outer s H vs Q E hr h => ?_)
  · obtain ⟨p, q, lim, rfl, _⟩ := h
    rfl
  · obtain ⟨p, q, lim, rfl, hs, hl0, k⟩ := h
    refine ⟨_, (pss_cons (ps_set (i := 2) sc__law_big.nd rfl (Or.inl rfl) pe_int)
 (pss_cons (ps_for (by exact PassesOwn.never) rfl (pi_range1 (by rfl) T.n_range (pa_cons pe_int pa_nil)) (pg_name (i := 3) sc__law_big.nd rfl (Or.inl rfl))
 (pss_one (ps_set (i := 2) sc__law_big.nd rfl (Or.inl rfl) (pe_op op_add (pe_op op_mul (pv 2) pe_int) (pe_call (ok__law_draw T) (hr.mono (by decide)) (by rfl) T.g__law_draw T.F__law_draw.kp T.b__law_draw .nil pass0 (pa_cons (pv 0) (pa_cons pe_int pa_nil)))))))
 (pss_one (ps_ret (pe_op op_modN (pe_callTy call_int1 (by rfl) T.n_int (by decide +kernel) (pa_cons (pv 2) pa_nil)) (pv 1)))))), ?_⟩
    repeat walk_at "rd"
    refine ⟨by decide, by decide, for_range (lo := 0) (n := 5) (fun i σ H' => ∃ (n : Int) (v : Option V), σ = [some (.ref p), some (.int lim), some (.int n), v] ∧ SrcAt H' p q ∧ But p H H') ⟨_, _, rfl, hs, But.refl _ _⟩ ?_ ?_⟩
    · rintro i σ H1 hi ⟨n, v, rfl, hs1, b1⟩
      repeat walk_at "rd"
      refine ⟨p, q, _, rfl, hs1, by decide, by decide, fun r H2 r0 r1 hs2 b2 => ?_⟩
      repeat walk_at "rd"
      exact ⟨_, _, rfl, hs2, b1.trans b2⟩
    · rintro σ H1 ⟨n, v, rfl, hs1, b1⟩
      repeat walk_at "rd"
      exact k _ _ (fmod_nn hl0) (fmod_lt hl0) hs1 b1
end

/-! ### the machine's numbers, its times, whether a thing is an int -/
/-- o, l, g of a machine, at t -/
structure NumAt (H : Hp) (t : Addr) (o l g : Int) : Prop where
  at_ : H t = some (.tup [.int o, .int l, .int g])
  o0 : 0 ≤ o
  o9 : o ≤ 1000000000
  l0 : 0 ≤ l
  l9 : l ≤ 1000000000
  g1 : 1 ≤ g
  g9 : g ≤ 1000000000
  pos : 0 < 2 * o + l
theorem NumAt.keep {H H' : Hp} {t : Addr} {o l g : Int} (N : NumAt H t o l g) (h : H' t = H t) : NumAt H' t o l g := { N with at_ := h.trans N.at_ }
def spNumbers : Sp := fun vs H Q _ => ∃ (p q : Addr), vs = [.ref p] ∧ SrcAt H p q ∧ ∀ (t : Addr) (o l g : Int) (H' : Hp), NumAt H' t o l g → H t = none → SrcAt H' p q → But p H H' → Q (.ref t) H'
def gapOf (o g : Int) : Int := if g > o then g else o
def spTimes : Sp := fun vs H Q _ => ∃ (t : Addr) (o l g : Int), vs = [.ref t] ∧ H t = some (.tup [.int o, .int l, .int g]) ∧ ∀ (u : Addr) (H' : Hp), H u = none → Same H H' → H' u = some (.tup [.int (2 * o + l), .int (gapOf o g)]) → Q (.ref u) H'
def spIs : Sp := fun vs H Q _ => ∃ (i j : Int), vs = [.int i, .int j] ∧ Q (.bl (decide (i = j))) H
def spSource (K : PySem.W.Frag) : Sp := fun vs H Q _ => ∃ (b : Addr) (ns : List Int), vs = [.ref b] ∧ SqL K H b (ns.map V.int) ∧ ns.length ≤ 63 ∧ ∀ (p q : Addr) (H' : Hp), SrcAt H' p q → H p = none → H q = none → Same H H' → Q (.ref p) H'
section
variable {P : Program} {w : World} {K : PySem.W.Frag} {mg : Str → Option Value} {base : Heap} {a : Adr}
theorem ok__law_times (T : Txt K mg a) : FnOk P w K mg base CX0 1 a.a__law_times a.d__law_times ["_law_numbers_here"] spTimes := by
  refine T.F__law_times.ok sc__law_times (fun vs H Q E h => ?_) (fun cdv A outer s H vs Q E hr h => ?_)
  · obtain ⟨t, o, l, g, rfl, _⟩ := h
    rfl
  · obtain ⟨t, o, l, g, rfl, ht, k⟩ := h
    refine ⟨_, (pss_one (ps_ret (pe_tup (pa_cons (pe_op op_add (pe_op op_mul pe_int (pe_ix ix_tup (pv 0) pe_int (fun _ _ => rfl))) (pe_ix ix_tup (pv 0) pe_int (fun _ _ => rfl))) (pa_cons (pe_callB (call_max2 rfl) (by rfl) T.n_max (by decide +kernel) (pa_cons (pe_ix ix_tup (pv 0) pe_int (fun _ _ => rfl)) (pa_cons (pe_ix ix_tup (pv 0) pe_int (fun _ _ => rfl)) pa_nil))) pa_nil))))), ?_⟩
    repeat walk_at "rd"
    exact new_at (Nat.le_of_ble_eq_true rfl) k
theorem ok__law_source (T : Txt K mg a) : FnOk P w K mg base CX0 1 a.a__law_source a.d__law_source ["_law_script"] (spSource K) := by
  refine T.F__law_source.ok sc__law_source (fun vs H Q E h => ?_) (fun cdv A outer s H vs Q E hr h => ?_)
  · obtain ⟨i, j, rfl, _⟩ := h
    rfl
  · obtain ⟨b, ns, rfl, hS, hl, k⟩ := h
    refine ⟨_, (pss_one (ps_ret (pe_lst (pa_cons (pe_lc (own := [("_law_cell", 1)]) (g := gName 1) (tt := tYes) rfl sc__law_source.nd (pi_list (pe_slice sl_list (pv 0) po_none (po_some pe_int))) (blkOk_by (own := [("_law_cell", 1)]) (N := ["_law_script", "_law_cell"]) (sc := defScope s__law_source) (by decide +kernel)) (fun _ _ _ _ _ => (pg_name (i := 1) sc__law_source.nd rfl (Or.inl rfl))) (fun _ _ _ _ _ => pts_nil) (fun _ _ _ _ _ => (pe_callTy call_int1 (by rfl) T.n_int (by decide +kernel) (pa_cons (pv 1) pa_nil)))) (pa_cons pe_int (pa_cons pe_int (pa_cons pe_int (pa_cons pe_int pa_nil)))))))), ?_⟩
    repeat walk_at "rd"
    refine r_slL hS (fun p0 H1 n0 s1 e0 => ?_)
    rw [cut_take (by rw [List.length_map]; omega)] at e0
    refine ⟨p0, rfl, ⟨_, SqL.of e0⟩, fun D hD => lc_list (K := K) (a := p0) (xs := ns.map V.int) (fun i H' => H' D = some (.lst ((ns.take i).map V.int)) ∧ H' p0 = some (.lst (ns.map V.int)) ∧ Same H H') ?_ (fun i H' _ h => SqL.of h.2.1) ?_ ?_⟩
    · exact ⟨upd_same, (upd_ne (ne_of_none e0 hD)).trans e0, s1.trans (Same.new hD)⟩
    · rintro i x H2 hi ⟨h1, h2, h3⟩
      obtain ⟨z, hz, rfl⟩ := int_of_get hi
      repeat walk_at "rd"
      refine ⟨rfl, ?_⟩
      repeat walk_at "rd"
      have nD : H D = none := s1.free hD
      refine ⟨_, h1, small1000 (by rw [List.length_map, List.length_take]; omega), ?_, (upd_ne (ne_of_none e0 hD)).trans h2, fun b o e => (upd_ne (ne_of_none e nD)).trans (h3 b o e)⟩
      rw [upd_same, take_more hz, List.map_append]
      rfl
    · rintro H2 ⟨h1, h2, h3⟩
      repeat walk_at "rd"
      refine new_at (Nat.le_of_ble_eq_true rfl) (fun p H3 np s3 e3 => ?_)
      rw [List.length_map, List.take_length] at h1
      exact k p D _ ⟨ns, 0, 0, 0, 7, e3, s3 _ _ h1, ne_of_none h1 np, by decide, by decide, hl⟩ (h3.free np) (s1.free hD) (h3.trans s3)
theorem ok__law_numbers (T : Txt K mg a) : FnOk P w K mg base CX0 3 a.a__law_numbers a.d__law_numbers ["_law_source_here"] spNumbers := by
  refine T.F__law_numbers.ok sc__law_numbers (fun vs H Q E h => ?_) (fun cdv A outer s H vs Q E hr h => ?_)
  · obtain ⟨p, q, rfl, _⟩ := h
    rfl
  · obtain ⟨p, q, rfl, hs, k⟩ := h
    refine ⟨_, (pss_cons (ps_set (i := 1) sc__law_numbers.nd rfl (Or.inl rfl) (pe_call (ok__law_draw T) (hr.mono (by decide)) (by rfl) T.g__law_draw T.F__law_draw.kp T.b__law_draw .nil pass0 (pa_cons (pv 0) (pa_cons pe_int pa_nil))))
 (pss_cons (ps_set (i := 2) sc__law_numbers.nd rfl (Or.inl rfl) (pe_ix ix_list (pe_lst (pa_cons (pe_tup (pa_cons pe_int (pa_cons pe_int (pa_cons pe_int pa_nil)))) (pa_cons (pe_tup (pa_cons pe_int (pa_cons pe_int (pa_cons pe_int pa_nil)))) (pa_cons (pe_tup (pa_cons pe_int (pa_cons pe_int (pa_cons pe_int pa_nil)))) (pa_cons (pe_tup (pa_cons pe_int (pa_cons pe_int (pa_cons pe_int pa_nil)))) (pa_cons (pe_tup (pa_cons pe_int (pa_cons pe_int (pa_cons pe_int pa_nil)))) (pa_cons (pe_tup (pa_cons (pe_op op_add (pe_powN (z := 1000000000) ⟨by decide, by decide, by decide⟩ (by decide +kernel)) pe_int) (pa_cons (pe_op op_add (pe_powN (z := 1000000000) ⟨by decide, by decide, by decide⟩ (by decide +kernel)) pe_int) (pa_cons (pe_powN (z := 1000000000) ⟨by decide, by decide, by decide⟩ (by decide +kernel)) pa_nil)))) pa_nil))))))) (pv 1) (fun _ _ => rfl)))
 (pss_cons (ps_set (i := 3) sc__law_numbers.nd rfl (Or.inl rfl) (pe_call (ok__law_big T) (hr.mono (by decide)) (by rfl) T.g__law_big T.F__law_big.kp T.b__law_big .nil pass0 (pa_cons (pv 0) (pa_cons (pe_ix ix_tup (pv 2) pe_int (fun _ _ => rfl)) pa_nil))))
 (pss_cons (ps_set (i := 4) sc__law_numbers.nd rfl (Or.inl rfl) (pe_call (ok__law_big T) (hr.mono (by decide)) (by rfl) T.g__law_big T.F__law_big.kp T.b__law_big .nil pass0 (pa_cons (pv 0) (pa_cons (pe_ix ix_tup (pv 2) pe_int (fun _ _ => rfl)) pa_nil))))
 (pss_cons (ps_set (i := 5) sc__law_numbers.nd rfl (Or.inl rfl) (pe_op op_add pe_int (pe_call (ok__law_big T) (hr.mono (by decide)) (by rfl) T.g__law_big T.F__law_big.kp T.b__law_big .nil pass0 (pa_cons (pv 0) (pa_cons (pe_ix ix_tup (pv 2) pe_int (fun _ _ => rfl)) pa_nil)))))
 (pss_cons (ps_if (pt_cmpR op_eq (pe_op op_add (pe_op op_mul pe_int (pv 3)) (pv 4)) pe_int (nomark _)) (pss_one (ps_set (i := 4) sc__law_numbers.nd rfl (Or.inl rfl) pe_int))
 pss_nil)
 (pss_one (ps_ret (pe_tup (pa_cons (pv 3) (pa_cons (pv 4) (pa_cons (pv 5) pa_nil)))))))))))), ?_⟩
    repeat walk_at "rd"
    refine ⟨p, q, 6, rfl, hs, by decide, by decide, fun kind H1 k0 k6 hs1 b1 => ?_⟩
    repeat walk_at "rd"
    refine new_at (Nat.le_of_ble_eq_true rfl) (fun t1 H2 n1 s1 e1 => ?_)
    repeat walk_at "rd"
    refine new_at (Nat.le_of_ble_eq_true rfl) (fun t2 H3 n2 s2 e2 => ?_)
    repeat walk_at "rd"
    refine new_at (Nat.le_of_ble_eq_true rfl) (fun t3 H4 n3 s3 e3 => ?_)
    repeat walk_at "rd"
    refine new_at (Nat.le_of_ble_eq_true rfl) (fun t4 H5 n4 s4 e4 => ?_)
    repeat walk_at "rd"
    refine new_at (Nat.le_of_ble_eq_true rfl) (fun t5 H6 n5 s5 e5 => ?_)
    repeat walk_at "rd"
    refine new_at (Nat.le_of_ble_eq_true rfl) (fun t6 H7 n6 s6 e6 => ?_)
    repeat walk_at "rd"
    refine new_at (Nat.le_of_ble_eq_true rfl) (fun tl H8 n7 s7 e7 => ?_)
    obtain ⟨t, A, B, C, hat, et, nt, hA, hB, hC⟩ : ∃ (t : Addr) (A B C : Int), atI [V.ref t1, V.ref t2, V.ref t3, V.ref t4, V.ref t5, V.ref t6] kind = some (.ref t) ∧ H8 t = some (.tup [.int A, .int B, .int C]) ∧ t ≠ p ∧ (1 ≤ A ∧ A ≤ 1000000001) ∧ (1 ≤ B ∧ B ≤ 1000000001) ∧ 1 ≤ C ∧ C ≤ 1000000000 := by
      have hk : kind = 0 ∨ kind = 1 ∨ kind = 2 ∨ kind = 3 ∨ kind = 4 ∨ kind = 5 := by omega
      rcases hk with rfl | rfl | rfl | rfl | rfl | rfl
      · exact ⟨t1, _, _, _, rfl, by walk_at "hp", by walk_at "ne", by decide, by decide, by decide⟩
      · exact ⟨t2, _, _, _, rfl, by walk_at "hp", by walk_at "ne", by decide, by decide, by decide⟩
      · exact ⟨t3, _, _, _, rfl, by walk_at "hp", by walk_at "ne", by decide, by decide, by decide⟩
      · exact ⟨t4, _, _, _, rfl, by walk_at "hp", by walk_at "ne", by decide, by decide, by decide⟩
      · exact ⟨t5, _, _, _, rfl, by walk_at "hp", by walk_at "ne", by decide, by decide, by decide⟩
      · exact ⟨t6, _, _, _, rfl, by walk_at "hp", by walk_at "ne", by decide, by decide, by decide⟩
    have hs8 : SrcAt H8 p q := by walk_at "src"
    have b8 : But p H H8 := b1.trans (But.of_same (s1.trans (s2.trans (s3.trans (s4.trans (s5.trans (s6.trans s7)))))))
    repeat walk_at "rd"
    refine r_ixL e7 hat ?_
    clear e1 e2 e3 e4 e5 e6 s1 s2 s3 s4 s5 s6 s7 n1 n2 n3 n4 n5 n6 b1 hat e7
    repeat walk_at "rd"
    refine ⟨p, q, A, rfl, hs8, by omega, fun o H9 o0 oA hs9 b9 => ?_⟩
    repeat walk_at "rd"
    refine ⟨p, q, B, rfl, hs9, by omega, fun l H10 l0 lB hs10 b10 => ?_⟩
    repeat walk_at "rd"
    refine ⟨p, q, C, rfl, hs10, by omega, fun g H11 g0 gC hs11 b11 => ?_⟩
    have b12 : But p H H11 := ((b8.trans b9).trans b10).trans b11
    repeat walk_at "rd"
    with_reducible refine seq_with (fun σ H' => ∃ (l' : Int), σ = [some (.ref p), some (.int kind), some (.ref t), some (.int o), some (.int l'), some (.int (1 + g))] ∧ H' = H11 ∧ 0 < 2 * o + l' ∧ 0 ≤ l' ∧ l' ≤ 1000000000) ?_ (fun rest => ?_)
    · rintro σ H' ⟨l', rfl, rfl, h1, h2, h3⟩
      repeat walk_at "rd"
      refine new_at (Nat.le_of_ble_eq_true rfl) (fun u H12 nu su eu => ?_)
      have nH : H u = none := b12.free hs11 nu
      exact k u o l' (1 + g) _ ⟨eu, o0, by omega, h2, h3, by omega, by omega, h1⟩ nH (hs11.keep su) (b12.trans (But.of_same su))
    · repeat walk_at "rd"
      refine ite_d (fun hc => ?_) (fun hc => ?_)
      · iterate 3 walk_at "rd"
        exact rest _ _ ⟨1, rfl, rfl, by omega, by omega, by omega⟩
      · walk_at "rd"
        exact rest _ _ ⟨l, rfl, rfl, by omega, by omega, by omega⟩
end

/-! ### integers, machines -/
/-- whether the value is an int and no bool -/
def IntV (K : PySem.W.Frag) (H : Hp) (x : V) (b : Bool) : Prop := ∃ (t : Value) (b1 b2 : Bool), TyX K H x t ∧ PySem.W.kitOne K t (.type "int") = some b1 ∧ PySem.W.kitOne K t (.type "bool") = some b2 ∧ b = (b1 && !b2)
theorem IntV.int {K : PySem.W.Frag} {H : Hp} {i : Int} : IntV K H (.int i) true := ⟨_, true, false, .base (.int i), kit_ty (by decide +kernel), kit_ty (by decide +kernel), rfl⟩
theorem r_isi {K : PySem.W.Frag} {H : Hp} {Q : VK} {x : V} {t : Value} {n : String} {b : Bool} (ty : TyX K H x t) (h : PySem.W.kitOne K t (.type n) = some b) (q : Q (.bl b) H) : rIsi K [x, .ty n] H Q := ⟨_, _, t, .type n, b, rfl, .ty n, ty, h, q⟩
def spIsInteger (K : PySem.W.Frag) : Sp := fun vs H Q _ => ∃ (x : V) (b : Bool), vs = [x] ∧ IntV K H x b ∧ Q (.bl b) H
def spBetween (K : PySem.W.Frag) : Sp := fun vs H Q _ => ∃ (x : V) (lo hi : Int) (b : Bool), vs = [x, .int lo, .int hi] ∧ IntV K H x b ∧ (b = false → Q (.bl false) H) ∧ (b = true → ∃ i, x = .int i ∧ Q (.bl (decide (lo ≤ i ∧ i ≤ hi))) H)
theorem r_between {K : PySem.W.Frag} {H : Hp} {Q : VK} {E : XK} {i lo hi : Int} (q : Q (.bl (decide (lo ≤ i ∧ i ≤ hi))) H) : spBetween K [.int i, .int lo, .int hi] H Q E := ⟨_, lo, hi, true, rfl, IntV.int, (fun z => Bool.noConfusion z), fun _ => ⟨i, rfl, q⟩⟩
/-- the attributes of a machine -/
def mf (o l g : Int) : List (Str × V) := putF "gap" (.int (gapOf o g)) (putF "letter" (.int (2 * o + l)) (putF "g" (.int g) (putF "l" (.int l) (putF "o" (.int o) []))))
def MachAt (C : Addr) (H : Hp) (m : Addr) (o l g : Int) : Prop := ∃ dx, H m = some (.ins C dx (mf o l g))
theorem MachAt.keep {C m : Addr} {H H' : Hp} {o l g : Int} (h : MachAt C H m o l g) (s : Same H H') : MachAt C H' m o l g := let ⟨dx, e⟩ := h; ⟨dx, s _ _ e⟩
theorem mf_o {o l g : Int} : (mf o l g).lookup ("o" : Str) = some (.int o) := by unfold mf; walk_at "lk"
theorem mf_l {o l g : Int} : (mf o l g).lookup ("l" : Str) = some (.int l) := by unfold mf; walk_at "lk"
theorem mf_g {o l g : Int} : (mf o l g).lookup ("g" : Str) = some (.int g) := by unfold mf; walk_at "lk"
theorem mf_letter {o l g : Int} : (mf o l g).lookup ("letter" : Str) = some (.int (2 * o + l)) := by unfold mf; walk_at "lk"
theorem mf_gap {o l g : Int} : (mf o l g).lookup ("gap" : Str) = some (.int (gapOf o g)) := by unfold mf; walk_at "lk"
theorem MachAt.but {C m p : Addr} {H H' : Hp} {o l g : Int} (h : MachAt C H m o l g) (s : But p H H') (n : m ≠ p) : MachAt C H' m o l g := let ⟨dx, e⟩ := h; ⟨dx, s _ _ e n⟩
def spMachine (C : Addr) : Sp := fun vs H Q _ => ∃ (m dx : Addr) (o l g : Int), vs = [.ref m, .int o, .int l, .int g] ∧ H m = some (.ins C dx []) ∧ (0 ≤ o ∧ o ≤ 1000000000) ∧ (0 ≤ l ∧ l ≤ 1000000000) ∧ (1 ≤ g ∧ g ≤ 1000000000) ∧ 0 < 2 * o + l ∧ ∀ H', MachAt C H' m o l g → But m H H' → Q .non H'
local macro_rules | `(tactic| walk_at "lk") => `(tactic| first | exact mf_o | exact mf_l | exact mf_g | exact mf_letter | exact mf_gap)
section
variable {P : Program} {w : World} {K : PySem.W.Frag} {mg : Str → Option Value} {base : Heap} {a : Adr}
theorem ok_is_integer (T : Txt K mg a) : FnOk P w K mg base CX0 1 a.a_is_integer a.d_is_integer ["thing"] (spIsInteger K) := by
  refine T.F_is_integer.ok sc_is_integer (fun vs H Q E h => ?_) (fun cdv A outer s H vs Q E hr h => ?_)
  · obtain ⟨x, b, rfl, _⟩ := h
    rfl
  · obtain ⟨x, b, rfl, ⟨t, b1, b2, ty, h1, h2, rfl⟩, k⟩ := h
    refine ⟨_, (pss_one (ps_ret (pe_and (pe_callB call_isi (by rfl) T.n_isinstance (by decide +kernel) (pa_cons (pv 0) (pa_cons (pe_bltn (v := .ty "int") (u := .type "int") (by rfl) T.n_int (by decide +kernel) rfl) pa_nil))) (pe_one (pe_not (pe_callB call_isi (by rfl) T.n_isinstance (by decide +kernel) (pa_cons (pv 0) (pa_cons (pe_bltn (v := .ty "bool") (u := .type "bool") (by rfl) T.n_bool (by decide +kernel) rfl) pa_nil)))))))), ?_⟩
    repeat walk_at "rd"
    refine r_isi ty h1 ?_
    refine ⟨b1, rfl, ?_⟩
    cases b1 with
    | false => exact iteF k
    | true =>
      repeat walk_at "rd"
      refine r_isi ty h2 ?_
      exact ⟨b2, rfl, k⟩
theorem ok_is_between (T : Txt K mg a) : FnOk P w K mg base CX0 2 a.a_is_between a.d_is_between ["thing", "low", "high"] (spBetween K) := by
  refine T.F_is_between.ok sc_is_between (fun vs H Q E h => ?_) (fun cdv A outer s H vs Q E hr h => ?_)
  · obtain ⟨x, lo, hi, b, rfl, _⟩ := h
    rfl
  · obtain ⟨x, lo, hi, b, rfl, iv, k0, k1⟩ := h
    refine ⟨_, (pss_one (ps_ret (pe_and (pe_call (ok_is_integer T) (hr.mono (by decide)) (by rfl) T.g_is_integer T.F_is_integer.kp T.b_is_integer .nil pass0 (pa_cons (pv 0) pa_nil)) (pe_one (pe_chain op_le op_le (pv 1) (pv 0) (pv 2)))))), ?_⟩
    repeat walk_at "rd"
    refine ⟨x, b, rfl, iv, ?_⟩
    refine ⟨b, rfl, ?_⟩
    cases b with
    | false => exact iteF (k0 rfl)
    | true =>
      obtain ⟨i, rfl, q⟩ := k1 rfl
      repeat walk_at "rd"
      refine ite_d (fun h1 => ?_) (fun h1 => ?_)
      · repeat walk_at "rd"
        rw [decide_eq_decide.mpr (show lo ≤ i ∧ i ≤ hi ↔ i ≤ hi from ⟨fun h => h.2, fun h => ⟨h1, h⟩⟩)] at q
        exact q
      · rw [decide_eq_false (show ¬ (lo ≤ i ∧ i ≤ hi) from fun h => h1 h.1)] at q
        exact q
theorem ok_Machine_init (T : Txt K mg a) : FnOk P w K mg base CX0 3 a.a_Machine_init a.d_Machine_init ["self", "o", "l", "g"] (spMachine a.c_Machine) := by
  refine T.F_Machine_init.ok sc_Machine_init (fun vs H Q E h => ?_) (fun cdv A outer s H vs Q E hr h => ?_)
  · obtain ⟨m, dx, o, l, g, rfl, _⟩ := h
    rfl
  · obtain ⟨m, dx, o, l, g, rfl, hm, ho, hl, hg, hp, k⟩ := h
    refine ⟨_, (pss_cons (ps_if (pt_not (pt_val (pe_call (ok_is_between T) (hr.mono (by decide)) (by rfl) T.g_is_between T.F_is_between.kp T.b_is_between .nil pass0 (pa_cons (pv 1) (pa_cons pe_int (pa_cons (pe_glob (v := .int 1000000000) (by rfl) T.g_GREATEST_PART.choose_spec ⟨_, rfl⟩) pa_nil)))))) (pss_one ps_never)
 pss_nil)
 (pss_cons (ps_if (pt_not (pt_val (pe_call (ok_is_between T) (hr.mono (by decide)) (by rfl) T.g_is_between T.F_is_between.kp T.b_is_between .nil pass0 (pa_cons (pv 2) (pa_cons pe_int (pa_cons (pe_glob (v := .int 1000000000) (by rfl) T.g_GREATEST_PART.choose_spec ⟨_, rfl⟩) pa_nil)))))) (pss_one ps_never)
 pss_nil)
 (pss_cons (ps_if (pt_not (pt_val (pe_call (ok_is_between T) (hr.mono (by decide)) (by rfl) T.g_is_between T.F_is_between.kp T.b_is_between .nil pass0 (pa_cons (pv 3) (pa_cons pe_int (pa_cons (pe_glob (v := .int 1000000000) (by rfl) T.g_GREATEST_PART.choose_spec ⟨_, rfl⟩) pa_nil)))))) (pss_one ps_never)
 pss_nil)
 (pss_cons (ps_if (pt_cmpR op_eq (pe_op op_add (pe_op op_mul pe_int (pv 1)) (pv 2)) pe_int (nomark _)) (pss_one ps_never)
 pss_nil)
 (pss_cons (ps_fld (pv 0) (pv 1) rfl)
 (pss_cons (ps_fld (pv 0) (pv 2) rfl)
 (pss_cons (ps_fld (pv 0) (pv 3) rfl)
 (pss_cons (ps_fld (pv 0) (pe_op op_add (pe_op op_mul pe_int (pv 1)) (pv 2)) rfl)
 (pss_one (ps_fld (pv 0) (pe_callB (call_max2 rfl) (by rfl) T.n_max (by decide +kernel) (pa_cons (pv 1) (pa_cons (pv 3) pa_nil))) rfl)))))))))), ?_⟩
    walk_at "rdi"
    repeat walk_at "rd"
    refine r_between ?_
    repeat walk_at "rd"
    refine r_nD (fun h => absurd ho h) (fun _ => ?_)
    walk_at "rd"
    walk_at "rdi"
    repeat walk_at "rd"
    refine r_between ?_
    repeat walk_at "rd"
    refine r_nD (fun h => absurd hl h) (fun _ => ?_)
    walk_at "rd"
    walk_at "rdi"
    repeat walk_at "rd"
    refine r_between ?_
    repeat walk_at "rd"
    refine r_nD (fun h => absurd hg h) (fun _ => ?_)
    walk_at "rd"
    walk_at "rdi"
    repeat walk_at "rd"
    refine ite_d (fun h => absurd h (by omega)) (fun _ => ?_)
    repeat walk_at "rd"
    refine k _ ⟨dx, ?_⟩ ?_
    · exact upd_same
    · exact But.upd.trans (But.upd.trans (But.upd.trans (But.upd.trans But.upd)))
end

/-! ### own rules: C(..) by a local name, x op y by an own def, targets in a tuple -/
/-- the slot n holds the class at C: a new instance -/
def tMakeL (n : Nat) (C : Addr) (sp : Sp) (dvs : List V) (E : XK) (t : TA) : TE := fun σ H Q => σ[n]? = some (some (.ref C)) ∧ tMake C sp dvs E t σ H Q
/-- x op y, x an instance with a dict, y of a known type -/
def rOwnD (K : PySem.W.Frag) (C : Addr) (sp : Sp) (E : XK) : R2 := fun x y H Q => ∃ m dx fs tb, x = .ref m ∧ H m = some (.ins C dx fs) ∧ TyX K H y tb ∧ PySem.W.notFirst K C tb = true ∧ sp [x, y] H Q E
section
variable {X : Cx} {CX : CXT} {k i : Nat} {f C : Addr} {fd : FuncData} {ps : List Str} {sp : Sp} {dvs : List V} {ds : List Value} {E : XK} {x : Str} {p pos : Pos} {e : Expr} {es : List Expr} {t : TA}
theorem pe_makeL (M : Mk X.K C f) (F : FnOk X.prog X.w X.K X.mg X.base CX k f fd ps sp) (hr : Room (k + 1) X.A) (hN : X.N[i]? = some x) (hv : Vis X.env.scope x) (hb : Binds X.K fd ps ds) (hd : Vals dvs ds) (hx : Passes CX X E) (ha : PA X (e :: es) t)
    (hdb : (x == ("__debug__" : Str)) = false := by decide) (hcd : (x == ("__classdict__" : Str)) = false := by decide)
    (he : starEach (e :: es) X.env = (false, eval e X.env) :: starEach es X.env := by rfl) (hpl : (backTo pos (starEach es X.env)).any (·.1) = false := by rfl) : PE X (.Call (.Name x p) (e :: es) [] pos) (tMakeL i C sp dvs E t) := by
  refine ⟨fun pins s σ H Q I h => wpAny_Call_Name_kw (thn ((pe_var (pos := p) hN hv hdb hcd).run pins s σ H (fun v H1 => v = .ref C ∧ H1 = H) I ⟨.ref C, h.1, rfl, rfl⟩) fun u s1 g => ?_)⟩
  obtain ⟨v, H1, J, r1, rfl, rfl⟩ := g
  cases r1
  exact PySem.W.callWith_K (h₀ := X.base) J.ok.mod.kin M.kp (thn (ha.run pos pins s1 σ _ _ J h.2) fun us s2 ⟨vs, H2, J2, r, q⟩ => ⟨J2.kIn, run_make M F hr hb hd hx J2 r q⟩) he hpl
theorem op_ownD {op : CmpOp} {g : Addr} {n : Nat} (hop : ∀ a b, compareOp op a b = richCompare op a b) (hs : PySem.W.findIn X.K (.ref C) (cmpInfo op).2.1 = some (some (.ref g))) (hf : PySem.W.isFn X.K (.ref g) = true) (F : FnR X.prog X.w X.K X.mg X.base CX n g sp)
    (hr : Room n X.A) (hx : Passes CX X E) : OpR X (compareOp op) (rOwnD X.K C sp E) := by
  intro pins s σ H x y v u Q I rx ry h
  obtain ⟨m, dx, fs, tb, rfl, hm, ty, hn, q⟩ := h
  obtain rfl : v = Value.ref m := rx
  obtain ⟨mA, J, _⟩ := ins_get I.hok hm
  obtain ⟨od, J, _⟩ := J.look
  obtain ⟨Pk, Z, pz, _⟩ := kit_of I ry ty
  obtain ⟨mF, hF⟩ := I.fr
  rw [hop]
  refine PySem.W.cmp_K (op := op) (tb := tb) hr.units0 hF I.ok.mod.kin J (Z.ty _ _ I.kIn pz) hn hs hf ?_
  refine wpAny_mono (wpAny_call (run_fnR (us := [.ref m, u]) (vs := [.ref m, y]) F hr hx I (.cons rfl (.cons ry .nil)) q)) (fun w s' z => ?_) fun _ _ x => x
  exact (let ⟨z', H', I', rz, qz⟩ := z; SlX.cmpback rz ⟨z', H', I', rz, qz⟩)
end
theorem kit_self {K : PySem.W.Frag} {C : Addr} : PySem.W.kitOne K (.ref C) (.ref C) = some true := by
  unfold PySem.W.kitOne
  rw [if_pos (by simp)]
theorem kit_no {K : PySem.W.Frag} {C : Addr} {n : String} (h1 : PySem.W.isClsIn K C = true) (h2 : PySem.W.typeIn K (.ref C) = some (.type "type")) (h3 : PySem.W.subIn K (.type n) (.ref C) = some false) : PySem.W.kitOne K (.type n) (.ref C) = some false := by
  have e : ((PySem.W.clsIn K C).isSome && PySem.W.typeIn K (.ref C) == some (.type "type")) = true := by
    rw [show (PySem.W.clsIn K C).isSome = true from h1, h2]
    rfl
  unfold PySem.W.kitOne
  rw [if_neg (by simp)]
  show (if ((PySem.W.clsIn K C).isSome && PySem.W.typeIn K (.ref C) == some (.type "type")) = true then PySem.W.subIn K (.type n) (.ref C) else none) = some false
  rw [if_pos e]
  exact h3
theorem nf_self {K : PySem.W.Frag} {C : Addr} : PySem.W.notFirst K C (.ref C) = true := by
  unfold PySem.W.notFirst
  simp
theorem nf_no {K : PySem.W.Frag} {C : Addr} {n : String} (h3 : PySem.W.subIn K (.type n) (.ref C) = some false) : PySem.W.notFirst K C (.type n) = true := by
  unfold PySem.W.notFirst
  rw [h3]
  simp
section
variable {K : PySem.W.Frag} {σ : St} {H : Hp} {Q : VK} {R : St → Hp → Prop} {n : Nat} {v : V} {vs : List V}
theorem r_gTup {t : TGs} {p : Addr} (h : H p = some (.tup vs)) (hl : vs.length = n) (q : t vs σ H R) : gTup K n t (.ref p) σ H R := ⟨p, vs, rfl, SqT.of h, hl, q⟩
theorem r_gCons {t : TG} {u : TGs} (h : t v σ H fun σ' H' => u vs σ' H' R) : gCons t u (v :: vs) σ H R := ⟨v, vs, rfl, h⟩
theorem r_gNil (h : R σ H) : gNil [] σ H R := ⟨rfl, h⟩
theorem r_nDT {c A B : Prop} [Decidable c] (hc : c) (h : B) : if (!decide c) = true then A else B := r_nD (fun z => absurd hc z) fun _ => h
theorem r_neB {a b : Bool} (q : Q (.bl (!decide (a = b))) H) : rNe (.bl a) (.bl b) H Q := ⟨rfl, by
  have e : decide (V.bl a = V.bl b) = decide (a = b) := by cases a <;> cases b <;> decide
  rw [e]; exact q⟩
theorem r_isB {a b : Bool} (q : Q (.bl (decide (a = b))) H) : rIsB (.bl a) (.bl b) H Q := ⟨a, b, rfl, rfl, q⟩
theorem r_notB {a b : Bool} (q : Q (.bl (!decide (a = b))) H) : rNotB (.bl a) (.bl b) H Q := ⟨a, b, rfl, rfl, q⟩
theorem r_dnew (k : ∀ p H', H p = none → Same H H' → H' p = some (.dK []) → Q (.ref p) H') : tDNewK σ H Q := new_of k
theorem r_makeL {C : Addr} {sp : Sp} {dvs : List V} {E : XK} {t : TA} (e : σ[n]? = some (some (.ref C))) (h : tMake C sp dvs E t σ H Q) : tMakeL n C sp dvs E t σ H Q := ⟨e, h⟩
theorem r_cmeth {C : Addr} {sp : Sp} {E : XK} {t : TA} (h : t σ H fun vs H2 => sp (.ref C :: vs) H2 Q E) : ClX.tCMeth C sp E (tC (.ref C)) t σ H Q := ⟨rfl, h⟩
theorem eq_ints {xs ys : List Int} : PyData.eqvAll (xs.map PyData.int) (ys.map PyData.int) = decide (xs = ys) := by
  induction xs generalizing ys with
  | nil => cases ys <;> rfl
  | cons x xs ih =>
    cases ys with
    | nil => rfl
    | cons y ys =>
      show (PyData.eqv (.int x) (.int y) && PyData.eqvAll (xs.map PyData.int) (ys.map PyData.int)) = _
      rw [ih]
      show ((x == y) && decide (xs = ys)) = _
      by_cases h : x = y
      · subst h; simp
      · simp [h]
theorem dp_ints (xs : List Int) : DpAll K H (xs.map V.int) (xs.map PyData.int) := by
  induction xs with
  | nil => exact .nil
  | cons x xs ih => exact .cons (.int x) ih
/-- == of two tuples of ints -/
theorem r_eqT {p q : Addr} {xs ys : List Int} (h1 : H p = some (.tup (xs.map V.int))) (h2 : H q = some (.tup (ys.map V.int))) (s1 : SeqAt.shaped (.tuple (xs.map PyData.int)) = true) (s2 : SeqAt.shaped (.tuple (ys.map PyData.int)) = true)
    (k : Q (.bl (decide (xs = ys))) H) : rEqD K (.ref p) (.ref q) H Q := ⟨_, _, .tup (SqT.of h1) (dp_ints xs), .tup (SqT.of h2) (dp_ints ys), s1, s2, by
  show Q (.bl (PyData.eqvAll (xs.map PyData.int) (ys.map PyData.int))) H
  rw [eq_ints]; exact k⟩
end
theorem r_Machine {C : Addr} {H : Hp} {Q : VK} {E : XK} {o l g : Int} (ho : 0 ≤ o ∧ o ≤ 1000000000) (hl : 0 ≤ l ∧ l ≤ 1000000000) (hg : 1 ≤ g ∧ g ≤ 1000000000) (hp : 0 < 2 * o + l) (k : ∀ m H', H m = none → MachAt C H' m o l g → Same H H' → Q (.ref m) H') :
    MakeAt C (spMachine C) ([.int o, .int l, .int g] ++ []) E H Q :=
  fun x dx nx nd _ => ⟨x, dx, o, l, g, rfl, upd_same, ho, hl, hg, hp, fun H' hm bt => ⟨rfl, k x H' nx hm (Same.made nx nd bt)⟩⟩

local macro_rules | `(tactic| walk_at "rd") => `(tactic| with_reducible first
  | (refine' r_gTup ?hp ?hl ?_; (case hp => walk_at "hp"); (case hl => with_unfolding_all exact rfl))
  | refine r_gCons ?_
  | refine r_gNil ?_
  | refine r_nDT rfl ?_
  | refine r_neB ?_
  | refine r_isB ?_
  | refine r_notB ?_
  | refine r_cmeth ?_
  | (refine' r_makeL ?he ?_; (case he => with_unfolding_all exact rfl))
  | refine r_isiB true (by decide +kernel) ?_
  | refine r_isiB false (by decide +kernel) ?_
  | refine r_callN ?_
  | refine r_andV ?_)

/-! ### enumerate over a tuple -/
open PySem.AutoSeq1 (wpAny_loadPart') in
theorem en_newT (p : Addr) (its : Array Value) (n : Nat) (dd : Option Addr) (sl : Array (Option Value)) :
    Meets (Builtin.«enumerate.__new__» ⟨[.type "enumerate", .ref p], []⟩) (fun _ R s => s.heap.get? p = some { cls := .type "tuple", dict := dd, data := .seq its n, slots := sl } ∧
      R (.ok (.ret (.ref (s.heap.push { cls := .type "tuple_iterator", data := .fields #[.ref p, .int 0 0] }).objs.size)))
        { s with heap := (s.heap.push { cls := .type "tuple_iterator", data := .fields #[.ref p, .int 0 0] }).push { cls := .type "enumerate", data := .fields #[.none, .bool false, .ref s.heap.objs.size, rawInt 0, .none, .none] } }) :=
  .of_wp fun prog w A R s h => by
    obtain ⟨hp, g, d, tk, os⟩ := s
    obtain ⟨hl, h⟩ := h
    have hsub := sub_enumerate
    have hT : Heap.IsTuple (Shared.heap ⟨hp, g, d, tk, os⟩) p its := ⟨_, hl, rfl, n, rfl⟩
    wp_walk using wpAny_loadPart' hl
    refine wpAny_stack_any fun st => wpAny_pure ?_
    split
    · rename_i c _ _ _ _ _
      cases (c == Value.type "enumerate") <;> (wp_walk using wpAny_loadPart' hl, wpAny_pyIter_tuple hT; exact ⟨_, rfl, h⟩)
    · wp_walk using wpAny_loadPart' hl, wpAny_pyIter_tuple hT
      exact ⟨_, rfl, h⟩
theorem en_callT {prog : Program} {w : World} {A : Around} {E : Value → Shared → Prop} {s : Shared} {p : Addr} {its : Array Value} {Q : Value → Shared → Prop} (hT : s.heap.IsTuple p its)
    (h : ∀ h', IsEnum h' (s.heap.objs.size + 1) s.heap.objs.size 0 .none → h'.IsTupleIter s.heap.objs.size p 0 → h'.objs.size = s.heap.objs.size + 2 →
      (∀ b o, s.heap.get? b = some o → h'.get? b = some o) → Q (.ref (s.heap.objs.size + 1)) { s with heap := h' }) : wpAny (model prog w) A (call (.type "enumerate") [.ref p]) Q E s := by
  obtain ⟨⟨c, dct, dt, sl⟩, hl, hc, n, hd⟩ := hT
  simp only at hc hd
  subst hc hd
  refine callType_new F.called_enumerate (by decide) (F.typeCall_enumerate_1 _) (F.newCall_enumerate_1 _) (fun obj => F.args_object_init_2 obj _) F.entry_enumerate_new (en_newT p its n dct sl) ⟨hl, ?_⟩
  generalize hg : s.heap.push { cls := .type "tuple_iterator", data := .fields #[.ref p, .int 0 0] } = g
  have hz : g.objs.size = s.heap.objs.size + 1 := by rw [← hg]; exact Heap.size_push ..
  show _ ∧ _
  rw [hz]
  have he : IsEnum (g.push { cls := .type "enumerate", data := .fields #[.none, .bool false, .ref s.heap.objs.size, rawInt 0, .none, .none] }) (s.heap.objs.size + 1) s.heap.objs.size 0 .none := by
    have q := Heap.get?_push_size g (o := { cls := .type "enumerate", data := .fields #[.none, .bool false, .ref s.heap.objs.size, rawInt 0, .none, .none] }) rfl
    rw [hz] at q
    exact q
  have hi : g.get? s.heap.objs.size = some { cls := .type "tuple_iterator", data := .fields #[.ref p, .int 0 0] } := by rw [← hg]; exact Heap.get?_push_size _ rfl
  refine ⟨⟨_, he, rfl⟩, h _ he ⟨_, Heap.get?_push_of_some _ hi, rfl, rfl⟩ (by rw [Heap.size_push, hz]) fun b o x => Heap.get?_push_of_some _ ?_⟩
  rw [← hg]
  exact Heap.get?_push_of_some _ x
/-- the tuple at a, each item in a new pair -/
def IteT (K : PySem.W.Frag) (a : Addr) : It :=
  ⟨fun i H => ∃ (xs : List V) (x : V), SqT K H a xs ∧ xs[i]? = some x, fun i H v H' => ∃ T x, v = .ref T ∧ H T = none ∧ H' = upd H T (.tup [.int (i : Nat), x]) ∧ ∀ xs, SqT K H a xs → xs[i]? = some x, fun i H => ∃ xs : List V, SqT K H a xs ∧ xs.length ≤ i⟩
theorem turn_enT {P : Program} {w : World} {K : PySem.W.Frag} {elts : List Expr} {kk : Nat} {tpos : Pos} (a e it : Addr) :
    Turn P w K (.Tuple elts kk tpos) (IteT K a) [e, it] e (fun i h => (∃ old, IsEnum h e it ((i : Nat) : Int) old) ∧ h.IsTupleIter it a i ∧ e ≠ it ∧ e ≠ a ∧ a ≠ it) where
  mem := by simp
  obj := fun i h st b hb => by
    obtain ⟨⟨old, he⟩, ⟨o, ho, hc, hd⟩, _⟩ := st
    rcases (by simpa using hb : b = e ∨ b = it) with z | z
    · rw [z]; exact ⟨_, he, fun v q => nomatch q⟩
    · rw [z]; exact ⟨o, ho, fun v q => by rw [hd] at q; cases q⟩
  keep := fun i h h' st k => let ⟨⟨old, he⟩, hi, hne⟩ := st; ⟨⟨old, k e (by simp) _ he⟩, hi.at fun o q => k it (by simp) o q, hne⟩
  item := by
    intro X hP hw hK hc i pins s σ H E I hf st hg
    subst hP hw hK
    obtain ⟨⟨old, he⟩, hit, hne, hea, hai⟩ := st
    obtain ⟨xs, x, hq, hx⟩ := hg
    obtain ⟨its, rv, p, hz⟩ := I.tuple hq
    obtain ⟨u, hu, ru⟩ := rv.get hx
    have hel : e < s.heap.objs.size := Heap.lt_size he
    have hil : it < s.heap.objs.size := by obtain ⟨_, q, _⟩ := hit; exact Heap.lt_size q
    have pT : s.heap.IsTuple a its.toArray := p
    have hlt : i < its.toArray.size := by
      have := (List.getElem?_eq_some_iff.mp hu).1
      simpa using this
    refine wpAny_pyNext_enum_itemD (Draws.tuple (A := X.A.in1) (show X.A.in1.handled = none from I.ok.hd hc) it a hai its.toArray) he ⟨hit, pT⟩ hlt hne (by simp [hne, hea]) fun v h' tk hv ho hst hT hsz hk => ?_
    have ev : v = u := by
      have q : its[i]? = some v := by simpa using hv
      rw [hu] at q
      exact (Option.some.inj q).symm
    subst ev
    refine ⟨_, rfl, wpAny_letOwnedTupleGo_enum (s := { s with heap := h', toks := tk + 1 }) ho fun h'' he' sb => ?_⟩
    have hT2 : h''.get? s.heap.objs.size = some { cls := .type "tuple", data := .seq #[.int i tk, v] } := (sb.2 _ (Nat.ne_of_gt hel)).trans hT
    have new : ObjOk X.prog X.w (upd H s.heap.objs.size (.tup [.int (i : Nat), x])) h'' s.heap.objs.size (.tup [.int (i : Nat), x]) :=
      ⟨by show 2 ≤ sizeLine; decide, [.int i tk, v], .cons ⟨_, rfl⟩ (.cons ru .nil), ⟨_, hT2, rfl, _, rfl⟩⟩
    have I1 : Inv X pins σ (upd H s.heap.objs.size (.tup [.int (i : Nat), x])) { s with heap := h'', toks := tk + 1 } :=
      I.turnedNew (ch := [e, it]) (fun b ob hb q => (sb.2 b (fun z => hb (by simp [z]))).trans (hk b ob (fun z => hb (by simp [z])) (fun z => hb (by simp [z])) q)) hf (Nat.le_refl _) new
    refine ⟨.ref s.heap.objs.size, _, I1, rfl, ⟨_, x, rfl, I.hok.fresh (Nat.le_refl _), rfl, fun ys hy => by rw [I.tuple_inj hy hq]; exact hx⟩, ⟨⟨v, ?_⟩, hst.1.at fun o q => (sb.2 it (Ne.symm hne)).trans q, hne, hea, hai⟩, fun b hb => ?_⟩
    · rw [show ((i + 1 : Nat) : Int) = (i : Int) + 1 by omega]; exact he'
    · have hb' : b < s.heap.objs.size := by
        rcases (by simpa using hb : b = e ∨ b = it) with z | z
        · rw [z]; exact hel
        · rw [z]; exact hil
      rw [upd_ne (Nat.ne_of_lt hb')]
      exact (hf b hb).1
  done := by
    intro X hP hw hK hc i pins s σ H E I hf st hg
    subst hP hw hK
    obtain ⟨⟨old, he⟩, hit, hne, hea, hai⟩ := st
    obtain ⟨xs, hq, hx⟩ := hg
    obtain ⟨its, rv, p, hz⟩ := I.tuple hq
    obtain ⟨f0, f1, f2, f3, f4, f5⟩ := hf it (by simp)
    have hl := rv.length
    have pT : s.heap.IsTuple a its.toArray := p
    unfold pyNext
    have hTy : s.TypeIs (.ref e) "enumerate" := ⟨_, he, rfl⟩
    refine wpAny_bind (wpAny_attempt (wpAny_callSpecial?_slot (name := Str.ofString "__next__") hTy F.slot_enumerate_next (wpAny_call_entry F.slot_enumerate_next hTy F.entry_enumerate_next ?_ (F.args_enumerate_next_1 _))))
    show wpAny _ _ (field (.ref e) 2 >>= _) _ _ _
    refine wpAny_bind (wpAny_field he rfl (x := .ref it) rfl ?_)
    refine wpAny_bind (wpAny_nextOf_tuple_end (I.ok.hd hc) hit pT (by simp; omega) fun h' x he' hx' => ?_)
    obtain ⟨o, ho, hcl⟩ := hx'
    refine wpAny_bind (wpAny_isInstance (T := "StopIteration") (b := true) ⟨o, ho, hcl⟩ isSubtype_stop ?_)
    exact wpAny_pure ⟨rfl, I.turned (t' := s.toks) (fun b o hb q => he' b o hb q) f0 f1 f3 f4 f5⟩
  self := fun A i s Q E st h => let ⟨⟨_, he⟩, _⟩ := st; wpAny_pyIter_enum he h
def iEnumS (K : PySem.W.Frag) (ta : TA) : TI := fun σ H R => ta σ H fun vs H1 => ∃ a xs, vs = [.ref a] ∧ ((SqL K H1 a xs ∧ R (Ite K a) H1) ∨ (SqT K H1 a xs ∧ R (IteT K a) H1))
theorem pi_enumS {X : Cx} {e : Expr} {ta : TA} {p pos tpos : Pos} {elts : List Expr} {kk : Nat} (hg : Gl X "enumerate") (hm : X.mg "enumerate" = none) (ha : PA X [e] ta) (hs : starEach [e] X.env = [(false, eval e X.env)] := by rfl) :
    PI X (.Tuple elts kk tpos) (.Call (.Name "enumerate" p) [e] [] pos) (iEnumS X.K ta) := by
  refine ⟨fun pins s σ H R I h => PyProof.Rows.Call_ (ld_blt I hg hm PyProof.Rows.boot_enumerate (PyProof.Rows.callWith_type1 (thn (ha.run pos pins s σ H _ I h) fun us s1 g => ?_) hs rfl))⟩
  obtain ⟨vs, H1, I1, r1, a, xs, rfl, g⟩ := g
  cases r1 with
  | cons r rr =>
    cases rr
    cases r
    have fresh : ∀ b ∈ [s1.heap.objs.size + 1, s1.heap.objs.size], s1.heap.objs.size ≤ b := fun b hb => by
      rcases (by simpa using hb : b = s1.heap.objs.size + 1 ∨ b = s1.heap.objs.size) with z | z <;> omega
    rcases g with ⟨hq, q⟩ | ⟨hq, q⟩
    · obtain ⟨its, rv, p', hz⟩ := I1.list hq
      refine call_enumerate_list p'.isList fun h' he hit hsz hk => wpAny_pyIter_enum he ?_
      exact ⟨s1.heap.objs.size + 1, [s1.heap.objs.size + 1, s1.heap.objs.size], _, _, H1, rfl, I1.kept (t' := s1.toks) hk, turn_enum a (s1.heap.objs.size + 1) s1.heap.objs.size, ⟨⟨.none, he⟩, hit, Nat.succ_ne_self _⟩, fun b hb => I1.fpOk (fresh b hb) (I1.hok.fresh (fresh b hb)), q⟩
    · obtain ⟨its, rv, p', hz⟩ := I1.tuple hq
      have pT : s1.heap.IsTuple a its.toArray := p'
      have hal : a < s1.heap.objs.size := by obtain ⟨o, ho, _⟩ := pT; exact Heap.lt_size ho
      refine en_callT pT fun h' he hit hsz hk => wpAny_pyIter_enum he ?_
      exact ⟨s1.heap.objs.size + 1, [s1.heap.objs.size + 1, s1.heap.objs.size], _, _, H1, rfl, I1.kept (t' := s1.toks) hk, turn_enT a (s1.heap.objs.size + 1) s1.heap.objs.size, ⟨⟨.none, he⟩, hit, Nat.succ_ne_self _, Nat.ne_of_gt (Nat.lt_succ_of_lt hal), Nat.ne_of_lt hal⟩, fun b hb => I1.fpOk (fresh b hb) (I1.hok.fresh (fresh b hb)), q⟩
theorem for_en {K : PySem.W.Frag} {a : Addr} {xs : List V} {g : TG} {tb : TS} {D : Ends} {σ : St} {H : Hp} (J : It) (Sq : Hp → List V → Prop) (hJ : J = Ite K a ∧ Sq = (fun H ys => SqL K H a ys) ∨ J = IteT K a ∧ Sq = (fun H ys => SqT K H a ys)) (Pv : Nat → St → Hp → Prop) (h0 : Pv 0 σ H) (hl : ∀ i σ H, i ≤ xs.length → Pv i σ H → Sq H xs)
    (hs : ∀ i x σ H T H', xs[i]? = some x → Pv i σ H → H T = none → H' = upd H T (.tup [.int (i : Nat), x]) → g (.ref T) σ H' fun σ2 H2 => tb { D with nx := Pv (i + 1), ct := Pv (i + 1), bk := D.nx } σ2 H2) (hd : ∀ σ H, Pv xs.length σ H → D.nx σ H) :
    ∃ W : Nat → Nat → St → Hp → Prop, (∃ m, W 0 m σ H) ∧ ∀ i m σ H, W i m σ H →
      (J.stop i H ∧ D.nx σ H) ∨ (J.go i H ∧ ∃ N : St → Hp → Prop, (∀ σ' H', N σ' H' → ∃ m', m' < m ∧ W (i + 1) m' σ' H') ∧ ∀ x H', J.yld i H x H' → g x σ H' fun σ2 H2 => tb { D with nx := N, ct := N, bk := D.nx } σ2 H2) := by
  refine ⟨fun i m σ H => m = xs.length - i ∧ i ≤ xs.length ∧ Pv i σ H, ⟨xs.length, by simp, Nat.zero_le _, h0⟩, ?_⟩
  rintro i m σ H ⟨rfl, hi, pv⟩
  have sq := hl i σ H hi pv
  by_cases hlt : i < xs.length
  · have hx : xs[i]? = some xs[i] := List.getElem?_eq_getElem hlt
    have hgo : J.go i H := by
      rcases hJ with ⟨rfl, rfl⟩ | ⟨rfl, rfl⟩
      · exact ⟨xs, _, sq, hx⟩
      · exact ⟨xs, _, sq, hx⟩
    refine .inr ⟨hgo, Pv (i + 1), fun σ' H' q => ⟨xs.length - (i + 1), by omega, rfl, hlt, q⟩, fun x H' y => ?_⟩
    have hy : ∃ T z, x = .ref T ∧ H T = none ∧ H' = upd H T (.tup [.int (i : Nat), z]) ∧ xs[i]? = some z := by
      rcases hJ with ⟨rfl, rfl⟩ | ⟨rfl, rfl⟩
      · obtain ⟨T, z, e1, e2, e3, e4⟩ := y; exact ⟨T, z, e1, e2, e3, e4 xs sq⟩
      · obtain ⟨T, z, e1, e2, e3, e4⟩ := y; exact ⟨T, z, e1, e2, e3, e4 xs sq⟩
    obtain ⟨T, z, rfl, e2, rfl, e4⟩ := hy
    exact hs i z σ H T _ e4 pv e2 rfl
  · have e : i = xs.length := by omega
    subst e
    refine .inl ⟨?_, hd σ H pv⟩
    rcases hJ with ⟨rfl, rfl⟩ | ⟨rfl, rfl⟩
    · exact ⟨xs, sq, Nat.le_refl _⟩
    · exact ⟨xs, sq, Nat.le_refl _⟩
theorem r_enS {K : PySem.W.Frag} {r : Addr} {xs : List V} {ta : TA} {g : TG} {tb : TS} {D : Ends} {σ : St} {H : Hp} (ha : ∀ QA : List V → Hp → Prop, QA [.ref r] H → ta σ H QA) (hq : SqL K H r xs ∨ SqT K H r xs) (Pv : Nat → St → Hp → Prop) (h0 : Pv 0 σ H) (hl : ∀ i σ H', Pv i σ H' → Same H H')
    (hs : ∀ i x σ H T H', xs[i]? = some x → Pv i σ H → H T = none → H' = upd H T (.tup [.int (i : Nat), x]) → g (.ref T) σ H' fun σ2 H2 => tb { D with nx := Pv (i + 1), ct := Pv (i + 1), bk := D.nx } σ2 H2) (hd : ∀ σ H, Pv xs.length σ H → D.nx σ H) :
    iEnumS K ta σ H fun J H1 => ∃ W : Nat → Nat → St → Hp → Prop, (∃ m, W 0 m σ H1) ∧ ∀ i m σ H, W i m σ H →
      (J.stop i H ∧ D.nx σ H) ∨ (J.go i H ∧ ∃ N : St → Hp → Prop, (∀ σ' H', N σ' H' → ∃ m', m' < m ∧ W (i + 1) m' σ' H') ∧ ∀ x H', J.yld i H x H' → g x σ H' fun σ2 H2 => tb { D with nx := N, ct := N, bk := D.nx } σ2 H2) := by
  refine ha _ ⟨r, xs, rfl, ?_⟩
  rcases hq with hq | hq
  · exact .inl ⟨hq, for_en _ _ (.inl ⟨rfl, rfl⟩) Pv h0 (fun i σ H' _ pv => Same.seq (hl i σ H' pv) hq) hs hd⟩
  · refine .inr ⟨hq, for_en _ _ (.inr ⟨rfl, rfl⟩) Pv h0 (fun i σ H' _ pv => ?_) hs hd⟩
    have s := hl i σ H' pv
    rcases hq with (h | ⟨o, h⟩) | h
    · exact .inl (.inl (s _ _ h))
    · exact .inl (.inr ⟨o, s _ _ h⟩)
    · exact .inr h

/-! ### the growing tree: rules, specifications -/
abbrev Turns := Option Nat
/-- turns as a value -/
abbrev tv : Turns → V
  | none => .non
  | some d => .int d
def TurnsIn (T : Turns) : Prop := match T with
  | none => True
  | some d => 1 ≤ d ∧ d ≤ 1000000000000
def depths (T : Turns) : Nat := match T with
  | none => 120
  | some _ => 40
theorem depths_le (T : Turns) : depths T ≤ 120 := by
  cases T with
  | none => exact Nat.le_refl _
  | some d => exact (by decide : (40 : Nat) ≤ 120)
/-- ascending times of roots -/
def RootsFrom : Int → List Int → Prop
  | _, [] => True
  | b, r :: rs => b ≤ r ∧ r ≤ 1000000000000 ∧ RootsFrom r rs
def RootsOk (rs : List Int) : Prop := 1 ≤ rs.length ∧ rs.length ≤ 6 ∧ RootsFrom 0 rs
theorem RootsFrom.get : ∀ {rs : List Int} {b : Int} {i : Nat} {r : Int}, RootsFrom b rs → rs[i]? = some r → b ≤ r ∧ r ≤ 1000000000000
  | [], _, _, _, _, h => by simp at h
  | a :: rs, b, 0, r, h, e => by
    have : a = r := by simpa using e
    subst this
    exact ⟨h.1, h.2.1⟩
  | a :: rs, b, i + 1, r, h, e => by
    have q := RootsFrom.get h.2.2 (by simpa using e : rs[i]? = some r)
    exact ⟨Int.le_trans h.1 q.1, q.2⟩
theorem RootsFrom.next : ∀ {rs : List Int} {b : Int} {i : Nat} {r s : Int}, RootsFrom b rs → rs[i]? = some r → rs[i + 1]? = some s → r ≤ s
  | [], _, _, _, _, _, h, _ => by simp at h
  | a :: rs, b, 0, r, s, h, e1, e2 => by
    have : a = r := by simpa using e1
    subst this
    exact (RootsFrom.get h.2.2 (by simpa using e2 : rs[0]? = some s)).1
  | a :: rs, b, i + 1, r, s, h, e1, e2 => RootsFrom.next h.2.2 (by simpa using e1) (by simpa using e2)
def SqR (K : PySem.W.Frag) (H : Hp) (r : Addr) (rs : List Int) : Prop := H r = some (.lst (rs.map V.int)) ∨ SqT K H r (rs.map V.int)
theorem SqR.keep {K : PySem.W.Frag} {H H' : Hp} {r : Addr} {rs : List Int} (h : SqR K H r rs) (s : Same H H') : SqR K H' r rs := by
  rcases h with h | h
  · exact .inl (s _ _ h)
  · refine .inr ?_
    rcases h with (h | ⟨o, h⟩) | h
    · exact .inl (.inl (s _ _ h))
    · exact .inl (.inr ⟨o, s _ _ h⟩)
    · exact .inr h
def tf (D G : Int) (T : Turns) (rt pw : Addr) : List (Str × V) := putF "powers" (.ref pw) (putF "horizon" (.int (depths T * D)) (putF "roots" (.ref rt) (putF "turns" (tv T) (putF "gap" (.int G) (putF "letter" (.int D) [])))))
theorem tf_letter {D G : Int} {T : Turns} {rt pw : Addr} : (tf D G T rt pw).lookup ("letter" : Str) = some (.int D) := by unfold tf; walk_at "lk"
theorem tf_gap {D G : Int} {T : Turns} {rt pw : Addr} : (tf D G T rt pw).lookup ("gap" : Str) = some (.int G) := by unfold tf; walk_at "lk"
theorem tf_turns {D G : Int} {T : Turns} {rt pw : Addr} : (tf D G T rt pw).lookup ("turns" : Str) = some (tv T) := by unfold tf; walk_at "lk"
theorem tf_roots {D G : Int} {T : Turns} {rt pw : Addr} : (tf D G T rt pw).lookup ("roots" : Str) = some (.ref rt) := by unfold tf; walk_at "lk"
theorem tf_horizon {D G : Int} {T : Turns} {rt pw : Addr} : (tf D G T rt pw).lookup ("horizon" : Str) = some (.int (depths T * D)) := by unfold tf; walk_at "lk"
theorem tf_powers {D G : Int} {T : Turns} {rt pw : Addr} : (tf D G T rt pw).lookup ("powers" : Str) = some (.ref pw) := by unfold tf; walk_at "lk"
theorem tf_no {D G : Int} {T : Turns} {rt pw : Addr} {m : Str} (h1 : ¬ m = "powers") (h2 : ¬ m = "horizon") (h3 : ¬ m = "roots") (h4 : ¬ m = "turns") (h5 : ¬ m = "gap") (h6 : ¬ m = "letter") : (tf D G T rt pw).lookup m = none := by
  unfold tf
  rw [lookup_putF, if_neg h1, lookup_putF, if_neg h2, lookup_putF, if_neg h3, lookup_putF, if_neg h4, lookup_putF, if_neg h5, lookup_putF, if_neg h6]
  rfl
/-- a tree at x -/
structure TreeAt (K : PySem.W.Frag) (C : Addr) (H : Hp) (x : Addr) (D G : Int) (T : Turns) (rs : List Int) : Prop where
  ex : ∃ dx rt pw, H x = some (.ins C dx (tf D G T rt pw)) ∧ SqT K H rt (rs.map V.int) ∧ ∀ d, T = some d → H pw = some (.tup (((List.range 41).map fun k => (d : Int) ^ k).map V.int))
  D0 : 0 < D
  D9 : D ≤ 3000000000
  G0 : 0 < G
  G9 : G ≤ 1000000000
  T0 : TurnsIn T
  R0 : RootsOk rs
theorem sqT_keep {K : PySem.W.Frag} {H H' : Hp} {r : Addr} {xs : List V} (h : SqT K H r xs) (s : Same H H') : SqT K H' r xs := by
  rcases h with (h | ⟨o, h⟩) | h
  · exact .inl (.inl (s _ _ h))
  · exact .inl (.inr ⟨o, s _ _ h⟩)
  · exact .inr h
theorem sqT_but {K : PySem.W.Frag} {H H' : Hp} {r p : Addr} {xs : List V} (h : SqT K H r xs) (s : But p H H') (n : r ≠ p) : SqT K H' r xs := by
  rcases h with (h | ⟨o, h⟩) | h
  · exact .inl (.inl (s _ _ h n))
  · exact .inl (.inr ⟨o, s _ _ h n⟩)
  · exact .inr h
theorem sqT_keep2 {K : PySem.W.Frag} {H : Hp} {r L : Addr} {xs ys zs : List V} (h : SqT K H r xs) (e : H L = some (.lst ys)) : SqT K (upd H L (.lst zs)) r xs := by
  rcases h with (h | ⟨o, h⟩) | h
  · exact .inl (.inl ((upd_ne (ne_of h e (by intro z; cases z))).trans h))
  · exact .inl (.inr ⟨o, (upd_ne (ne_of h e (by intro z; cases z))).trans h⟩)
  · exact .inr h
theorem But.updNone {H H' : Hp} {x L : Addr} {o : HO} (b : But x H H') (n : H L = none) : But x H (L2.upd H' L o) := fun c u hc hn => (upd_ne (ne_of_none hc n)).trans (b c u hc hn)
theorem SqR.but {K : PySem.W.Frag} {H H' : Hp} {r p : Addr} {rs : List Int} (h : SqR K H r rs) (s : But p H H') (n : r ≠ p) : SqR K H' r rs := by
  rcases h with h | h
  · exact .inl (s _ _ h n)
  · exact .inr (sqT_but h s n)
theorem sqT_butI {K : PySem.W.Frag} {H H' : Hp} {r x C dx : Addr} {fs : List (Str × V)} {xs : List V} (h : SqT K H r xs) (hx : H x = some (.ins C dx fs)) (s : But x H H') : SqT K H' r xs := by
  rcases h with (h | ⟨o, h⟩) | h
  · exact .inl (.inl (s _ _ h (ne_of h hx (by intro z; cases z))))
  · exact .inl (.inr ⟨o, s _ _ h (ne_of h hx (by intro z; cases z))⟩)
  · exact .inr h
theorem SqR.butI {K : PySem.W.Frag} {H H' : Hp} {r x C dx : Addr} {fs : List (Str × V)} {rs : List Int} (h : SqR K H r rs) (hx : H x = some (.ins C dx fs)) (s : But x H H') : SqR K H' r rs := by
  rcases h with h | h
  · exact .inl (s _ _ h (ne_of h hx (by intro z; cases z)))
  · exact .inr (sqT_butI h hx s)
theorem r_tupR {K : PySem.W.Frag} {H : Hp} {Q : VK} {r : Addr} {rs : List Int} (h : SqR K H r rs) (q : ∀ p H', Same H H' → SqT K H' p (rs.map V.int) → Q (.ref p) H') : rTupOf K [.ref r] H Q := by
  rcases h with h | h
  · exact r_tupL h fun p H' np s e => q p H' s (SqT.of e)
  · exact ⟨r, _, rfl, .inr ⟨h, q r H (Same.refl _) h⟩⟩
theorem TreeAt.keep {K : PySem.W.Frag} {C x : Addr} {H H' : Hp} {D G : Int} {T : Turns} {rs : List Int} (h : TreeAt K C H x D G T rs) (s : Same H H') : TreeAt K C H' x D G T rs :=
  { h with ex := let ⟨dx, rt, pw, e1, e2, e3⟩ := h.ex; ⟨dx, rt, pw, s _ _ e1, sqT_keep e2 s, fun d hd => s _ _ (e3 d hd)⟩ }
def spCheckTurns : Sp := fun vs H Q _ => ∃ T : Turns, vs = [tv T] ∧ TurnsIn T ∧ Q .non H
def spCheckRoots (K : PySem.W.Frag) : Sp := fun vs H Q _ => ∃ (r : Addr) (rs : List Int), vs = [.ref r] ∧ SqR K H r rs ∧ RootsOk rs ∧ ∀ H', Same H H' → Q .non H'
def spTree (K : PySem.W.Frag) (C M : Addr) : Sp := fun vs H Q _ => ∃ (x dx m r : Addr) (o l g : Int) (T : Turns) (rs : List Int), vs = [.ref x, .ref m, tv T, .ref r] ∧ H x = some (.ins C dx []) ∧ MachAt M H m o l g ∧ (0 ≤ o ∧ o ≤ 1000000000) ∧ (0 ≤ l ∧ l ≤ 1000000000) ∧ (1 ≤ g ∧ g ≤ 1000000000) ∧ 0 < 2 * o + l ∧
  TurnsIn T ∧ SqR K H r rs ∧ RootsOk rs ∧ ∀ H', TreeAt K C H' x (2 * o + l) (gapOf o g) T rs → But x H H' → Q .non H'
theorem r_Tree {K : PySem.W.Frag} {C M : Addr} {H : Hp} {Q : VK} {E : XK} {m r : Addr} {o l g : Int} {T : Turns} {rs : List Int} (hm : MachAt M H m o l g) (ho : 0 ≤ o ∧ o ≤ 1000000000) (hl : 0 ≤ l ∧ l ≤ 1000000000) (hg : 1 ≤ g ∧ g ≤ 1000000000) (hp : 0 < 2 * o + l) (hT : TurnsIn T) (hR : SqR K H r rs) (hRo : RootsOk rs)
    (k : ∀ x H', H x = none → TreeAt K C H' x (2 * o + l) (gapOf o g) T rs → Same H H' → Q (.ref x) H') : MakeAt C (spTree K C M) ([.ref m, tv T, .ref r] ++ []) E H Q :=
  fun x dx nx nd _ => by
    have s0 : Same H (upd (upd H dx (.own x)) x (.ins C dx [])) := fun b o e => by rw [upd_ne (ne_of_none e nx), upd_ne (ne_of_none e nd)]; exact e
    exact ⟨x, dx, m, r, o, l, g, T, rs, rfl, upd_same, hm.keep s0, ho, hl, hg, hp, hT, hR.keep s0, hRo, fun H' ht bt => ⟨rfl, k x H' nx ht (Same.made nx nd bt)⟩⟩
theorem gap_pos {o g : Int} (h : 1 ≤ g) : 1 ≤ gapOf o g := by unfold gapOf; by_cases c : g > o <;> simp [c] <;> omega
theorem gap_le {o g : Int} (h : g ≤ 1000000000) (h2 : o ≤ 1000000000) : gapOf o g ≤ 1000000000 := by unfold gapOf; by_cases c : g > o <;> simp [c] <;> omega
theorem r_tyL {K : PySem.W.Frag} {H : Hp} {r : Addr} {rs : List Int} (h : SqR K H r rs) : TyX K H (.ref r) (.type "list") ∨ TyX K H (.ref r) (.type "tuple") := by
  rcases h with h | (h | ⟨o, h⟩) | ⟨o, its, n, h, hc, _⟩
  · exact .inl (.base (.lst h))
  · exact .inr (.base (.tup h))
  · exact .inr (.fTuple h)
  · exact .inr (.kTuple h hc)
local macro_rules | `(tactic| walk_at "no") => `(tactic| exact tf_no (by decide +kernel) (by decide +kernel) (by decide +kernel) (by decide +kernel) (by decide +kernel) (by decide +kernel))
local macro_rules | `(tactic| walk_at "lk") => `(tactic| first | exact tf_letter | exact tf_gap | exact tf_turns | exact tf_roots | exact tf_horizon | exact tf_powers)
local macro_rules | `(tactic| walk_at "rd") => `(tactic| with_reducible first
  | refine r_lenS (by assumption) ?_)
section
variable {P : Program} {w : World} {K : PySem.W.Frag} {mg : Str → Option Value} {base : Heap} {a : Adr}
theorem ok_check_turns (T : Txt K mg a) : FnOk P w K mg base CX0 3 a.a_check_turns a.d_check_turns ["turns"] spCheckTurns := by
  refine T.F_check_turns.ok sc_check_turns (fun vs H Q E h => ?_) (fun cdv A outer s H vs Q E hr h => ?_)
  · obtain ⟨d, rfl, _⟩ := h
    rfl
  · obtain ⟨d, rfl, hd, k⟩ := h
    refine ⟨_, (pss_one (ps_if (PW.pt (pw_and (pt_cmpR op_notNo (pv 0) pe_non (nomark _)) (pw_and1 (pt_not (pt_val (pe_call (ok_is_between T) (hr.mono (by decide)) (by rfl) T.g_is_between T.F_is_between.kp T.b_is_between .nil pass0 (pa_cons (pv 0) (pa_cons pe_int (pa_cons (pe_glob (v := .int 1000000000000) (by rfl) T.g_MOST_TURNS.choose_spec ⟨_, rfl⟩) pa_nil))))))))) (pss_one ps_never)
 pss_nil)), ?_⟩
    cases d with
    | none =>
      repeat walk_at "rd"
      exact k
    | some d =>
      repeat walk_at "rd"
      refine r_between ?_
      repeat walk_at "rd"
      refine r_nDT ⟨by have := hd.1; omega, by have := hd.2; omega⟩ ?_
      repeat walk_at "rd"
      exact k
theorem ok_check_roots (T : Txt K mg a) : FnOk P w K mg base CX0 3 a.a_check_roots a.d_check_roots ["roots"] (spCheckRoots K) := by
  refine T.F_check_roots.ok sc_check_roots (fun vs H Q E h => ?_) (fun cdv A outer s H vs Q E hr h => ?_)
  · obtain ⟨r, rs, rfl, _⟩ := h
    rfl
  · obtain ⟨r, rs, rfl, hS, ⟨l1, l6, hR⟩, k⟩ := h
    refine ⟨_, (pss_cons (ps_if (PW.pt (pw_or (pt_not (pt_val (pe_callB call_isiT (by rfl) T.n_isinstance (by decide +kernel) (pa_cons (pv 0) (pa_cons (pe_tup (pa_cons (pe_bltn (v := .ty "list") (u := .type "list") (by rfl) T.n_list (by decide +kernel) rfl) (pa_cons (pe_bltn (v := .ty "tuple") (u := .type "tuple") (by rfl) T.n_tuple (by decide +kernel) rfl) pa_nil))) pa_nil))))) (pw_or1 (pt_not (pt_chain op_le op_le pe_int (pe_callB call_len_seq (by rfl) T.n_len (by decide +kernel) (pa_cons (pv 0) pa_nil)) (pe_glob (v := .int 6) (by rfl) T.g_MOST_ROOTS.choose_spec ⟨_, rfl⟩)))))) (pss_one ps_never)
 pss_nil)
 (pss_cons (ps_set (i := 1) sc_check_roots.nd rfl (Or.inl rfl) pe_int)
 (pss_one (ps_for (by exact PassesOwn.never) rfl (pi_enumS (by rfl) T.n_enumerate (pa_cons (pv 0) pa_nil)) (pg_tup (by rfl) (pgs_cons (pg_name (i := 2) sc_check_roots.nd rfl (Or.inl rfl)) (pgs_cons (pg_name (i := 3) sc_check_roots.nd rfl (Or.inl rfl)) pgs_nil)))
 (pss_cons (ps_if (pt_not (pt_val (pe_call (ok_is_between T) (hr.mono (by decide)) (by rfl) T.g_is_between T.F_is_between.kp T.b_is_between .nil pass0 (pa_cons (pv 3) (pa_cons (pv 1) (pa_cons (pe_glob (v := .int 1000000000000) (by rfl) T.g_LATEST_ROOT.choose_spec ⟨_, rfl⟩) pa_nil)))))) (pss_one ps_never)
 pss_nil)
 (pss_one (ps_set (i := 1) sc_check_roots.nd rfl (Or.inl rfl) (pv 3)))))))), ?_⟩
    walk_at "rdi"
    repeat walk_at "rd"
    refine new_at (Nat.le_of_ble_eq_true rfl) (fun u H1 nu s1 e1 => ?_)
    have hS1 := hS.keep s1
    have hk : ∃ t, TyX K H1 (.ref r) t ∧ PySem.W.kitAny K t [.type "list", .type "tuple"] = some true := by
      rcases r_tyL hS1 with h | h
      · exact ⟨_, h, kitAny_cons (b := true) (kit_ty (by decide +kernel)) (fun z => Bool.noConfusion z) fun _ => rfl⟩
      · exact ⟨_, h, kitAny_cons (b := false) (kit_ty (by decide +kernel)) (fun _ => kitAny_cons (b := true) (kit_ty (by decide +kernel)) (fun z => Bool.noConfusion z) fun _ => rfl) (fun z => Bool.noConfusion z)⟩
    obtain ⟨t, ty, hk⟩ := hk
    repeat walk_at "rd"
    refine ⟨_, u, [.ty "list", .ty "tuple"], t, [.type "list", .type "tuple"], true, rfl, e1, .cons (.ty _) (.cons (.ty _) .nil), ty, hk, ?_⟩
    have hq : SqL K H1 r (rs.map V.int) ∨ SqT K H1 r (rs.map V.int) := hS1.imp SqL.of id
    repeat walk_at "rd"
    refine r_lenS hq ?_
    repeat walk_at "rd"
    refine ite_tt (by rw [List.length_map]; omega) ?_
    repeat walk_at "rd"
    refine r_nDT (by rw [List.length_map]; omega) ?_
    repeat walk_at "rd"
    refine r_enS (xs := rs.map V.int) (by intro QA q; (repeat walk_at "rd"); exact q) hq (fun i σ H' => ∃ (b : Int) (v2 v3 : Option V), σ = [some (.ref r), some (.int b), v2, v3] ∧ Same H1 H' ∧ (∀ r0, rs[i]? = some r0 → b ≤ r0)) ⟨0, _, _, rfl, Same.refl _, fun r0 h => (hR.get h).1⟩ (fun i σ H' ⟨_, _, _, _, s, _⟩ => s) ?_ ?_
    · rintro i x σ H2 u2 H3 hx ⟨b, v2, v3, rfl, s2, hb⟩ nu2 rfl
      obtain ⟨z, hz, rfl⟩ := int_of_get hx
      repeat walk_at "rd"
      walk_at "rdi"
      repeat walk_at "rd"
      refine r_between ?_
      repeat walk_at "rd"
      refine r_nDT ⟨hb z hz, (hR.get hz).2⟩ ?_
      repeat walk_at "rd"
      exact ⟨z, _, _, rfl, s2.trans (Same.new nu2), fun r0 h => hR.next hz h⟩
    · rintro σ H2 ⟨b, v2, v3, rfl, s2, _⟩
      exact k _ (s1.trans s2)

theorem ok_Tree_init (T : Txt K mg a) : FnOk P w K mg base CX0 4 a.a_Tree_init a.d_Tree_init ["self", "machine", "turns", "roots"] (spTree K a.c_Tree a.c_Machine) := by
  refine T.F_Tree_init.ok sc_Tree_init (fun vs H Q E h => ?_) (fun cdv A outer s H vs Q E hr h => ?_)
  · obtain ⟨x, dx, m, r, o, l, g, Tn, rs, rfl, _⟩ := h
    rfl
  · obtain ⟨x, dx, m, r, o, l, g, Tn, rs, rfl, hx, ⟨dm, hm⟩, ho, hl, hg, hp, hT, hR, hRo, k⟩ := h
    refine ⟨_, (pss_cons (ps_expr (pe_call (ok_check_turns T) (hr.mono (by decide)) (by rfl) T.g_check_turns T.F_check_turns.kp T.b_check_turns .nil pass0 (pa_cons (pv 2) pa_nil)))
 (pss_cons (ps_expr (pe_call (ok_check_roots T) (hr.mono (by decide)) (by rfl) T.g_check_roots T.F_check_roots.kp T.b_check_roots .nil pass0 (pa_cons (pv 3) pa_nil)))
 (pss_cons (ps_fld (pv 0) (pe_fld (pv 1) rfl) rfl)
 (pss_cons (ps_fld (pv 0) (pe_fld (pv 1) rfl) rfl)
 (pss_cons (ps_fld (pv 0) (pv 2) rfl)
 (pss_cons (ps_fld (pv 0) (pe_callTy cr_tup (by rfl) T.n_tuple (by decide +kernel) (pa_cons (pv 3) pa_nil)) rfl)
 (pss_one (ps_if (pt_cmpR op_isNo (pv 2) pe_non (nomark _)) (pss_cons (ps_fld (pv 0) (pe_op op_mul (pe_glob (v := .int 120) (by rfl) T.g_FREE_DEPTHS.choose_spec ⟨_, rfl⟩) (pe_fld (pv 0) rfl)) rfl)
 (pss_one (ps_fld (pv 0) (pe_tup pa_nil) rfl)))
 (pss_cons (ps_fld (pv 0) (pe_op op_mul (pe_glob (v := .int 40) (by rfl) T.g_TURNS_DEPTHS.choose_spec ⟨_, rfl⟩) (pe_fld (pv 0) rfl)) rfl)
 (pss_one (ps_fld (pv 0) (pe_callTy cr_tup (by rfl) T.n_tuple (by decide +kernel) (pa_cons (pe_lc (own := [("k", 4)]) (g := gName 4) (tt := tYes) rfl sc_Tree_init.nd (pi_range1 (by rfl) T.n_range (pa_cons pe_int pa_nil)) (blkOk_by (own := [("k", 4)]) (N := ["self", "machine", "turns", "roots", "k"]) (sc := defScope s_Tree_init) (by decide +kernel)) (fun _ _ _ _ _ => (pg_name (i := 4) sc_Tree_init.nd rfl (Or.inl rfl))) (fun _ _ _ _ _ => pts_nil) (fun _ _ _ _ _ => (pe_op op_pow (pv 2) (pv 4)))) pa_nil)) rfl))))))))))), ?_⟩
    repeat walk_at "rd"
    refine ⟨Tn, rfl, hT, ?_⟩
    repeat walk_at "rd"
    refine ⟨r, rs, rfl, hR, hRo, fun H1 s1 => ?_⟩
    have hx1 := s1 _ _ hx
    have hm1 := s1 _ _ hm
    have hR1 := hR.keep s1
    have nmx : m ≠ x := ne_of hm hx fun z => by
      have e := mf_o (o := o) (l := l) (g := g)
      rw [(HO.ins.inj z).2.2] at e
      cases e
    repeat walk_at "rd"
    refine r_tupR (hR1.butI hx1 (But.upd.trans (But.upd.trans But.upd))) (fun rt H2 s2 hrt => ?_)
    have e2 := s2 _ _ upd_same
    have b2 : But x H H2 := (But.of_same s1).trans (((But.upd.trans (But.upd.trans But.upd))).trans (But.of_same s2))
    clear hR1 hm1 hx1 s2
    repeat walk_at "rd"
    have hD0 : 0 < gapOf o g := by have := gap_pos (o := o) hg.1; omega
    have hG9 := gap_le (o := o) hg.2 ho.2
    cases Tn with
    | none =>
      repeat walk_at "rd"
      refine new_at (Nat.le_of_ble_eq_true rfl) (fun pw H3 npw s3 e3 => ?_)
      have e4 := s3 _ _ upd_same
      repeat walk_at "rd"
      have bz := (But.upd.trans (But.upd.trans ((But.of_same s3).trans (But.upd (p := x) (o := .ins a.c_Tree dx (tf (2 * o + l) (gapOf o g) none rt pw))))))
      refine k _ ⟨⟨dx, rt, pw, upd_same, sqT_butI hrt e2 bz, fun d hd => by cases hd⟩, hp, by omega, hD0, hG9, hT, hRo⟩ (b2.trans bz)
    | some d =>
      repeat walk_at "rd"
      refine ⟨by decide, by decide, fun L hL => lc_range (lo := 0) (n := 41) (fun i H' => H' L = some (.lst (((List.range i).map fun k => (d : Int) ^ k).map V.int)) ∧
        H' x = some (.ins a.c_Tree dx (putF "horizon" (.int (40 * (2 * o + l))) (putF "roots" (.ref rt) (putF "turns" (tv (some d)) (putF "gap" (.int (gapOf o g)) (putF "letter" (.int (2 * o + l)) [])))))) ∧ But x H2 H' ∧ L ≠ x ∧ H2 L = none) ?_ ?_ ?_⟩
      · have nxL : x ≠ L := ne_of_none upd_same hL
        refine ⟨upd_same, (upd_ne nxL).trans upd_same, But.upd.trans (But.upd.trans (But.new hL)), nxL.symm, ?_⟩
        rw [upd_ne nxL.symm, upd_ne nxL.symm] at hL
        exact hL
      · rintro i H3 hi ⟨h1, h2, h4, h5, h6⟩
        repeat walk_at "rd"
        refine ⟨rfl, ?_⟩
        repeat walk_at "rd"
        refine r_I (powOk (by omega) (by omega) (by have := hT.2; omega)) ?_
        refine ⟨_, h1, small1000 (by simp; omega), ?_, (upd_ne h5.symm).trans h2, h4.updNone h6, h5, h6⟩
        rw [upd_same, List.range_succ, List.map_append, List.map_append, show ((0 + (i : Int)) : Int).toNat = i by omega]
        rfl
      · rintro H3 ⟨h1, h2, h4, h5, h6⟩
        repeat walk_at "rd"
        refine r_tupL h1 (fun pw H4 npw s4 e4 => ?_)
        have h2 := s4 _ _ h2
        have npx : pw ≠ x := (ne_of_none (show H3 x = some _ from by assumption) npw).symm
        repeat walk_at "rd"
        have bz := (h4.trans (But.of_same s4)).trans (But.upd (p := x) (o := .ins a.c_Tree dx (putF "powers" (.ref pw) (putF "horizon" (.int (40 * (2 * o + l))) (putF "roots" (.ref rt) (putF "turns" (tv (some d)) (putF "gap" (.int (gapOf o g)) (putF "letter" (.int (2 * o + l)) []))))))))
        refine k _ ⟨⟨dx, rt, pw, upd_same, sqT_butI hrt e2 bz, fun d' hd => ?_⟩, hp, by omega, hD0, hG9, hT, hRo⟩ (b2.trans bz)
        cases hd
        exact (upd_ne npx).trans e4
end

/-! ### sum of a tuple of ints -/
def rSumT (K : PySem.W.Frag) : List V → Hp → VK → Prop := fun vs H Q => ∃ (a : Addr) (ns : List Int), vs = [V.ref a] ∧ SqT K H a (ns.map V.int) ∧ Q (.int ns.sum) H
open PySem.W PyProof.Rows in
theorem cr_sumT {X : Cx} (hc : X.calm = true) : CallR X (.builtin "sum") (rSumT X.K) := by
  intro pins s σ H vs us Q I r h
  obtain ⟨a, ns, rfl, hs, q⟩ := h
  obtain ⟨its, rv, hl, _⟩ := I.tuple hs
  rw [Vals.ref1 r]
  have hi := rv.ints
  obtain ⟨xs, hx⟩ := hi.allInts.items
  have hn : numsOf its.toArray.toList = ns := by rw [show its.toArray.toList = its from rfl, hi.numsOf]
  rw [hx] at hl hn
  rw [nums_intItems] at hn
  refine ktm_sumG (I.ok.hd hc) hl fun h' tk t' hk => ?_
  rw [preSum_eq, List.take_of_length_le (by simp), hn]
  exact ⟨.int _, H, I.kept hk, ⟨_, rfl⟩, q⟩

/-! ### values of any kind, as arguments -/
structure Arg (K : PySem.W.Frag) (H : Hp) (x : V) (b : Bool) : Prop where
  iv : IntV K H x b
  isI : b = true → ∃ i, x = .int i
theorem Arg.int {K : PySem.W.Frag} {H : Hp} {i : Int} : Arg K H (.int i) true := ⟨IntV.int, fun _ => ⟨i, rfl⟩⟩

/-! ### things of any kind -/
theorem kit_own {K : PySem.W.Frag} {C : Addr} {n : String} (h : PySem.W.subIn K (.ref C) (.type n) = some false) (hm : PySem.W.kitMeta n = true) : PySem.W.kitOne K (.ref C) (.type n) = some false := by
  unfold PySem.W.kitOne PySem.W.kitCls
  rw [if_neg (by simp)]
  show (if PySem.W.kitMeta n = true then PySem.W.subIn K (.ref C) (.type n) else none) = some false
  rw [if_pos hm]
  exact h
/-- a value that the law hands in: nothing of it lies at p0 -/
def Thing (M p0 : Addr) (H : Hp) (x : V) : Prop := (∃ i, x = .int i) ∨ (∃ b, x = .bl b) ∨ x = .non ∨ (∃ s, x = .str s) ∨ ∃ p, x = .ref p ∧ p ≠ p0 ∧ ((∃ xs, H p = some (.lst xs)) ∨ (∃ xs, H p = some (.tup xs)) ∨ H p = some (.dK []) ∨ ∃ dx fs, H p = some (.ins M dx fs))
theorem Thing.but {M p0 : Addr} {H H' : Hp} {x : V} (h : Thing M p0 H x) (s : But p0 H H') : Thing M p0 H' x := by
  rcases h with h | h | h | h | ⟨p, e, n, h⟩
  · exact .inl h
  · exact .inr (.inl h)
  · exact .inr (.inr (.inl h))
  · exact .inr (.inr (.inr (.inl h)))
  · refine .inr (.inr (.inr (.inr ⟨p, e, n, ?_⟩)))
    rcases h with ⟨xs, h⟩ | ⟨xs, h⟩ | h | ⟨dx, fs, h⟩
    · exact .inl ⟨xs, s _ _ h n⟩
    · exact .inr (.inl ⟨xs, s _ _ h n⟩)
    · exact .inr (.inr (.inl (s _ _ h n)))
    · exact .inr (.inr (.inr ⟨dx, fs, s _ _ h n⟩))
theorem Thing.keep {M p0 : Addr} {H H' : Hp} {x : V} (h : Thing M p0 H x) (s : Same H H') : Thing M p0 H' x := h.but (But.of_same s)
theorem Thing.int {M p0 : Addr} {H : Hp} {i : Int} : Thing M p0 H (.int i) := .inl ⟨i, rfl⟩
theorem Thing.bl {M p0 : Addr} {H : Hp} {i : Bool} : Thing M p0 H (.bl i) := .inr (.inl ⟨i, rfl⟩)
theorem Thing.non {M p0 : Addr} {H : Hp} : Thing M p0 H .non := .inr (.inr (.inl rfl))
theorem Thing.str {M p0 : Addr} {H : Hp} {i : Str} : Thing M p0 H (.str i) := .inr (.inr (.inr (.inl ⟨i, rfl⟩)))
theorem Thing.lst {M p0 p : Addr} {H : Hp} {xs : List V} (n : p ≠ p0) (h : H p = some (.lst xs)) : Thing M p0 H (.ref p) := .inr (.inr (.inr (.inr ⟨p, rfl, n, .inl ⟨xs, h⟩⟩)))
theorem Thing.tup {M p0 p : Addr} {H : Hp} {xs : List V} (n : p ≠ p0) (h : H p = some (.tup xs)) : Thing M p0 H (.ref p) := .inr (.inr (.inr (.inr ⟨p, rfl, n, .inr (.inl ⟨xs, h⟩)⟩)))
theorem Thing.dic {M p0 p : Addr} {H : Hp} (n : p ≠ p0) (h : H p = some (.dK [])) : Thing M p0 H (.ref p) := .inr (.inr (.inr (.inr ⟨p, rfl, n, .inr (.inr (.inl h))⟩)))
theorem Thing.mach {M p0 p : Addr} {H : Hp} {o l g : Int} (n : p ≠ p0) (h : MachAt M H p o l g) : Thing M p0 H (.ref p) := let ⟨dx, e⟩ := h; .inr (.inr (.inr (.inr ⟨p, rfl, n, .inr (.inr (.inr ⟨dx, _, e⟩))⟩)))
theorem Thing.arg {K : PySem.W.Frag} {mg : Str → Option Value} {a : Adr} (T : Txt K mg a) {p0 : Addr} {H : Hp} {x : V} (h : Thing a.c_Machine p0 H x) : ∃ b, Arg K H x b := by
  rcases h with ⟨i, rfl⟩ | ⟨i, rfl⟩ | rfl | ⟨i, rfl⟩ | ⟨p, rfl, _, ⟨xs, h⟩ | ⟨xs, h⟩ | h | ⟨dx, fs, h⟩⟩
  · exact ⟨true, Arg.int⟩
  · exact ⟨false, ⟨_, true, true, .base (.bl _), kit_ty (by decide +kernel), kit_ty (by decide +kernel), rfl⟩, fun z => Bool.noConfusion z⟩
  · exact ⟨false, ⟨_, false, false, .base .non, kit_ty (by decide +kernel), kit_ty (by decide +kernel), rfl⟩, fun z => Bool.noConfusion z⟩
  · exact ⟨false, ⟨_, false, false, .base (.str _), kit_ty (by decide +kernel), kit_ty (by decide +kernel), rfl⟩, fun z => Bool.noConfusion z⟩
  · exact ⟨false, ⟨_, false, false, .base (.lst h), kit_ty (by decide +kernel), kit_ty (by decide +kernel), rfl⟩, fun z => Bool.noConfusion z⟩
  · exact ⟨false, ⟨_, false, false, .base (.tup h), kit_ty (by decide +kernel), kit_ty (by decide +kernel), rfl⟩, fun z => Bool.noConfusion z⟩
  · exact ⟨false, ⟨_, false, false, .base (.dK h), kit_ty (by decide +kernel), kit_ty (by decide +kernel), rfl⟩, fun z => Bool.noConfusion z⟩
  · exact ⟨false, ⟨_, false, false, .base (.ins h T.cl_Machine T.ca_Machine T.cg_Machine T.ct_Machine T.co_Machine), kit_own T.su_int_Machine (by decide +kernel), kit_own T.su_bool_Machine (by decide +kernel), rfl⟩, fun z => Bool.noConfusion z⟩

/-! ### names: what is wrong with a thing, at which place -/
def isI : V → Bool
  | .int _ => true
  | _ => false
/-- an integer from 0 to hi -/
def itOk (v : V) (hi : Int) : Bool := match v with
  | .int i => decide (0 ≤ i ∧ i ≤ hi)
  | _ => false
def bad (n g : Int) : Nat → List V → V
  | _, [] => .non
  | i, v :: vs => if itOk v (if i = 0 then n - 1 else g) = true then bad n g (i + 1) vs else .int i
def wrongV (n g : Int) (xs : List V) : V := if 1 ≤ xs.length ∧ xs.length ≤ 200 then bad n g 0 xs else .int (-1)
def gT : Turns → Int
  | none => 1000000000000000
  | some d => d - 1
def Wr (T : Turns) (n : Int) : Option (List V) → V
  | none => .int (-1)
  | some xs => wrongV n (gT T) xs
theorem bad_non (n g : Int) : ∀ (i : Nat) (vs : List V), bad n g i vs = .non ∨ ∃ k : Int, bad n g i vs = .int k
  | _, [] => .inl rfl
  | i, v :: vs => by
    unfold bad
    by_cases c : itOk v (if i = 0 then n - 1 else g) = true
    · rw [if_pos c]; exact bad_non n g (i + 1) vs
    · rw [if_neg c]; exact .inr ⟨i, rfl⟩
theorem Wr_non (T : Turns) (n : Int) (o : Option (List V)) : Wr T n o = .non ∨ ∃ k : Int, Wr T n o = .int k := by
  cases o with
  | none => exact .inr ⟨_, rfl⟩
  | some xs =>
    show wrongV n (gT T) xs = _ ∨ ∃ k : Int, wrongV n (gT T) xs = _
    unfold wrongV
    by_cases c : 1 ≤ xs.length ∧ xs.length ≤ 200
    · rw [if_pos c]; exact bad_non _ _ _ _
    · rw [if_neg c]; exact .inr ⟨_, rfl⟩
theorem bad_step {n g : Int} {xs : List V} {i : Nat} {x : V} (h : xs[i]? = some x) : bad n g i (xs.drop i) = if itOk x (if i = 0 then n - 1 else g) = true then bad n g (i + 1) (xs.drop (i + 1)) else .int i := by
  obtain ⟨hl, e⟩ := List.getElem?_eq_some_iff.mp h
  rw [List.drop_eq_getElem_cons hl, e]
  rfl
theorem bad_all {n g : Int} : ∀ (vs : List V) (i : Nat), bad n g i vs = .non → ∃ zs : List Int, vs = zs.map V.int ∧ ∀ (j : Nat) z, zs[j]? = some z → 0 ≤ z ∧ z ≤ (if i + j = 0 then n - 1 else g)
  | [], _, _ => ⟨[], rfl, fun j z h => by simp at h⟩
  | v :: vs, i, h => by
    unfold bad at h
    by_cases c : itOk v (if i = 0 then n - 1 else g) = true
    · rw [if_pos c] at h
      obtain ⟨zs, e, hz⟩ := bad_all vs (i + 1) h
      cases v with
      | int y =>
        have hy : 0 ≤ y ∧ y ≤ (if i = 0 then n - 1 else g) := of_decide_eq_true c
        refine ⟨y :: zs, by rw [e]; rfl, fun j z hj => ?_⟩
        cases j with
        | zero =>
          obtain rfl : y = z := by simpa using hj
          exact hy
        | succ j =>
          have := hz j z (by simpa using hj)
          rw [if_neg (by omega)] at this
          rw [if_neg (by omega)]
          exact this
      | _ => cases c
    · rw [if_neg c] at h; cases h
theorem Wr_all {T : Turns} {n : Int} {o : Option (List V)} (h : Wr T n o = .non) : ∃ (z0 : Int) (zs : List Int), o = some (.int z0 :: zs.map V.int) ∧ zs.length ≤ 199 ∧ 0 ≤ z0 ∧ z0 ≤ n - 1 ∧ ∀ z, z ∈ zs → 0 ≤ z ∧ z ≤ gT T := by
  cases o with
  | none => cases h
  | some xs =>
    have h : wrongV n (gT T) xs = .non := h
    unfold wrongV at h
    by_cases c : 1 ≤ xs.length ∧ xs.length ≤ 200
    · rw [if_pos c] at h
      obtain ⟨ys, rfl, hy⟩ := bad_all xs 0 h
      cases ys with
      | nil => simp at c
      | cons z0 zs =>
        have h0 := hy 0 z0 rfl
        rw [List.map_cons, List.length_cons, List.length_map] at c
        refine ⟨z0, zs, rfl, by omega, h0.1, by simpa using h0.2, fun z hz => ?_⟩
        obtain ⟨j, hj⟩ := List.mem_iff_getElem?.mp hz
        have := hy (j + 1) z (by simpa using hj)
        rw [if_neg (by omega)] at this
        exact this
    · rw [if_neg c] at h; cases h
theorem gT_le {T : Turns} (h : TurnsIn T) : gT T ≤ 1000000000000000 := by
  cases T with
  | none => exact Int.le_refl _
  | some d => have := h.2; show (d : Int) - 1 ≤ _; omega
/-- a thing asked for as a name: its items, where it is a tuple -/
def NT (M p0 : Addr) (H : Hp) (x : V) (o : Option (List V)) : Prop :=
  (∃ p xs, x = .ref p ∧ p ≠ p0 ∧ H p = some (.tup xs) ∧ o = some xs ∧ xs.length ≤ 1000 ∧ ∀ v, v ∈ xs → Thing M p0 H v) ∨
  (o = none ∧ ((∃ i, x = .int i) ∨ (∃ b, x = .bl b) ∨ x = .non ∨ (∃ s, x = .str s) ∨ ∃ p, x = .ref p ∧ p ≠ p0 ∧ ((∃ xs, H p = some (.lst xs)) ∨ H p = some (.dK []) ∨ ∃ dx fs, H p = some (.ins M dx fs))))
theorem NT.keep {M p0 : Addr} {H H' : Hp} {x : V} {o : Option (List V)} (h : NT M p0 H x o) (s : Same H H') : NT M p0 H' x o := by
  rcases h with ⟨p, xs, e, n, h, eo, hl, ht⟩ | ⟨eo, h⟩
  · exact .inl ⟨p, xs, e, n, s _ _ h, eo, hl, fun v hv => (ht v hv).keep s⟩
  · refine .inr ⟨eo, ?_⟩
    rcases h with h | h | h | h | ⟨p, e, n, ⟨xs, h⟩ | h | ⟨dx, fs, h⟩⟩
    · exact .inl h
    · exact .inr (.inl h)
    · exact .inr (.inr (.inl h))
    · exact .inr (.inr (.inr (.inl h)))
    · exact .inr (.inr (.inr (.inr ⟨p, e, n, .inl ⟨xs, s _ _ h⟩⟩)))
    · exact .inr (.inr (.inr (.inr ⟨p, e, n, .inr (.inl (s _ _ h))⟩)))
    · exact .inr (.inr (.inr (.inr ⟨p, e, n, .inr (.inr ⟨dx, fs, s _ _ h⟩)⟩)))
theorem Thing.iv {K : PySem.W.Frag} {mg : Str → Option Value} {a : Adr} (T : Txt K mg a) {p0 : Addr} {H : Hp} {x : V} (h : Thing a.c_Machine p0 H x) : IntV K H x (isI x) := by
  rcases h with ⟨i, rfl⟩ | ⟨i, rfl⟩ | rfl | ⟨i, rfl⟩ | ⟨p, rfl, _, ⟨xs, h⟩ | ⟨xs, h⟩ | h | ⟨dx, fs, h⟩⟩
  · exact IntV.int
  · exact ⟨_, true, true, .base (.bl _), kit_ty (by decide +kernel), kit_ty (by decide +kernel), rfl⟩
  · exact ⟨_, false, false, .base .non, kit_ty (by decide +kernel), kit_ty (by decide +kernel), rfl⟩
  · exact ⟨_, false, false, .base (.str _), kit_ty (by decide +kernel), kit_ty (by decide +kernel), rfl⟩
  · exact ⟨_, false, false, .base (.lst h), kit_ty (by decide +kernel), kit_ty (by decide +kernel), rfl⟩
  · exact ⟨_, false, false, .base (.tup h), kit_ty (by decide +kernel), kit_ty (by decide +kernel), rfl⟩
  · exact ⟨_, false, false, .base (.dK h), kit_ty (by decide +kernel), kit_ty (by decide +kernel), rfl⟩
  · exact ⟨_, false, false, .base (.ins h T.cl_Machine T.ca_Machine T.cg_Machine T.ct_Machine T.co_Machine), kit_own T.su_int_Machine (by decide +kernel), kit_own T.su_bool_Machine (by decide +kernel), rfl⟩
theorem NT.no {K : PySem.W.Frag} {mg : Str → Option Value} {a : Adr} (T : Txt K mg a) {p0 : Addr} {H : Hp} {x : V} (h : NT a.c_Machine p0 H x none) : ∃ t, TyX K H x t ∧ PySem.W.kitOne K t (.type "tuple") = some false := by
  rcases h with ⟨_, _, _, _, _, e, _⟩ | ⟨_, ⟨i, rfl⟩ | ⟨i, rfl⟩ | rfl | ⟨i, rfl⟩ | ⟨p, rfl, _, ⟨xs, h⟩ | h | ⟨dx, fs, h⟩⟩⟩
  · cases e
  · exact ⟨_, .base (.int _), kit_ty (by decide +kernel)⟩
  · exact ⟨_, .base (.bl _), kit_ty (by decide +kernel)⟩
  · exact ⟨_, .base .non, kit_ty (by decide +kernel)⟩
  · exact ⟨_, .base (.str _), kit_ty (by decide +kernel)⟩
  · exact ⟨_, .base (.lst h), kit_ty (by decide +kernel)⟩
  · exact ⟨_, .base (.dK h), kit_ty (by decide +kernel)⟩
  · exact ⟨_, .base (.ins h T.cl_Machine T.ca_Machine T.cg_Machine T.ct_Machine T.co_Machine), kit_own T.su_tuple_Machine (by decide +kernel)⟩
theorem NT.yes {M p0 : Addr} {H : Hp} {x : V} {xs : List V} (h : NT M p0 H x (some xs)) : ∃ p, x = .ref p ∧ p ≠ p0 ∧ H p = some (.tup xs) ∧ xs.length ≤ 1000 ∧ ∀ v, v ∈ xs → Thing M p0 H v := by
  rcases h with ⟨p, xs, e, n, h, eo, hl, ht⟩ | ⟨eo, _⟩
  · cases eo; exact ⟨p, e, n, h, hl, ht⟩
  · cases eo
theorem r_isiTu {K : PySem.W.Frag} {H : Hp} {Q : VK} {p : Addr} {xs : List V} {n : String} (b : Bool) (h : H p = some (.tup xs)) (hk : kitB "tuple" n = some b) (q : Q (.bl b) H) : rIsi K [.ref p, .ty n] H Q := r_isi (.base (.tup h)) (kit_ty hk) q
theorem r_isNx {H : Hp} {Q : VK} {x : V} (q : Q (.bl (decide (x = .non))) H) : rIsNo x .non H Q := ⟨rfl, q⟩
theorem ite_nb {b : Bool} {A B : Prop} (h1 : b = false → A) (h2 : b = true → B) : if (!b) = true then A else B := by
  cases b with
  | true => exact iteF (h2 rfl)
  | false => exact iteT (h1 rfl)
theorem r_betX {K : PySem.W.Frag} {H : Hp} {Q : VK} {E : XK} {x : V} {hi : Int} (iv : IntV K H x (isI x)) (q : Q (.bl (itOk x hi)) H) : spBetween K [x, .int 0, .int hi] H Q E := by
  refine ⟨x, 0, hi, isI x, rfl, iv, fun e => ?_, fun e => ?_⟩
  · cases x with
    | int i => cases e
    | _ => exact q
  · cases x with
    | int i => exact ⟨i, rfl, q⟩
    | _ => cases e
theorem Exc1.after {E : XK} {C : Addr} {f : Str} {v : V} {H H1 : Hp} (h : Exc1 E C f v H) (s : Same H H1) : Exc1 E C f v H1 := fun d H' s' e => h d H' (s.trans s') e
theorem at_roots {rs : List Int} {z : Int} (h0 : 0 ≤ z) (h1 : z ≤ rs.length - 1) : atI (rs.map V.int) z = some (.int (rs.getD z.toNat 0)) := by
  obtain ⟨i, rfl⟩ : ∃ i : Nat, z = i := ⟨z.toNat, by omega⟩
  have hi : i < rs.length := by omega
  refine atI_nat ?_
  rw [List.getElem?_map, List.getElem?_eq_getElem hi, Int.toNat_natCast, List.getD_eq_getElem?_getD, List.getElem?_eq_getElem hi]
  rfl
theorem not_whole (z : V) (zs : List V) : ¬ (HT.sIx (z :: zs).length 0 (some 1) = 0 ∧ HT.sIx (z :: zs).length (z :: zs).length none = (z :: zs).length) := by
  intro h
  have h := h.1
  simp [HT.sIx] at h
theorem cut_one (z : V) (zs : List V) : cutV (z :: zs) (some 1) none = zs := by
  unfold cutV
  simp [HT.sIx]
def spWrongP (K : PySem.W.Frag) (M : Addr) : Sp := fun vs H Q _ => ∃ (x : V) (T : Turns) (r p0 : Addr) (rs : List Int) (o : Option (List V)), vs = [x, tv T, .ref r] ∧ NT M p0 H x o ∧ TurnsIn T ∧ SqR K H r rs ∧ RootsOk rs ∧ ∀ H', Same H H' → Q (Wr T rs.length o) H'
def spCheckName (K : PySem.W.Frag) (M N : Addr) : Sp := fun vs H Q E => ∃ (x : V) (T : Turns) (r p0 : Addr) (rs : List Int) (o : Option (List V)), vs = [x, tv T, .ref r] ∧ NT M p0 H x o ∧ TurnsIn T ∧ SqR K H r rs ∧ RootsOk rs ∧ (Wr T rs.length o = .non → ∀ H', Same H H' → Q .non H') ∧ ∀ k : Int, Wr T rs.length o = .int k → Exc1 E N "at" (.int k) H
def spIsName (K : PySem.W.Frag) (M : Addr) : Sp := fun vs H Q _ => ∃ (x : V) (T : Turns) (r p0 : Addr) (rs : List Int) (o : Option (List V)), vs = [x, tv T, .ref r] ∧ NT M p0 H x o ∧ TurnsIn T ∧ SqR K H r rs ∧ RootsOk rs ∧ ∀ H', Same H H' → Q (.bl (decide (Wr T rs.length o = .non))) H'
/-- when a name is told -/
def timeOf (D G : Int) (rs : List Int) (z0 : Int) (zs : List Int) : Int := rs.getD z0.toNat 0 + zs.length * D + zs.sum * G
def spTimeOf (K : PySem.W.Frag) (C : Addr) : Sp := fun vs H Q _ => ∃ (t p : Addr) (D G : Int) (T : Turns) (rs : List Int) (z0 : Int) (zs : List Int), vs = [.ref t, .ref p] ∧ TreeAt K C H t D G T rs ∧ H p = some (.tup (.int z0 :: zs.map V.int)) ∧ 0 ≤ z0 ∧ z0 ≤ rs.length - 1 ∧ zs.length ≤ 199 ∧ (∀ z, z ∈ zs → 0 ≤ z ∧ z ≤ 1000000000000000) ∧ ∀ H', Same H H' → Q (.int (timeOf D G rs z0 zs)) H'
theorem sum_in : ∀ zs : List Int, (∀ z, z ∈ zs → 0 ≤ z ∧ z ≤ 1000000000000000) → 0 ≤ zs.sum ∧ zs.sum ≤ zs.length * 1000000000000000
  | [], _ => ⟨Int.le_refl _, by simp⟩
  | z :: zs, h => by
    have h1 := h z (List.mem_cons_self ..)
    have h2 := sum_in zs fun y hy => h y (List.mem_cons_of_mem _ hy)
    rw [List.sum_cons, List.length_cons]
    omega
def spKnownAt (K : PySem.W.Frag) (M N : Addr) : Sp := fun vs H Q E => ∃ (m : Addr) (x : V) (T : Turns) (r p0 : Addr) (o l g : Int) (rs : List Int) (xo : Option (List V)), vs = [.ref m, x, tv T, .ref r] ∧ MachAt M H m o l g ∧ (0 ≤ o ∧ o ≤ 1000000000) ∧ (0 ≤ l ∧ l ≤ 1000000000) ∧ (1 ≤ g ∧ g ≤ 1000000000) ∧ 0 < 2 * o + l ∧ NT M p0 H x xo ∧ TurnsIn T ∧ SqR K H r rs ∧ RootsOk rs ∧
  (∀ z0 zs, xo = some (.int z0 :: zs.map V.int) → Wr T rs.length xo = .non → ∀ H', Same H H' → Q (.int (timeOf (2 * o + l) (gapOf o g) rs z0 zs)) H') ∧ ∀ k : Int, Wr T rs.length xo = .int k → Exc1 E N "at" (.int k) H
section
variable {P : Program} {w : World} {K : PySem.W.Frag} {mg : Str → Option Value} {base : Heap} {a : Adr}
theorem ok_wrong_in_name (T : Txt K mg a) : FnOk P w K mg base CX0 4 a.a_wrong_in_name a.d_wrong_in_name ["thing", "turns", "roots"] (spWrongP K a.c_Machine) := by
  refine T.F_wrong_in_name.ok sc_wrong_in_name (fun vs H Q E h => ?_) (fun cdv A outer s H vs Q E hr h => ?_)
  · obtain ⟨x, Tn, r, p0, rs, o, rfl, _⟩ := h
    rfl
  · obtain ⟨x, Tn, r, p0, rs, o, rfl, hN, hT, hR, hRo, k⟩ := h
    refine ⟨_, (pss_cons (ps_if (PW.pt (pw_or (pt_not (pt_val (pe_callB call_isi (by rfl) T.n_isinstance (by decide +kernel) (pa_cons (pv 0) (pa_cons (pe_bltn (v := .ty "tuple") (u := .type "tuple") (by rfl) T.n_tuple (by decide +kernel) rfl) pa_nil))))) (pw_or1 (pt_not (pt_chain op_le op_le pe_int (pe_callB call_len_seq (by rfl) T.n_len (by decide +kernel) (pa_cons (pv 0) pa_nil)) (pe_glob (v := .int 200) (by rfl) T.g_LONGEST_NAME.choose_spec ⟨_, rfl⟩)))))) (pss_one (ps_ret (pe_un un_neg pe_int)))
 pss_nil)
 (pss_cons (ps_set (i := 3) sc_wrong_in_name.nd rfl (Or.inl rfl) (pe_ifExp (pt_cmpR op_isNo (pv 1) pe_non (nomark _)) (pe_glob (v := .int 1000000000000000) (by rfl) T.g_GREATEST_ITEM.choose_spec ⟨_, rfl⟩) (pe_op op_sub (pv 1) pe_int)))
 (pss_cons (ps_for (by exact PassesOwn.never) rfl (pi_enumS (by rfl) T.n_enumerate (pa_cons (pv 0) pa_nil)) (pg_tup (by rfl) (pgs_cons (pg_name (i := 4) sc_wrong_in_name.nd rfl (Or.inl rfl)) (pgs_cons (pg_name (i := 5) sc_wrong_in_name.nd rfl (Or.inl rfl)) pgs_nil)))
 (pss_one (ps_if (pt_not (pt_val (pe_call (ok_is_between T) (hr.mono (by decide)) (by rfl) T.g_is_between T.F_is_between.kp T.b_is_between .nil pass0 (pa_cons (pv 5) (pa_cons pe_int (pa_cons (pe_ifExp (pt_cmpR op_eq (pv 4) pe_int (nomark _)) (pe_op op_sub (pe_callB call_len_seq (by rfl) T.n_len (by decide +kernel) (pa_cons (pv 2) pa_nil)) pe_int) (pv 3)) pa_nil)))))) (pss_one (ps_ret (pv 4)))
 pss_nil)))
 (pss_one (ps_ret pe_non))))), ?_⟩
    walk_at "rdi"
    repeat walk_at "rd"
    cases o with
    | none =>
      obtain ⟨t, ty, kt⟩ := hN.no T
      refine r_isi ty kt ?_
      repeat walk_at "rd"
      exact k _ (Same.refl _)
    | some xs =>
      obtain ⟨p, rfl, np, hp, hl, ht⟩ := hN.yes
      refine r_isiTu true hp (by decide +kernel) ?_
      repeat walk_at "rd"
      have no : ¬ (1 ≤ xs.length ∧ xs.length ≤ 200) → Q (.int (-1)) H := fun hn => by
        have e : Wr Tn rs.length (some xs) = .int (-1) := if_neg hn
        rw [e] at k
        exact k _ (Same.refl _)
      refine ite_d (fun h1 => ?_) (fun h1 => by (repeat walk_at "rd"); exact no (by omega))
      repeat walk_at "rd"
      refine r_nD (fun hn => by (repeat walk_at "rd"); exact no (by omega)) (fun hy => ?_)
      · have e : Wr Tn rs.length (some xs) = bad rs.length (gT Tn) 0 xs := if_pos (by omega)
        rw [e] at k
        clear e no
        walk_at "rd"
        with_reducible refine seq_with (fun σ H' => ∃ v5 v6 : Option V, σ = [some (.ref p), some (tv Tn), some (.ref r), some (.int (gT Tn)), v5, v6] ∧ H' = H) ?_ (fun rest => ?_)
        · rintro σ H' ⟨v5, v6, rfl, rfl⟩
          repeat walk_at "rd"
          refine r_enS (xs := xs) (by intro QA q; (repeat walk_at "rd"); exact q) (.inr (SqT.of hp)) (fun i σ H1 => ∃ v5 v6 : Option V, σ = [some (.ref p), some (tv Tn), some (.ref r), some (.int (gT Tn)), v5, v6] ∧ Same H' H1 ∧ bad rs.length (gT Tn) i (xs.drop i) = bad rs.length (gT Tn) 0 xs) ⟨_, _, rfl, Same.refl _, rfl⟩ (fun i σ H' ⟨_, _, _, s, _⟩ => s) ?_ ?_
          · rintro i x σ H2 u2 H3 hx ⟨v5, v6, rfl, s2, hb⟩ nu2 rfl
            rw [bad_step hx] at hb
            have s3 : Same H' (upd H2 u2 (.tup [.int (i : Nat), x])) := s2.trans (Same.new nu2)
            have hth := ((ht x (List.mem_iff_getElem?.mpr ⟨i, hx⟩)).keep s3).iv T
            have hR1 := hR.keep s3
            repeat walk_at "rd"
            have hR2 : SqL K (upd H2 u2 (.tup [.int (i : Nat), x])) r (rs.map V.int) ∨ SqT K (upd H2 u2 (.tup [.int (i : Nat), x])) r (rs.map V.int) := hR1.imp SqL.of id
            refine ite_d (fun i0 => ?_) (fun i0 => ?_)
            · rw [if_pos (show i = 0 by omega)] at hb
              repeat walk_at "rd"
              refine r_lenS hR2 ?_
              rw [List.length_map]
              repeat walk_at "rd"
              refine r_betX hth ⟨_, rfl, ite_nb (fun hf => ?_) (fun hf => ?_)⟩
              · repeat walk_at "rd"
                rw [hf] at hb
                rw [← hb] at k
                exact k _ s3
              · repeat walk_at "rd"
                rw [hf] at hb
                exact ⟨_, _, rfl, s3, hb⟩
            · rw [if_neg (show ¬ i = 0 by omega)] at hb
              repeat walk_at "rd"
              refine r_betX hth ⟨_, rfl, ite_nb (fun hf => ?_) (fun hf => ?_)⟩
              · repeat walk_at "rd"
                rw [hf] at hb
                rw [← hb] at k
                exact k _ s3
              · repeat walk_at "rd"
                rw [hf] at hb
                exact ⟨_, _, rfl, s3, hb⟩
          · rintro σ H2 ⟨v5, v6, rfl, s2, hb⟩
            repeat walk_at "rd"
            rw [List.drop_length] at hb
            rw [← hb] at k
            exact k _ s2
        · cases Tn with
          | none => repeat first | exact rest _ _ ⟨_, _, rfl, rfl⟩ | walk_at "rd"
          | some d => repeat first | exact rest _ _ ⟨_, _, rfl, rfl⟩ | walk_at "rd"
theorem ok_check_name (T : Txt K mg a) : FnOk P w K mg base (L2.CX P w) 5 a.a_check_name a.d_check_name ["thing", "turns", "roots"] (spCheckName K a.c_Machine a.c_InvalidName) := by
  refine T.F_check_name.okX sc_check_name (fun vs H Q E h => ?_) (fun cdv A outer s H vs Q E hr h => ?_)
  · obtain ⟨x, Tn, r, p0, rs, o, rfl, _⟩ := h
    rfl
  · obtain ⟨x, Tn, r, p0, rs, o, rfl, hN, hT, hR, hRo, k1, k2⟩ := h
    refine ⟨_, (pss_cons (ps_set (i := 3) sc_check_name.nd rfl (Or.inl rfl) (pe_call (ok_wrong_in_name T) (hr.mono (by decide)) (by rfl) T.g_wrong_in_name T.F_wrong_in_name.kp T.b_wrong_in_name .nil pass0 (pa_cons (pv 0) (pa_cons (pv 1) (pa_cons (pv 2) pa_nil)))))
 (pss_one (ps_if (pt_cmpR op_notNo (pv 3) pe_non (nomark _)) (pss_one (ps_raise rfl (takes_of rfl rfl rfl rfl) (by exact (pmk_InvalidName T.x_InvalidName hr (pa_cons (pv 3) pa_nil)))))
 pss_nil))), ?_⟩
    repeat walk_at "rd"
    refine ⟨x, Tn, r, p0, rs, o, rfl, hN, hT, hR, hRo, fun H1 s1 => ?_⟩
    rcases Wr_non Tn rs.length o with e | ⟨j, e⟩
    · rw [e]
      repeat first | walk_at "rd" | walk_at "rdi"
      exact k1 e _ s1
    · rw [e]
      repeat first | walk_at "rd" | walk_at "rdi"
      refine r_mkInvalidName ?_
      repeat walk_at "rd"
      exact ⟨_, rfl, Exc1.after (k2 j e) s1⟩
theorem ok_time_of (T : Txt K mg a) : FnOk P w K mg base CX0 1 a.a_time_of a.d_time_of ["tree", "name"] (spTimeOf K a.c_Tree) := by
  refine T.F_time_of.ok sc_time_of (fun vs H Q E h => ?_) (fun cdv A outer s H vs Q E hr h => ?_)
  · obtain ⟨t, p, D, G, Tn, rs, z0, zs, rfl, _⟩ := h
    rfl
  · obtain ⟨t, p, D, G, Tn, rs, z0, zs, rfl, ⟨⟨dx, rt, pw, ht, hrt, hpw⟩, D0, D9, G0, G9, T0, R0⟩, hp, h0, h1, hl, hz, k⟩ := h
    refine ⟨_, (pss_one (ps_ret (pe_op op_add (pe_op op_add (pe_ix ix_tup (pe_fld (pv 0) rfl) (pe_ix ix_tup (pv 1) pe_int (fun _ _ => rfl)) (fun _ _ => rfl)) (pe_op op_mul (pe_op op_sub (pe_callB call_len_seq (by rfl) T.n_len (by decide +kernel) (pa_cons (pv 1) pa_nil)) pe_int) (pe_fld (pv 0) rfl))) (pe_op op_mul (pe_callB (cr_sumT rfl) (by rfl) T.n_sum (by decide +kernel) (pa_cons (pe_slice sl_tup (pv 1) (po_some pe_int) po_none) pa_nil)) (pe_fld (pv 0) rfl))))), ?_⟩
    repeat walk_at "rd"
    refine r_ixT hp (v := .int z0) (atI_nat (j := 0) rfl) ?_
    refine ⟨rt, _, z0, _, rfl, rfl, hrt, at_roots h0 h1, ?_⟩
    repeat walk_at "rd"
    refine r_slT (SqT.of hp) (not_whole _ _) (fun q H1 nq s1 e1 => ?_)
    rw [cut_one] at e1
    repeat walk_at "rd"
    refine ⟨q, zs, rfl, SqT.of e1, ?_⟩
    have hs := sum_in zs hz
    have ht := s1 _ _ ht
    repeat walk_at "rd"
    rw [show ((V.int z0 :: zs.map V.int).length : Int) - 1 = zs.length by rw [List.length_cons, List.length_map]; omega]
    exact k _ s1
theorem ok_is_name (T : Txt K mg a) : FnOk P w K mg base CX0 5 a.a_is_name a.d_is_name ["thing", "turns", "roots"] (spIsName K a.c_Machine) := by
  refine T.F_is_name.ok sc_is_name (fun vs H Q E h => ?_) (fun cdv A outer s H vs Q E hr h => ?_)
  · obtain ⟨x, Tn, r, p0, rs, o, rfl, _⟩ := h
    rfl
  · obtain ⟨x, Tn, r, p0, rs, o, rfl, hN, hT, hR, hRo, k⟩ := h
    refine ⟨_, (pss_cons (ps_expr (pe_call (ok_check_turns T) (hr.mono (by decide)) (by rfl) T.g_check_turns T.F_check_turns.kp T.b_check_turns .nil pass0 (pa_cons (pv 1) pa_nil)))
 (pss_cons (ps_expr (pe_call (ok_check_roots T) (hr.mono (by decide)) (by rfl) T.g_check_roots T.F_check_roots.kp T.b_check_roots .nil pass0 (pa_cons (pv 2) pa_nil)))
 (pss_one (ps_ret (pe_cmpR op_isNo (pe_call (ok_wrong_in_name T) (hr.mono (by decide)) (by rfl) T.g_wrong_in_name T.F_wrong_in_name.kp T.b_wrong_in_name .nil pass0 (pa_cons (pv 0) (pa_cons (pv 1) (pa_cons (pv 2) pa_nil)))) pe_non (nomark _)))))), ?_⟩
    repeat walk_at "rd"
    refine ⟨Tn, rfl, hT, ?_⟩
    repeat walk_at "rd"
    refine ⟨r, rs, rfl, hR, hRo, fun H1 s1 => ?_⟩
    repeat walk_at "rd"
    refine ⟨x, Tn, r, p0, rs, o, rfl, hN.keep s1, hT, hR.keep s1, hRo, fun H2 s2 => ?_⟩
    repeat walk_at "rd"
    refine r_isNx ?_
    exact k _ (s1.trans s2)
theorem ok_known_at (T : Txt K mg a) : FnOk P w K mg base (L2.CX P w) 6 a.a_known_at a.d_known_at ["machine", "name", "turns", "roots"] (spKnownAt K a.c_Machine a.c_InvalidName) := by
  refine T.F_known_at.ok sc_known_at (fun vs H Q E h => ?_) (fun cdv A outer s H vs Q E hr h => ?_)
  · obtain ⟨m, x, Tn, r, p0, o, l, g, rs, xo, rfl, _⟩ := h
    rfl
  · obtain ⟨m, x, Tn, r, p0, o, l, g, rs, xo, rfl, hm, ho, hl, hg, hp, hN, hT, hR, hRo, k1, k2⟩ := h
    refine ⟨_, (pss_cons (ps_set (i := 4) sc_known_at.nd rfl (Or.inl rfl) (pe_make T.mk_Tree (ok_Tree_init T) (hr.mono (by decide)) (by rfl) T.g_Tree T.b_Tree_init .nil pass0 (pa_cons (pv 0) (pa_cons (pv 2) (pa_cons (pv 3) pa_nil)))))
 (pss_cons (ps_expr (pe_call (ok_check_name T) (hr.mono (by decide)) (by rfl) T.g_check_name T.F_check_name.kp T.b_check_name .nil (pcX (takes_of rfl rfl rfl rfl)) (pa_cons (pv 1) (pa_cons (pv 2) (pa_cons (pv 3) pa_nil)))))
 (pss_one (ps_ret (pe_call (ok_time_of T) (hr.mono (by decide)) (by rfl) T.g_time_of T.F_time_of.kp T.b_time_of .nil pass0 (pa_cons (pv 4) (pa_cons (pv 1) pa_nil))))))), ?_⟩
    repeat walk_at "rd"
    refine r_Tree hm ho hl hg hp hT hR hRo (fun t H1 nt ht s1 => ?_)
    repeat walk_at "rd"
    refine ⟨x, Tn, r, p0, rs, xo, rfl, hN.keep s1, hT, hR.keep s1, hRo, fun e H2 s2 => ?_, fun k e => Exc1.after (k2 k e) s1⟩
    obtain ⟨z0, zs, rfl, hl9, z0a, z0b, hz⟩ := Wr_all e
    obtain ⟨p, rfl, _, hx, _⟩ := (hN.keep (s1.trans s2)).yes
    repeat walk_at "rd"
    refine ⟨t, p, _, _, Tn, rs, z0, zs, rfl, ht.keep s2, hx, z0a, z0b, hl9, fun z hzz => ⟨(hz z hzz).1, Int.le_trans (hz z hzz).2 (gT_le hT)⟩, fun H3 s3 => ?_⟩
    exact k1 z0 zs rfl e _ ((s1.trans s2).trans s3)
end

/-! ### the law of k14: its helpers -/
theorem kb_known_at_turns_roots {K : PySem.W.Frag} {mg : Str → Option Value} {a : Adr} (T : Txt K mg a) : ∃ mv : List Value, KBn K a.d_known_at ["machine", "name", "turns", "roots"] 2 ["turns", "roots"] (fun us ws => us ++ ws ++ mv) (fun vs zs => vs ++ zs ++ []) :=
  FunD.kbinds0 T.F_known_at 2 ["turns", "roots"] [] (fun us mv ws => us ++ ws ++ mv) (by simp) (by simp) (fun r1 r2 r3 => (r1.append r3).append r2) fun D doc pm an cdv ct us mv ws h1 h2 h3 => match us, mv, ws, h1, h2, h3 with
    | [_, _], [], [_, _], _, _, _ => rfl
theorem kb_is_name_turns_roots {K : PySem.W.Frag} {mg : Str → Option Value} {a : Adr} (T : Txt K mg a) : ∃ mv : List Value, KBn K a.d_is_name ["thing", "turns", "roots"] 1 ["turns", "roots"] (fun us ws => us ++ ws ++ mv) (fun vs zs => vs ++ zs ++ []) :=
  FunD.kbinds0 T.F_is_name 1 ["turns", "roots"] [] (fun us mv ws => us ++ ws ++ mv) (by simp) (by simp) (fun r1 r2 r3 => (r1.append r3).append r2) fun D doc pm an cdv ct us mv ws h1 h2 h3 => match us, mv, ws, h1, h2, h3 with
    | [_], [], [_, _], _, _, _ => rfl
def vI : V → Int
  | .int i => i
  | _ => 0
def tmO (D G : Int) (rs : List Int) : Option (List V) → Int
  | some (v :: vs) => timeOf D G rs (vI v) (vs.map vI)
  | _ => 0
theorem vI_ints (zs : List Int) : (zs.map V.int).map vI = zs := by
  induction zs with
  | nil => rfl
  | cons z zs ih => rw [List.map_cons, List.map_cons, ih]; rfl
theorem tmO_ints {D G : Int} {rs : List Int} {z0 : Int} {zs : List Int} : tmO D G rs (some (.int z0 :: zs.map V.int)) = timeOf D G rs z0 zs := by
  show timeOf D G rs z0 ((zs.map V.int).map vI) = _
  rw [vI_ints]
def ansW (v : V) (t : Int) : List V := if v = .non then [.str "told", .int t] else [.str "refused", v]
theorem sh_told (v : Int) : SeqAt.shaped (.tuple [.str "told", .int v]) = true := by
  have h : PyData.canLay0 (.str "told") = true := by decide +kernel
  show ((PyData.canLay0 (.str "told") && (true && true)) && decide ((PyData.tuple [.str "told", .int v]).depth ≤ 64)) = true
  rw [h]; rfl
theorem sh_refused (v : Int) : SeqAt.shaped (.tuple [.str "refused", .int v]) = true := by
  have h : PyData.canLay0 (.str "refused") = true := by decide +kernel
  show ((PyData.canLay0 (.str "refused") && (true && true)) && decide ((PyData.tuple [.str "refused", .int v]).depth ≤ 64)) = true
  rw [h]; rfl
theorem r_neStrInt {K : PySem.W.Frag} {H : Hp} {Q : VK} {p q : Addr} {s : Str} {v : Int} (h1 : H p = some (.tup [.str s, .int v])) (h2 : H q = some (.tup [.str s, .int v])) (sh : SeqAt.shaped (.tuple [.str s, .int v]) = true) (k : Q (.bl false) H) : rNeD K (.ref p) (.ref q) H Q := by
  refine ⟨.tuple [.str s, .int v], .tuple [.str s, .int v], .tup (SqT.of h1) (.cons (.str _) (.cons (.int _) .nil)), .tup (SqT.of h2) (.cons (.str _) (.cons (.int _) .nil)), sh, sh, ?_⟩
  rw [show PyData.eqv (.tuple [.str s, .int v]) (.tuple [.str s, .int v]) = true by simp [PyData.eqv, PyData.eqvAll]]
  exact k
theorem r_xf {n : Nat} {a0 C dd : Addr} {d : Option Addr} {cls : Value} {f : Str} {v : V} {fs : List (Str × V)} {σ : St} {H : Hp} {Q : VK} (hs : σ[n]? = some (some (.ref a0))) (hd : (cls, d) = (Value.ref C, some dd)) (e : H dd = some (.xd fs)) (l : fs.lookup f = some v) (q : Q v H) : tXf a0 cls d C f (tVar n) σ H Q := by
  cases hd
  exact ⟨_, hs, rfl, rfl, dd, fs, v, rfl, e, l, q⟩
theorem bad_stepJ {n g : Int} {xs : List V} {i j : Nat} {x : V} (h : xs[i]? = some x) : bad n g j (xs.drop i) = if itOk x (if j = 0 then n - 1 else g) = true then bad n g (j + 1) (xs.drop (i + 1)) else .int j := by
  obtain ⟨hl, e⟩ := List.getElem?_eq_some_iff.mp h
  rw [List.drop_eq_getElem_cons hl, e]
  rfl
theorem itOk_int {x : V} {hi : Int} (h : itOk x hi = true) : ∃ y : Int, x = .int y ∧ 0 ≤ y ∧ y ≤ hi := by
  cases x with
  | int y => have := of_decide_eq_true h; exact ⟨y, rfl, this.1, this.2⟩
  | _ => cases h
theorem itOk_less {x : V} {h1 h2 : Int} (h : itOk x h1 = false) (hle : h2 ≤ h1) : itOk x h2 = false := by
  cases x with
  | int y => exact decide_eq_false fun z => of_decide_eq_false h ⟨z.1, Int.le_trans z.2 hle⟩
  | _ => rfl
def spWrongL (M : Addr) : Sp := fun vs H Q _ => ∃ (x : V) (T : Turns) (p0 : Addr) (n : Int) (o : Option (List V)), vs = [x, tv T, .int n] ∧ NT M p0 H x o ∧ TurnsIn T ∧ Q (Wr T n o) H
def spAsked (K : PySem.W.Frag) (M : Addr) : Sp := fun vs H Q _ => ∃ (m : Addr) (x : V) (T : Turns) (r p0 : Addr) (o l g : Int) (rs : List Int) (xo : Option (List V)), vs = [.ref m, x, tv T, .ref r] ∧ MachAt M H m o l g ∧ (0 ≤ o ∧ o ≤ 1000000000) ∧ (0 ≤ l ∧ l ≤ 1000000000) ∧ (1 ≤ g ∧ g ≤ 1000000000) ∧ 0 < 2 * o + l ∧ NT M p0 H x xo ∧ TurnsIn T ∧ SqR K H r rs ∧ RootsOk rs ∧
  ∀ p H', Same H H' → H' p = some (.tup (ansW (Wr T rs.length xo) (tmO (2 * o + l) (gapOf o g) rs xo))) → Q (.ref p) H'
section
variable {P : Program} {w : World} {K : PySem.W.Frag} {mg : Str → Option Value} {base : Heap} {a : Adr}
theorem ok__law_within (T : Txt K mg a) : FnOk P w K mg base CX0 1 a.a__law_within a.d__law_within ["_law_thing_here", "_law_low", "_law_high"] (spBetween K) := by
  refine T.F__law_within.ok sc__law_within (fun vs H Q E h => ?_) (fun cdv A outer s H vs Q E hr h => ?_)
  · obtain ⟨x, lo, hi, b, rfl, _⟩ := h
    rfl
  · obtain ⟨x, lo, hi, b, rfl, ⟨t, b1, b2, ty, h1, h2, rfl⟩, k1, k2⟩ := h
    refine ⟨_, (pss_one (ps_ret (pe_and (pe_callB call_isi (by rfl) T.n_isinstance (by decide +kernel) (pa_cons (pv 0) (pa_cons (pe_bltn (v := .ty "int") (u := .type "int") (by rfl) T.n_int (by decide +kernel) rfl) pa_nil))) (pe_and (pe_not (pe_callB call_isi (by rfl) T.n_isinstance (by decide +kernel) (pa_cons (pv 0) (pa_cons (pe_bltn (v := .ty "bool") (u := .type "bool") (by rfl) T.n_bool (by decide +kernel) rfl) pa_nil)))) (pe_one (pe_chain op_le op_le (pv 1) (pv 0) (pv 2))))))), ?_⟩
    repeat walk_at "rd"
    refine r_isi ty h1 ?_
    refine ⟨b1, rfl, ?_⟩
    cases b1 with
    | false => exact iteF (k1 rfl)
    | true =>
      repeat walk_at "rd"
      refine r_isi ty h2 ?_
      repeat walk_at "rd"
      cases b2 with
      | true => exact iteF (k1 rfl)
      | false =>
        obtain ⟨i, rfl, k⟩ := k2 rfl
        refine iteT ?_
        repeat walk_at "rd"
        refine ite_d (fun c => ?_) (fun c => ?_)
        · repeat walk_at "rd"
          rw [show decide (lo ≤ i ∧ i ≤ hi) = decide (i ≤ hi) by simp [c]] at k
          exact k
        · rw [show decide (lo ≤ i ∧ i ≤ hi) = false by simp [c]] at k
          exact k
theorem ok__law_wrong (T : Txt K mg a) : FnOk P w K mg base CX0 2 a.a__law_wrong a.d__law_wrong ["_law_thing_here", "_law_turns", "_law_many"] (spWrongL a.c_Machine) := by
  refine T.F__law_wrong.ok sc__law_wrong (fun vs H Q E h => ?_) (fun cdv A outer s H vs Q E hr h => ?_)
  · obtain ⟨x, Tn, p0, n, o, rfl, _⟩ := h
    rfl
  · obtain ⟨x, Tn, p0, n, o, rfl, hN, hT, k⟩ := h
    refine ⟨_, (pss_cons (ps_if (PW.pt (pw_or (pt_not (pt_val (pe_callB call_isi (by rfl) T.n_isinstance (by decide +kernel) (pa_cons (pv 0) (pa_cons (pe_bltn (v := .ty "tuple") (u := .type "tuple") (by rfl) T.n_tuple (by decide +kernel) rfl) pa_nil))))) (pw_or (pt_cmpR op_lt (pe_callB call_len_seq (by rfl) T.n_len (by decide +kernel) (pa_cons (pv 0) pa_nil)) pe_int (nomark _)) (pw_or1 (pt_cmpR op_gt (pe_callB call_len_seq (by rfl) T.n_len (by decide +kernel) (pa_cons (pv 0) pa_nil)) pe_int (nomark _)))))) (pss_one (ps_ret (pe_un un_neg pe_int)))
 pss_nil)
 (pss_cons (ps_if (pt_not (pt_val (pe_call (ok__law_within T) (hr.mono (by decide)) (by rfl) T.g__law_within T.F__law_within.kp T.b__law_within .nil pass0 (pa_cons (pe_ix ix_tup (pv 0) pe_int (fun _ _ => rfl)) (pa_cons pe_int (pa_cons (pe_op op_sub (pv 2) pe_int) pa_nil)))))) (pss_one (ps_ret pe_int))
 pss_nil)
 (pss_cons (ps_for (by exact PassesOwn.never) rfl (pi_range2 (by rfl) T.n_range (pa_cons pe_int (pa_cons (pe_callB call_len_seq (by rfl) T.n_len (by decide +kernel) (pa_cons (pv 0) pa_nil)) pa_nil))) (pg_name (i := 3) sc__law_wrong.nd rfl (Or.inl rfl))
 (pss_cons (ps_if (pt_not (pt_val (pe_call (ok__law_within T) (hr.mono (by decide)) (by rfl) T.g__law_within T.F__law_within.kp T.b__law_within .nil pass0 (pa_cons (pe_ix ix_tup (pv 0) (pv 3) (fun _ _ => rfl)) (pa_cons pe_int (pa_cons (pe_powN (z := 1000000000000000) ⟨by decide, by decide, by decide⟩ (by decide +kernel)) pa_nil)))))) (pss_one (ps_ret (pv 3)))
 pss_nil)
 (pss_one (ps_if (PW.pt (pw_and (pt_cmpR op_notNo (pv 1) pe_non (nomark _)) (pw_and1 (pt_cmpR op_ge (pe_ix ix_tup (pv 0) (pv 3) (fun _ _ => rfl)) (pv 1) (nomark _))))) (pss_one (ps_ret (pv 3)))
 pss_nil))))
 (pss_one (ps_ret pe_non))))), ?_⟩
    walk_at "rdi"
    repeat walk_at "rd"
    cases o with
    | none =>
      obtain ⟨t, ty, kt⟩ := hN.no T
      refine r_isi ty kt ?_
      repeat walk_at "rd"
      exact k
    | some xs =>
      obtain ⟨p, rfl, np, hp, hl, ht⟩ := hN.yes
      refine r_isiTu true hp (by decide +kernel) ?_
      repeat walk_at "rd"
      have no : ¬ (1 ≤ xs.length ∧ xs.length ≤ 200) → Q (.int (-1)) H := fun hn => by
        have e : Wr Tn n (some xs) = .int (-1) := if_neg hn
        rw [e] at k
        exact k
      refine ite_d (fun h1 => by (repeat walk_at "rd"); exact no (by omega)) (fun h1 => ?_)
      repeat walk_at "rd"
      refine ite_d (fun h2 => by (repeat walk_at "rd"); exact no (by omega)) (fun h2 => ?_)
      have e : Wr Tn n (some xs) = bad n (gT Tn) 0 xs := if_pos (by omega)
      rw [e] at k
      clear e no
      cases xs with
      | nil => simp at h1
      | cons x0 xs =>
        rw [List.length_cons] at hl h1 h2
        have hv : ∀ (i : Nat) x, (x0 :: xs)[i]? = some x → IntV K H x (isI x) := fun i x hx => (ht x (List.mem_iff_getElem?.mpr ⟨i, hx⟩)).iv T
        repeat walk_at "rd"
        walk_at "rdi"
        repeat walk_at "rd"
        refine r_ixT hp (v := x0) (atI_nat (j := 0) rfl) ?_
        repeat walk_at "rd"
        refine r_betX (hv 0 x0 rfl) ⟨_, rfl, ite_nb (fun hf => ?_) (fun hf => ?_)⟩
        · repeat walk_at "rd"
          have e : bad n (gT Tn) 0 (x0 :: xs) = .int 0 := by
            unfold bad
            rw [if_pos (rfl : (0 : Nat) = 0), hf, if_neg Bool.false_ne_true]
            rfl
          rw [e] at k
          exact k
        · have e : bad n (gT Tn) 0 (x0 :: xs) = bad n (gT Tn) 1 xs := by
            conv => lhs; unfold bad
            rw [if_pos (rfl : (0 : Nat) = 0), hf, if_pos rfl]
          rw [e] at k
          repeat walk_at "rd"
          rw [show (((x0 :: xs).length : Int) - 1).toNat = xs.length by rw [List.length_cons]; omega]
          refine ⟨⟨by decide, by decide, by omega, by rw [List.length_cons]; omega⟩, for_range (lo := 1) (n := xs.length) (fun i σ H' => ∃ v : Option V, σ = [some (.ref p), some (tv Tn), some (.int n), v] ∧ H' = H ∧ bad n (gT Tn) (i + 1) (xs.drop i) = bad n (gT Tn) 1 xs) ⟨_, rfl, rfl, rfl⟩ ?_ ?_⟩
          · rintro i σ H1 hi ⟨v, rfl, rfl, hb⟩
            have hx : xs[i]? = some xs[i] := List.getElem?_eq_getElem hi
            have hat : atI (x0 :: xs) (1 + (i : Int)) = some xs[i] := by
              rw [show 1 + (i : Int) = ((i + 1 : Nat) : Int) by omega]
              exact atI_nat (by rw [List.getElem?_cons_succ]; exact hx)
            rw [bad_stepJ hx, if_neg (show ¬ i + 1 = 0 by omega)] at hb
            have hvx := hv (i + 1) _ (by rw [List.getElem?_cons_succ]; exact hx)
            have out : itOk xs[i] (gT Tn) = false → Q (.int (1 + (i : Int))) H1 := fun e => by
              rw [e, if_neg Bool.false_ne_true] at hb
              rw [← hb] at k
              rw [show 1 + (i : Int) = ((i + 1 : Nat) : Int) by omega]
              exact k
            have on : itOk xs[i] (gT Tn) = true → bad n (gT Tn) (i + 1 + 1) (xs.drop (i + 1)) = bad n (gT Tn) 1 xs := fun e => by
              rw [e, if_pos rfl] at hb
              exact hb
            repeat first | walk_at "rd" | walk_at "rdi"
            refine r_ixT hp hat ?_
            repeat walk_at "rd"
            refine r_betX hvx ⟨_, rfl, ite_nb (fun hf => ?_) (fun hf => ?_)⟩
            · repeat walk_at "rd"
              exact out (itOk_less hf (gT_le hT))
            · repeat walk_at "rd"
              obtain ⟨y, ey, y0, y1⟩ := itOk_int hf
              cases Tn with
              | none =>
                repeat walk_at "rd"
                exact ⟨_, rfl, rfl, on hf⟩
              | some d =>
                repeat walk_at "rd"
                rw [ey] at hat
                refine r_ixT hp hat ?_
                repeat walk_at "rd"
                refine ite_d (fun c => ?_) (fun c => ?_)
                · repeat walk_at "rd"
                  exact out (by rw [ey]; exact decide_eq_false fun z => by have : y ≤ (d : Int) - 1 := z.2; omega)
                · exact ⟨_, rfl, rfl, on (by rw [ey]; exact decide_eq_true ⟨y0, show y ≤ (d : Int) - 1 by omega⟩)⟩
          · rintro σ H1 ⟨v, rfl, rfl, hb⟩
            repeat walk_at "rd"
            rw [List.drop_length] at hb
            rw [← hb] at k
            exact k
theorem ok__law_asked (T : Txt K mg a) : FnOk P w K mg base CX0 7 a.a__law_asked a.d__law_asked ["_law_machine", "_law_thing_here", "_law_turns", "_law_roots"] (spAsked K a.c_Machine) := by
  refine T.F__law_asked.ok sc__law_asked (fun vs H Q E h => ?_) (fun cdv A outer s H vs Q E hr h => ?_)
  · obtain ⟨m, x, Tn, r, p0, o, l, g, rs, xo, rfl, _⟩ := h
    rfl
  · obtain ⟨m, x, Tn, r, p0, o, l, g, rs, xo, rfl, hm, ho, hl, hg, hp, hN, hT, hR, hRo, k⟩ := h
    refine ⟨_, (pss_cons (ps_try_as (i := 5) rfl rfl sc__law_asked.nd rfl rfl ⟨rfl, by decide, Or.inl T.g_InvalidName⟩ takes0 (fun W pn xe tk _ => (pss_one (ps_set (i := 4) sc__law_asked.nd rfl (Or.inl rfl) (pe_callN (ok_known_at T) (hr.mono (by decide)) (by rfl) T.g_known_at T.F_known_at.kp (kb_known_at_turns_roots T).choose_spec (passesT tk) (pa_cons (pv 0) (pa_cons (pv 1) pa_nil)) (pk_cons (pv 2) (pk_cons (pv 3) pk_nil)))))) (fun a0 oe cls d pn hz hf => (pss_one (ps_ret (pe_tup (pa_cons pe_str (pa_cons (pe_xf T.x_InvalidName.xc.xf T.x_InvalidName.xc.noN hz hf (pv 5)) pa_nil)))))))
 (pss_one (ps_ret (pe_tup (pa_cons pe_str (pa_cons (pv 4) pa_nil)))))), ?_⟩
    repeat walk_at "rd"
    refine ⟨rfl, rfl, m, x, Tn, r, p0, o, l, g, rs, xo, rfl, hm, ho, hl, hg, hp, hN, hT, hR, hRo, fun z0 zs exo e H1 s1 => ?_, fun j e d H1 s1 e1 σ hσ => ?_⟩
    · repeat walk_at "rd"
      refine new_at (Nat.le_of_ble_eq_true rfl) (fun p H2 n2 s2 e2 => k p H2 (s1.trans s2) ?_)
      rw [e2, ansW, if_pos e, exo, tmO_ints]
    · refine ⟨true, T.m_InvalidName, fun _ a0 _ => ?_, fun z => Bool.noConfusion z⟩
      repeat walk_at "rd"
      refine r_xf (by rw [List.getElem?_set_self (by rw [hσ]; decide)]) rfl e1 rfl ?_
      repeat walk_at "rd"
      refine new_at (Nat.le_of_ble_eq_true rfl) (fun p H2 n2 s2 e2 => k p H2 (s1.trans s2) ?_)
      rw [e2, ansW, e, if_neg (by intro z; cases z)]
end

/-! ### the law of k14: the things that it asks about -/
theorem r_repZ {H : Hp} {Q : VK} {l : Addr} {k : Int} {v : V} (h : H l = some (.lst [v])) (h0 : 0 ≤ k) (h1 : k ≤ 200) (q : ∀ p H', H p = none → Same H H' → H' p = some (.lst (List.replicate k.toNat v)) → Q (.ref p) H') : rRep (.ref l) (.int k) H Q := by
  have e : ∀ m : Nat, (List.replicate m [v]).flatten = List.replicate m v := fun m => by
    induction m with
    | zero => rfl
    | succ m ih => rw [List.replicate_succ, List.flatten_cons, ih, List.replicate_succ]; rfl
  refine ⟨l, k, [v], rfl, rfl, h, by omega, by omega, ?_, new_of fun p H' n s e' => q p H' n s (by rw [e', e])⟩
  rw [sizeLine_eq, List.length_singleton]; omega
theorem ix_in {n : Nat} {i : Int} (h0 : 0 ≤ i) (h1 : i < n) : ixN n i = some i.toNat := by
  unfold ixN
  rw [if_pos h0, if_pos h1]
/-- a thing stays one when a list is changed -/
theorem Thing.set {M p0 L : Addr} {H : Hp} {x : V} {ys zs : List V} (h : Thing M p0 H x) (hL : H L = some (.lst ys)) : Thing M p0 (upd H L (.lst zs)) x := by
  rcases h with h | h | h | h | ⟨p, e, n, h⟩
  · exact .inl h
  · exact .inr (.inl h)
  · exact .inr (.inr (.inl h))
  · exact .inr (.inr (.inr (.inl h)))
  · refine .inr (.inr (.inr (.inr ⟨p, e, n, ?_⟩)))
    by_cases c : p = L
    · subst c; exact .inl ⟨zs, upd_same⟩
    · rcases h with ⟨xs, h⟩ | ⟨xs, h⟩ | h | ⟨dx, fs, h⟩
      · exact .inl ⟨xs, (upd_ne c).trans h⟩
      · exact .inr (.inl ⟨xs, (upd_ne c).trans h⟩)
      · exact .inr (.inr (.inl ((upd_ne c).trans h)))
      · exact .inr (.inr (.inr ⟨dx, fs, (upd_ne c).trans h⟩))
theorem NT.tup {M p0 p : Addr} {H : Hp} {xs : List V} (n : p ≠ p0) (h : H p = some (.tup xs)) (hl : xs.length ≤ 1000) (ht : ∀ v, v ∈ xs → Thing M p0 H v) : NT M p0 H (.ref p) (some xs) := .inl ⟨p, xs, rfl, n, h, rfl, hl, ht⟩
theorem min_lo {a b c : Int} (h1 : c ≤ a) (h2 : c ≤ b) : c ≤ (if b < a then b else a) := by split <;> assumption
theorem min_hi {a b c : Int} (h1 : a ≤ c) : (if b < a then b else a) ≤ c := by split <;> omega
def spThing (M : Addr) : Sp := fun vs H Q _ => ∃ (p q m : Addr) (T : Turns) (n o l g : Int), vs = [.ref p, tv T, .int n, .ref m] ∧ SrcAt H p q ∧ TurnsIn T ∧ 1 ≤ n ∧ n ≤ 6 ∧ MachAt M H m o l g ∧ m ≠ p ∧ ∀ x xo H', NT M p H' x xo → SrcAt H' p q → But p H H' → Q x H'
section
variable {P : Program} {w : World} {K : PySem.W.Frag} {mg : Str → Option Value} {base : Heap} {a : Adr}
set_option maxHeartbeats 0 in
theorem ok__law_thing (T : Txt K mg a) : FnOk P w K mg base CX0 3 a.a__law_thing a.d__law_thing ["_law_source_here", "_law_turns", "_law_many", "_law_machine"] (spThing a.c_Machine) := by
  refine T.F__law_thing.ok sc__law_thing (fun vs H Q E h => ?_) (fun cdv A outer s H vs Q E hr h => ?_)
  · obtain ⟨p, q, m, Tn, n, o, l, g, rfl, _⟩ := h
    rfl
  · obtain ⟨p, q, m, Tn, n, o, l, g, rfl, hs, hT, n1, n6, hm, nmp, k⟩ := h
    refine ⟨_, (pss_cons (ps_set (i := 4) sc__law_thing.nd rfl (Or.inl rfl) (pe_ix ix_list (pe_lst (pa_cons pe_int (pa_cons pe_int (pa_cons pe_int (pa_cons pe_int (pa_cons pe_int (pa_cons pe_int pa_nil))))))) (pe_call (ok__law_draw T) (hr.mono (by decide)) (by rfl) T.g__law_draw T.F__law_draw.kp T.b__law_draw .nil pass0 (pa_cons (pv 0) (pa_cons pe_int pa_nil))) (fun _ _ => rfl)))
 (pss_cons (ps_set (i := 5) sc__law_thing.nd rfl (Or.inl rfl) (pe_ix ix_list (pe_lst (pa_cons pe_int (pa_cons pe_int (pa_cons (pe_powN (z := 1000000) ⟨by decide, by decide, by decide⟩ (by decide +kernel)) (pa_cons (pe_op op_add (pe_powN (z := 1000000000000000) ⟨by decide, by decide, by decide⟩ (by decide +kernel)) pe_int) pa_nil))))) (pe_call (ok__law_draw T) (hr.mono (by decide)) (by rfl) T.g__law_draw T.F__law_draw.kp T.b__law_draw .nil pass0 (pa_cons (pv 0) (pa_cons pe_int pa_nil))) (fun _ _ => rfl)))
 (pss_cons (ps_if (PW.pt (pw_and (pt_cmpR op_notNo (pv 1) pe_non (nomark _)) (pw_and1 (pt_cmpR op_gt (pe_call (ok__law_draw T) (hr.mono (by decide)) (by rfl) T.g__law_draw T.F__law_draw.kp T.b__law_draw .nil pass0 (pa_cons (pv 0) (pa_cons pe_int pa_nil))) pe_int (nomark _))))) (pss_one (ps_set (i := 5) sc__law_thing.nd rfl (Or.inl rfl) (pe_callB (call_min2 rfl) (by rfl) T.n_min (by decide +kernel) (pa_cons (pv 5) (pa_cons (pv 1) pa_nil)))))
 pss_nil)
 (pss_cons (ps_set (i := 6) sc__law_thing.nd rfl (Or.inl rfl) (pe_lst (pa_cons (pe_call (ok__law_draw T) (hr.mono (by decide)) (by rfl) T.g__law_draw T.F__law_draw.kp T.b__law_draw .nil pass0 (pa_cons (pv 0) (pa_cons (pv 2) pa_nil))) pa_nil)))
 (pss_cons (ps_for (by exact PassesOwn.never) rfl (pi_range1 (by rfl) T.n_range (pa_cons (pe_op op_sub (pv 4) pe_int) pa_nil)) (pg_name (i := 7) sc__law_thing.nd rfl (Or.inl rfl))
 (pss_one (ps_if (pt_cmpR op_gt (pv 4) pe_int (nomark _)) (pss_one (ps_expr (pe_bm PySem.F.plainAttrs_list PySem.F.slot_list_append PySem.F.type_list_append mt_append (pv 6) (pa_cons (pe_op op_modN (pe_callTy call_int1 (by rfl) T.n_int (by decide +kernel) (pa_cons (pe_op op_add (pe_op op_mul (pv 7) (pv 7)) (pv 4)) pa_nil)) (pv 5)) pa_nil))))
 (pss_one (ps_expr (pe_bm PySem.F.plainAttrs_list PySem.F.slot_list_append PySem.F.type_list_append mt_append (pv 6) (pa_cons (pe_call (ok__law_big T) (hr.mono (by decide)) (by rfl) T.g__law_big T.F__law_big.kp T.b__law_big .nil pass0 (pa_cons (pv 0) (pa_cons (pv 5) pa_nil))) pa_nil)))))))
 (pss_cons (ps_set (i := 8) sc__law_thing.nd rfl (Or.inl rfl) (pe_call (ok__law_draw T) (hr.mono (by decide)) (by rfl) T.g__law_draw T.F__law_draw.kp T.b__law_draw .nil pass0 (pa_cons (pv 0) (pa_cons pe_int pa_nil))))
 (pss_cons (ps_if (pt_cmpR op_eq (pv 8) pe_int (nomark _)) (pss_cons (ps_set (i := 9) sc__law_thing.nd rfl (Or.inl rfl) (pe_lst (pa_cons (pe_un un_neg pe_int) (pa_cons pe_bl (pa_cons pe_non (pa_cons pe_str (pa_cons (pe_op op_add (pe_powN (z := 1000000000000000) ⟨by decide, by decide, by decide⟩ (by decide +kernel)) pe_int) (pa_cons (pv 2) (pa_cons (pe_tup (pa_cons pe_int pa_nil)) (pa_cons pe_bl (pa_cons (pe_powN (z := 10000000000000000000000000000000000000000) ⟨by decide, by decide, by decide⟩ (by decide +kernel)) (pa_cons (pe_un un_neg (pe_powN (z := 1000000000000000000000000000000) ⟨by decide, by decide, by decide⟩ (by decide +kernel))) (pa_cons (pv 3) (pa_cons (pe_lst pa_nil) pa_nil))))))))))))))
 (pss_one (ps_asg (pe_ix ix_list (pv 9) (pe_call (ok__law_draw T) (hr.mono (by decide)) (by rfl) T.g__law_draw T.F__law_draw.kp T.b__law_draw .nil pass0 (pa_cons (pv 0) (pa_cons pe_int pa_nil))) (fun _ _ => rfl)) (pg_sub (pv 6) (pe_call (ok__law_draw T) (hr.mono (by decide)) (by rfl) T.g__law_draw T.F__law_draw.kp T.b__law_draw .nil pass0 (pa_cons (pv 0) (pa_cons (pv 4) pa_nil))) set_list))))
 pss_nil)
 (pss_cons (ps_if (pt_cmpR op_eq (pv 8) pe_int (nomark _)) (pss_one (ps_ret (pe_ix ix_list (pe_lst (pa_cons (pe_callTy cr_list (by rfl) T.n_list (by decide +kernel) (pa_cons (pv 6) pa_nil)) (pa_cons (pe_tup pa_nil) (pa_cons pe_non (pa_cons pe_str (pa_cons pe_int (pa_cons pe_dnewK (pa_cons pe_bl (pa_cons pe_str (pa_cons (pv 3) (pa_cons (pe_lst (pa_cons pe_int pa_nil)) pa_nil))))))))))) (pe_call (ok__law_draw T) (hr.mono (by decide)) (by rfl) T.g__law_draw T.F__law_draw.kp T.b__law_draw .nil pass0 (pa_cons (pv 0) (pa_cons pe_int pa_nil))) (fun _ _ => rfl))))
 pss_nil)
 (pss_cons (ps_if (pt_cmpR op_eq (pv 8) pe_int (nomark _)) (pss_one (ps_ret (pe_callTy cr_tup (by rfl) T.n_tuple (by decide +kernel) (pa_cons (pe_op op_cat (pv 6) (pe_op op_rep (pe_lst (pa_cons pe_int pa_nil)) (pe_op op_sub pe_int (pv 4)))) pa_nil))))
 pss_nil)
 (pss_cons (ps_if (pt_cmpR op_eq (pv 8) pe_int (nomark _)) (pss_one (ps_asg (pe_powN (z := 1000000000000000) ⟨by decide, by decide, by decide⟩ (by decide +kernel)) (pg_sub (pv 6) (pe_call (ok__law_draw T) (hr.mono (by decide)) (by rfl) T.g__law_draw T.F__law_draw.kp T.b__law_draw .nil pass0 (pa_cons (pv 0) (pa_cons (pv 4) pa_nil))) set_list)))
 pss_nil)
 (pss_one (ps_ret (pe_callTy cr_tup (by rfl) T.n_tuple (by decide +kernel) (pa_cons (pv 6) pa_nil)))))))))))))), ?_⟩
    repeat walk_at "rd"
    refine new_at (Nat.le_of_ble_eq_true rfl) (fun L0 H1 nL s1 e1 => ?_)
    have hs1 := hs.keep s1
    have b1 : But p H H1 := But.of_same s1
    have nLp := hs.ne nL
    repeat walk_at "rd"
    refine ⟨p, q, 6, rfl, hs1, by decide, by decide, fun d H2 d0 d6 hs2 b2 => ?_⟩
    obtain ⟨size, hat, hsz⟩ : ∃ s : Int, atI [V.int 1, V.int 2, V.int 3, V.int 6, V.int 30, V.int 200] d = some (.int s) ∧ (s = 1 ∨ s = 2 ∨ s = 3 ∨ s = 6 ∨ s = 30 ∨ s = 200) := by
      have hk : d = 0 ∨ d = 1 ∨ d = 2 ∨ d = 3 ∨ d = 4 ∨ d = 5 := by omega
      rcases hk with rfl | rfl | rfl | rfl | rfl | rfl <;> exact ⟨_, rfl, by decide⟩
    refine r_ixL (b2 _ _ e1 nLp) hat ?_
    have b2 := b1.trans b2
    clear hs1 e1 s1 nL b1 hat d0 d6 nLp
    repeat walk_at "rd"
    refine new_at (Nat.le_of_ble_eq_true rfl) (fun L0 H3 nL s3 e3 => ?_)
    have nLp := hs2.ne nL
    repeat walk_at "rd"
    refine ⟨p, q, 4, rfl, hs2.keep s3, by decide, by decide, fun d H4 d0 d6 hs4 b4 => ?_⟩
    obtain ⟨top, hat, top1, top9⟩ : ∃ s : Int, atI [V.int 2, V.int 9, V.int 1000000, V.int (1000000000000000 + 1)] d = some (.int s) ∧ 1 ≤ s ∧ s ≤ 1000000000000001 := by
      have hk : d = 0 ∨ d = 1 ∨ d = 2 ∨ d = 3 := by omega
      rcases hk with rfl | rfl | rfl | rfl <;> exact ⟨_, rfl, by decide, by decide⟩
    refine r_ixL (b4 _ _ e3 nLp) hat ?_
    have b4 := (b2.trans (But.of_same s3)).trans b4
    clear hs2 e3 s3 nL b2 hat d0 d6 nLp
    repeat walk_at "rd"
    with_reducible refine seq_with (fun σ H' => ∃ (top : Int), σ = [some (.ref p), some (tv Tn), some (.int n), some (.ref m), some (.int size), some (.int top), none, none, none, none] ∧ SrcAt H' p q ∧ But p H H' ∧ 1 ≤ top ∧ top ≤ 1000000000000001) ?_ (fun rest => ?_)
    · clear hs4 b4 top1 top9
      rintro σ H1 ⟨top, rfl, hs1, b1, top1, top9⟩
      repeat walk_at "rd"
      refine ⟨p, q, n, rfl, hs1, by omega, by omega, fun z0 H2 z00 z01 hs2 b2 => ?_⟩
      repeat walk_at "rd"
      refine new_at (Nat.le_of_ble_eq_true rfl) (fun L H3 nL s3 e3 => ?_)
      have b3 : But p H H3 := (b1.trans b2).trans (But.of_same s3)
      have nLH : H L = none := (b1.trans b2).free hs2 nL
      have hs3 := hs2.keep s3
      have nLp : L ≠ p := hs2.ne nL
      have nLq : L ≠ q := hs2.neq nL
      clear hs1 b1 hs2 b2 s3 nL
      repeat walk_at "rd"
      have nLm : L ≠ m := by obtain ⟨dx, e⟩ := hm; exact (ne_of_none e nLH).symm
      have hsz1 : 1 ≤ size ∧ size ≤ 200 := by omega
      refine ⟨by omega, by omega, for_range (lo := 0) (n := (size - 1).toNat) (fun i σ H' => ∃ (v7 : Option V) (zs : List Int), σ = [some (.ref p), some (tv Tn), some (.int n), some (.ref m), some (.int size), some (.int top), some (.ref L), v7, none, none] ∧ H' L = some (.lst (zs.map V.int)) ∧ zs.length = i + 1 ∧ SrcAt H' p q ∧ But p H H') ⟨_, [z0], rfl, e3, rfl, hs3, b3⟩ ?_ ?_⟩
      · clear e3 hs3 b3
        rintro i σ H4 hi ⟨v7, zs, rfl, e4, hl4, hs4, b4⟩
        repeat walk_at "rd"
        refine ite_d (fun c => ?_) (fun c => ?_)
        · repeat walk_at "rd"
          refine ⟨.inl ⟨rfl, _, SqL.of e4⟩, ?_⟩
          repeat walk_at "rd"
          refine r_app e4 (small1000 (by rw [List.length_map]; omega)) ?_
          refine ⟨_, zs ++ [_], rfl, by rw [upd_same, List.map_append]; rfl, by rw [List.length_append, hl4]; rfl, hs4.upd nLp nLq, b4.updNone nLH⟩
        · repeat walk_at "rd"
          refine ⟨.inl ⟨rfl, _, SqL.of e4⟩, ?_⟩
          repeat walk_at "rd"
          refine ⟨p, q, top, rfl, hs4, by omega, fun y H5 y0 y1 hs5 b5 => ?_⟩
          repeat walk_at "rd"
          refine r_app (b5 _ _ e4 nLp) (small1000 (by rw [List.length_map]; omega)) ?_
          refine ⟨_, zs ++ [y], rfl, by rw [upd_same, List.map_append]; rfl, by rw [List.length_append, hl4]; rfl, hs5.upd nLp nLq, (b4.trans b5).updNone nLH⟩
      · clear e3 hs3 b3 z00 z01
        rintro σ H4 ⟨v7, zs, rfl, e4, hl4, hs4, b4⟩
        repeat walk_at "rd"
        refine ⟨p, q, 8, rfl, hs4, by decide, by decide, fun kind H5 k0 k8 hs5 b5 => ?_⟩
        have e5 := b5 _ _ e4 nLp
        have b5 := b4.trans b5
        clear hs4 b4 e4
        repeat walk_at "rd"
        let S : St → Hp → Prop := fun σ H' => ∃ (xs : List V) (v9 : Option V), σ = [some (.ref p), some (tv Tn), some (.int n), some (.ref m), some (.int size), some (.int top), some (.ref L), v7, some (.int kind), v9] ∧ H' L = some (.lst xs) ∧ (xs.length : Int) = size ∧ (∀ v, v ∈ xs → Thing a.c_Machine p H' v) ∧ SrcAt H' p q ∧ But p H H'
        have S0 : S [some (.ref p), some (tv Tn), some (.int n), some (.ref m), some (.int size), some (.int top), some (.ref L), v7, some (.int kind), none] H5 := ⟨zs.map V.int, none, rfl, e5, by rw [List.length_map]; omega, fun v hv => by obtain ⟨z, _, rfl⟩ := List.mem_map.mp hv; exact Thing.int, hs5, b5⟩
        with_reducible refine seq_with S ?_ (fun rest => ?_)
        · clear S0 hs5 b5 e5 hl4
          rintro σ H6 ⟨xs, v9, rfl, e6, hl6, ht6, hs6, b6⟩
          walk_at "rdi"
          repeat walk_at "rd"
          refine ite_d (fun c => ?_) (fun c => ?_)
          · repeat walk_at "rd"
            refine r_listL e6 (fun w1 H7 n7 s7 e7 => ?_)
            have hw1 := hs6.ne n7
            have hs7 := hs6.keep s7
            have b7 := b6.trans (But.of_same s7)
            repeat walk_at "rd"
            refine new_at (Nat.le_of_ble_eq_true rfl) (fun w2 H8 n8 s8 e8 => ?_)
            have hw2 := hs7.ne n8
            have e7 := s8 _ _ e7
            have hs8 := hs7.keep s8
            have b8 := b7.trans (But.of_same s8)
            clear hs7 b7 s8 n8 s7 n7
            repeat walk_at "rd"
            refine r_dnew (fun w3 H9 n9 s9 e9 => ?_)
            have hw3 := hs8.ne n9
            have e7 := s9 _ _ e7
            have e8 := s9 _ _ e8
            have hs9 := hs8.keep s9
            have b9 := b8.trans (But.of_same s9)
            clear hs8 b8 s9 n9
            repeat walk_at "rd"
            refine new_at (Nat.le_of_ble_eq_true rfl) (fun w4 H10 n10 s10 e10 => ?_)
            have hw4 := hs9.ne n10
            have e7 := s10 _ _ e7
            have e8 := s10 _ _ e8
            have e9 := s10 _ _ e9
            have hs10 := hs9.keep s10
            have b10 := b9.trans (But.of_same s10)
            clear hs9 b9 s10 n10
            repeat walk_at "rd"
            refine new_at (Nat.le_of_ble_eq_true rfl) (fun w5 H11 n11 s11 e11 => ?_)
            have hw5 := hs10.ne n11
            have e7 := s11 _ _ e7
            have e8 := s11 _ _ e8
            have e9 := s11 _ _ e9
            have e10 := s11 _ _ e10
            have hs11 := hs10.keep s11
            have b11 := b10.trans (But.of_same s11)
            clear hs10 b10 s11 n11
            repeat walk_at "rd"
            refine ⟨p, q, 10, rfl, hs11, by decide, by decide, fun d H12 d0 d10 hs12 b12 => ?_⟩
            have e7 := b12 _ _ e7 hw1
            have e8 := b12 _ _ e8 hw2
            have e9 := b12 _ _ e9 hw3
            have e10 := b12 _ _ e10 hw4
            have e11 := b12 _ _ e11 hw5
            have b := b11.trans b12
            obtain ⟨dx, em⟩ := hm.but b nmp
            have kk := fun x xo hx => k x xo H12 hx hs12 b
            have hk : d = 0 ∨ d = 1 ∨ d = 2 ∨ d = 3 ∨ d = 4 ∨ d = 5 ∨ d = 6 ∨ d = 7 ∨ d = 8 ∨ d = 9 := by omega
            clear b b11 b12 hs11 hs12 d0 d10
            rcases hk with rfl | rfl | rfl | rfl | rfl | rfl | rfl | rfl | rfl | rfl
            · exact r_ixL e11 rfl (kk _ none (.inr ⟨rfl, .inr (.inr (.inr (.inr ⟨w1, rfl, hw1, .inl ⟨_, e7⟩⟩)))⟩))
            · exact r_ixL e11 rfl (kk _ (some []) (NT.tup hw2 e8 (by decide) (fun v hv => absurd hv (List.not_mem_nil))))
            · exact r_ixL e11 rfl (kk _ none (.inr ⟨rfl, .inr (.inr (.inl rfl))⟩))
            · exact r_ixL e11 rfl (kk _ none (.inr ⟨rfl, .inr (.inr (.inr (.inl ⟨_, rfl⟩)))⟩))
            · exact r_ixL e11 rfl (kk _ none (.inr ⟨rfl, .inl ⟨_, rfl⟩⟩))
            · exact r_ixL e11 rfl (kk _ none (.inr ⟨rfl, .inr (.inr (.inr (.inr ⟨w3, rfl, hw3, .inr (.inl e9)⟩)))⟩))
            · exact r_ixL e11 rfl (kk _ none (.inr ⟨rfl, .inr (.inl ⟨_, rfl⟩)⟩))
            · exact r_ixL e11 rfl (kk _ none (.inr ⟨rfl, .inr (.inr (.inr (.inl ⟨_, rfl⟩)))⟩))
            · exact r_ixL e11 rfl (kk _ none (.inr ⟨rfl, .inr (.inr (.inr (.inr ⟨m, rfl, nmp, .inr (.inr ⟨_, _, em⟩)⟩)))⟩))
            · exact r_ixL e11 rfl (kk _ none (.inr ⟨rfl, .inr (.inr (.inr (.inr ⟨w4, rfl, hw4, .inl ⟨_, e10⟩⟩)))⟩))
          · walk_at "rd"
            walk_at "rdi"
            repeat walk_at "rd"
            refine ite_d (fun c2 => ?_) (fun c2 => ?_)
            · repeat walk_at "rd"
              refine new_at (Nat.le_of_ble_eq_true rfl) (fun w1 H7 n7 s7 e7 => ?_)
              have e6 := s7 _ _ e6
              have ht7 : ∀ v, v ∈ xs → Thing a.c_Machine p H7 v := fun v hv => (ht6 v hv).keep s7
              have hs7 := hs6.keep s7
              have b7 := b6.trans (But.of_same s7)
              repeat walk_at "rd"
              refine r_repZ e7 (by omega) (by omega) (fun w2 H8 n8 s8 e8 => ?_)
              have e6 := s8 _ _ e6
              refine r_cat e6 e8 (by rw [List.length_replicate]; omega) (fun w3 H9 n9 s9 e9 => ?_)
              repeat walk_at "rd"
              refine r_tupL e9 (fun w4 H10 n10 s10 e10 => ?_)
              have s := (s8.trans s9).trans s10
              have nw4 : w4 ≠ p := ((hs7.keep s8).keep s9).ne n10
              refine k _ (some _) H10 (NT.tup nw4 e10 (by rw [List.length_append, List.length_replicate]; omega) (fun v hv => ?_)) (hs7.keep s) (b7.trans (But.of_same s))
              rcases List.mem_append.mp hv with hv | hv
              · exact (ht7 v hv).keep s
              · rw [List.eq_of_mem_replicate hv]
                exact Thing.int
            · walk_at "rd"
              with_reducible refine seq_with S ?_ (fun rest2 => ?_)
              · clear e6 hl6 ht6 hs6 b6
                rintro σ H6 ⟨xs, v9, rfl, e6, hl6, ht6, hs6, b6⟩
                repeat walk_at "rd"
                refine r_tupL e6 (fun w4 H7 n7 s7 e7 => ?_)
                exact k _ (some xs) H7 (NT.tup (hs6.ne n7) e7 (by omega) (fun v hv => (ht6 v hv).keep s7)) (hs6.keep s7) (b6.trans (But.of_same s7))
              · repeat walk_at "rd"
                refine ite_d (fun c3 => ?_) (fun c3 => ?_)
                · repeat walk_at "rd"
                  refine ⟨p, q, size, rfl, hs6, by omega, by omega, fun j H7 j0 j1 hs7 b7 => ?_⟩
                  repeat walk_at "rd"
                  have e7 := b7 _ _ e6 nLp
                  refine r_setL e7 (ix_in j0 (by omega)) ?_
                  refine rest2 _ _ ⟨xs.set j.toNat (.int 1000000000000000), _, rfl, upd_same, by rw [List.length_set]; exact hl6, fun v hv => ?_, hs7.upd nLp nLq, (b6.trans b7).updNone nLH⟩
                  rcases List.mem_or_eq_of_mem_set hv with hv | rfl
                  · exact ((ht6 v hv).but b7).set e7
                  · exact Thing.int
                · repeat first | exact rest2 _ _ ⟨xs, v9, rfl, e6, hl6, ht6, hs6, b6⟩ | walk_at "rd"
        · repeat walk_at "rd"
          refine ite_d (fun c => ?_) (fun c => ?_)
          · repeat walk_at "rd"
            refine new_at (Nat.le_of_ble_eq_true rfl) (fun u1 H6 nu1 s6 e6 => ?_)
            repeat walk_at "rd"
            refine new_at (Nat.le_of_ble_eq_true rfl) (fun u2 H7 nu2 s7 e7 => ?_)
            repeat walk_at "rd"
            refine new_at (Nat.le_of_ble_eq_true rfl) (fun u3 H8 nu3 s8 e8 => ?_)
            have hs7 := (hs5.keep s6).keep s7
            have hu1 := hs5.ne nu1
            have hu2 := (hs5.keep s6).ne nu2
            have hu3 := hs7.ne nu3
            have hs8 := hs7.keep s8
            have b8 : But p H H8 := b5.trans (But.of_same ((s6.trans s7).trans s8))
            have e5 := s8 _ _ (s7 _ _ (s6 _ _ e5))
            have e6 := s8 _ _ (s7 _ _ e6)
            have e7 := s8 _ _ e7
            clear hs7 s6 s7 s8 nu1 nu2 nu3
            repeat walk_at "rd"
            refine ⟨p, q, 12, rfl, hs8, by decide, by decide, fun d H9 d0 d12 hs9 b9 => ?_⟩
            have e5 := b9 _ _ e5 nLp
            have e6 := b9 _ _ e6 hu1
            have e7 := b9 _ _ e7 hu2
            have e8 := b9 _ _ e8 hu3
            have b9 := b8.trans b9
            have hm9 := hm.but b9 nmp
            clear hs8 b8
            obtain ⟨v, hat, hv⟩ : ∃ v : V, atI [V.int (-1), V.bl true, V.non, V.str "0", V.int (1000000000000000 + 1), V.int n, V.ref u1, V.bl false, V.int 10000000000000000000000000000000000000000, V.int (-1000000000000000000000000000000), V.ref m, V.ref u2] d = some v ∧ Thing a.c_Machine p H9 v := by
              have hk : d = 0 ∨ d = 1 ∨ d = 2 ∨ d = 3 ∨ d = 4 ∨ d = 5 ∨ d = 6 ∨ d = 7 ∨ d = 8 ∨ d = 9 ∨ d = 10 ∨ d = 11 := by omega
              rcases hk with rfl | rfl | rfl | rfl | rfl | rfl | rfl | rfl | rfl | rfl | rfl | rfl
              · exact ⟨_, rfl, Thing.int⟩
              · exact ⟨_, rfl, Thing.bl⟩
              · exact ⟨_, rfl, Thing.non⟩
              · exact ⟨_, rfl, Thing.str⟩
              · exact ⟨_, rfl, Thing.int⟩
              · exact ⟨_, rfl, Thing.int⟩
              · exact ⟨_, rfl, Thing.tup hu1 e6⟩
              · exact ⟨_, rfl, Thing.bl⟩
              · exact ⟨_, rfl, Thing.int⟩
              · exact ⟨_, rfl, Thing.int⟩
              · exact ⟨_, rfl, Thing.mach nmp hm9⟩
              · exact ⟨_, rfl, Thing.lst hu2 e7⟩
            refine r_ixL e8 hat ?_
            clear e6 e7 e8 hat d0 d12 hm9
            repeat walk_at "rd"
            refine ⟨p, q, size, rfl, hs9, by omega, by omega, fun j H10 j0 j1 hs10 b10 => ?_⟩
            have e10 := b10 _ _ e5 nLp
            repeat walk_at "rd"
            refine r_setL e10 (ix_in j0 (by rw [List.length_map]; omega)) ?_
            refine rest _ _ ⟨(zs.map V.int).set j.toNat v, _, rfl, upd_same, by rw [List.length_set, List.length_map]; omega, fun v' hv' => ?_, hs10.upd nLp nLq, (b9.trans b10).updNone nLH⟩
            rcases List.mem_or_eq_of_mem_set hv' with hv' | rfl
            · obtain ⟨z, _, rfl⟩ := List.mem_map.mp hv'
              exact Thing.int
            · exact (hv.but b10).set e10
          · repeat first | exact rest _ _ S0 | walk_at "rd"
    · repeat walk_at "rd"
      cases Tn with
      | none =>
        repeat first | exact rest _ _ ⟨top, rfl, hs4, b4, top1, top9⟩ | walk_at "rd"
      | some d =>
        have T1 : 1 ≤ d := hT.1
        repeat walk_at "rd"
        refine ⟨p, q, 3, rfl, hs4, by decide, by decide, fun y H5 y0 y3 hs5 b5 => ?_⟩
        repeat walk_at "rd"
        refine ite_d (fun c => ?_) (fun c => ?_)
        · repeat first | exact rest _ _ ⟨_, rfl, hs5, b4.trans b5, min_lo top1 (by omega), min_hi top9⟩ | walk_at "rd"
        · repeat first | exact rest _ _ ⟨top, rfl, hs5, b4.trans b5, top1, top9⟩ | walk_at "rd"
end

/-! ### the law of k14: its def -/
def spLaw (K : PySem.W.Frag) : Sp := fun vs H Q _ => ∃ (b : Addr) (ns : List Int), vs = [.ref b] ∧ SqL K H b (ns.map V.int) ∧ ns.length ≤ 63 ∧ ∀ H', Q (.bl true) H'
theorem RootsFrom.add : ∀ {rs : List Int} {b x : Int}, RootsFrom b rs → b ≤ x → (∀ r, r ∈ rs → r ≤ x) → x ≤ 1000000000000 → RootsFrom b (rs ++ [x])
  | [], b, x, _, h1, _, h2 => ⟨h1, h2, trivial⟩
  | r :: rs, b, x, h, h1, h3, h2 => ⟨h.1, h.2.1, RootsFrom.add h.2.2 (h3 r (List.mem_cons_self ..)) (fun y hy => h3 y (List.mem_cons_of_mem _ hy)) h2⟩
section
variable {P : Program} {w : World} {K : PySem.W.Frag} {mg : Str → Option Value} {base : Heap} {a : Adr}
set_option maxHeartbeats 0 in
theorem ok_law (T : Txt K mg a) : FnOk P w K mg base CX0 10 a.a_law a.d_law ["_law_script"] (spLaw K) := by
  refine T.F_law.ok sc_law (fun vs H Q E h => ?_) (fun cdv A outer s H vs Q E hr h => ?_)
  · obtain ⟨b, ns, rfl, _⟩ := h
    rfl
  · obtain ⟨b, ns, rfl, hS, hl, k⟩ := h
    refine ⟨_, (pss_cons (ps_set (i := 1) sc_law.nd rfl (Or.inl rfl) (pe_call (ok__law_source T) (hr.mono (by decide)) (by rfl) T.g__law_source T.F__law_source.kp T.b__law_source .nil pass0 (pa_cons (pv 0) pa_nil)))
 (pss_cons (ps_set (i := 2) sc_law.nd rfl (Or.inl rfl) (pe_call (ok__law_numbers T) (hr.mono (by decide)) (by rfl) T.g__law_numbers T.F__law_numbers.kp T.b__law_numbers .nil pass0 (pa_cons (pv 1) pa_nil)))
 (pss_cons (ps_asg (pe_call (ok__law_times T) (hr.mono (by decide)) (by rfl) T.g__law_times T.F__law_times.kp T.b__law_times .nil pass0 (pa_cons (pv 2) pa_nil)) (pg_tup (by rfl) (pgs_cons (pg_name (i := 3) sc_law.nd rfl (Or.inl rfl)) (pgs_cons (pg_name (i := 4) sc_law.nd rfl (Or.inl rfl)) pgs_nil))))
 (pss_cons (ps_set (i := 5) sc_law.nd rfl (Or.inl rfl) (pe_make T.mk_Machine (ok_Machine_init T) (hr.mono (by decide)) (by rfl) T.g_Machine T.b_Machine_init .nil pass0 (pa_cons (pe_ix ix_tup (pv 2) pe_int (fun _ _ => rfl)) (pa_cons (pe_ix ix_tup (pv 2) pe_int (fun _ _ => rfl)) (pa_cons (pe_ix ix_tup (pv 2) pe_int (fun _ _ => rfl)) pa_nil)))))
 (pss_cons (ps_for (by exact PassesOwn.never) rfl (pi_range1 (by rfl) T.n_range (pa_cons pe_int pa_nil)) (pg_name (i := 6) sc_law.nd rfl (Or.inl rfl))
 (pss_cons (ps_set (i := 7) sc_law.nd rfl (Or.inl rfl) (pe_ix ix_list (pe_lst (pa_cons pe_non (pa_cons pe_non (pa_cons pe_int (pa_cons pe_int (pa_cons (pe_powN (z := 1000000000000) ⟨by decide, by decide, by decide⟩ (by decide +kernel)) (pa_cons (pe_op op_add pe_int (pe_call (ok__law_draw T) (hr.mono (by decide)) (by rfl) T.g__law_draw T.F__law_draw.kp T.b__law_draw .nil pass0 (pa_cons (pv 1) (pa_cons pe_int pa_nil)))) pa_nil))))))) (pe_call (ok__law_draw T) (hr.mono (by decide)) (by rfl) T.g__law_draw T.F__law_draw.kp T.b__law_draw .nil pass0 (pa_cons (pv 1) (pa_cons pe_int pa_nil))) (fun _ _ => rfl)))
 (pss_cons (ps_set (i := 8) sc_law.nd rfl (Or.inl rfl) (pe_lst pa_nil))
 (pss_cons (ps_set (i := 9) sc_law.nd rfl (Or.inl rfl) pe_int)
 (pss_cons (ps_for (by exact PassesOwn.never) rfl (pi_range1 (by rfl) T.n_range (pa_cons (pe_op op_add pe_int (pe_call (ok__law_draw T) (hr.mono (by decide)) (by rfl) T.g__law_draw T.F__law_draw.kp T.b__law_draw .nil pass0 (pa_cons (pv 1) (pa_cons pe_int pa_nil)))) pa_nil)) (pg_name (i := 10) sc_law.nd rfl (Or.inl rfl))
 (pss_cons (ps_aug (i := 9) sc_law.nd rfl (Or.inl rfl) (pe_call (ok__law_big T) (hr.mono (by decide)) (by rfl) T.g__law_big T.F__law_big.kp T.b__law_big .nil pass0 (pa_cons (pv 1) (pa_cons (pe_ix ix_list (pe_lst (pa_cons pe_int (pa_cons (pe_powN (z := 100000000000) ⟨by decide, by decide, by decide⟩ (by decide +kernel)) pa_nil))) (pe_call (ok__law_draw T) (hr.mono (by decide)) (by rfl) T.g__law_draw T.F__law_draw.kp T.b__law_draw .nil pass0 (pa_cons (pv 1) (pa_cons pe_int pa_nil))) (fun _ _ => rfl)) pa_nil))) ip_add)
 (pss_one (ps_expr (pe_bm PySem.F.plainAttrs_list PySem.F.slot_list_append PySem.F.type_list_append mt_append (pv 8) (pa_cons (pv 9) pa_nil))))))
 (pss_cons (ps_set (i := 11) sc_law.nd rfl (Or.inl rfl) (pe_call (ok__law_thing T) (hr.mono (by decide)) (by rfl) T.g__law_thing T.F__law_thing.kp T.b__law_thing .nil pass0 (pa_cons (pv 1) (pa_cons (pv 7) (pa_cons (pe_callB call_len_seq (by rfl) T.n_len (by decide +kernel) (pa_cons (pv 8) pa_nil)) (pa_cons (pv 5) pa_nil))))))
 (pss_cons (ps_set (i := 12) sc_law.nd rfl (Or.inl rfl) (pe_call (ok__law_wrong T) (hr.mono (by decide)) (by rfl) T.g__law_wrong T.F__law_wrong.kp T.b__law_wrong .nil pass0 (pa_cons (pv 11) (pa_cons (pv 7) (pa_cons (pe_callB call_len_seq (by rfl) T.n_len (by decide +kernel) (pa_cons (pv 8) pa_nil)) pa_nil)))))
 (pss_cons (ps_set (i := 13) sc_law.nd rfl (Or.inl rfl) (pe_callN (ok_is_name T) (hr.mono (by decide)) (by rfl) T.g_is_name T.F_is_name.kp (kb_is_name_turns_roots T).choose_spec pass0 (pa_cons (pv 11) pa_nil) (pk_cons (pv 7) (pk_cons (pe_callTy cr_list (by rfl) T.n_list (by decide +kernel) (pa_cons (pv 8) pa_nil)) pk_nil))))
 (pss_cons (ps_if (PW.pt (pw_or (pt_not (pt_val (pe_callB call_isi (by rfl) T.n_isinstance (by decide +kernel) (pa_cons (pv 13) (pa_cons (pe_bltn (v := .ty "bool") (u := .type "bool") (by rfl) T.n_bool (by decide +kernel) rfl) pa_nil))))) (pw_or1 (pt_cmpR op_ne (pv 13) (pe_cmpR op_isNo (pv 12) pe_non (nomark _)) (nomark _))))) (pss_one (ps_ret pe_bl))
 pss_nil)
 (pss_cons (ps_set (i := 14) sc_law.nd rfl (Or.inl rfl) (pe_tup (pa_cons pe_str (pa_cons (pv 12) pa_nil))))
 (pss_cons (ps_if (pt_cmpR op_isNo (pv 12) pe_non (nomark _)) (pss_one (ps_set (i := 14) sc_law.nd rfl (Or.inl rfl) (pe_tup (pa_cons pe_str (pa_cons (pe_op op_add (pe_op op_add (pe_ix ix_list (pv 8) (pe_ix ix_tup (pv 11) pe_int (fun _ _ => rfl)) (fun _ _ => rfl)) (pe_op op_mul (pe_op op_sub (pe_callB call_len_seq (by rfl) T.n_len (by decide +kernel) (pa_cons (pv 11) pa_nil)) pe_int) (pv 3))) (pe_op op_mul (pe_callB (cr_sumT rfl) (by rfl) T.n_sum (by decide +kernel) (pa_cons (pe_slice sl_tup (pv 11) (po_some pe_int) po_none) pa_nil)) (pv 4))) pa_nil)))))
 pss_nil)
 (pss_cons (ps_set (i := 13) sc_law.nd rfl (Or.inl rfl) (pe_call (ok__law_asked T) (hr.mono (by decide)) (by rfl) T.g__law_asked T.F__law_asked.kp T.b__law_asked .nil pass0 (pa_cons (pv 5) (pa_cons (pv 11) (pa_cons (pv 7) (pa_cons (pe_callTy cr_tup (by rfl) T.n_tuple (by decide +kernel) (pa_cons (pv 8) pa_nil)) pa_nil))))))
 (pss_one (ps_if (PW.pt (pw_or (pt_cmpR (op_neD hr.units) (pv 13) (pv 14) (nomark _)) (pw_or1 (pt_val (pe_callB call_isi (by rfl) T.n_isinstance (by decide +kernel) (pa_cons (pe_ix ix_tup (pv 13) pe_int (fun _ _ => rfl)) (pa_cons (pe_bltn (v := .ty "bool") (u := .type "bool") (by rfl) T.n_bool (by decide +kernel) rfl) pa_nil))))))) (pss_one (ps_ret pe_bl))
 pss_nil))))))))))))))
 (pss_one (ps_ret pe_bl))))))), ?_⟩
    repeat walk_at "rd"
    refine ⟨b, ns, rfl, hS, hl, fun p q H0 hs0 np nq s0 => ?_⟩
    repeat walk_at "rd"
    refine ⟨p, q, rfl, hs0, fun t o l g H1 N1 n1 hs1 b1 => ?_⟩
    have e1 := N1.at_
    have ntp : t ≠ p := hs0.ne n1
    repeat walk_at "rd"
    refine ⟨t, o, l, g, rfl, e1, fun u H2 nu s2 e2 => ?_⟩
    have e1 := s2 _ _ e1
    have hs2 := hs1.keep s2
    repeat walk_at "rd"
    refine r_Machine ⟨N1.o0, N1.o9⟩ ⟨N1.l0, N1.l9⟩ ⟨N1.g1, N1.g9⟩ N1.pos (fun m H3 n3 hm s3 => ?_)
    have nmp := hs2.ne n3
    have hs3 := hs2.keep s3
    have ho : 0 ≤ o ∧ o ≤ 1000000000 := ⟨N1.o0, N1.o9⟩
    have hll : 0 ≤ l ∧ l ≤ 1000000000 := ⟨N1.l0, N1.l9⟩
    have hg : 1 ≤ g ∧ g ≤ 1000000000 := ⟨N1.g1, N1.g9⟩
    have hp := N1.pos
    clear hs0 hs1 hs2 s0 b1 n1 s2 s3 np nq hS N1 e1 e2 nu n3 ntp
    repeat walk_at "rd"
    refine ⟨by decide, by decide, for_range (lo := 0) (n := 6) (fun i σ H' => ∃ (v6 v7 v8 v9 v10 v11 v12 v13 v14 : Option V), σ = [some (.ref b), some (.ref p), some (.ref t), some (.int (2 * o + l)), some (.int (gapOf o g)), some (.ref m), v6, v7, v8, v9, v10, v11, v12, v13, v14] ∧ SrcAt H' p q ∧ MachAt a.c_Machine H' m o l g) ⟨_, _, _, _, _, _, _, _, _, rfl, hs3, hm⟩ ?_ ?_⟩
    · clear hs3 hm
      rintro i σ H4 hi ⟨v6, v7, v8, v9, v10, v11, v12, v13, v14, rfl, hs4, hm4⟩
      repeat walk_at "rd"
      refine ⟨p, q, 30, rfl, hs4, by decide, by decide, fun y H5 y0 y30 hs5 b5 => ?_⟩
      have hm5 := hm4.but b5 nmp
      repeat walk_at "rd"
      refine new_at (Nat.le_of_ble_eq_true rfl) (fun L0 H6 n6 s6 e6 => ?_)
      have nL := hs5.ne n6
      repeat walk_at "rd"
      refine ⟨p, q, 6, rfl, hs5.keep s6, by decide, by decide, fun d H7 d0 d6 hs7 b7 => ?_⟩
      obtain ⟨Tn, hat, hT⟩ : ∃ Tn : Turns, atI [V.non, V.non, V.int 1, V.int 3, V.int 1000000000000, V.int (1 + y)] d = some (tv Tn) ∧ TurnsIn Tn := by
        obtain ⟨z, rfl⟩ : ∃ z : Nat, y = z := ⟨y.toNat, by omega⟩
        have hk : d = 0 ∨ d = 1 ∨ d = 2 ∨ d = 3 ∨ d = 4 ∨ d = 5 := by omega
        rcases hk with rfl | rfl | rfl | rfl | rfl | rfl
        · exact ⟨none, rfl, trivial⟩
        · exact ⟨none, rfl, trivial⟩
        · exact ⟨some 1, rfl, by decide, by decide⟩
        · exact ⟨some 3, rfl, by decide, by decide⟩
        · exact ⟨some 1000000000000, rfl, by decide, by decide⟩
        · exact ⟨some (1 + z), by show some (V.int (1 + (z : Int))) = some (V.int ((1 + z : Nat) : Int)); rw [Int.natCast_add]; rfl, by omega, by omega⟩
      refine r_ixL (b7 _ _ e6 nL) hat ?_
      have hm7 := (hm5.keep s6).but b7 nmp
      clear hs4 hm4 b5 hm5 hs5 n6 s6 e6 nL b7 hat d0 d6 y0 y30
      repeat walk_at "rd"
      refine new_at (Nat.le_of_ble_eq_true rfl) (fun R H8 n8 s8 e8 => ?_)
      have nRp := hs7.ne n8
      have nRq := hs7.neq n8
      have nRm : R ≠ m := by obtain ⟨dx, e⟩ := hm7; exact (ne_of_none e n8).symm
      have hs8 := hs7.keep s8
      have hm8 := hm7.keep s8
      clear hs7 hm7 n8 s8
      repeat walk_at "rd"
      refine ⟨p, q, 6, rfl, hs8, by decide, by decide, fun c H9 c0 c6 hs9 b9 => ?_⟩
      have hm9 := hm8.but b9 nmp
      have e9 := b9 _ _ e8 nRp
      clear hs8 hm8 e8 b9
      repeat walk_at "rd"
      refine ⟨by omega, by omega, for_range (lo := 0) (n := (1 + c).toNat) (fun j σ H' => ∃ (rs : List Int) (x : Int) (v10 : Option V), σ = [some (.ref b), some (.ref p), some (.ref t), some (.int (2 * o + l)), some (.int (gapOf o g)), some (.ref m), some (.int (0 + (i : Int))), some (tv Tn), some (.ref R), some (.int x), v10, v11, v12, v13, v14] ∧
        H' R = some (.lst (rs.map V.int)) ∧ rs.length = j ∧ RootsFrom 0 rs ∧ (∀ r, r ∈ rs → r ≤ x) ∧ 0 ≤ x ∧ x ≤ j * 100000000000 ∧ SrcAt H' p q ∧ MachAt a.c_Machine H' m o l g) ⟨[], 0, _, rfl, e9, rfl, trivial, fun r hr => absurd hr List.not_mem_nil, by decide, by decide, hs9, hm9⟩ ?_ ?_⟩
      · clear e9 hs9 hm9
        rintro j σ H10 hj ⟨rs, x, v10, rfl, e10, hl10, hR, hx, x0, x1, hs10, hm10⟩
        repeat walk_at "rd"
        refine new_at (Nat.le_of_ble_eq_true rfl) (fun L0 H11 n11 s11 e11 => ?_)
        have nL := hs10.ne n11
        repeat walk_at "rd"
        refine ⟨p, q, 2, rfl, hs10.keep s11, by decide, by decide, fun d H12 d0 d2 hs12 b12 => ?_⟩
        obtain ⟨s, hat, hs0, hs1⟩ : ∃ s : Int, atI [V.int 2, V.int 100000000000] d = some (.int s) ∧ 0 < s ∧ s ≤ 100000000000 := by
          have hk : d = 0 ∨ d = 1 := by omega
          rcases hk with rfl | rfl
          · exact ⟨_, rfl, by decide, by decide⟩
          · exact ⟨_, rfl, by decide, by decide⟩
        refine r_ixL (b12 _ _ e11 nL) hat ?_
        repeat walk_at "rd"
        refine ⟨p, q, s, rfl, hs12, hs0, fun z H13 z0 z1 hs13 b13 => ?_⟩
        have e13 := b13 _ _ (b12 _ _ (s11 _ _ e10) nRp) nRp
        have hm13 := ((hm10.keep s11).but b12 nmp).but b13 nmp
        repeat walk_at "rd"
        refine ⟨.inl ⟨rfl, _, SqL.of e13⟩, ?_⟩
        repeat walk_at "rd"
        refine r_app e13 (small1000 (by rw [List.length_map]; omega)) ?_
        refine ⟨rs ++ [x + z], x + z, _, rfl, by rw [upd_same, List.map_append]; rfl, by rw [List.length_append, hl10]; rfl, hR.add (by omega) (fun r hr => by have := hx r hr; omega) (by omega), fun r hr => ?_, by omega, by omega, hs13.upd nRp nRq, ?_⟩
        · rcases List.mem_append.mp hr with hr | hr
          · have := hx r hr; omega
          · rw [List.mem_singleton] at hr; omega
        · obtain ⟨dx, e⟩ := hm13
          exact ⟨dx, (upd_ne nRm.symm).trans e⟩
      · clear e9 hs9 hm9
        rintro σ H10 ⟨rs, x, v10, rfl, e10, hl10, hR, hx, x0, x1, hs10, hm10⟩
        repeat walk_at "rd"
        have hRo : RootsOk rs := ⟨by omega, by omega, hR⟩
        refine ⟨p, q, m, Tn, _, o, l, g, rfl, hs10, hT, by rw [List.length_map]; omega, by rw [List.length_map]; omega, hm10, nmp, fun X xo H11 hN hs11 b11 => ?_⟩
        have hm11 := hm10.but b11 nmp
        have e11 := b11 _ _ e10 nRp
        clear hs10 hm10 e10 b11 hR hx x0 x1
        repeat walk_at "rd"
        refine ⟨X, Tn, p, _, xo, rfl, hN, hT, ?_⟩
        rw [List.length_map]
        repeat walk_at "rd"
        refine r_listL e11 (fun W H12 n12 s12 e12 => ?_)
        repeat walk_at "rd"
        refine ⟨rfl, rfl, X, Tn, W, p, rs, xo, rfl, hN.keep s12, hT, .inl e12, hRo, fun H13 s13 => ?_⟩
        have s13 := s12.trans s13
        have hN := hN.keep s13
        have hs13 := hs11.keep s13
        have hm13 := hm11.keep s13
        have e13 := s13 _ _ e11
        clear hs11 hm11 e11 s12 n12 e12 s13
        repeat first | walk_at "rd" | walk_at "rdi"
        refine r_isNx ?_
        repeat walk_at "rd"
        refine new_at (Nat.le_of_ble_eq_true rfl) (fun D H14 n14 s14 e14 => ?_)
        have hN := hN.keep s14
        have hs14 := hs13.keep s14
        have hm14 := hm13.keep s14
        have eR := s14 _ _ e13
        clear hs13 hm13 e13 s14 n14
        have hgp := gap_pos (o := o) hg.1
        have hgl := gap_le (o := o) hg.2 ho.2
        rcases Wr_non Tn rs.length xo with e | ⟨j, e⟩
        · obtain ⟨z0, zs, rfl, hl9, z0a, z0b, hz⟩ := Wr_all e
          obtain ⟨pX, rfl, npX, hx, _⟩ := hN.yes
          have hzs := sum_in zs fun z hzz => ⟨(hz z hzz).1, Int.le_trans (hz z hzz).2 (gT_le hT)⟩
          rw [e]
          clear e14
          repeat first | walk_at "rd" | walk_at "rdi"
          refine r_ixT hx (v := .int z0) (atI_nat (j := 0) rfl) ?_
          refine r_ixL eR (at_roots z0a z0b) ?_
          repeat walk_at "rd"
          refine r_slT (SqT.of hx) (not_whole _ _) (fun u1 H15 n15 s15 e15 => ?_)
          rw [cut_one] at e15
          repeat walk_at "rd"
          refine ⟨u1, zs, rfl, SqT.of e15, ?_⟩
          repeat walk_at "rd"
          refine new_at (Nat.le_of_ble_eq_true rfl) (fun D2 H16 n16 s16 e16 => ?_)
          rw [show ((V.int z0 :: zs.map V.int).length : Int) - 1 = zs.length by rw [List.length_cons, List.length_map]; omega] at e16
          have s16 := s15.trans s16
          have eR := s16 _ _ eR
          repeat walk_at "rd"
          refine r_tupL eR (fun W2 H17 n17 s17 e17 => ?_)
          have e16 := s17 _ _ e16
          have s17 := s16.trans s17
          repeat walk_at "rd"
          refine ⟨m, _, Tn, W2, p, o, l, g, rs, _, rfl, hm14.keep s17, ho, hll, hg, hp, hN.keep s17, hT, .inr (SqT.of e17), hRo, fun A2 H18 s18 e18 => ?_⟩
          rw [ansW, if_pos e, tmO_ints] at e18
          have e16 := s18 _ _ e16
          have s18 := s17.trans s18
          repeat walk_at "rd"
          refine r_neStrInt e18 e16 (sh_told _) ?_
          repeat walk_at "rd"
          exact ⟨_, _, _, _, _, _, _, _, _, rfl, hs14.keep s18, hm14.keep s18⟩
        · rw [e] at e14 ⊢
          repeat first | walk_at "rd" | walk_at "rdi"
          refine r_tupL eR (fun W2 H17 n17 s17 e17 => ?_)
          have e16 := s17 _ _ e14
          repeat walk_at "rd"
          refine ⟨m, X, Tn, W2, p, o, l, g, rs, xo, rfl, hm14.keep s17, ho, hll, hg, hp, hN.keep s17, hT, .inr (SqT.of e17), hRo, fun A2 H18 s18 e18 => ?_⟩
          rw [e, ansW, if_neg (by intro z; cases z)] at e18
          have e16 := s18 _ _ e16
          have s18 := s17.trans s18
          repeat walk_at "rd"
          refine r_neStrInt e18 e16 (sh_refused _) ?_
          repeat walk_at "rd"
          exact ⟨_, _, _, _, _, _, _, _, _, rfl, hs14.keep s18, hm14.keep s18⟩
    · rintro σ H4 ⟨v6, v7, v8, v9, v10, v11, v12, v13, v14, rfl, hs4, hm4⟩
      repeat walk_at "rd"
      exact k _
end

theorem all_mk {P : Program} {w : World} {K : PySem.W.Frag} {h : Heap} {mg : Str → Option Value} {fa : Addr} (X : K.In h) (G : h.Ns mainGlobals mg) (hfa : mg "law" = some (.ref fa))
    {c_Machine : Addr} {c_Tree : Addr} {oc_is_integer : Value} {od_is_integer : Option Addr} {an_is_integer : Option Addr} {sl_is_integer : Array (Option Value)} {kV_is_integer : Value} {dc_is_integer : Value} {pm_is_integer : Value} {cd_is_integer : Value} {ct_is_integer : Value} {f_is_integer : Addr} {oc_is_between : Value} {od_is_between : Option Addr} {an_is_between : Option Addr} {sl_is_between : Array (Option Value)} {kV_is_between : Value} {dc_is_between : Value} {pm_is_between : Value} {cd_is_between : Value} {ct_is_between : Value} {f_is_between : Addr} {oc_check_turns : Value} {od_check_turns : Option Addr} {an_check_turns : Option Addr} {sl_check_turns : Array (Option Value)} {kV_check_turns : Value} {dc_check_turns : Value} {pm_check_turns : Value} {cd_check_turns : Value} {ct_check_turns : Value} {f_check_turns : Addr} {oc_check_roots : Value} {od_check_roots : Option Addr} {an_check_roots : Option Addr} {sl_check_roots : Array (Option Value)} {kV_check_roots : Value} {dc_check_roots : Value} {pm_check_roots : Value} {cd_check_roots : Value} {ct_check_roots : Value} {f_check_roots : Addr} {oc_wrong_in_name : Value} {od_wrong_in_name : Option Addr} {an_wrong_in_name : Option Addr} {sl_wrong_in_name : Array (Option Value)} {kV_wrong_in_name : Value} {dc_wrong_in_name : Value} {pm_wrong_in_name : Value} {cd_wrong_in_name : Value} {ct_wrong_in_name : Value} {f_wrong_in_name : Addr} {oc_check_name : Value} {od_check_name : Option Addr} {an_check_name : Option Addr} {sl_check_name : Array (Option Value)} {kV_check_name : Value} {dc_check_name : Value} {pm_check_name : Value} {cd_check_name : Value} {ct_check_name : Value} {f_check_name : Addr} {oc_Tree_init : Value} {od_Tree_init : Option Addr} {an_Tree_init : Option Addr} {sl_Tree_init : Array (Option Value)} {kV_Tree_init : Value} {dc_Tree_init : Value} {pm_Tree_init : Value} {cd_Tree_init : Value} {ct_Tree_init : Value} {f_Tree_init : Addr} {oc_time_of : Value} {od_time_of : Option Addr} {an_time_of : Option Addr} {sl_time_of : Array (Option Value)} {kV_time_of : Value} {dc_time_of : Value} {pm_time_of : Value} {cd_time_of : Value} {ct_time_of : Value} {f_time_of : Addr} {oc_is_name : Value} {od_is_name : Option Addr} {an_is_name : Option Addr} {sl_is_name : Array (Option Value)} {dc_is_name : Value} {pm_is_name : Value} {cd_is_name : Value} {ct_is_name : Value} {f_is_name : Addr} {D_is_name : Addr} {t_is_name_roots : Addr} {td_is_name_roots : Option Addr} {tn_is_name_roots : Nat} {ts_is_name_roots : Array (Option Value)} {tk0_is_name_roots : Tok} {oc_known_at : Value} {od_known_at : Option Addr} {an_known_at : Option Addr} {sl_known_at : Array (Option Value)} {dc_known_at : Value} {pm_known_at : Value} {cd_known_at : Value} {ct_known_at : Value} {f_known_at : Addr} {D_known_at : Addr} {t_known_at_roots : Addr} {td_known_at_roots : Option Addr} {tn_known_at_roots : Nat} {ts_known_at_roots : Array (Option Value)} {tk0_known_at_roots : Tok} {oc_Machine_init : Value} {od_Machine_init : Option Addr} {an_Machine_init : Option Addr} {sl_Machine_init : Array (Option Value)} {kV_Machine_init : Value} {dc_Machine_init : Value} {pm_Machine_init : Value} {cd_Machine_init : Value} {ct_Machine_init : Value} {f_Machine_init : Addr} {oc__law_source : Value} {od__law_source : Option Addr} {an__law_source : Option Addr} {sl__law_source : Array (Option Value)} {kV__law_source : Value} {dc__law_source : Value} {pm__law_source : Value} {cd__law_source : Value} {ct__law_source : Value} {f__law_source : Addr} {oc__law_draw : Value} {od__law_draw : Option Addr} {an__law_draw : Option Addr} {sl__law_draw : Array (Option Value)} {kV__law_draw : Value} {dc__law_draw : Value} {pm__law_draw : Value} {cd__law_draw : Value} {ct__law_draw : Value} {f__law_draw : Addr} {oc__law_big : Value} {od__law_big : Option Addr} {an__law_big : Option Addr} {sl__law_big : Array (Option Value)} {kV__law_big : Value} {dc__law_big : Value} {pm__law_big : Value} {cd__law_big : Value} {ct__law_big : Value} {f__law_big : Addr} {oc__law_numbers : Value} {od__law_numbers : Option Addr} {an__law_numbers : Option Addr} {sl__law_numbers : Array (Option Value)} {kV__law_numbers : Value} {dc__law_numbers : Value} {pm__law_numbers : Value} {cd__law_numbers : Value} {ct__law_numbers : Value} {f__law_numbers : Addr} {oc__law_times : Value} {od__law_times : Option Addr} {an__law_times : Option Addr} {sl__law_times : Array (Option Value)} {kV__law_times : Value} {dc__law_times : Value} {pm__law_times : Value} {cd__law_times : Value} {ct__law_times : Value} {f__law_times : Addr} {oc__law_within : Value} {od__law_within : Option Addr} {an__law_within : Option Addr} {sl__law_within : Array (Option Value)} {kV__law_within : Value} {dc__law_within : Value} {pm__law_within : Value} {cd__law_within : Value} {ct__law_within : Value} {f__law_within : Addr} {oc__law_wrong : Value} {od__law_wrong : Option Addr} {an__law_wrong : Option Addr} {sl__law_wrong : Array (Option Value)} {kV__law_wrong : Value} {dc__law_wrong : Value} {pm__law_wrong : Value} {cd__law_wrong : Value} {ct__law_wrong : Value} {f__law_wrong : Addr} {oc__law_thing : Value} {od__law_thing : Option Addr} {an__law_thing : Option Addr} {sl__law_thing : Array (Option Value)} {kV__law_thing : Value} {dc__law_thing : Value} {pm__law_thing : Value} {cd__law_thing : Value} {ct__law_thing : Value} {f__law_thing : Addr} {oc__law_asked : Value} {od__law_asked : Option Addr} {an__law_asked : Option Addr} {sl__law_asked : Array (Option Value)} {kV__law_asked : Value} {dc__law_asked : Value} {pm__law_asked : Value} {cd__law_asked : Value} {ct__law_asked : Value} {f__law_asked : Addr} {oc_law : Value} {od_law : Option Addr} {an_law : Option Addr} {sl_law : Array (Option Value)} {kV_law : Value} {dc_law : Value} {pm_law : Value} {cd_law : Value} {ct_law : Value} {f_law : Addr} {c_InvalidName : Addr} {i_InvalidName : Addr} {xN_InvalidName : Addr} {xB_InvalidName : Addr} {xnm_InvalidName : Str} {xq_InvalidName : Str} {xbs_InvalidName : List Value} {xsn_InvalidName : List Str} {xsub_InvalidName : List Value} {xab_InvalidName : Bool} {xcol_InvalidName : Option Bool} {xdd_InvalidName : Option Addr} {xm0_InvalidName : Option Value} {xm1_InvalidName : Option Value} {xm2_InvalidName : Option Value} {xm3_InvalidName : Option Value} {xm5_InvalidName : Option Value} {xoc_InvalidName : Value} {xod_InvalidName : Option Addr} {xdc_InvalidName : Value} {xpm_InvalidName : Value} {xan_InvalidName : Option Addr} {xcd_InvalidName : Value} {xct_InvalidName : Value} {xsl_InvalidName : Array (Option Value)} {t_MOST_TURNS : Tok} {t_MOST_ROOTS : Tok} {t_LATEST_ROOT : Tok} {t_LONGEST_NAME : Tok} {t_GREATEST_ITEM : Tok} {t_FREE_DEPTHS : Tok} {t_TURNS_DEPTHS : Tok} {t_GREATEST_PART : Tok}
    (H_g_Machine : PySem.W.nsIn K mainGlobals "Machine" = some (some (.ref c_Machine)))
    (H_g_Tree : PySem.W.nsIn K mainGlobals "Tree" = some (some (.ref c_Tree)))
    (H_a_is_integer : PySem.W.nsIn K mainGlobals "is_integer" = some (some (.ref f_is_integer)))
    (H_l_is_integer : K.lookup f_is_integer = some ⟨oc_is_integer, od_is_integer, .func (PySem.W.fnOf "is_integer" "is_integer" (defArgs s_is_integer) (defBody s_is_integer) (defScope s_is_integer) .none kV_is_integer dc_is_integer pm_is_integer an_is_integer cd_is_integer ct_is_integer), sl_is_integer⟩)
    (H_c_is_integer : PySem.W.codeIn K cd_is_integer "is_integer" = true)
    (H_k_is_integer : PySem.W.keepIn K (.ref f_is_integer) = true)
    (H_a_is_between : PySem.W.nsIn K mainGlobals "is_between" = some (some (.ref f_is_between)))
    (H_l_is_between : K.lookup f_is_between = some ⟨oc_is_between, od_is_between, .func (PySem.W.fnOf "is_between" "is_between" (defArgs s_is_between) (defBody s_is_between) (defScope s_is_between) .none kV_is_between dc_is_between pm_is_between an_is_between cd_is_between ct_is_between), sl_is_between⟩)
    (H_c_is_between : PySem.W.codeIn K cd_is_between "is_between" = true)
    (H_k_is_between : PySem.W.keepIn K (.ref f_is_between) = true)
    (H_a_check_turns : PySem.W.nsIn K mainGlobals "check_turns" = some (some (.ref f_check_turns)))
    (H_l_check_turns : K.lookup f_check_turns = some ⟨oc_check_turns, od_check_turns, .func (PySem.W.fnOf "check_turns" "check_turns" (defArgs s_check_turns) (defBody s_check_turns) (defScope s_check_turns) .none kV_check_turns dc_check_turns pm_check_turns an_check_turns cd_check_turns ct_check_turns), sl_check_turns⟩)
    (H_c_check_turns : PySem.W.codeIn K cd_check_turns "check_turns" = true)
    (H_k_check_turns : PySem.W.keepIn K (.ref f_check_turns) = true)
    (H_a_check_roots : PySem.W.nsIn K mainGlobals "check_roots" = some (some (.ref f_check_roots)))
    (H_l_check_roots : K.lookup f_check_roots = some ⟨oc_check_roots, od_check_roots, .func (PySem.W.fnOf "check_roots" "check_roots" (defArgs s_check_roots) (defBody s_check_roots) (defScope s_check_roots) .none kV_check_roots dc_check_roots pm_check_roots an_check_roots cd_check_roots ct_check_roots), sl_check_roots⟩)
    (H_c_check_roots : PySem.W.codeIn K cd_check_roots "check_roots" = true)
    (H_k_check_roots : PySem.W.keepIn K (.ref f_check_roots) = true)
    (H_a_wrong_in_name : PySem.W.nsIn K mainGlobals "wrong_in_name" = some (some (.ref f_wrong_in_name)))
    (H_l_wrong_in_name : K.lookup f_wrong_in_name = some ⟨oc_wrong_in_name, od_wrong_in_name, .func (PySem.W.fnOf "wrong_in_name" "wrong_in_name" (defArgs s_wrong_in_name) (defBody s_wrong_in_name) (defScope s_wrong_in_name) .none kV_wrong_in_name dc_wrong_in_name pm_wrong_in_name an_wrong_in_name cd_wrong_in_name ct_wrong_in_name), sl_wrong_in_name⟩)
    (H_c_wrong_in_name : PySem.W.codeIn K cd_wrong_in_name "wrong_in_name" = true)
    (H_k_wrong_in_name : PySem.W.keepIn K (.ref f_wrong_in_name) = true)
    (H_a_check_name : PySem.W.nsIn K mainGlobals "check_name" = some (some (.ref f_check_name)))
    (H_l_check_name : K.lookup f_check_name = some ⟨oc_check_name, od_check_name, .func (PySem.W.fnOf "check_name" "check_name" (defArgs s_check_name) (defBody s_check_name) (defScope s_check_name) .none kV_check_name dc_check_name pm_check_name an_check_name cd_check_name ct_check_name), sl_check_name⟩)
    (H_c_check_name : PySem.W.codeIn K cd_check_name "check_name" = true)
    (H_k_check_name : PySem.W.keepIn K (.ref f_check_name) = true)
    (H_a_Tree_init : PySem.W.findIn K (.ref c_Tree) "__init__" = some (some (.ref f_Tree_init)))
    (H_i_Tree_init : PySem.W.isFn K (.ref f_Tree_init) = true)
    (H_l_Tree_init : K.lookup f_Tree_init = some ⟨oc_Tree_init, od_Tree_init, .func (PySem.W.fnOf "__init__" "Tree.__init__" (defArgs s_Tree_init) (defBody s_Tree_init) (defScope s_Tree_init) .none kV_Tree_init dc_Tree_init pm_Tree_init an_Tree_init cd_Tree_init ct_Tree_init), sl_Tree_init⟩)
    (H_c_Tree_init : PySem.W.codeIn K cd_Tree_init "Tree.__init__" = true)
    (H_k_Tree_init : PySem.W.keepIn K (.ref f_Tree_init) = true)
    (H_a_time_of : PySem.W.nsIn K mainGlobals "time_of" = some (some (.ref f_time_of)))
    (H_l_time_of : K.lookup f_time_of = some ⟨oc_time_of, od_time_of, .func (PySem.W.fnOf "time_of" "time_of" (defArgs s_time_of) (defBody s_time_of) (defScope s_time_of) .none kV_time_of dc_time_of pm_time_of an_time_of cd_time_of ct_time_of), sl_time_of⟩)
    (H_c_time_of : PySem.W.codeIn K cd_time_of "time_of" = true)
    (H_k_time_of : PySem.W.keepIn K (.ref f_time_of) = true)
    (H_a_is_name : PySem.W.nsIn K mainGlobals "is_name" = some (some (.ref f_is_name)))
    (H_l_is_name : K.lookup f_is_name = some ⟨oc_is_name, od_is_name, .func (PySem.W.fnOf "is_name" "is_name" (defArgs s_is_name) (defBody s_is_name) (defScope s_is_name) .none (.ref D_is_name) dc_is_name pm_is_name an_is_name cd_is_name ct_is_name), sl_is_name⟩)
    (H_kw_is_name_turns : PySem.W.nsIn K D_is_name "turns" = some (some .none))
    (H_kw_is_name_roots : PySem.W.nsIn K D_is_name "roots" = some (some (.ref t_is_name_roots)))
    (H_tp_is_name_roots : K.lookup t_is_name_roots = some ⟨.type "tuple", td_is_name_roots, .seq #[.int 0 tk0_is_name_roots] tn_is_name_roots, ts_is_name_roots⟩)
    (H_c_is_name : PySem.W.codeIn K cd_is_name "is_name" = true)
    (H_k_is_name : PySem.W.keepIn K (.ref f_is_name) = true)
    (H_a_known_at : PySem.W.nsIn K mainGlobals "known_at" = some (some (.ref f_known_at)))
    (H_l_known_at : K.lookup f_known_at = some ⟨oc_known_at, od_known_at, .func (PySem.W.fnOf "known_at" "known_at" (defArgs s_known_at) (defBody s_known_at) (defScope s_known_at) .none (.ref D_known_at) dc_known_at pm_known_at an_known_at cd_known_at ct_known_at), sl_known_at⟩)
    (H_kw_known_at_turns : PySem.W.nsIn K D_known_at "turns" = some (some .none))
    (H_kw_known_at_roots : PySem.W.nsIn K D_known_at "roots" = some (some (.ref t_known_at_roots)))
    (H_tp_known_at_roots : K.lookup t_known_at_roots = some ⟨.type "tuple", td_known_at_roots, .seq #[.int 0 tk0_known_at_roots] tn_known_at_roots, ts_known_at_roots⟩)
    (H_c_known_at : PySem.W.codeIn K cd_known_at "known_at" = true)
    (H_k_known_at : PySem.W.keepIn K (.ref f_known_at) = true)
    (H_a_Machine_init : PySem.W.findIn K (.ref c_Machine) "__init__" = some (some (.ref f_Machine_init)))
    (H_i_Machine_init : PySem.W.isFn K (.ref f_Machine_init) = true)
    (H_l_Machine_init : K.lookup f_Machine_init = some ⟨oc_Machine_init, od_Machine_init, .func (PySem.W.fnOf "__init__" "Machine.__init__" (defArgs s_Machine_init) (defBody s_Machine_init) (defScope s_Machine_init) .none kV_Machine_init dc_Machine_init pm_Machine_init an_Machine_init cd_Machine_init ct_Machine_init), sl_Machine_init⟩)
    (H_c_Machine_init : PySem.W.codeIn K cd_Machine_init "Machine.__init__" = true)
    (H_k_Machine_init : PySem.W.keepIn K (.ref f_Machine_init) = true)
    (H_a__law_source : PySem.W.nsIn K mainGlobals "_law_source" = some (some (.ref f__law_source)))
    (H_l__law_source : K.lookup f__law_source = some ⟨oc__law_source, od__law_source, .func (PySem.W.fnOf "_law_source" "_law_source" (defArgs s__law_source) (defBody s__law_source) (defScope s__law_source) .none kV__law_source dc__law_source pm__law_source an__law_source cd__law_source ct__law_source), sl__law_source⟩)
    (H_c__law_source : PySem.W.codeIn K cd__law_source "_law_source" = true)
    (H_k__law_source : PySem.W.keepIn K (.ref f__law_source) = true)
    (H_a__law_draw : PySem.W.nsIn K mainGlobals "_law_draw" = some (some (.ref f__law_draw)))
    (H_l__law_draw : K.lookup f__law_draw = some ⟨oc__law_draw, od__law_draw, .func (PySem.W.fnOf "_law_draw" "_law_draw" (defArgs s__law_draw) (defBody s__law_draw) (defScope s__law_draw) .none kV__law_draw dc__law_draw pm__law_draw an__law_draw cd__law_draw ct__law_draw), sl__law_draw⟩)
    (H_c__law_draw : PySem.W.codeIn K cd__law_draw "_law_draw" = true)
    (H_k__law_draw : PySem.W.keepIn K (.ref f__law_draw) = true)
    (H_a__law_big : PySem.W.nsIn K mainGlobals "_law_big" = some (some (.ref f__law_big)))
    (H_l__law_big : K.lookup f__law_big = some ⟨oc__law_big, od__law_big, .func (PySem.W.fnOf "_law_big" "_law_big" (defArgs s__law_big) (defBody s__law_big) (defScope s__law_big) .none kV__law_big dc__law_big pm__law_big an__law_big cd__law_big ct__law_big), sl__law_big⟩)
    (H_c__law_big : PySem.W.codeIn K cd__law_big "_law_big" = true)
    (H_k__law_big : PySem.W.keepIn K (.ref f__law_big) = true)
    (H_a__law_numbers : PySem.W.nsIn K mainGlobals "_law_numbers" = some (some (.ref f__law_numbers)))
    (H_l__law_numbers : K.lookup f__law_numbers = some ⟨oc__law_numbers, od__law_numbers, .func (PySem.W.fnOf "_law_numbers" "_law_numbers" (defArgs s__law_numbers) (defBody s__law_numbers) (defScope s__law_numbers) .none kV__law_numbers dc__law_numbers pm__law_numbers an__law_numbers cd__law_numbers ct__law_numbers), sl__law_numbers⟩)
    (H_c__law_numbers : PySem.W.codeIn K cd__law_numbers "_law_numbers" = true)
    (H_k__law_numbers : PySem.W.keepIn K (.ref f__law_numbers) = true)
    (H_a__law_times : PySem.W.nsIn K mainGlobals "_law_times" = some (some (.ref f__law_times)))
    (H_l__law_times : K.lookup f__law_times = some ⟨oc__law_times, od__law_times, .func (PySem.W.fnOf "_law_times" "_law_times" (defArgs s__law_times) (defBody s__law_times) (defScope s__law_times) .none kV__law_times dc__law_times pm__law_times an__law_times cd__law_times ct__law_times), sl__law_times⟩)
    (H_c__law_times : PySem.W.codeIn K cd__law_times "_law_times" = true)
    (H_k__law_times : PySem.W.keepIn K (.ref f__law_times) = true)
    (H_a__law_within : PySem.W.nsIn K mainGlobals "_law_within" = some (some (.ref f__law_within)))
    (H_l__law_within : K.lookup f__law_within = some ⟨oc__law_within, od__law_within, .func (PySem.W.fnOf "_law_within" "_law_within" (defArgs s__law_within) (defBody s__law_within) (defScope s__law_within) .none kV__law_within dc__law_within pm__law_within an__law_within cd__law_within ct__law_within), sl__law_within⟩)
    (H_c__law_within : PySem.W.codeIn K cd__law_within "_law_within" = true)
    (H_k__law_within : PySem.W.keepIn K (.ref f__law_within) = true)
    (H_a__law_wrong : PySem.W.nsIn K mainGlobals "_law_wrong" = some (some (.ref f__law_wrong)))
    (H_l__law_wrong : K.lookup f__law_wrong = some ⟨oc__law_wrong, od__law_wrong, .func (PySem.W.fnOf "_law_wrong" "_law_wrong" (defArgs s__law_wrong) (defBody s__law_wrong) (defScope s__law_wrong) .none kV__law_wrong dc__law_wrong pm__law_wrong an__law_wrong cd__law_wrong ct__law_wrong), sl__law_wrong⟩)
    (H_c__law_wrong : PySem.W.codeIn K cd__law_wrong "_law_wrong" = true)
    (H_k__law_wrong : PySem.W.keepIn K (.ref f__law_wrong) = true)
    (H_a__law_thing : PySem.W.nsIn K mainGlobals "_law_thing" = some (some (.ref f__law_thing)))
    (H_l__law_thing : K.lookup f__law_thing = some ⟨oc__law_thing, od__law_thing, .func (PySem.W.fnOf "_law_thing" "_law_thing" (defArgs s__law_thing) (defBody s__law_thing) (defScope s__law_thing) .none kV__law_thing dc__law_thing pm__law_thing an__law_thing cd__law_thing ct__law_thing), sl__law_thing⟩)
    (H_c__law_thing : PySem.W.codeIn K cd__law_thing "_law_thing" = true)
    (H_k__law_thing : PySem.W.keepIn K (.ref f__law_thing) = true)
    (H_a__law_asked : PySem.W.nsIn K mainGlobals "_law_asked" = some (some (.ref f__law_asked)))
    (H_l__law_asked : K.lookup f__law_asked = some ⟨oc__law_asked, od__law_asked, .func (PySem.W.fnOf "_law_asked" "_law_asked" (defArgs s__law_asked) (defBody s__law_asked) (defScope s__law_asked) .none kV__law_asked dc__law_asked pm__law_asked an__law_asked cd__law_asked ct__law_asked), sl__law_asked⟩)
    (H_c__law_asked : PySem.W.codeIn K cd__law_asked "_law_asked" = true)
    (H_k__law_asked : PySem.W.keepIn K (.ref f__law_asked) = true)
    (H_a_law : PySem.W.nsIn K mainGlobals "law" = some (some (.ref f_law)))
    (H_l_law : K.lookup f_law = some ⟨oc_law, od_law, .func (PySem.W.fnOf "law" "law" (defArgs s_law) (defBody s_law) (defScope s_law) .none kV_law dc_law pm_law an_law cd_law ct_law), sl_law⟩)
    (H_c_law : PySem.W.codeIn K cd_law "law" = true)
    (H_k_law : PySem.W.keepIn K (.ref f_law) = true)
    (H_pg_Tree : PySem.W.plainGet K c_Tree Str.empty = true)
    (H_hd_Tree : PySem.W.hasDictIn K c_Tree = true)
    (H_po_Tree : PySem.W.plainOver K c_Tree = true)
    (H_sa_Tree : PySem.W.findIn K (.ref c_Tree) "__setattr__" = some (some (.builtin "object.__setattr__")))
    (H_mk_Tree : PySem.W.makesIn K c_Tree = true)
    (H_kc_Tree : PySem.W.keepIn K (.ref c_Tree) = true)
    (H_nF_Tree_letter : PySem.W.findIn K (.ref c_Tree) "letter" = some none)
    (H_nF_Tree_gap : PySem.W.findIn K (.ref c_Tree) "gap" = some none)
    (H_nF_Tree_turns : PySem.W.findIn K (.ref c_Tree) "turns" = some none)
    (H_nF_Tree_roots : PySem.W.findIn K (.ref c_Tree) "roots" = some none)
    (H_nF_Tree_horizon : PySem.W.findIn K (.ref c_Tree) "horizon" = some none)
    (H_nF_Tree_powers : PySem.W.findIn K (.ref c_Tree) "powers" = some none)
    (H_pg_Machine : PySem.W.plainGet K c_Machine Str.empty = true)
    (H_hd_Machine : PySem.W.hasDictIn K c_Machine = true)
    (H_po_Machine : PySem.W.plainOver K c_Machine = true)
    (H_sa_Machine : PySem.W.findIn K (.ref c_Machine) "__setattr__" = some (some (.builtin "object.__setattr__")))
    (H_mk_Machine : PySem.W.makesIn K c_Machine = true)
    (H_kc_Machine : PySem.W.keepIn K (.ref c_Machine) = true)
    (H_nF_Machine_o : PySem.W.findIn K (.ref c_Machine) "o" = some none)
    (H_nF_Machine_l : PySem.W.findIn K (.ref c_Machine) "l" = some none)
    (H_nF_Machine_g : PySem.W.findIn K (.ref c_Machine) "g" = some none)
    (H_nF_Machine_letter : PySem.W.findIn K (.ref c_Machine) "letter" = some none)
    (H_nF_Machine_gap : PySem.W.findIn K (.ref c_Machine) "gap" = some none)
    (H_g_InvalidName : PySem.W.nsIn K mainGlobals "InvalidName" = some (some (.ref c_InvalidName)))
    (H_k_InvalidName : PySem.W.keepIn K (.ref c_InvalidName) = true)
    (H_e_InvalidName : PySem.W.subIn K (.ref c_InvalidName) (.type "BaseException") = some true)
    (H_t_InvalidName : PySem.W.typeIn K (.ref c_InvalidName) = some (.type "type"))
    (H_I_InvalidName : PySem.W.isClsIn K c_InvalidName = true)
    (H_S_InvalidName : PySem.W.subIn K (.ref c_InvalidName) (.ref c_InvalidName) = some true)
    (H_l_InvalidName : K.lookup c_InvalidName = some (excClassObj xnm_InvalidName xq_InvalidName c_InvalidName xN_InvalidName xbs_InvalidName [.ref xB_InvalidName, .type "Exception", .type "BaseException", .type "object"] true xsn_InvalidName xsub_InvalidName xab_InvalidName xcol_InvalidName xdd_InvalidName xm0_InvalidName xm1_InvalidName xm2_InvalidName xm3_InvalidName xm5_InvalidName "Exception.__new__"))
    (H_sa_InvalidName : PySem.W.findIn K (.ref c_InvalidName) "__setattr__" = some (some (.builtin "object.__setattr__")))
    (H_ga_InvalidName : PySem.W.findIn K (.ref c_InvalidName) "__getattribute__" = some (some (.builtin "BaseException.__getattribute__")))
    (H_gg_InvalidName : PySem.W.findIn K (.ref c_InvalidName) "__getattr__" = some none)
    (H_no_InvalidName : PySem.W.findIn K (.ref c_InvalidName) "at" = some none)
    (H_in_InvalidName : PySem.W.findIn K (.ref c_InvalidName) "__init__" = some (some (.ref i_InvalidName)))
    (H_ti_InvalidName : PySem.W.typeIn K (.ref i_InvalidName) = some (.type "function"))
    (H_hd_InvalidName : PySem.W.hasDictIn K c_InvalidName = true)
    (H_lf_InvalidName : K.lookup i_InvalidName = some ⟨xoc_InvalidName, xod_InvalidName, .func (PySem.W.fnOf "__init__" "InvalidName.__init__" (PySem.MyXInvalidName.iA ⟨19, 17, 19, 21⟩ ⟨19, 23, 19, 25⟩) (PySem.MyXInvalidName.iB ⟨20, 8, 20, 12⟩ ⟨20, 8, 20, 15⟩ ⟨20, 18, 20, 20⟩ ⟨20, 8, 20, 20⟩) PySem.MyXInvalidName.iS .none .none xdc_InvalidName xpm_InvalidName xan_InvalidName xcd_InvalidName xct_InvalidName), xsl_InvalidName⟩)
    (H_cf_InvalidName : PySem.W.codeIn K xcd_InvalidName "InvalidName.__init__" = true)
    (H_n_bool : PySem.W.nsIn K mainGlobals "bool" = some none)
    (H_n_enumerate : PySem.W.nsIn K mainGlobals "enumerate" = some none)
    (H_n_int : PySem.W.nsIn K mainGlobals "int" = some none)
    (H_n_isinstance : PySem.W.nsIn K mainGlobals "isinstance" = some none)
    (H_n_len : PySem.W.nsIn K mainGlobals "len" = some none)
    (H_n_list : PySem.W.nsIn K mainGlobals "list" = some none)
    (H_n_max : PySem.W.nsIn K mainGlobals "max" = some none)
    (H_n_min : PySem.W.nsIn K mainGlobals "min" = some none)
    (H_n_range : PySem.W.nsIn K mainGlobals "range" = some none)
    (H_n_sum : PySem.W.nsIn K mainGlobals "sum" = some none)
    (H_n_tuple : PySem.W.nsIn K mainGlobals "tuple" = some none)
    (H_x_MOST_TURNS : PySem.W.nsIn K mainGlobals "MOST_TURNS" = some (some (.int 1000000000000 t_MOST_TURNS)))
    (H_x_MOST_ROOTS : PySem.W.nsIn K mainGlobals "MOST_ROOTS" = some (some (.int 6 t_MOST_ROOTS)))
    (H_x_LATEST_ROOT : PySem.W.nsIn K mainGlobals "LATEST_ROOT" = some (some (.int 1000000000000 t_LATEST_ROOT)))
    (H_x_LONGEST_NAME : PySem.W.nsIn K mainGlobals "LONGEST_NAME" = some (some (.int 200 t_LONGEST_NAME)))
    (H_x_GREATEST_ITEM : PySem.W.nsIn K mainGlobals "GREATEST_ITEM" = some (some (.int 1000000000000000 t_GREATEST_ITEM)))
    (H_x_FREE_DEPTHS : PySem.W.nsIn K mainGlobals "FREE_DEPTHS" = some (some (.int 120 t_FREE_DEPTHS)))
    (H_x_TURNS_DEPTHS : PySem.W.nsIn K mainGlobals "TURNS_DEPTHS" = some (some (.int 40 t_TURNS_DEPTHS)))
    (H_x_GREATEST_PART : PySem.W.nsIn K mainGlobals "GREATEST_PART" = some (some (.int 1000000000 t_GREATEST_PART)))
    (H_ca_Machine : PySem.W.findIn K (.ref c_Machine) "__class__" = some (some (.builtin "object.__class__")))
    (H_ct_Machine : PySem.W.takesIn K (.builtin "object.__class__") = some true)
    (H_cg_Machine : PySem.W.specialIn K (.builtin "object.__class__") "__get__" = some (some (.builtin "getset_descriptor.__get__")))
    (H_co_Machine : PySem.W.mroIn K c_Machine (.type "object") = some true)
    (H_ic_Machine : PySem.W.isClsIn K c_Machine = true)
    (H_tc_Machine : PySem.W.typeIn K (.ref c_Machine) = some (.type "type"))
    (H_su_int_Machine : PySem.W.subIn K (.ref c_Machine) (.type "int") = some false)
    (H_su_bool_Machine : PySem.W.subIn K (.ref c_Machine) (.type "bool") = some false)
    (H_su_tuple_Machine : PySem.W.subIn K (.ref c_Machine) (.type "tuple") = some false)
    : ∃ fd : FuncData, (∀ (s : Shared) (v : Value), BindsTo s fd ⟨[v], []⟩ [("_law_script", v)]) ∧ ∀ base : Heap, K.In base → base.Ns mainGlobals mg → FnOk P w K mg base CX0 10 fa fd ["_law_script"] (spLaw K) := by
  have e := hfa.symm.trans (PySem.W.mg_of X G H_a_law)
  cases e
  let a : Adr := { a_is_integer := f_is_integer, d_is_integer := PySem.W.fnOf "is_integer" "is_integer" (defArgs s_is_integer) (defBody s_is_integer) (defScope s_is_integer) .none kV_is_integer dc_is_integer pm_is_integer an_is_integer cd_is_integer ct_is_integer, a_is_between := f_is_between, d_is_between := PySem.W.fnOf "is_between" "is_between" (defArgs s_is_between) (defBody s_is_between) (defScope s_is_between) .none kV_is_between dc_is_between pm_is_between an_is_between cd_is_between ct_is_between, a_check_turns := f_check_turns, d_check_turns := PySem.W.fnOf "check_turns" "check_turns" (defArgs s_check_turns) (defBody s_check_turns) (defScope s_check_turns) .none kV_check_turns dc_check_turns pm_check_turns an_check_turns cd_check_turns ct_check_turns, a_check_roots := f_check_roots, d_check_roots := PySem.W.fnOf "check_roots" "check_roots" (defArgs s_check_roots) (defBody s_check_roots) (defScope s_check_roots) .none kV_check_roots dc_check_roots pm_check_roots an_check_roots cd_check_roots ct_check_roots, a_wrong_in_name := f_wrong_in_name, d_wrong_in_name := PySem.W.fnOf "wrong_in_name" "wrong_in_name" (defArgs s_wrong_in_name) (defBody s_wrong_in_name) (defScope s_wrong_in_name) .none kV_wrong_in_name dc_wrong_in_name pm_wrong_in_name an_wrong_in_name cd_wrong_in_name ct_wrong_in_name, a_check_name := f_check_name, d_check_name := PySem.W.fnOf "check_name" "check_name" (defArgs s_check_name) (defBody s_check_name) (defScope s_check_name) .none kV_check_name dc_check_name pm_check_name an_check_name cd_check_name ct_check_name, a_Tree_init := f_Tree_init, d_Tree_init := PySem.W.fnOf "__init__" "Tree.__init__" (defArgs s_Tree_init) (defBody s_Tree_init) (defScope s_Tree_init) .none kV_Tree_init dc_Tree_init pm_Tree_init an_Tree_init cd_Tree_init ct_Tree_init, a_time_of := f_time_of, d_time_of := PySem.W.fnOf "time_of" "time_of" (defArgs s_time_of) (defBody s_time_of) (defScope s_time_of) .none kV_time_of dc_time_of pm_time_of an_time_of cd_time_of ct_time_of, a_is_name := f_is_name, d_is_name := PySem.W.fnOf "is_name" "is_name" (defArgs s_is_name) (defBody s_is_name) (defScope s_is_name) .none (.ref D_is_name) dc_is_name pm_is_name an_is_name cd_is_name ct_is_name, t_is_name_roots := t_is_name_roots, a_known_at := f_known_at, d_known_at := PySem.W.fnOf "known_at" "known_at" (defArgs s_known_at) (defBody s_known_at) (defScope s_known_at) .none (.ref D_known_at) dc_known_at pm_known_at an_known_at cd_known_at ct_known_at, t_known_at_roots := t_known_at_roots, a_Machine_init := f_Machine_init, d_Machine_init := PySem.W.fnOf "__init__" "Machine.__init__" (defArgs s_Machine_init) (defBody s_Machine_init) (defScope s_Machine_init) .none kV_Machine_init dc_Machine_init pm_Machine_init an_Machine_init cd_Machine_init ct_Machine_init, a__law_source := f__law_source, d__law_source := PySem.W.fnOf "_law_source" "_law_source" (defArgs s__law_source) (defBody s__law_source) (defScope s__law_source) .none kV__law_source dc__law_source pm__law_source an__law_source cd__law_source ct__law_source, a__law_draw := f__law_draw, d__law_draw := PySem.W.fnOf "_law_draw" "_law_draw" (defArgs s__law_draw) (defBody s__law_draw) (defScope s__law_draw) .none kV__law_draw dc__law_draw pm__law_draw an__law_draw cd__law_draw ct__law_draw, a__law_big := f__law_big, d__law_big := PySem.W.fnOf "_law_big" "_law_big" (defArgs s__law_big) (defBody s__law_big) (defScope s__law_big) .none kV__law_big dc__law_big pm__law_big an__law_big cd__law_big ct__law_big, a__law_numbers := f__law_numbers, d__law_numbers := PySem.W.fnOf "_law_numbers" "_law_numbers" (defArgs s__law_numbers) (defBody s__law_numbers) (defScope s__law_numbers) .none kV__law_numbers dc__law_numbers pm__law_numbers an__law_numbers cd__law_numbers ct__law_numbers, a__law_times := f__law_times, d__law_times := PySem.W.fnOf "_law_times" "_law_times" (defArgs s__law_times) (defBody s__law_times) (defScope s__law_times) .none kV__law_times dc__law_times pm__law_times an__law_times cd__law_times ct__law_times, a__law_within := f__law_within, d__law_within := PySem.W.fnOf "_law_within" "_law_within" (defArgs s__law_within) (defBody s__law_within) (defScope s__law_within) .none kV__law_within dc__law_within pm__law_within an__law_within cd__law_within ct__law_within, a__law_wrong := f__law_wrong, d__law_wrong := PySem.W.fnOf "_law_wrong" "_law_wrong" (defArgs s__law_wrong) (defBody s__law_wrong) (defScope s__law_wrong) .none kV__law_wrong dc__law_wrong pm__law_wrong an__law_wrong cd__law_wrong ct__law_wrong, a__law_thing := f__law_thing, d__law_thing := PySem.W.fnOf "_law_thing" "_law_thing" (defArgs s__law_thing) (defBody s__law_thing) (defScope s__law_thing) .none kV__law_thing dc__law_thing pm__law_thing an__law_thing cd__law_thing ct__law_thing, a__law_asked := f__law_asked, d__law_asked := PySem.W.fnOf "_law_asked" "_law_asked" (defArgs s__law_asked) (defBody s__law_asked) (defScope s__law_asked) .none kV__law_asked dc__law_asked pm__law_asked an__law_asked cd__law_asked ct__law_asked, a_law := fa, d_law := PySem.W.fnOf "law" "law" (defArgs s_law) (defBody s_law) (defScope s_law) .none kV_law dc_law pm_law an_law cd_law ct_law, c_Tree := c_Tree, c_Machine := c_Machine, c_InvalidName := c_InvalidName, i_InvalidName := i_InvalidName }
  have F_is_integer := fun_mk (st := s_is_integer) H_l_is_integer H_c_is_integer H_k_is_integer
  have F_is_between := fun_mk (st := s_is_between) H_l_is_between H_c_is_between H_k_is_between
  have F_check_turns := fun_mk (st := s_check_turns) H_l_check_turns H_c_check_turns H_k_check_turns
  have F_check_roots := fun_mk (st := s_check_roots) H_l_check_roots H_c_check_roots H_k_check_roots
  have F_wrong_in_name := fun_mk (st := s_wrong_in_name) H_l_wrong_in_name H_c_wrong_in_name H_k_wrong_in_name
  have F_check_name := fun_mk (st := s_check_name) H_l_check_name H_c_check_name H_k_check_name
  have F_Tree_init := fun_mk (st := s_Tree_init) H_l_Tree_init H_c_Tree_init H_k_Tree_init
  have F_time_of := fun_mk (st := s_time_of) H_l_time_of H_c_time_of H_k_time_of
  have F_is_name : FunD K "is_name" "is_name" (defArgs s_is_name) (defBody s_is_name) (defScope s_is_name) [] [("turns", .non), ("roots", .ref t_is_name_roots)] f_is_name (PySem.W.fnOf "is_name" "is_name" (defArgs s_is_name) (defBody s_is_name) (defScope s_is_name) .none (.ref D_is_name) dc_is_name pm_is_name an_is_name cd_is_name ct_is_name) :=
    ⟨⟨_, _, .none, .ref D_is_name, _, _, _, _, _, _, rfl, H_l_is_name, H_c_is_name, .inl ⟨rfl, rfl⟩, .inr ⟨D_is_name, rfl, fun q hq => by
      simp only [List.mem_cons, List.not_mem_nil, or_false] at hq
      rcases hq with rfl | rfl
      · exact ⟨.none, H_kw_is_name_turns, rfl⟩
      · exact ⟨.ref t_is_name_roots, H_kw_is_name_roots, rfl⟩
      ⟩⟩, H_k_is_name⟩
  have F_known_at : FunD K "known_at" "known_at" (defArgs s_known_at) (defBody s_known_at) (defScope s_known_at) [] [("turns", .non), ("roots", .ref t_known_at_roots)] f_known_at (PySem.W.fnOf "known_at" "known_at" (defArgs s_known_at) (defBody s_known_at) (defScope s_known_at) .none (.ref D_known_at) dc_known_at pm_known_at an_known_at cd_known_at ct_known_at) :=
    ⟨⟨_, _, .none, .ref D_known_at, _, _, _, _, _, _, rfl, H_l_known_at, H_c_known_at, .inl ⟨rfl, rfl⟩, .inr ⟨D_known_at, rfl, fun q hq => by
      simp only [List.mem_cons, List.not_mem_nil, or_false] at hq
      rcases hq with rfl | rfl
      · exact ⟨.none, H_kw_known_at_turns, rfl⟩
      · exact ⟨.ref t_known_at_roots, H_kw_known_at_roots, rfl⟩
      ⟩⟩, H_k_known_at⟩
  have F_Machine_init := fun_mk (st := s_Machine_init) H_l_Machine_init H_c_Machine_init H_k_Machine_init
  have F__law_source := fun_mk (st := s__law_source) H_l__law_source H_c__law_source H_k__law_source
  have F__law_draw := fun_mk (st := s__law_draw) H_l__law_draw H_c__law_draw H_k__law_draw
  have F__law_big := fun_mk (st := s__law_big) H_l__law_big H_c__law_big H_k__law_big
  have F__law_numbers := fun_mk (st := s__law_numbers) H_l__law_numbers H_c__law_numbers H_k__law_numbers
  have F__law_times := fun_mk (st := s__law_times) H_l__law_times H_c__law_times H_k__law_times
  have F__law_within := fun_mk (st := s__law_within) H_l__law_within H_c__law_within H_k__law_within
  have F__law_wrong := fun_mk (st := s__law_wrong) H_l__law_wrong H_c__law_wrong H_k__law_wrong
  have F__law_thing := fun_mk (st := s__law_thing) H_l__law_thing H_c__law_thing H_k__law_thing
  have F__law_asked := fun_mk (st := s__law_asked) H_l__law_asked H_c__law_asked H_k__law_asked
  have F_law := fun_mk (st := s_law) H_l_law H_c_law H_k_law
  have T : Txt K mg a := {
    F_is_integer := F_is_integer,
    b_is_integer := F_is_integer.binds (ps := ["thing"]) fun _ _ _ _ _ _ us hl => match us, hl with | [_], _ => rfl,
    g_is_integer := PySem.W.mg_of X G H_a_is_integer,
    F_is_between := F_is_between,
    b_is_between := F_is_between.binds (ps := ["thing", "low", "high"]) fun _ _ _ _ _ _ us hl => match us, hl with | [_, _, _], _ => rfl,
    g_is_between := PySem.W.mg_of X G H_a_is_between,
    F_check_turns := F_check_turns,
    b_check_turns := F_check_turns.binds (ps := ["turns"]) fun _ _ _ _ _ _ us hl => match us, hl with | [_], _ => rfl,
    g_check_turns := PySem.W.mg_of X G H_a_check_turns,
    F_check_roots := F_check_roots,
    b_check_roots := F_check_roots.binds (ps := ["roots"]) fun _ _ _ _ _ _ us hl => match us, hl with | [_], _ => rfl,
    g_check_roots := PySem.W.mg_of X G H_a_check_roots,
    F_wrong_in_name := F_wrong_in_name,
    b_wrong_in_name := F_wrong_in_name.binds (ps := ["thing", "turns", "roots"]) fun _ _ _ _ _ _ us hl => match us, hl with | [_, _, _], _ => rfl,
    g_wrong_in_name := PySem.W.mg_of X G H_a_wrong_in_name,
    F_check_name := F_check_name,
    b_check_name := F_check_name.binds (ps := ["thing", "turns", "roots"]) fun _ _ _ _ _ _ us hl => match us, hl with | [_, _, _], _ => rfl,
    g_check_name := PySem.W.mg_of X G H_a_check_name,
    F_Tree_init := F_Tree_init,
    b_Tree_init := F_Tree_init.binds (ps := ["self", "machine", "turns", "roots"]) fun _ _ _ _ _ _ us hl => match us, hl with | [_, _, _, _], _ => rfl,
    mk_Tree := ⟨H_mk_Tree, H_a_Tree_init, H_i_Tree_init, H_kc_Tree⟩,
    F_time_of := F_time_of,
    b_time_of := F_time_of.binds (ps := ["tree", "name"]) fun _ _ _ _ _ _ us hl => match us, hl with | [_, _], _ => rfl,
    g_time_of := PySem.W.mg_of X G H_a_time_of,
    F_is_name := F_is_name,
    t_is_name_roots := fun _ => .inr ⟨_, _, _, H_tp_is_name_roots, rfl, rfl, (by show 1 ≤ sizeLine; decide), .cons ⟨_, rfl⟩ (.nil)⟩,
    g_is_name := PySem.W.mg_of X G H_a_is_name,
    F_known_at := F_known_at,
    t_known_at_roots := fun _ => .inr ⟨_, _, _, H_tp_known_at_roots, rfl, rfl, (by show 1 ≤ sizeLine; decide), .cons ⟨_, rfl⟩ (.nil)⟩,
    g_known_at := PySem.W.mg_of X G H_a_known_at,
    F_Machine_init := F_Machine_init,
    b_Machine_init := F_Machine_init.binds (ps := ["self", "o", "l", "g"]) fun _ _ _ _ _ _ us hl => match us, hl with | [_, _, _, _], _ => rfl,
    mk_Machine := ⟨H_mk_Machine, H_a_Machine_init, H_i_Machine_init, H_kc_Machine⟩,
    F__law_source := F__law_source,
    b__law_source := F__law_source.binds (ps := ["_law_script"]) fun _ _ _ _ _ _ us hl => match us, hl with | [_], _ => rfl,
    g__law_source := PySem.W.mg_of X G H_a__law_source,
    F__law_draw := F__law_draw,
    b__law_draw := F__law_draw.binds (ps := ["_law_source_here", "_law_limit"]) fun _ _ _ _ _ _ us hl => match us, hl with | [_, _], _ => rfl,
    g__law_draw := PySem.W.mg_of X G H_a__law_draw,
    F__law_big := F__law_big,
    b__law_big := F__law_big.binds (ps := ["_law_source_here", "_law_limit"]) fun _ _ _ _ _ _ us hl => match us, hl with | [_, _], _ => rfl,
    g__law_big := PySem.W.mg_of X G H_a__law_big,
    F__law_numbers := F__law_numbers,
    b__law_numbers := F__law_numbers.binds (ps := ["_law_source_here"]) fun _ _ _ _ _ _ us hl => match us, hl with | [_], _ => rfl,
    g__law_numbers := PySem.W.mg_of X G H_a__law_numbers,
    F__law_times := F__law_times,
    b__law_times := F__law_times.binds (ps := ["_law_numbers_here"]) fun _ _ _ _ _ _ us hl => match us, hl with | [_], _ => rfl,
    g__law_times := PySem.W.mg_of X G H_a__law_times,
    F__law_within := F__law_within,
    b__law_within := F__law_within.binds (ps := ["_law_thing_here", "_law_low", "_law_high"]) fun _ _ _ _ _ _ us hl => match us, hl with | [_, _, _], _ => rfl,
    g__law_within := PySem.W.mg_of X G H_a__law_within,
    F__law_wrong := F__law_wrong,
    b__law_wrong := F__law_wrong.binds (ps := ["_law_thing_here", "_law_turns", "_law_many"]) fun _ _ _ _ _ _ us hl => match us, hl with | [_, _, _], _ => rfl,
    g__law_wrong := PySem.W.mg_of X G H_a__law_wrong,
    F__law_thing := F__law_thing,
    b__law_thing := F__law_thing.binds (ps := ["_law_source_here", "_law_turns", "_law_many", "_law_machine"]) fun _ _ _ _ _ _ us hl => match us, hl with | [_, _, _, _], _ => rfl,
    g__law_thing := PySem.W.mg_of X G H_a__law_thing,
    F__law_asked := F__law_asked,
    b__law_asked := F__law_asked.binds (ps := ["_law_machine", "_law_thing_here", "_law_turns", "_law_roots"]) fun _ _ _ _ _ _ us hl => match us, hl with | [_, _, _, _], _ => rfl,
    g__law_asked := PySem.W.mg_of X G H_a__law_asked,
    F_law := F_law,
    b_law := F_law.binds (ps := ["_law_script"]) fun _ _ _ _ _ _ us hl => match us, hl with | [_], _ => rfl,
    g_law := PySem.W.mg_of X G H_a_law,
    g_Tree := PySem.W.mg_of X G H_g_Tree,
    cl_Tree := ⟨H_pg_Tree, H_hd_Tree, H_po_Tree, H_sa_Tree⟩,
    nF_Tree_letter := H_nF_Tree_letter,
    nF_Tree_gap := H_nF_Tree_gap,
    nF_Tree_turns := H_nF_Tree_turns,
    nF_Tree_roots := H_nF_Tree_roots,
    nF_Tree_horizon := H_nF_Tree_horizon,
    nF_Tree_powers := H_nF_Tree_powers,
    g_Machine := PySem.W.mg_of X G H_g_Machine,
    cl_Machine := ⟨H_pg_Machine, H_hd_Machine, H_po_Machine, H_sa_Machine⟩,
    nF_Machine_o := H_nF_Machine_o,
    nF_Machine_l := H_nF_Machine_l,
    nF_Machine_g := H_nF_Machine_g,
    nF_Machine_letter := H_nF_Machine_letter,
    nF_Machine_gap := H_nF_Machine_gap,
    n_bool := PySem.W.mg_none_of X G H_n_bool,
    n_enumerate := PySem.W.mg_none_of X G H_n_enumerate,
    n_int := PySem.W.mg_none_of X G H_n_int,
    n_isinstance := PySem.W.mg_none_of X G H_n_isinstance,
    n_len := PySem.W.mg_none_of X G H_n_len,
    n_list := PySem.W.mg_none_of X G H_n_list,
    n_max := PySem.W.mg_none_of X G H_n_max,
    n_min := PySem.W.mg_none_of X G H_n_min,
    n_range := PySem.W.mg_none_of X G H_n_range,
    n_sum := PySem.W.mg_none_of X G H_n_sum,
    n_tuple := PySem.W.mg_none_of X G H_n_tuple,
    g_MOST_TURNS := ⟨_, PySem.W.mg_of X G H_x_MOST_TURNS⟩,
    g_MOST_ROOTS := ⟨_, PySem.W.mg_of X G H_x_MOST_ROOTS⟩,
    g_LATEST_ROOT := ⟨_, PySem.W.mg_of X G H_x_LATEST_ROOT⟩,
    g_LONGEST_NAME := ⟨_, PySem.W.mg_of X G H_x_LONGEST_NAME⟩,
    g_GREATEST_ITEM := ⟨_, PySem.W.mg_of X G H_x_GREATEST_ITEM⟩,
    g_FREE_DEPTHS := ⟨_, PySem.W.mg_of X G H_x_FREE_DEPTHS⟩,
    g_TURNS_DEPTHS := ⟨_, PySem.W.mg_of X G H_x_TURNS_DEPTHS⟩,
    g_GREATEST_PART := ⟨_, PySem.W.mg_of X G H_x_GREATEST_PART⟩,
    ca_Machine := H_ca_Machine,
    ct_Machine := H_ct_Machine,
    cg_Machine := H_cg_Machine,
    co_Machine := H_co_Machine,
    ic_Machine := H_ic_Machine,
    tc_Machine := H_tc_Machine,
    su_int_Machine := H_su_int_Machine,
    su_bool_Machine := H_su_bool_Machine,
    su_tuple_Machine := H_su_tuple_Machine,
    g_InvalidName := PySem.W.mg_of X G H_g_InvalidName,
    x_InvalidName := ⟨PySem.W.mg_of X G H_g_InvalidName, ⟨⟨_, _, _, _, _, _, _, _, _, _, _, _, _, _, _, H_l_InvalidName, PySem.MyX.exT _⟩, H_sa_InvalidName, H_ga_InvalidName, H_gg_InvalidName, H_no_InvalidName, H_in_InvalidName, H_ti_InvalidName, H_k_InvalidName, H_e_InvalidName, H_t_InvalidName, H_hd_InvalidName⟩, ⟨_, _, _, _, _, _, _, _, _, _, _, _, _, _, H_lf_InvalidName, H_cf_InvalidName⟩⟩,
    m_InvalidName := exm_self H_e_InvalidName H_I_InvalidName H_t_InvalidName H_S_InvalidName }
  exact ⟨a.d_law, fun s v => .of_eq rfl, fun base _ _ => ok_law T⟩
theorem walk {l : PySem.W.OpenLaw} {q : Program} {loose : List Str} {XP : (Str → Option Value) → Heap → Prop} {YP : World → Heap → Prop} {d : DefRec} {K : Params → PySem.W.Frag} (hn : l.most = some 63) (hdf : d.params.defaults = [])
    (hY : ∀ (w : World) (h : Heap), YP w h → (K w.params).In h)
    (F : ∀ (w : World) (mg : Str → Option Value) (fa : Addr) (h : Heap), (K w.params).In h → h.Ns mainGlobals mg → mg d.name = some (.ref fa) →
      ∃ fd : FuncData, (∀ (s : Shared) (u : Value), BindsTo s fd ⟨[u], []⟩ [("_law_script", u)]) ∧ ∀ base : Heap, (K w.params).In base → base.Ns mainGlobals mg → FnOk l.prog w (K w.params) mg base CX0 10 fa fd ["_law_script"] (spLaw (K w.params))) :
    PySem.W.WalkO q loose XP YP l.row.toRowW d [] (fun f vs => PySem.call f vs) :=
  L2.walk_of (n := 63) (k := 10) (x := "_law_script") (CX := fun _ => CX0) (sp := fun w => spLaw (K w.params)) hn (by decide) hdf ⟨rfl, by decide, by decide⟩ hY F (fun _ _ a ns hl _ hS => ⟨a, ns, rfl, hS, hl, fun _ => rfl⟩) fun _ _ _ _ _ z => z
end My
open PySem PySem.W PyProof.Rows
set_option maxRecDepth 100000 in
set_option maxHeartbeats 0 in
theorem PySem.Challenge.cw_tellontree_k14_names_and_their_times_holds : PySem.Challenge.rw_tellontree_k14_names_and_their_times.Holds := by
  w_on; o_law; k_head; (case hw => w_witness2)
  k_fill
  refine My.walk (l := PySem.Challenge.rw_tellontree_k14_names_and_their_times) rfl rfl (fun w h Y => PySem.W.kIn_of Y) ?F
  case F =>
    intro w mg fa h KX G hmg
    refine' My.all_mk KX G hmg ?H_g_Machine ?H_g_Tree ?H_a_is_integer ?H_l_is_integer ?H_c_is_integer ?H_k_is_integer ?H_a_is_between ?H_l_is_between ?H_c_is_between ?H_k_is_between ?H_a_check_turns ?H_l_check_turns ?H_c_check_turns ?H_k_check_turns ?H_a_check_roots ?H_l_check_roots ?H_c_check_roots ?H_k_check_roots ?H_a_wrong_in_name ?H_l_wrong_in_name ?H_c_wrong_in_name ?H_k_wrong_in_name ?H_a_check_name ?H_l_check_name ?H_c_check_name ?H_k_check_name ?H_a_Tree_init ?H_i_Tree_init ?H_l_Tree_init ?H_c_Tree_init ?H_k_Tree_init ?H_a_time_of ?H_l_time_of ?H_c_time_of ?H_k_time_of ?H_a_is_name ?H_l_is_name ?H_kw_is_name_turns ?H_kw_is_name_roots ?H_tp_is_name_roots ?H_c_is_name ?H_k_is_name ?H_a_known_at ?H_l_known_at ?H_kw_known_at_turns ?H_kw_known_at_roots ?H_tp_known_at_roots ?H_c_known_at ?H_k_known_at ?H_a_Machine_init ?H_i_Machine_init ?H_l_Machine_init ?H_c_Machine_init ?H_k_Machine_init ?H_a__law_source ?H_l__law_source ?H_c__law_source ?H_k__law_source ?H_a__law_draw ?H_l__law_draw ?H_c__law_draw ?H_k__law_draw ?H_a__law_big ?H_l__law_big ?H_c__law_big ?H_k__law_big ?H_a__law_numbers ?H_l__law_numbers ?H_c__law_numbers ?H_k__law_numbers ?H_a__law_times ?H_l__law_times ?H_c__law_times ?H_k__law_times ?H_a__law_within ?H_l__law_within ?H_c__law_within ?H_k__law_within ?H_a__law_wrong ?H_l__law_wrong ?H_c__law_wrong ?H_k__law_wrong ?H_a__law_thing ?H_l__law_thing ?H_c__law_thing ?H_k__law_thing ?H_a__law_asked ?H_l__law_asked ?H_c__law_asked ?H_k__law_asked ?H_a_law ?H_l_law ?H_c_law ?H_k_law ?H_pg_Tree ?H_hd_Tree ?H_po_Tree ?H_sa_Tree ?H_mk_Tree ?H_kc_Tree ?H_nF_Tree_letter ?H_nF_Tree_gap ?H_nF_Tree_turns ?H_nF_Tree_roots ?H_nF_Tree_horizon ?H_nF_Tree_powers ?H_pg_Machine ?H_hd_Machine ?H_po_Machine ?H_sa_Machine ?H_mk_Machine ?H_kc_Machine ?H_nF_Machine_o ?H_nF_Machine_l ?H_nF_Machine_g ?H_nF_Machine_letter ?H_nF_Machine_gap ?H_g_InvalidName ?H_k_InvalidName ?H_e_InvalidName ?H_t_InvalidName ?H_I_InvalidName ?H_S_InvalidName ?H_l_InvalidName ?H_sa_InvalidName ?H_ga_InvalidName ?H_gg_InvalidName ?H_no_InvalidName ?H_in_InvalidName ?H_ti_InvalidName ?H_hd_InvalidName ?H_lf_InvalidName ?H_cf_InvalidName ?H_n_bool ?H_n_enumerate ?H_n_int ?H_n_isinstance ?H_n_len ?H_n_list ?H_n_max ?H_n_min ?H_n_range ?H_n_sum ?H_n_tuple ?H_x_MOST_TURNS ?H_x_MOST_ROOTS ?H_x_LATEST_ROOT ?H_x_LONGEST_NAME ?H_x_GREATEST_ITEM ?H_x_FREE_DEPTHS ?H_x_TURNS_DEPTHS ?H_x_GREATEST_PART ?H_ca_Machine ?H_ct_Machine ?H_cg_Machine ?H_co_Machine ?H_ic_Machine ?H_tc_Machine ?H_su_int_Machine ?H_su_bool_Machine ?H_su_tuple_Machine
    (case H_g_Machine => k_is)
    (case H_g_Tree => k_is)
    (case H_a_is_integer => k_is)
    (case H_l_is_integer => k_is)
    (case H_c_is_integer => k_is)
    (case H_k_is_integer => k_is)
    (case H_a_is_between => k_is)
    (case H_l_is_between => k_is)
    (case H_c_is_between => k_is)
    (case H_k_is_between => k_is)
    (case H_a_check_turns => k_is)
    (case H_l_check_turns => k_is)
    (case H_c_check_turns => k_is)
    (case H_k_check_turns => k_is)
    (case H_a_check_roots => k_is)
    (case H_l_check_roots => k_is)
    (case H_c_check_roots => k_is)
    (case H_k_check_roots => k_is)
    (case H_a_wrong_in_name => k_is)
    (case H_l_wrong_in_name => k_is)
    (case H_c_wrong_in_name => k_is)
    (case H_k_wrong_in_name => k_is)
    (case H_a_check_name => k_is)
    (case H_l_check_name => k_is)
    (case H_c_check_name => k_is)
    (case H_k_check_name => k_is)
    (case H_a_Tree_init => k_is)
    (case H_i_Tree_init => k_is)
    (case H_l_Tree_init => k_is)
    (case H_c_Tree_init => k_is)
    (case H_k_Tree_init => k_is)
    (case H_a_time_of => k_is)
    (case H_l_time_of => k_is)
    (case H_c_time_of => k_is)
    (case H_k_time_of => k_is)
    (case H_a_is_name => k_is)
    (case H_l_is_name => k_is)
    (case H_kw_is_name_turns => k_is)
    (case H_kw_is_name_roots => k_is)
    (case H_tp_is_name_roots => k_is)
    (case H_c_is_name => k_is)
    (case H_k_is_name => k_is)
    (case H_a_known_at => k_is)
    (case H_l_known_at => k_is)
    (case H_kw_known_at_turns => k_is)
    (case H_kw_known_at_roots => k_is)
    (case H_tp_known_at_roots => k_is)
    (case H_c_known_at => k_is)
    (case H_k_known_at => k_is)
    (case H_a_Machine_init => k_is)
    (case H_i_Machine_init => k_is)
    (case H_l_Machine_init => k_is)
    (case H_c_Machine_init => k_is)
    (case H_k_Machine_init => k_is)
    (case H_a__law_source => k_is)
    (case H_l__law_source => k_is)
    (case H_c__law_source => k_is)
    (case H_k__law_source => k_is)
    (case H_a__law_draw => k_is)
    (case H_l__law_draw => k_is)
    (case H_c__law_draw => k_is)
    (case H_k__law_draw => k_is)
    (case H_a__law_big => k_is)
    (case H_l__law_big => k_is)
    (case H_c__law_big => k_is)
    (case H_k__law_big => k_is)
    (case H_a__law_numbers => k_is)
    (case H_l__law_numbers => k_is)
    (case H_c__law_numbers => k_is)
    (case H_k__law_numbers => k_is)
    (case H_a__law_times => k_is)
    (case H_l__law_times => k_is)
    (case H_c__law_times => k_is)
    (case H_k__law_times => k_is)
    (case H_a__law_within => k_is)
    (case H_l__law_within => k_is)
    (case H_c__law_within => k_is)
    (case H_k__law_within => k_is)
    (case H_a__law_wrong => k_is)
    (case H_l__law_wrong => k_is)
    (case H_c__law_wrong => k_is)
    (case H_k__law_wrong => k_is)
    (case H_a__law_thing => k_is)
    (case H_l__law_thing => k_is)
    (case H_c__law_thing => k_is)
    (case H_k__law_thing => k_is)
    (case H_a__law_asked => k_is)
    (case H_l__law_asked => k_is)
    (case H_c__law_asked => k_is)
    (case H_k__law_asked => k_is)
    (case H_a_law => k_is)
    (case H_l_law => k_is)
    (case H_c_law => k_is)
    (case H_k_law => k_is)
    (case H_pg_Tree => k_is)
    (case H_hd_Tree => k_is)
    (case H_po_Tree => k_is)
    (case H_sa_Tree => k_is)
    (case H_mk_Tree => k_is)
    (case H_kc_Tree => k_is)
    (case H_nF_Tree_letter => k_is)
    (case H_nF_Tree_gap => k_is)
    (case H_nF_Tree_turns => k_is)
    (case H_nF_Tree_roots => k_is)
    (case H_nF_Tree_horizon => k_is)
    (case H_nF_Tree_powers => k_is)
    (case H_pg_Machine => k_is)
    (case H_hd_Machine => k_is)
    (case H_po_Machine => k_is)
    (case H_sa_Machine => k_is)
    (case H_mk_Machine => k_is)
    (case H_kc_Machine => k_is)
    (case H_nF_Machine_o => k_is)
    (case H_nF_Machine_l => k_is)
    (case H_nF_Machine_g => k_is)
    (case H_nF_Machine_letter => k_is)
    (case H_nF_Machine_gap => k_is)
    (case H_g_InvalidName => k_is)
    (case H_k_InvalidName => k_is)
    (case H_e_InvalidName => k_is)
    (case H_t_InvalidName => k_is)
    (case H_I_InvalidName => k_is)
    (case H_S_InvalidName => k_is)
    (case H_l_InvalidName => k_is)
    (case H_sa_InvalidName => k_is)
    (case H_ga_InvalidName => k_is)
    (case H_gg_InvalidName => k_is)
    (case H_no_InvalidName => k_is)
    (case H_in_InvalidName => k_is)
    (case H_ti_InvalidName => k_is)
    (case H_hd_InvalidName => k_is)
    (case H_lf_InvalidName => k_is)
    (case H_cf_InvalidName => k_is)
    (case H_n_bool => k_is)
    (case H_n_enumerate => k_is)
    (case H_n_int => k_is)
    (case H_n_isinstance => k_is)
    (case H_n_len => k_is)
    (case H_n_list => k_is)
    (case H_n_max => k_is)
    (case H_n_min => k_is)
    (case H_n_range => k_is)
    (case H_n_sum => k_is)
    (case H_n_tuple => k_is)
    (case H_x_MOST_TURNS => k_is)
    (case H_x_MOST_ROOTS => k_is)
    (case H_x_LATEST_ROOT => k_is)
    (case H_x_LONGEST_NAME => k_is)
    (case H_x_GREATEST_ITEM => k_is)
    (case H_x_FREE_DEPTHS => k_is)
    (case H_x_TURNS_DEPTHS => k_is)
    (case H_x_GREATEST_PART => k_is)
    (case H_ca_Machine => k_is)
    (case H_ct_Machine => k_is)
    (case H_cg_Machine => k_is)
    (case H_co_Machine => k_is)
    (case H_ic_Machine => k_is)
    (case H_tc_Machine => k_is)
    (case H_su_int_Machine => k_is)
    (case H_su_bool_Machine => k_is)
    (case H_su_tuple_Machine => k_is)
