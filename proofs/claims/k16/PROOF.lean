import PyProof.Rows.All
import Wide.All
import OpenK.AllK
import Wide.FinOn
import HandS.Base
import HandS.Call
import HandS.List
import HandS.Comp
import HandS.Iter
import HandS.Ends
import HandS.Words
import HandS.WordsList
import HandS.IsInst
import HandS.Wide
import HandS.Style
import HandS.ClsMeth
import HandS.Defaults
import HandS.MakeKwOnly
import HandS.SlotsOwn
import HandS.Dict
import HandS.Gcd
import HandS.Exc
import HandS.ExcOwn
import HandS.TryOnly
import HandS.TryMany
import HandS.ExcField
import HandS.WordsExc
import KE.KExcInit
import HandS.SetFor
import HandS.Small
import HandS.Flow
import HandS.More
import HandS.Deep
import HandS.Conv
import KE.KMathGC
import KE.GoesMore
import KE.KTupSum
import KE.DataMinMax
import KE.DatumOrd
import HandS.SortKw
import KE.SortKeyHeap
import KE.SortData
import HandS.TupSets
import HandS.TupAny
import HandS.GenBody
import HandS.GenCall
import HandS.GenYield
import HandS.GenList
import PySem.Challenge.RW_tellontree_k16_names_until_a_time
set_option Elab.async false
set_option linter.all false
set_option maxRecDepth 100000
namespace My
open PySem L2
def top (i : Nat) : Stmt := PySem.Challenge.pw_tellontree_k16_names_until_a_time.main.body.getD i (.Pass ⟨0, 0, 0, 0⟩)
abbrev s_is_integer : Stmt := top 13
theorem sc_is_integer : FnScope ["thing"] ["thing"] (defScope s_is_integer) := ⟨rfl, rfl, rfl, by decide +kernel, rfl, by decide +kernel, by decide +kernel⟩
abbrev s_is_between : Stmt := top 14
theorem sc_is_between : FnScope ["thing", "low", "high"] ["thing", "low", "high"] (defScope s_is_between) := ⟨rfl, rfl, rfl, by decide +kernel, rfl, by decide +kernel, by decide +kernel⟩
abbrev s_check_turns : Stmt := top 15
theorem sc_check_turns : FnScope ["turns"] ["turns"] (defScope s_check_turns) := ⟨rfl, rfl, rfl, by decide +kernel, rfl, by decide +kernel, by decide +kernel⟩
abbrev s_check_roots : Stmt := top 16
theorem sc_check_roots : FnScope ["roots", "before", "at", "root"] ["roots"] (defScope s_check_roots) := ⟨rfl, rfl, rfl, by decide +kernel, rfl, by decide +kernel, by decide +kernel⟩
abbrev s_check_time : Stmt := top 17
theorem sc_check_time : FnScope ["time", "latest"] ["time", "latest"] (defScope s_check_time) := ⟨rfl, rfl, rfl, by decide +kernel, rfl, by decide +kernel, by decide +kernel⟩
abbrev s_Tree_init : Stmt := inClass (top 21) 0
theorem sc_Tree_init : FnScope ["self", "machine", "turns", "roots", "k"] ["self", "machine", "turns", "roots"] (defScope s_Tree_init) := ⟨rfl, rfl, rfl, by decide +kernel, rfl, by decide +kernel, by decide +kernel⟩
abbrev s_Tree_sum_occurs : Stmt := inClass (top 21) 3
theorem sc_Tree_sum_occurs : FnScope ["self", "k", "worth"] ["self", "k", "worth"] (defScope s_Tree_sum_occurs) := ⟨rfl, rfl, rfl, by decide +kernel, rfl, by decide +kernel, by decide +kernel⟩
abbrev s_names_in_order : Stmt := top 24
theorem sc_names_in_order : FnScope ["tree", "most", "until", "queue", "names", "time", "k", "name", "r", "root"] ["tree", "most", "until"] (defScope s_names_in_order) := ⟨rfl, rfl, rfl, by decide +kernel, rfl, by decide +kernel, by decide +kernel⟩
abbrev s_names_until : Stmt := top 25
theorem sc_names_until : GScope ["machine", "t", "turns", "roots", "tree", "names", "name"] ["machine", "t", "turns", "roots"] (defScope s_names_until) := ⟨rfl, rfl, rfl, by decide +kernel, rfl, by decide +kernel, by decide +kernel⟩
abbrev s_Machine_init : Stmt := inClass (top 28) 0
theorem sc_Machine_init : FnScope ["self", "o", "l", "g"] ["self", "o", "l", "g"] (defScope s_Machine_init) := ⟨rfl, rfl, rfl, by decide +kernel, rfl, by decide +kernel, by decide +kernel⟩
abbrev s__law_source : Stmt := top 30
theorem sc__law_source : FnScope ["_law_script", "_law_cell"] ["_law_script"] (defScope s__law_source) := ⟨rfl, rfl, rfl, by decide +kernel, rfl, by decide +kernel, by decide +kernel⟩
abbrev s__law_draw : Stmt := top 31
theorem sc__law_draw : FnScope ["_law_source_here", "_law_limit", "_law_cell", "_law_digit", "_law_one", "_law_two", "_law_three"] ["_law_source_here", "_law_limit"] (defScope s__law_draw) := ⟨rfl, rfl, rfl, by decide +kernel, rfl, by decide +kernel, by decide +kernel⟩
abbrev s__law_big : Stmt := top 32
theorem sc__law_big : FnScope ["_law_source_here", "_law_limit", "_law_number", "_law_k"] ["_law_source_here", "_law_limit"] (defScope s__law_big) := ⟨rfl, rfl, rfl, by decide +kernel, rfl, by decide +kernel, by decide +kernel⟩
abbrev s__law_numbers : Stmt := top 33
theorem sc__law_numbers : FnScope ["_law_source_here", "_law_kind", "_law_tops", "_law_o", "_law_l", "_law_g"] ["_law_source_here"] (defScope s__law_numbers) := ⟨rfl, rfl, rfl, by decide +kernel, rfl, by decide +kernel, by decide +kernel⟩
abbrev s__law_times : Stmt := top 34
theorem sc__law_times : FnScope ["_law_numbers_here"] ["_law_numbers_here"] (defScope s__law_times) := ⟨rfl, rfl, rfl, by decide +kernel, rfl, by decide +kernel, by decide +kernel⟩
abbrev s__law_is : Stmt := top 35
theorem sc__law_is : FnScope ["_law_thing", "_law_due"] ["_law_thing", "_law_due"] (defScope s__law_is) := ⟨rfl, rfl, rfl, by decide +kernel, rfl, by decide +kernel, by decide +kernel⟩
abbrev s__law_same_names : Stmt := top 36
theorem sc__law_same_names : FnScope ["_law_thing", "_law_due", "_law_k", "_law_at"] ["_law_thing", "_law_due"] (defScope s__law_same_names) := ⟨rfl, rfl, rfl, by decide +kernel, rfl, by decide +kernel, by decide +kernel⟩
abbrev s__law_first : Stmt := top 37
theorem sc__law_first : FnScope ["_law_letter", "_law_gap", "_law_turns", "_law_roots", "_law_many", "_law_end", "_law_waiting", "_law_found", "_law_k", "_law_first_here", "_law_time", "_law_depth", "_law_name", "_law_r"] ["_law_letter", "_law_gap", "_law_turns", "_law_roots", "_law_many", "_law_end"] (defScope s__law_first) := ⟨rfl, rfl, rfl, by decide +kernel, rfl, by decide +kernel, by decide +kernel⟩
abbrev s__law_told : Stmt := top 38
theorem sc__law_told : FnScope ["_law_machine", "_law_t", "_law_turns", "_law_roots", "_law_names", "e"] ["_law_machine", "_law_t", "_law_turns", "_law_roots"] (defScope s__law_told) := ⟨rfl, rfl, rfl, by decide +kernel, rfl, by decide +kernel, by decide +kernel⟩
abbrev s_law : Stmt := top 39
theorem sc_law : FnScope ["_law_script", "_law_source_here", "_law_numbers_here", "_law_letter", "_law_gap", "_law_machine", "_law_turns", "_law_roots", "_law_k", "_law_last", "_law_first_here", "_law_times_here", "_law_t", "_law_due", "_law_told_here", "_law_row"] ["_law_script"] (defScope s_law) := ⟨rfl, rfl, rfl, by decide +kernel, rfl, by decide +kernel, by decide +kernel⟩
/-! ### core: rules that the layer lacks, what a draw's source is -/
section
variable {X : Cx}
/-- xs[i], read ahead of xs[i] op= e -/
theorem gt_list : PGet X (rIxL X.K) := by
  intro pins s σ H x y v u Q I rx ry h
  obtain ⟨p, xs, i, z, rfl, rfl, hq, he, q⟩ := h
  cases rx
  obtain ⟨t, rfl⟩ := ry
  obtain ⟨its, r, pl, hz⟩ := I.list hq
  obtain ⟨j, h1, h2, h3, h4, h5⟩ := atI_get he
  obtain ⟨w, ew, rw'⟩ := r.get h2
  have hl := r.length
  have hn := line63
  have fin : EP X pins σ Q w s := ⟨z, H, I, rw', q⟩
  by_cases h0 : 0 ≤ i
  · have hj : i.toNat = j := by
      rw [seqIndex_of h0 h5] at h1
      exact Option.some.inj h1
    exact PySem.wpAny_getItem_list pl.isList h0 (by omega) (by rw [hj]; simpa using ew) fin
  · have hj : (i + (its.toArray.size : Int)).toNat = j := by
      rw [seqIndex_neg (by omega) h4] at h1
      rw [List.size_toArray, ← hl]
      exact Option.some.inj h1
    exact PySem.wpAny_getItem_list_neg pl.isList (by omega) (by rw [List.size_toArray] <;> omega) (by omega) (by rw [hj]; simpa using ew) fin
end
theorem pe_powN {X : Cx} {i j z : Int} {p q pos : Pos} {k l : Nat} (hc : CPow i j) (h : i ^ j.toNat = z) : PE X (.BinOp (.Constant (.int i) k p) .Pow (.Constant (.int j) l q) pos) (tC (.int z)) :=
  ⟨fun pins s σ H Q I g => (pe_op op_pow pe_int pe_int).run pins s σ H Q I ⟨i, j, rfl, rfl, hc, by show Q (.int (i ^ j.toNat)) H; rw [h]; exact g⟩⟩
theorem ite_tt {c A B : Prop} [Decidable c] (hc : c) (h : A) : if decide c = true then A else B := by
  rw [if_pos (decide_eq_true hc)]
  exact h
theorem ite_ff {c A B : Prop} [Decidable c] (hc : ¬ c) (h : B) : if decide c = true then A else B := by
  rw [if_neg (by rw [decide_eq_false hc]; exact Bool.false_ne_true)]
  exact h
theorem ite_d {c A B : Prop} [Decidable c] (h1 : c → A) (h2 : ¬ c → B) : if decide c = true then A else B := by
  by_cases hc : c
  · exact ite_tt hc (h1 hc)
  · exact ite_ff hc (h2 hc)
theorem ite_b {b : Bool} {A B : Prop} (h1 : b = true → A) (h2 : b = false → B) : if b = true then A else B := by
  cases b with
  | true => exact iteT (h1 rfl)
  | false => exact iteF (h2 rfl)
/-! ### readings, turn by turn -/
/-- a new object -/
def NewAt (n : Nat) (o : HO) (H : Hp) (Q : VK) : Prop := n ≤ sizeLine ∧ ∀ p, H p = none → Q (.ref p) (upd H p o)
theorem Same.new {H : Hp} {p : Addr} {o : HO} (h : H p = none) : Same H (upd H p o) := fun b u e => by rw [upd_ne (ne_of_none e h)]; exact e
theorem Same.at {H H' : Hp} {b : Addr} {o : HO} (s : Same H H') (h : H b = some o) : H' b = some o := s b o h
/-- all but what stands at p is as it was -/
def But (p : Addr) (H H' : Hp) : Prop := ∀ b o, H b = some o → b ≠ p → H' b = some o
theorem But.refl (p : Addr) (H : Hp) : But p H H := fun _ _ h _ => h
theorem But.trans {p : Addr} {H H1 H2 : Hp} (a : But p H H1) (b : But p H1 H2) : But p H H2 := fun c o h n => b c o (a c o h n) n
theorem But.of_same {p : Addr} {H H' : Hp} (h : Same H H') : But p H H' := fun b o e _ => h b o e
theorem But.upd {p : Addr} {H : Hp} {o : HO} : But p H (upd H p o) := fun b u h n => by rw [upd_ne n]; exact h
theorem But.at {p b : Addr} {H H' : Hp} {o : HO} (s : But p H H') (n : b ≠ p) (h : H b = some o) : H' b = some o := s b o h n
theorem But.new {p q : Addr} {H : Hp} {o : HO} (h : H q = none) : But p H (L2.upd H q o) := But.of_same (Same.new h)
theorem But.some {p b : Addr} {H H' : Hp} {o : HO} (s : But p H H') (h : H b = Option.some o) (n : b ≠ p) : ∃ u, H' b = Option.some u := ⟨o, s b o h n⟩
theorem _root_.L2.Same.over {H H' : Hp} {D : Addr} {o u : HO} (s : Same H H') (n : H D = none) (e : H' D = some u) (hu : True := trivial) : Same H (upd H' D o) := fun b v h => (upd_ne (ne_of_none h n)).trans (s b v h)
theorem _root_.L2.Same.made0 {H : Hp} {x dx C : Addr} (nx : H x = none) (nd : H dx = none) : Same H (L2.upd (L2.upd H dx (.own x)) x (.ins C dx [])) := fun b o e => by
  rw [upd_ne (ne_of_none e nx), upd_ne (ne_of_none e nd)]; exact e
theorem But.updNone {H H' : Hp} {x L : Addr} {o : HO} (b : But x H H') (n : H L = none) : But x H (L2.upd H' L o) := fun c u hc hn => (upd_ne (ne_of_none hc n)).trans (b c u hc hn)
theorem But.updOver {H H' : Hp} {x L : Addr} {o u : HO} (b : But x H H') (n : H L = none) (e : H' L = Option.some u) : But x H (L2.upd H' L o) := b.updNone n

theorem new_at {n : Nat} {o : HO} {H : Hp} {Q : VK} (hn : n ≤ 1000) (k : ∀ p H', H p = none → Same H H' → H' p = some o → Q (.ref p) H') : NewAt n o H Q :=
  ⟨Nat.le_trans hn (by decide), fun p hp => k p _ hp (Same.new hp) upd_same⟩
theorem new_of {o : HO} {H : Hp} {Q : VK} (k : ∀ p H', H p = none → Same H H' → H' p = some o → Q (.ref p) H') : ∀ p, H p = none → Q (.ref p) (upd H p o) := fun p hp => k p _ hp (Same.new hp) upd_same
section
variable {K : PySem.W.Frag} {σ : St} {H : Hp} {Q : VK} {ta tb tc : TE} {x y v : V} {D : Ends} {t u : TS} {QT : Bool → Hp → Prop} {QA : List V → Hp → Prop} {i j : Int} {n m : Nat}
theorem r_var (e : σ[n]? = some (some v)) (q : Q v H) : tVar n σ H Q := ⟨v, e, q⟩
theorem r_c (q : Q v H) : tC v σ H Q := q
theorem r_op {r : R2} (h : ta σ H fun x H1 => tb σ H1 fun y H2 => r x y H2 Q) : tOp r ta tb σ H Q := h
theorem r_un {r : V → Hp → VK → Prop} (h : ta σ H fun x H1 => r x H1 Q) : tUn r ta σ H Q := h
theorem r_I0 {g : Int → Int → V} (q : Q (g i j) H) : rI0 g (.int i) (.int j) H Q := ⟨i, j, rfl, rfl, q⟩
theorem r_I {C : Int → Int → Prop} {g : Int → Int → V} (c : C i j) (q : Q (g i j) H) : rI C g (.int i) (.int j) H Q := ⟨i, j, rfl, rfl, c, q⟩
theorem r_add (q : Q (.int (i + j)) H) : rAdd (.int i) (.int j) H Q := ⟨i, j, rfl, rfl, q⟩
theorem r_sub (q : Q (.int (i - j)) H) : rSub (.int i) (.int j) H Q := ⟨i, j, rfl, rfl, q⟩
theorem r_U {g : Int → V} (q : Q (g i) H) : rU g (.int i) H Q := ⟨i, rfl, q⟩
theorem r_eqI (q : Q (.bl (decide (i = j))) H) : rEq (.int i) (.int j) H Q := ⟨rfl, by
  have e : decide (V.int i = V.int j) = decide (i = j) := by
    by_cases h : i = j
    · subst h; rw [decide_eq_true rfl, decide_eq_true rfl]
    · rw [decide_eq_false h, decide_eq_false fun z => h (V.int.inj z)]
  rw [e]; exact q⟩
theorem r_neI (q : Q (.bl (!decide (i = j))) H) : rNe (.int i) (.int j) H Q := ⟨rfl, by
  have e : decide (V.int i = V.int j) = decide (i = j) := by
    by_cases h : i = j
    · subst h; rw [decide_eq_true rfl, decide_eq_true rfl]
    · rw [decide_eq_false h, decide_eq_false fun z => h (V.int.inj z)]
  rw [e]; exact q⟩
theorem r_ixL {p : Addr} {xs : List V} (h : H p = some (.lst xs)) (e : atI xs i = some v) (q : Q v H) : rIxL K (.ref p) (.int i) H Q := ⟨p, xs, i, v, rfl, rfl, SqL.of h, e, q⟩
theorem r_ixT {p : Addr} {xs : List V} (h : H p = some (.tup xs)) (e : atI xs i = some v) (q : Q v H) : rIxT K (.ref p) (.int i) H Q := ⟨p, xs, i, v, rfl, rfl, SqT.of h, e, q⟩
theorem r_test (h : ta σ H fun x H' => ∃ k, x = .bl k ∧ QT k H') : tTest ta σ H QT := h
theorem r_tB (h : ta σ H fun x H' => ∃ k, x = .bl k ∧ QT k H') : tB ta σ H QT := h
theorem r_bl {b : Bool} {R : Bool → Prop} (h : R b) : ∃ k, V.bl b = .bl k ∧ R k := ⟨b, rfl, h⟩
theorem r_not {t : TT} (h : t σ H fun c H1 => QT (!c) H1) : tNot t σ H QT := h
theorem r_and {t u : TT} (h : t σ H fun c H1 => if c = true then u σ H1 QT else QT false H1) : tAnd t u σ H QT := h
theorem r_or {t u : TT} (h : t σ H fun c H1 => if c = true then QT true H1 else u σ H1 QT) : tOr t u σ H QT := h
theorem r_notV (h : ta σ H fun x H1 => ∃ c, x = .bl c ∧ Q (.bl (!c)) H1) : tNotV ta σ H Q := h
theorem r_andV (h : ta σ H fun x H1 => ∃ c, x = .bl c ∧ if c = true then tb σ H1 Q else Q (.bl false) H1) : tAndV ta tb σ H Q := h
theorem r_orV (h : ta σ H fun x H1 => ∃ c, x = .bl c ∧ if c = true then Q (.bl true) H1 else tb σ H1 Q) : tOrV ta tb σ H Q := h
theorem r_ifE {t : TT} (h : t σ H fun c H1 => if c = true then ta σ H1 Q else tb σ H1 Q) : tIf t ta tb σ H Q := h
theorem r_seq (h : t { D with nx := u D } σ H) : tSeq t u D σ H := h
theorem r_next (h : D.nx σ H) : tNext D σ H := h
theorem r_brk (h : D.bk σ H) : tBreak D σ H := h
theorem r_cont (h : D.ct σ H) : tCont D σ H := h
theorem r_drop (h : ta σ H fun _ H1 => D.nx σ H1) : tDrop ta D σ H := h
theorem r_ret (h : ta σ H D.rt) : tRet ta D σ H := h
theorem r_ifS {c : TT} (h : c σ H fun b H1 => if b = true then t D σ H1 else u D σ H1) : tIfS c t u D σ H := h
theorem r_asg {g : TG} (h : ta σ H fun x H1 => g x σ H1 D.nx) : tAsg ta g D σ H := h
theorem r_gName {R : St → Hp → Prop} (h : R (σ.set n (some v)) H) : gName n v σ H R := h
theorem r_gSub {s : TSet} {R : St → Hp → Prop} (h : ta σ H fun o H1 => tb σ H1 fun i H2 => s o i v H2 fun H3 => R σ H3) : gSub ta tb s v σ H R := h
theorem r_setL {p : Addr} {xs : List V} {k : Nat} {R : Hp → Prop} (h : H p = some (.lst xs)) (e : ixN xs.length i = some k) (q : R (upd H p (.lst (xs.set k v)))) : rSetL (.ref p) (.int i) v H R := ⟨p, xs, i, k, rfl, rfl, h, e, q⟩
theorem r_aug {ti : TIp} (e : σ[n]? = some (some x)) (h : ta σ H fun y H1 => ti x y H1 fun z H2 => D.nx (σ.set n (some z)) H2) : tAug n ta ti D σ H := ⟨x, e, h⟩
theorem r_augS {tg : V → V → Hp → VK → Prop} {tip : TIp} {ts : TSet} (h : ta σ H fun o H1 => tb σ H1 fun i H2 => tg o i H2 fun x H3 => tc σ H3 fun y H4 => tip x y H4 fun z H5 => ts o i z H5 fun H6 => D.nx σ H6) : tAugS ta tb tc tg tip ts D σ H := h
theorem r_ip {f : Int → Int → Int} (q : Q (.int (f i j)) H) : ipI f (.int i) (.int j) H Q := ⟨i, j, rfl, rfl, q⟩
theorem r_nil (h : QA [] H) : tNil σ H QA := h
theorem r_cons {tr : TA} (h : ta σ H fun x H1 => tr σ H1 fun xs H2 => QA (x :: xs) H2) : tCons ta tr σ H QA := h
theorem r_tup {t : TA} (h : t σ H fun xs H1 => NewAt xs.length (.tup xs) H1 Q) : tTup t σ H Q := h
theorem r_lst {t : TA} (h : t σ H fun xs H1 => NewAt xs.length (.lst xs) H1 Q) : tLst t σ H Q := h
theorem r_CB {r : List V → Hp → VK → Prop} {t : TA} (h : t σ H fun vs H1 => r vs H1 Q) : tCB r t σ H Q := h
theorem r_call {sp : Sp} {dvs : List V} {E : XK} {t : TA} (h : t σ H fun vs H1 => sp (vs ++ dvs) H1 Q E) : tCall sp dvs E t σ H Q := h
theorem r_callN {k l : Nat} {sp : Sp} {gV : List V → List V → List V} {E : XK} {t tk : TA} (h : t σ H fun vs H1 => tk σ H1 fun zs H2 => vs.length = k ∧ zs.length = l ∧ sp (gV vs zs) H2 Q E) : tCallN k l sp gV E t tk σ H Q := h
theorem r_fld {p C dx : Addr} {fs : List (Str × V)} {f : Str} {R : V → Prop} (hc : Cls K C) (hn : NoAttr K C f) (hx : H p = some (.ins C dx fs)) (e : fs.lookup f = some v) (q : R v) : (∃ a C dx fs v, V.ref p = .ref a ∧ H a = some (.ins C dx fs) ∧ Cls K C ∧ NoAttr K C f ∧ fs.lookup f = some v ∧ R v) := ⟨p, C, dx, fs, v, rfl, hx, hc, hn, e, q⟩
theorem r_tFld {f : Str} (h : ta σ H fun x H1 => ∃ a C dx fs v, x = .ref a ∧ H1 a = some (.ins C dx fs) ∧ Cls K C ∧ NoAttr K C f ∧ fs.lookup f = some v ∧ Q v H1) : tFld K ta f σ H Q := h
theorem r_sl {r : V → Option Int → Option Int → Hp → VK → Prop} {tl th : TO} (h : ta σ H fun x H1 => tl σ H1 fun l H2 => th σ H2 fun u H3 => r x l u H3 Q) : tSl r ta tl th σ H Q := h
theorem r_noP {R : Option Int → Hp → Prop} (h : R none H) : tNoPart σ H R := h
theorem r_part {R : Option Int → Hp → Prop} (h : ta σ H fun x H1 => ∃ i, x = .int i ∧ R (some i) H1) : tPart ta σ H R := h
theorem r_in {R : Int → Prop} (h : R i) : ∃ k, V.int i = .int k ∧ R k := ⟨i, rfl, h⟩
theorem r_Bm {T : String} {r : V → List V → Hp → VK → Prop} {t : TA} (h : ta σ H fun x H1 => tyV K T x H1 ∧ t σ H1 fun xs H2 => r x xs H2 Q) : tBM K T r ta t σ H Q := h
theorem r_app {l : Addr} {xs : List V} (h : H l = some (.lst xs)) (hz : xs.length < sizeLine) (q : Q .non (upd H l (.lst (xs ++ [y])))) : rAppend (.ref l) [y] H Q := ⟨l, xs, y, rfl, rfl, h, hz, q⟩
end
theorem at_nat {ns : List Int} {i : Int} (h0 : 0 ≤ i) (h : i < (ns.map V.int).length) : ∃ n, atI (ns.map V.int) i = some (.int n) ∧ n ∈ ns := by
  obtain ⟨j, rfl⟩ : ∃ j : Nat, i = j := ⟨i.toNat, by omega⟩
  rw [List.length_map] at h
  have hj : j < ns.length := by omega
  exact ⟨ns[j], atI_nat (by rw [List.getElem?_map, List.getElem?_eq_getElem hj]; rfl), List.getElem_mem hj⟩
theorem fmod_nn {a b : Int} (h : 0 < b) : 0 ≤ a.fmod b := by rw [Int.fmod_eq_emod_of_nonneg a (by omega)]; exact Int.emod_nonneg a (by omega)
theorem fmod_lt {a b : Int} (h : 0 < b) : a.fmod b < b := by rw [Int.fmod_eq_emod_of_nonneg a (by omega)]; exact Int.emod_lt_of_pos a h
theorem lim_div {lim : Int} (h0 : 0 < lim) (h : lim < 2 ^ 200) : CDivW lim lim := wide_div (b := 200) h0 (by omega) (by decide) (by decide)
theorem cdiv_of {i lim : Int} (h0 : 0 < lim) (h : lim < 2 ^ 200) : CDivW i lim := ⟨h0, (lim_div h0 h).2⟩
theorem mulL {i j : Int} (h1 : -(2 ^ 64) < i) (h2 : i < 2 ^ 64) : CMul i j := Or.inl ⟨h1, h2⟩
theorem mulR {i j : Int} (h1 : -(2 ^ 64) < j) (h2 : j < 2 ^ 64) : CMul i j := Or.inr ⟨h1, h2⟩
theorem powOk {i j : Int} (h1 : 0 ≤ j) (h2 : j ≤ 1000000) (h3 : i.natAbs < 2 ^ 64) : CPow i j := ⟨h1, h2, h3⟩
theorem r_for {wi : TI} {g : TG} {tb : TS} {D : Ends} {σ : St} {H : Hp} (h : wi σ H fun J H1 => ∃ W : Nat → Nat → St → Hp → Prop, (∃ m, W 0 m σ H1) ∧ ∀ i m σ H, W i m σ H →
  (J.stop i H ∧ D.nx σ H) ∨ (J.go i H ∧ ∃ N : St → Hp → Prop, (∀ σ' H', N σ' H' → ∃ m', m' < m ∧ W (i + 1) m' σ' H') ∧ ∀ x H', J.yld i H x H' → g x σ H' fun σ2 H2 => tb { D with nx := N, ct := N, bk := D.nx } σ2 H2)) : tFor wi g tb D σ H := h
theorem r_iR1 {ta : TA} {σ : St} {H : Hp} {R : It → Hp → Prop} (h : ta σ H fun vs H1 => ∃ j : Int, vs = [.int j] ∧ -(2 ^ 62) ≤ j ∧ j < 2 ^ 62 ∧ R (Itr 0 j.toNat) H1) : iRng1 ta σ H R := h
theorem r_iR2 {ta : TA} {σ : St} {H : Hp} {R : It → Hp → Prop} (h : ta σ H fun vs H1 => ∃ i j : Int, vs = [.int i, .int j] ∧ (-(2 ^ 62) ≤ i ∧ i < 2 ^ 62 ∧ -(2 ^ 62) ≤ j ∧ j < 2 ^ 62) ∧ R (Itr i (j - i).toNat) H1) : iRng2 ta σ H R := h
theorem r_tMeth {C : Addr} {m : Str} {sp : Sp} {dvs : List V} {E : XK} {ta : TE} {t : TA} {σ : St} {H : Hp} {Q : VK} (h : ta σ H fun x H1 => ∃ a dx fs, x = .ref a ∧ H1 a = some (.ins C dx fs) ∧ fs.lookup m = none ∧ t σ H1 fun vs H2 => sp (x :: (vs ++ dvs)) H2 Q E) : tMeth C m sp dvs E ta t σ H Q := h
theorem r_meth {C p dx : Addr} {fs : List (Str × V)} {m : Str} {H : Hp} {R : Prop} (hx : H p = some (.ins C dx fs)) (hl : fs.lookup m = none) (q : R) : ∃ a dx fs, V.ref p = .ref a ∧ H a = some (.ins C dx fs) ∧ fs.lookup m = none ∧ R := ⟨p, dx, fs, rfl, hx, hl, q⟩
theorem r_iT {K : PySem.W.Frag} {tl : TE} {σ : St} {H : Hp} {R : It → Hp → Prop} (h : tl σ H fun x H1 => ∃ a, x = .ref a ∧ (∃ xs, SqT K H1 a xs) ∧ R (Itt K a) H1) : iTup K tl σ H R := h
theorem r_iL {K : PySem.W.Frag} {tl : TE} {σ : St} {H : Hp} {R : It → Hp → Prop} (h : tl σ H fun x H1 => ∃ a, x = .ref a ∧ (∃ xs, SqL K H1 a xs) ∧ R (Itl K a) H1) : iList K tl σ H R := h
theorem r_lc {wi : TI} {g : TG} {tt : TT} {te : TE} {vs : List Nat} {σ : St} {H : Hp} {Q : VK} (h : wi σ H fun J H1 => ∀ D, H1 D = none → ∃ W : Nat → Nat → Hp → Prop, (∃ m, W 0 m (upd H1 D (.lst []))) ∧ ∀ i m H, W i m H →
  (J.stop i H ∧ Q (.ref D) H) ∨ (J.go i H ∧ ∃ Nx : Hp → Prop, (∀ H', Nx H' → ∃ m', m' < m ∧ W (i + 1) m' H') ∧ ∀ x H', J.yld i H x H' → g x (wipe σ vs) H' fun σ2 H2 => wipe σ2 vs = wipe σ vs ∧ tt σ2 H2 fun b H3 =>
    if b = true then te σ2 H3 fun y H4 => ∃ acc, H4 D = some (.lst acc) ∧ acc.length < sizeLine ∧ Nx (upd H4 D (.lst (acc ++ [y]))) else Nx H3)) : tLc wi g tt te vs σ H Q := h
theorem r_isiI {K : PySem.W.Frag} {H : Hp} {Q : VK} {i : Int} {n : String} (b : Bool) (h : kitB "int" n = some b) (q : Q (.bl b) H) : rIsi K [.int i, .ty n] H Q := ⟨_, _, .type "int", .type n, b, rfl, .ty n, .base (.int i), kit_ty h, q⟩
theorem r_isiB {K : PySem.W.Frag} {H : Hp} {Q : VK} {i : Bool} {n : String} (b : Bool) (h : kitB "bool" n = some b) (q : Q (.bl b) H) : rIsi K [.bl i, .ty n] H Q := ⟨_, _, .type "bool", .type n, b, rfl, .ty n, .base (.bl i), kit_ty h, q⟩
theorem r_slL {K : PySem.W.Frag} {H : Hp} {Q : VK} {a : Addr} {xs : List V} {lo hi : Option Int} (h : SqL K H a xs) (q : ∀ p H', H p = none → Same H H' → H' p = some (.lst (cutV xs lo hi)) → Q (.ref p) H') : rSlL K (.ref a) lo hi H Q := ⟨a, xs, rfl, h, new_of q⟩
theorem r_slT {K : PySem.W.Frag} {H : Hp} {Q : VK} {a : Addr} {xs : List V} {lo hi : Option Int} (h : SqT K H a xs) (hn : ¬ (HT.sIx xs.length 0 lo = 0 ∧ HT.sIx xs.length xs.length hi = xs.length)) (q : ∀ p H', H p = none → Same H H' → H' p = some (.tup (cutV xs lo hi)) → Q (.ref p) H') : rSlT K (.ref a) lo hi H Q := ⟨a, xs, rfl, h, hn, new_of q⟩
def rListOf (K : PySem.W.Frag) : List V → Hp → VK → Prop := fun xs H Q => ∃ p ys, xs = [.ref p] ∧ (SqL K H p ys ∨ SqT K H p ys) ∧ ∀ l, H l = none → Q (.ref l) (upd H l (.lst ys))
def rTupOf (K : PySem.W.Frag) : List V → Hp → VK → Prop := fun xs H Q => ∃ p ys, xs = [.ref p] ∧ ((SqL K H p ys ∧ ∀ l, H l = none → Q (.ref l) (upd H l (.tup ys))) ∨ (SqT K H p ys ∧ Q (.ref p) H))
theorem cr_list {X : Cx} : CallR X (.type "list") (rListOf X.K) := call_list_of
theorem cr_tup {X : Cx} : CallR X (.type "tuple") (rTupOf X.K) := call_tuple_of
theorem r_listS {K : PySem.W.Frag} {H : Hp} {Q : VK} {a : Addr} {xs : List V} (h : SqL K H a xs ∨ SqT K H a xs) (q : ∀ p H', H p = none → Same H H' → H' p = some (.lst xs) → Q (.ref p) H') : rListOf K [.ref a] H Q := ⟨a, xs, rfl, h, new_of q⟩
theorem r_listL {K : PySem.W.Frag} {H : Hp} {Q : VK} {a : Addr} {xs : List V} (h : H a = some (.lst xs)) (q : ∀ p H', H p = none → Same H H' → H' p = some (.lst xs) → Q (.ref p) H') : rListOf K [.ref a] H Q := r_listS (.inl (SqL.of h)) q
theorem r_listT {K : PySem.W.Frag} {H : Hp} {Q : VK} {a : Addr} {xs : List V} (h : H a = some (.tup xs)) (q : ∀ p H', H p = none → Same H H' → H' p = some (.lst xs) → Q (.ref p) H') : rListOf K [.ref a] H Q := r_listS (.inr (SqT.of h)) q
theorem r_tupL {K : PySem.W.Frag} {H : Hp} {Q : VK} {a : Addr} {xs : List V} (h : H a = some (.lst xs)) (q : ∀ p H', H p = none → Same H H' → H' p = some (.tup xs) → Q (.ref p) H') : rTupOf K [.ref a] H Q := ⟨a, xs, rfl, .inl ⟨SqL.of h, new_of q⟩⟩
theorem r_tupT {K : PySem.W.Frag} {H : Hp} {Q : VK} {a : Addr} {xs : List V} (h : H a = some (.tup xs)) (q : Q (.ref a) H) : rTupOf K [.ref a] H Q := ⟨a, xs, rfl, .inr ⟨SqT.of h, q⟩⟩
theorem r_nF {A B : Prop} (h : A) : if (!false) = true then A else B := h
theorem r_nT {A B : Prop} (h : B) : if (!true) = true then A else B := by
  rw [if_neg (by decide)]
  exact h
theorem r_nD {c A B : Prop} [Decidable c] (h1 : ¬ c → A) (h2 : c → B) : if (!decide c) = true then A else B := by
  by_cases hc : c
  · rw [decide_eq_true hc]; exact r_nT (h2 hc)
  · rw [decide_eq_false hc]; exact r_nF (h1 hc)
theorem cut_take {xs : List V} {k : Int} (h : (xs.length : Int) ≤ k) : cutV xs none (some k) = xs := by
  have e : HT.sIx xs.length xs.length (some k) = xs.length := by
    show (if k < 0 then (k + (xs.length : Int)).toNat else min k.toNat xs.length) = xs.length
    rw [if_neg (by omega)]; omega
  unfold cutV
  rw [e]
  show (xs.drop 0).take (xs.length - 0) = xs
  simp
theorem r_yes {σ : St} {H : Hp} {R : Bool → Hp → Prop} (h : R true H) : tYes σ H R := h
theorem int_of_get {ns : List Int} {i : Nat} {y : V} (h : (ns.map V.int)[i]? = some y) : ∃ z, ns[i]? = some z ∧ y = V.int z := by
  rw [List.getElem?_map] at h
  cases e : ns[i]? with
  | none => rw [e] at h; cases h
  | some z => rw [e] at h; exact ⟨z, rfl, (Option.some.inj h).symm⟩
theorem take_more {α : Type} {l : List α} {i : Nat} {x : α} (h : l[i]? = some x) : l.take (i + 1) = l.take i ++ [x] := by
  rw [List.take_succ, h]; rfl
theorem r_chain {r r' : R2} {ta tb tc : TE} {σ : St} {H : Hp} {Q : VK} (h : ta σ H fun x H1 => tb σ H1 fun y H2 => r x y H2 fun z H3 => ∃ k, z = .bl k ∧ (if k = true then tc σ H3 fun w' H4 => r' y w' H4 Q else Q (.bl false) H3)) : tChain r r' ta tb tc σ H Q := h
theorem r_sFld {K : PySem.W.Frag} {ta tv : TE} {f : Str} {D : Ends} {σ : St} {H : Hp} (h : tv σ H fun y H1 => ta σ H1 fun x H2 => ∃ a C dx fs, x = .ref a ∧ H2 a = some (.ins C dx fs) ∧ Cls K C ∧ NoAttr K C f ∧ fs.length < 1000 ∧ D.nx σ (upd H2 a (.ins C dx (putF f y fs)))) : sFld K ta tv f D σ H := h
theorem r_put {K : PySem.W.Frag} {p C dx : Addr} {fs : List (Str × V)} {f : Str} {H : Hp} {R : Addr → Addr → Addr → List (Str × V) → Prop} (hc : Cls K C) (hn : NoAttr K C f) (hx : H p = some (.ins C dx fs)) (hl : fs.length ≤ 900) (q : R p C dx fs) :
    ∃ a C dx fs, V.ref p = .ref a ∧ H a = some (.ins C dx fs) ∧ Cls K C ∧ NoAttr K C f ∧ fs.length < 1000 ∧ R a C dx fs := ⟨p, C, dx, fs, rfl, hx, hc, hn, by omega, q⟩
theorem putF_len (f : Str) (v : V) : ∀ fs : List (Str × V), (putF f v fs).length ≤ fs.length + 1
  | [] => Nat.le_refl _
  | (g, x) :: r => by
    unfold putF
    by_cases h : g = f
    · rw [if_pos h, List.length_cons, List.length_cons]; omega
    · rw [if_neg h, List.length_cons, List.length_cons]
      have := putF_len f v r
      omega
theorem putF_le {f : Str} {v : V} {fs : List (Str × V)} {n : Nat} (h : fs.length ≤ n) : (putF f v fs).length ≤ n + 1 := Nat.le_trans (putF_len f v fs) (by omega)
def MakeAt (C : Addr) (sp : Sp) (vs : List V) (E : XK) (H : Hp) (Q : VK) : Prop := ∀ x dx, H x = none → H dx = none → dx ≠ x → sp (.ref x :: vs) (upd (upd H dx (.own x)) x (.ins C dx [])) (fun v H2 => v = .non ∧ Q (.ref x) H2) E
theorem r_make {C : Addr} {sp : Sp} {dvs : List V} {E : XK} {t : TA} {σ : St} {H : Hp} {Q : VK} (h : t σ H fun vs H1 => MakeAt C sp (vs ++ dvs) E H1 Q) : tMake C sp dvs E t σ H Q := h
def rIsNo : R2 := fun x y H Q => y = .non ∧ Q (.bl (decide (x = .non))) H
def rNotNo : R2 := fun x y H Q => y = .non ∧ Q (.bl (!decide (x = .non))) H
theorem op_isNo {X : Cx} : OpR X (compareOp .Is) rIsNo := op_isN
theorem op_notNo {X : Cx} : OpR X (compareOp .IsNot) rNotNo := op_notN
theorem r_isNn {H : Hp} {Q : VK} (q : Q (.bl true) H) : rIsNo .non .non H Q := ⟨rfl, q⟩
theorem r_isNi {H : Hp} {Q : VK} {i : Int} (q : Q (.bl false) H) : rIsNo (.int i) .non H Q := ⟨rfl, q⟩
theorem r_isNr {H : Hp} {Q : VK} {i : Addr} (q : Q (.bl false) H) : rIsNo (.ref i) .non H Q := ⟨rfl, q⟩
theorem r_notNn {H : Hp} {Q : VK} (q : Q (.bl false) H) : rNotNo .non .non H Q := ⟨rfl, q⟩
theorem r_notNi {H : Hp} {Q : VK} {i : Int} (q : Q (.bl true) H) : rNotNo (.int i) .non H Q := ⟨rfl, q⟩
theorem r_notNr {H : Hp} {Q : VK} {i : Addr} (q : Q (.bl true) H) : rNotNo (.ref i) .non H Q := ⟨rfl, q⟩
theorem r_lenS {K : PySem.W.Frag} {H : Hp} {p : Addr} {xs : List V} {R : List V → Prop} (h : SqL K H p xs ∨ SqT K H p xs) (q : R xs) : ∃ (p1 : Addr) (ys : List V), [V.ref p] = [.ref p1] ∧ (SqL K H p1 ys ∨ SqT K H p1 ys) ∧ R ys := ⟨p, xs, rfl, h, q⟩
theorem r_lenL {K : PySem.W.Frag} {H : Hp} {p : Addr} {xs : List V} {R : List V → Prop} (h : H p = some (.lst xs)) (q : R xs) : ∃ (p1 : Addr) (ys : List V), [V.ref p] = [.ref p1] ∧ (SqL K H p1 ys ∨ SqT K H p1 ys) ∧ R ys := ⟨p, xs, rfl, .inl (SqL.of h), q⟩
theorem r_lenT {K : PySem.W.Frag} {H : Hp} {p : Addr} {xs : List V} {R : List V → Prop} (h : H p = some (.tup xs)) (q : R xs) : ∃ (p1 : Addr) (ys : List V), [V.ref p] = [.ref p1] ∧ (SqL K H p1 ys ∨ SqT K H p1 ys) ∧ R ys := ⟨p, xs, rfl, .inr (SqT.of h), q⟩
theorem r_in1 {i : Int} {R : Int → Prop} (h : R i) : ∃ k, [V.int i] = [.int k] ∧ R k := ⟨i, rfl, h⟩
theorem r_in2 {i j : Int} {R : Int → Int → Prop} (h : R i j) : ∃ k l, [V.int i, V.int j] = [.int k, .int l] ∧ R k l := ⟨i, j, rfl, h⟩
/-- the source of draws at p, its cells at q -/
def SrcAt (H : Hp) (p q : Addr) : Prop := ∃ (cs : List Int) (i big cnt st : Int), H p = some (.lst [.ref q, .int i, .int big, .int cnt, .int st]) ∧ H q = some (.lst (cs.map V.int)) ∧ q ≠ p ∧ 0 ≤ i ∧ 0 ≤ big ∧ cs.length ≤ 63
theorem SrcAt.keep {H H' : Hp} {p q : Addr} (h : SrcAt H p q) (s : Same H H') : SrcAt H' p q := by
  obtain ⟨cs, i, big, cnt, st, h1, h2, h3⟩ := h
  exact ⟨cs, i, big, cnt, st, s _ _ h1, s _ _ h2, h3⟩
theorem SrcAt.upd {H : Hp} {p q x : Addr} {o : HO} (h : SrcAt H p q) (h1 : x ≠ p) (h2 : x ≠ q) : SrcAt (upd H x o) p q := by
  obtain ⟨cs, i, big, cnt, st, e1, e2, h3⟩ := h
  exact ⟨cs, i, big, cnt, st, (upd_ne h1.symm).trans e1, (upd_ne h2.symm).trans e2, h3⟩
theorem SrcAt.ne {H : Hp} {p q x : Addr} (h : SrcAt H p q) (hx : H x = none) : x ≠ p := by
  obtain ⟨cs, i, big, cnt, st, h1, _⟩ := h
  exact (ne_of_none h1 hx).symm
theorem SrcAt.neq {H : Hp} {p q x : Addr} (h : SrcAt H p q) (hx : H x = none) : x ≠ q := by
  obtain ⟨cs, i, big, cnt, st, _, h1, _⟩ := h
  exact (ne_of_none h1 hx).symm
theorem But.free {p q : Addr} {H H' : Hp} (b : But p H H') (hs : SrcAt H' p q) {x : Addr} (hx : H' x = none) : H x = none := by
  cases e : H x with
  | none => rfl
  | some o =>
    obtain ⟨u, z⟩ := b.some e (hs.ne hx)
    rw [hx] at z
    cases z
theorem seq_with {t1 t2 : TS} {D : Ends} {σ : St} {H : Hp} (P : St → Hp → Prop) (h2 : ∀ σ H, P σ H → t2 D σ H) (h1 : (∀ σ H, P σ H → t2 D σ H) → t1 { D with nx := t2 D } σ H) : tSeq t1 t2 D σ H := h1 h2
theorem pe_fldK {X : Cx} {K : PySem.W.Frag} {e : Expr} {f : Str} {pos : Pos} {ta : TE} (hK : X.K = K) (he : PE X e ta) (hb : attributeBase e f X.env (eval e X.env) = eval e X.env) : PE X (.Attribute e f pos) (tFld K ta f) := by
  subst hK; exact pe_fld he hb
theorem r_cat {H : Hp} {Q : VK} {l b : Addr} {xs zs : List V} (h1 : H l = some (.lst xs)) (h2 : H b = some (.lst zs)) (hn : xs.length + zs.length ≤ 1000) (q : ∀ p H', H p = none → Same H H' → H' p = some (.lst (xs ++ zs)) → Q (.ref p) H') : rCat (.ref l) (.ref b) H Q :=
  ⟨l, b, xs, zs, rfl, rfl, h1, h2, Nat.le_trans hn (by decide), new_of q⟩
theorem r_min {K : PySem.W.Frag} {H : Hp} {Q : VK} {l : Addr} {ns : List Int} (h1 : H l = some (.lst (ns.map V.int))) (hn : 0 < ns.length) (q : ∀ m, m ∈ ns → (∀ y, y ∈ ns → m ≤ y) → Q (.int m) H) : rMin K [.ref l] H Q :=
  ⟨l, ns, rfl, SqL.of h1, hn, q⟩
section
variable {X : Cx} {K : PySem.W.Frag}
theorem ix_listK (hK : X.K = K) : IxR X (rIxL K) := by subst hK; exact ix_list
theorem ix_tupK (hK : X.K = K) : IxR X (rIxT K) := by subst hK; exact ix_tup
theorem call_len_seqK (hK : X.K = K) : CallR X (.builtin "len") (fun xs H Q => ∃ p ys, xs = [.ref p] ∧ (SqL K H p ys ∨ SqT K H p ys) ∧ Q (.int ys.length) H) := by subst hK; exact call_len_seq
theorem call_isiK (hK : X.K = K) : CallR X (.builtin "isinstance") (rIsi K) := by subst hK; exact call_isi
theorem cr_listK (hK : X.K = K) : CallR X (.type "list") (rListOf K) := by subst hK; exact cr_list
theorem cr_tupK (hK : X.K = K) : CallR X (.type "tuple") (rTupOf K) := by subst hK; exact cr_tup
theorem pg_tupK {es : List Expr} {k n : Nat} {t : TGs} {pos : Pos} (hK : X.K = K) (hc : X.calm = true) (h : PGs X es t)
    (hn : (assignEach es X.env).length = n := by rfl) (hst : (assignEach es X.env).findIdx? (·.1) = none := by rfl) : PG X (.Tuple es k pos) (gTup K n t) := by subst hK; exact pg_tup hc h hn hst
end

end My
namespace PySem
namespace MyX
open PySem.W PySem.Calls PyProof.Rows PySem.HandSPX Builtin Builtin.ObjectAttr
/-! ### errors over Exception: made, and their first field -/
abbrev exM : List Value := [.type "Exception", .type "BaseException", .type "object"]
theorem exT (x : Addr) : excTail exM [.ref x, .type "Exception", .type "BaseException", .type "object"] = true := (by decide +kernel : excTail exM exM = true)
theorem one_sz (v : Value) : [v].length ≤ sizeLine := by
  rw [sizeLine_eq]
  exact (by decide : 1 ≤ 16777216)
/-- what the written part says of a class over Exception whose __init__ is its own -/
structure XCls (K : Frag) (C fI : Addr) (f : Str) : Prop where
  cls : ∃ nm q N bs bm sn sub ab col dd k0 k1 k2 k3 k5, K.lookup C = some (excClassObj nm q C N bs bm true sn sub ab col dd k0 k1 k2 k3 k5 "Exception.__new__") ∧ excTail exM bm = true
  sa : findIn K (.ref C) "__setattr__" = some (some (.builtin "object.__setattr__"))
  ga : findIn K (.ref C) "__getattribute__" = some (some (.builtin "BaseException.__getattribute__"))
  gg : findIn K (.ref C) "__getattr__" = some none
  noN : findIn K (.ref C) f = some none
  iC : findIn K (.ref C) "__init__" = some (some (.ref fI))
  tC : typeIn K (.ref fI) = some (.type "function")
  kC : keepIn K (.ref C) = true
  exC : subIn K (.ref C) (.type "BaseException") = some true
  tyC : typeIn K (.ref C) = some (.type "type")
  hdC : hasDictIn K C = true
theorem XCls.over {K : Frag} {C fI : Addr} {f : Str} (T : XCls K C fI f) : excOver K C exM = true := by
  obtain ⟨nm, q, N, bs, bm, sn, sub, ab, col, dd, k0, k1, k2, k3, k5, hC, hbm⟩ := T.cls
  have e : clsIn K C = some { name := nm, bases := bs, mro := .ref C :: bm, ns := N, qualname := q, hasDict := true, slotNames := sn, subclasses := sub, abstract := ab, collection := col, hasDel := false } := by unfold clsIn; rw [hC] <;> rfl
  unfold excOver
  rw [e]
  show (C == C && excTail exM bm) = true
  rw [hbm, beq_self_eq_true]; rfl
section
variable {prog : Program} {w : World} {A : Around} {R : Result → Shared → Prop} {s : Shared} {K : Frag}
theorem first_field {x C fI t : Addr} {f : Str} {tk : Tok} {v : Value} (T : XCls K C fI f) (X : K.In s.heap) (hx : s.heap.get? x = some (excO C t))
    (hq : ∀ h' tk' dx, (∀ b o, b ≠ x → s.heap.get? b = some o → h'.get? b = some o) → s.heap.objs.size ≤ dx → dx ≠ x → h'.get? x = some { cls := .ref C, dict := some dx, data := .fields #[.ref t, .none, .none, .none, .bool false, .none] } →
      h'.Ns1 dx (fun y => if y = f then some v else none) → R (.ok (.ret .none)) { s with heap := h', toks := tk' }) :
    codeAny (model prog w) A (.call (.builtin "object.__setattr__") ⟨[.ref x, .str f tk, v], []⟩) R s := by
  obtain ⟨hp, g, d, tok, os⟩ := s
  refine osa_openX (od := none) PySem.F.store_Exception X ⟨hx, rfl, rfl, trivial⟩ T.over (by unfold takerIn; rw [T.noN]; rfl) fun b => ?_
  obtain ⟨cd, hc, hd'⟩ := any_some T.hdC
  have lt : x < hp.objs.size := Heap.lt_size hx
  have ne : hp.objs.size ≠ x := Nat.ne_of_gt lt
  refine wpAny_bind (wpAny_pure (wpAny_bind (instanceDict_exc (t := t) (c2 := .none) hx (looks_clsIn X hc) hd' ?_)))
  show wpAny _ _ (storeInDict hp.objs.size (.str f tk) f v) _ _ _
  refine store_in_new ?_ fun h' tk' hn hs => ?_
  · exact ⟨_, #[], _, (Heap.get?_update_ne _ _ _ _ ne).trans (Heap.get?_push_at rfl rfl), rfl, fun e he => absurd he (by simp), fun _ => rfl⟩
  · have hx1 : (hp.push (dictOf [] 0)).get? x = some (excObj C t none .none) := Heap.get?_push_of_some _ hx
    refine hq h' tk' hp.objs.size (fun b o hb ho => ?_) (Nat.le_refl _) ne ?_ hn
    · exact (hs.2 b (Nat.ne_of_lt (Heap.lt_size ho))).trans ((Heap.get?_update_ne _ _ _ _ hb).trans (Heap.get?_push_of_some _ ho))
    · exact (hs.2 x ne.symm).trans (Heap.get?_update_self _ hx1 rfl)
end
end MyX
end PySem
namespace My
open PySem L2
section
variable {X : Cx} {C : Addr} {B newId initId : String} {bmB : List Value}
/-- X() of a class without an own __init__ -/
theorem pmk_bare {x : Str} {p pos : Pos} (F : ExcBaseFacts B newId initId bmB) (q : PySem.W.excIn X.K C bmB newId = true) (gC : X.mg x = some (.ref C)) (kC : PySem.W.keepIn X.K (.ref C) = true) (r : Raises X (.ref C)) (hg : Gl X x)
    (hdb : (x == ("__debug__" : Str)) = false := by decide) : PMk X (.Call (.Name x p) [] [] pos) (fun _ H Q => Q (.ref C) none H) := by
  intro pins s σ H Q I h
  refine wpAny_Call_Name_kw (ld_glob I hg gC ?_ hdb)
  refine PySem.W.callWith_K0 I.kIn kC ?_
  obtain ⟨bm, N, nm, qn, bs, hdct, sn, sub, ab, col, dd, k0, k1, k2, k3, k5, mN, hC, hN, hni, T⟩ := exc_obj I.kIn q
  exact wpAny_call_exc_subT F T hC hN hni (fun h' e hm => mk_of I hm r h (I.hok.gone hm.new)) (Nat.zero_le _)
end
theorem pcX {X : Cx} {E : XK} (tk : Takes X fun cls d _ H => E cls d H) : Passes (L2.CX X.prog X.w) X E := passes_call tk fun _ _ _ _ h => h
/-- what the clauses of a try ask, whatever the slots hold -/
def WT (n : Nat) (W : WX) : XK := fun cls d H => ∀ σ : St, σ.length = n → W cls d σ H
theorem passesT {X : Cx} {W : WX} {n : Nat} (tk : Takes X W) (hn : X.N.length = n := by rfl) : Passes (L2.CX X.prog X.w) X (WT n W) := fun _ σ _ _ e s' I c => tk e s' (XE.of_call I (fun _ _ _ h => h σ (I.len.trans hn)) c)
theorem exm_by {K : PySem.W.Frag} {S R : Addr} {b : Bool} (h1 : PySem.W.subIn K (.ref R) (.type "BaseException") = some true) (h2 : PySem.W.isClsIn K R = true) (h3 : PySem.W.typeIn K (.ref R) = some (.type "type")) (h4 : PySem.W.subIn K (.ref S) (.ref R) = some b) :
    PySem.W.exmOne K (.ref S) (.ref R) = some b := by
  have e1 : (PySem.W.subIn K (.ref R) (.type "BaseException") == some true) = true := by rw [h1] <;> rfl
  have e2 : ((PySem.W.clsIn K R).isSome && PySem.W.typeIn K (.ref R) == some (.type "type")) = true := by
    have h2' : (PySem.W.clsIn K R).isSome = true := h2
    rw [h2', h3] <;> rfl
  show (if (PySem.W.subIn K (.ref R) (.type "BaseException") == some true) = true then (if ((PySem.W.clsIn K R).isSome && PySem.W.typeIn K (.ref R) == some (.type "type")) = true then PySem.W.subIn K (.ref S) (.ref R) else none) else none) = some b
  rw [if_pos e1, if_pos e2]
  exact h4
theorem exm_self {K : PySem.W.Frag} {S : Addr} (h1 : PySem.W.subIn K (.ref S) (.type "BaseException") = some true) (h2 : PySem.W.isClsIn K S = true) (h3 : PySem.W.typeIn K (.ref S) = some (.type "type")) (h4 : PySem.W.subIn K (.ref S) (.ref S) = some true) :
    PySem.W.exmOne K (.ref S) (.ref S) = some true := exm_by h1 h2 h3 h4
theorem _root_.PySem.MyX.XCls.xf {K : PySem.W.Frag} {C fI : Addr} {f : Str} (T : PySem.MyX.XCls K C fI f) : XfC K C := ⟨T.ga, T.gg, T.exC, T.hdC⟩
/-- raised: an error of the class at C with one field -/
def Exc1 (E : XK) (C : Addr) (f : Str) (v : V) (H : Hp) : Prop := ∀ d H', Same H H' → H' d = some (.xd [(f, v)]) → E (.ref C) (some d) H'
theorem Exc1.after {E : XK} {C : Addr} {f : Str} {v : V} {H H1 : Hp} (h : Exc1 E C f v H) (s : Same H H1) : Exc1 E C f v H1 := fun d H' s' e => h d H' (s.trans s') e
theorem r_raise {t : St → Hp → XK → Prop} {W : WX} {σ : St} {H : Hp} {D : Ends} (h : t σ H fun cls d H' => W cls d σ H') : (fun (_ : Ends) σ H => t σ H fun cls d H' => W cls d σ H') D σ H := h
end My
namespace PySem
namespace MyXLimitExceeded
open PySem.W PySem.Calls PyProof.Rows PySem.HandSPX PySem.MyX
/-! ### LimitExceeded(e), as the hand's example of an own error shows it -/
def iA (p1 p2 : Pos) : Arguments := { posonlyargs := [], args := [{ arg := "self", annotation := none, pos := p1 }, { arg := "limit", annotation := none, pos := p2 }], vararg := none, kwonlyargs := [], kw_defaults := [], kwarg := none, defaults := [] }
def iB (q1 q2 q3 q4 : Pos) : List Stmt := [.Assign [.Attribute (.Name "self" q1) "limit" q2] (.Name "limit" q3) q4]
def iS : Scope := { kind := .function, names := [(PySem.Str.ofString "self", .local), (PySem.Str.ofString "limit", .local)], isGenerator := false, isCoroutine := false, more := [] }
structure ETxt (K : Frag) (mg : Str → Option Value) (C fI : Addr) : Prop where
  gC : mg "LimitExceeded" = some (.ref C)
  xc : XCls K C fI "limit"
  fn : ∃ (oc : Value) (od : Option Addr) (doc pm : Value) (an : Option Addr) (cdv ct : Value) (osl : Array (Option Value)) (p1 p2 q1 q2 q3 q4 : Pos),
    K.lookup fI = some ⟨oc, od, .func (fnOf "__init__" "LimitExceeded.__init__" (iA p1 p2) (iB q1 q2 q3 q4) iS .none .none doc pm an cdv ct), osl⟩ ∧ codeIn K cdv "LimitExceeded.__init__" = true
/-- what __init__ leaves of a fresh exception at x -/
structure InitEnd (h h' : Heap) (x C dx t1 : Addr) (v : Value) : Prop where
  keep : ∀ b o, b ≠ x → h.get? b = some o → h'.get? b = some o
  obj : h'.get? x = some { cls := .ref C, dict := some dx, data := .fields #[.ref t1, .none, .none, .none, .bool false, .none] }
  dbig : h.objs.size ≤ dx
  dne : dx ≠ x
  ns : h'.Ns1 dx (fun y => if y = "limit" then some v else none)
structure OwnMade (h h' : Heap) (e C d : Addr) (v : Value) : Prop where
  keep : ∀ b o, h.get? b = some o → h'.get? b = some o
  new : h.objs.size ≤ e
  obj : ∃ oe vs, h'.get? e = some oe ∧ oe.cls = .ref C ∧ oe.dict = some d ∧ oe.data = .fields vs ∧ vs[1]? = some .none
  dbig : h.objs.size ≤ d
  dne : d ≠ e
  ns : h'.Ns1 d (fun y => if y = "limit" then some v else none)
theorem ldC {M : Model} {s : Shared} {name : Str} {scope : Scope} {L a : Addr} {cd : Value} {m : Str → Option Value} {x : Str} {pos : Pos} {v : Value} {Q : Value → Shared → Prop} {A : Around} {E : Value → Shared → Prop} (hn : s.heap.Ns L m) (hv : m x = some v) (h : Q v s)
    (hk : scope.kind = .function := by rfl) (hl : (envOfC name scope L a cd).kindOf x = some .local := by rfl) (hd : (x == ("__debug__" : Str)) = false := by decide) :
    wpAny M A (eval (.Name x pos) (envOfC name scope L a cd)) Q E s := wpAny_Name (wpAny_loadName_local hk hl hn hv h) hd
section
variable {prog : Program} {w : World} {A : Around} {E : Value → Shared → Prop} {R : Result → Shared → Prop} {s : Shared} {K : Frag} {mg : Str → Option Value} {C fI : Addr}
theorem e_init (T : ETxt K mg C fI) {x t0 : Addr} {v : Value} (X : K.In s.heap) (hlim : s.heap.NoLimit) (hx : s.heap.get? x = some (excO C t0)) (hroom : A.depth < recursionLimit)
    (hq : ∀ h' tk dx, InitEnd s.heap h' x C dx t0 v → R (.ok (.ret .none)) { s with heap := h', toks := tk }) :
    codeAny (model prog w) A (.call (.ref fI) ⟨[.ref x, v], []⟩) R s := by
  obtain ⟨oc, od, doc, pm, an, cdv, ct, osl, p1, p2, q1, q2, q3, q4, ho, hcd⟩ := T.fn
  refine Att.call_fn (binds := [("self", .ref x), ("limit", v)]) X hlim ho hcd hroom (BindsTo.of_eq (by first | rfl | with_unfolding_all rfl)) (by first | rfl | decide | with_unfolding_all rfl) (fun s₁ IC => ?_) rfl rfl rfl
  obtain ⟨h₁, tk₁, rfl⟩ := IC.toInCall.same
  have k : ∀ b o, s.heap.get? b = some o → h₁.get? b = some o := IC.toInCall.keep
  have hn := IC.toInCall.ns
  have X₁ : K.In h₁ := X.keeps k
  have hx₁ := k _ _ hx
  show wpAny _ _ (execs _ _) _ _ _
  refine wpAny_execs_cons (plainObj_wpAny_Assign_Attribute ?_)
  refine ldC (v := v) hn (by first | rfl | with_unfolding_all rfl | kernel_rfl) (ldC (v := .ref x) hn (by first | rfl | with_unfolding_all rfl | kernel_rfl) ?_)
  refine set_plain X₁ (ox := excO C t0) (od := none) ⟨hx₁, rfl, rfl, trivial⟩ T.xc.sa ?_
  refine first_field T.xc X₁ hx₁ (fun h₃ tk₃ dx k₃ dn dne hx₃ hn₃ => ?_)
  show wpAny _ _ (execs _ _) _ _ _
  have z : s.heap.objs.size < h₁.objs.size := hn.lt
  exact wpAny_execs_nil (hq h₃ tk₃ dx ⟨fun b o hb e => k₃ b o hb (k b o e), hx₃, Nat.le_of_lt (Nat.lt_of_lt_of_le z dn), dne, hn₃⟩)
theorem e_made (T : ETxt K mg C fI) {v : Value} (X : K.In s.heap) (hlim : s.heap.NoLimit) (hroom : A.depth + 1 < recursionLimit)
    (hq : ∀ h' tk e d, OwnMade s.heap h' e C d v → R (.ok (.ret (.ref e))) { s with heap := h', toks := tk }) :
    codeAny (model prog w) A (.call (.ref C) ⟨[v], []⟩) R s := by
  obtain ⟨nm, q, N, bs, bm, sn, sub, ab, col, dd, k0, k1, k2, k3, k5, hC, hbm⟩ := T.xc.cls
  obtain ⟨hp, g, dr, tk, os⟩ := s
  have k : ∀ b o, hp.get? b = some o → ((hp.push (kdv_tup [v])).push (excO C hp.objs.size)).get? b = some o := fun b o e => Heap.get?_push_of_some _ (Heap.get?_push_of_some _ e)
  have hget : ((hp.push (kdv_tup [v])).push (excO C hp.objs.size)).get? (hp.objs.size + 1) = some (excO C hp.objs.size) := by heap_get
  refine call_own F.excBase_Exception (fun X => excTail_contains X bm hbm) (X _ _ hC) (looks_findIn X T.xc.iC) (fun self => bind_fn X self T.xc.tC) (one_sz v) ?_
  refine e_init (s := ⟨(hp.push (kdv_tup [v])).push (excO C hp.objs.size), g, dr, tk, os⟩) T (X.keeps k) (hlim.keeps k) hget ?_ fun h' tk' dx ⟨k', hx, dn, dne, hns⟩ => ?_
  · show A.depth + 1 < recursionLimit
    exact hroom
  · have old : ∀ b o, hp.get? b = some o → h'.get? b = some o := fun b o e => k' b o (Nat.ne_of_lt (Nat.lt_succ_of_lt (Heap.lt_size e))) (k b o e)
    have z : hp.objs.size + 1 + 1 ≤ dx := by
      first
        | (simpa only [Heap.size_push] using dn)
        | exact dn
        | (have q := dn; rw [Heap.size_push, Heap.size_push] at q; exact q)
    exact ⟨rfl, hq h' tk' (hp.objs.size + 1) dx ⟨old, Nat.le_succ _, ⟨_, _, hx, rfl, rfl, rfl, rfl⟩, Nat.le_trans (Nat.le_trans (Nat.le_succ _) (Nat.le_succ _)) z, dne, hns⟩⟩
end
end MyXLimitExceeded
end PySem
namespace My
open PySem L2
theorem relO_LimitExceeded {v : V} {v' : Value} (r : RelV v v') (f : Str) : RelO (List.lookup f [(("limit" : Str), v)]) (if f = "limit" then some v' else none) := by
  by_cases hw : f = "limit"
  · subst hw
    rw [if_pos rfl]
    have q : List.lookup ("limit" : Str) [(("limit" : Str), v)] = some v := by simp [List.lookup]
    rw [q]
    exact r
  · rw [if_neg hw]
    have qw : (f == ("limit" : Str)) = false := by simpa using hw
    have q2 : List.lookup f [(("limit" : Str), v)] = none := by simp [List.lookup, qw]
    rw [q2]
    trivial
/-- LimitExceeded(e), whatever is done with it -/
def tMkLimitExceeded (C : Addr) (ta : TA) : St → Hp → XK → Prop := fun σ H Q => ta σ H fun vs H1 => ∃ v, vs = [v] ∧ Exc1 Q C "limit" v H1
section
variable {X : Cx} {C fI : Addr}
theorem pmk_LimitExceeded {a : Expr} {ta : TA} {p pos : Pos} {k : Nat} (T : PySem.MyXLimitExceeded.ETxt X.K X.mg C fI) (hr : Room k X.A) (ha : PA X [a] ta) (hg : Gl X "LimitExceeded" := by rfl)
    (he : starEach (a :: []) X.env = (false, eval a X.env) :: starEach [] X.env := by rfl) (hpl : (backTo pos (starEach [] X.env)).any (·.1) = false := by rfl) :
    PMk X (.Call (.Name "LimitExceeded" p) [a] [] pos) (tMkLimitExceeded C ta) := by
  intro pins s σ H Q I h
  refine wpAny_Call_Name_kw (ld_glob I hg T.gC ?_)
  refine PySem.W.callWith_K (h₀ := X.base) I.ok.mod.kin T.xc.kC (thn (ha.run pos pins s σ H _ I h) fun us s1 hh => ?_) he hpl
  obtain ⟨vs, H1, I1, r1, v, ev, q1⟩ := hh
  subst ev
  refine ⟨I1.kIn, ?_⟩
  cases r1 with
  | cons rv rn =>
    rename_i v' us'
    cases rn
    show wpAny _ _ (call (.ref C) [v']) _ _ _
    have hlim := I1.nolimit
    obtain ⟨hp, g, dr, tk, os⟩ := s1
    refine wpAny_call (PySem.MyXLimitExceeded.e_made T I1.kIn hlim (by have := hr.dp; omega) fun h' tk' e d M => ?_)
    show MkP X pins σ Q (.ref e) ⟨h', g, dr, tk', os⟩
    obtain ⟨oe, fv, hoe, hc, hd, hdat, h1⟩ := M.obj
    have hns := M.ns
    obtain ⟨G', g1, g2⟩ := restrict h' fun b => decide (b ≠ e)
    have gk : ∀ b, b ≠ e → G'.get? b = h'.get? b := fun b hb => g1 b (decide_eq_true hb)
    have ge : G'.get? e = none := g2 e (by simp)
    have old : ∀ b o, hp.get? b = some o → G'.get? b = some o := fun b o q => (gk b (Nat.ne_of_lt (Nat.lt_of_lt_of_le (Heap.lt_size q) M.new))).trans (M.keep b o q)
    have ob : ObjOk X.prog X.w (upd H1 d (.xd [(("limit" : Str), v)])) G' d (.xd [(("limit" : Str), v)]) :=
      ⟨_, hns.at (fun o q => (gk d M.dne).trans q), fun f => relO_LimitExceeded rv f⟩
    have J : Inv X pins σ (upd H1 d (.xd [(("limit" : Str), v)])) ⟨G', g, dr, tk', os⟩ := I1.laid (t' := tk') old M.dbig ob
    refine ⟨e, oe, fv, ⟨G', g, dr, tk', os⟩, _, .ref C, some d, rfl, J, fun b o q => ?_, ge, hoe, ⟨hc, hd⟩, hdat, h1, ?_, rfl, I1.bare, raises_own T.xc.exC T.xc.tyC, q1 d _ (Same.new (I1.hok.fresh M.dbig)) upd_same⟩
    · by_cases hb : b = e
      · have q' : G'.get? b = some o := q
        rw [hb, ge] at q'; cases q'
      · exact (gk b hb).symm.trans q
    · rw [upd_ne (Ne.symm M.dne)]
      exact I1.hok.fresh M.new
end
theorem r_mkLimitExceeded {C : Addr} {ta : TA} {σ : St} {H : Hp} {Q : XK} (h : ta σ H fun vs H1 => ∃ v, vs = [v] ∧ Exc1 Q C "limit" v H1) : tMkLimitExceeded C ta σ H Q := h

/-- where the top has written what -/
structure Adr where
  a_is_integer : Addr
  d_is_integer : FuncData
  a_is_between : Addr
  d_is_between : FuncData
  a_check_turns : Addr
  d_check_turns : FuncData
  a_check_roots : Addr
  d_check_roots : FuncData
  a_check_time : Addr
  d_check_time : FuncData
  a_Tree_init : Addr
  d_Tree_init : FuncData
  a_Tree_sum_occurs : Addr
  d_Tree_sum_occurs : FuncData
  a_names_in_order : Addr
  d_names_in_order : FuncData
  a_names_until : Addr
  d_names_until : FuncData
  t_names_until_roots : Addr
  a_Machine_init : Addr
  d_Machine_init : FuncData
  a__law_source : Addr
  d__law_source : FuncData
  a__law_draw : Addr
  d__law_draw : FuncData
  a__law_big : Addr
  d__law_big : FuncData
  a__law_numbers : Addr
  d__law_numbers : FuncData
  a__law_times : Addr
  d__law_times : FuncData
  a__law_is : Addr
  d__law_is : FuncData
  a__law_same_names : Addr
  d__law_same_names : FuncData
  a__law_first : Addr
  d__law_first : FuncData
  a__law_told : Addr
  d__law_told : FuncData
  a_law : Addr
  d_law : FuncData
  c_Tree : Addr
  c_Machine : Addr
  c_LimitExceeded : Addr
  i_LimitExceeded : Addr
/-- what the walk asks of the top -/
structure Txt (K : PySem.W.Frag) (mg : Str → Option Value) (a : Adr) : Prop where
  F_is_integer : Fun K "is_integer" "is_integer" s_is_integer a.a_is_integer a.d_is_integer
  b_is_integer : Binds K a.d_is_integer ["thing"] []
  g_is_integer : mg "is_integer" = some (.ref a.a_is_integer)
  F_is_between : Fun K "is_between" "is_between" s_is_between a.a_is_between a.d_is_between
  b_is_between : Binds K a.d_is_between ["thing", "low", "high"] []
  g_is_between : mg "is_between" = some (.ref a.a_is_between)
  F_check_turns : Fun K "check_turns" "check_turns" s_check_turns a.a_check_turns a.d_check_turns
  b_check_turns : Binds K a.d_check_turns ["turns"] []
  g_check_turns : mg "check_turns" = some (.ref a.a_check_turns)
  F_check_roots : Fun K "check_roots" "check_roots" s_check_roots a.a_check_roots a.d_check_roots
  b_check_roots : Binds K a.d_check_roots ["roots"] []
  g_check_roots : mg "check_roots" = some (.ref a.a_check_roots)
  F_check_time : Fun K "check_time" "check_time" s_check_time a.a_check_time a.d_check_time
  b_check_time : Binds K a.d_check_time ["time", "latest"] []
  g_check_time : mg "check_time" = some (.ref a.a_check_time)
  F_Tree_init : Fun K "__init__" "Tree.__init__" s_Tree_init a.a_Tree_init a.d_Tree_init
  b_Tree_init : Binds K a.d_Tree_init ["self", "machine", "turns", "roots"] []
  mk_Tree : Mk K a.c_Tree a.a_Tree_init
  F_Tree_sum_occurs : Fun K "sum_occurs" "Tree.sum_occurs" s_Tree_sum_occurs a.a_Tree_sum_occurs a.d_Tree_sum_occurs
  b_Tree_sum_occurs : Binds K a.d_Tree_sum_occurs ["self", "k", "worth"] []
  m_Tree_sum_occurs : Meth K a.c_Tree "sum_occurs" a.a_Tree_sum_occurs
  F_names_in_order : Fun K "names_in_order" "names_in_order" s_names_in_order a.a_names_in_order a.d_names_in_order
  b_names_in_order : Binds K a.d_names_in_order ["tree", "most", "until"] []
  g_names_in_order : mg "names_in_order" = some (.ref a.a_names_in_order)
  F_names_until : FunD K "names_until" "names_until" (defArgs s_names_until) (defBody s_names_until) (defScope s_names_until) [] [("turns", .non), ("roots", .ref a.t_names_until_roots)] a.a_names_until a.d_names_until
  t_names_until_roots : ∀ H, SqT K H a.t_names_until_roots [.int 0]
  g_names_until : mg "names_until" = some (.ref a.a_names_until)
  F_Machine_init : Fun K "__init__" "Machine.__init__" s_Machine_init a.a_Machine_init a.d_Machine_init
  b_Machine_init : Binds K a.d_Machine_init ["self", "o", "l", "g"] []
  mk_Machine : Mk K a.c_Machine a.a_Machine_init
  F__law_source : Fun K "_law_source" "_law_source" s__law_source a.a__law_source a.d__law_source
  b__law_source : Binds K a.d__law_source ["_law_script"] []
  g__law_source : mg "_law_source" = some (.ref a.a__law_source)
  F__law_draw : Fun K "_law_draw" "_law_draw" s__law_draw a.a__law_draw a.d__law_draw
  b__law_draw : Binds K a.d__law_draw ["_law_source_here", "_law_limit"] []
  g__law_draw : mg "_law_draw" = some (.ref a.a__law_draw)
  F__law_big : Fun K "_law_big" "_law_big" s__law_big a.a__law_big a.d__law_big
  b__law_big : Binds K a.d__law_big ["_law_source_here", "_law_limit"] []
  g__law_big : mg "_law_big" = some (.ref a.a__law_big)
  F__law_numbers : Fun K "_law_numbers" "_law_numbers" s__law_numbers a.a__law_numbers a.d__law_numbers
  b__law_numbers : Binds K a.d__law_numbers ["_law_source_here"] []
  g__law_numbers : mg "_law_numbers" = some (.ref a.a__law_numbers)
  F__law_times : Fun K "_law_times" "_law_times" s__law_times a.a__law_times a.d__law_times
  b__law_times : Binds K a.d__law_times ["_law_numbers_here"] []
  g__law_times : mg "_law_times" = some (.ref a.a__law_times)
  F__law_is : Fun K "_law_is" "_law_is" s__law_is a.a__law_is a.d__law_is
  b__law_is : Binds K a.d__law_is ["_law_thing", "_law_due"] []
  g__law_is : mg "_law_is" = some (.ref a.a__law_is)
  F__law_same_names : Fun K "_law_same_names" "_law_same_names" s__law_same_names a.a__law_same_names a.d__law_same_names
  b__law_same_names : Binds K a.d__law_same_names ["_law_thing", "_law_due"] []
  g__law_same_names : mg "_law_same_names" = some (.ref a.a__law_same_names)
  F__law_first : Fun K "_law_first" "_law_first" s__law_first a.a__law_first a.d__law_first
  b__law_first : Binds K a.d__law_first ["_law_letter", "_law_gap", "_law_turns", "_law_roots", "_law_many", "_law_end"] []
  g__law_first : mg "_law_first" = some (.ref a.a__law_first)
  F__law_told : Fun K "_law_told" "_law_told" s__law_told a.a__law_told a.d__law_told
  b__law_told : Binds K a.d__law_told ["_law_machine", "_law_t", "_law_turns", "_law_roots"] []
  g__law_told : mg "_law_told" = some (.ref a.a__law_told)
  F_law : Fun K "law" "law" s_law a.a_law a.d_law
  b_law : Binds K a.d_law ["_law_script"] []
  g_law : mg "law" = some (.ref a.a_law)
  g_Tree : mg "Tree" = some (.ref a.c_Tree)
  cl_Tree : Cls K a.c_Tree
  nF_Tree_letter : NoAttr K a.c_Tree "letter"
  nF_Tree_gap : NoAttr K a.c_Tree "gap"
  nF_Tree_turns : NoAttr K a.c_Tree "turns"
  nF_Tree_roots : NoAttr K a.c_Tree "roots"
  nF_Tree_horizon : NoAttr K a.c_Tree "horizon"
  nF_Tree_powers : NoAttr K a.c_Tree "powers"
  g_Machine : mg "Machine" = some (.ref a.c_Machine)
  cl_Machine : Cls K a.c_Machine
  nF_Machine_o : NoAttr K a.c_Machine "o"
  nF_Machine_l : NoAttr K a.c_Machine "l"
  nF_Machine_g : NoAttr K a.c_Machine "g"
  nF_Machine_letter : NoAttr K a.c_Machine "letter"
  nF_Machine_gap : NoAttr K a.c_Machine "gap"
  g_heappush : mg "heappush" = some (.builtin "_heapq.heappush")
  g_heappop : mg "heappop" = some (.builtin "_heapq.heappop")
  g_LimitExceeded : mg "LimitExceeded" = some (.ref a.c_LimitExceeded)
  x_LimitExceeded : PySem.MyXLimitExceeded.ETxt K mg a.c_LimitExceeded a.i_LimitExceeded
  m_LimitExceeded : PySem.W.exmOne K (.ref a.c_LimitExceeded) (.ref a.c_LimitExceeded) = some true
  ns_LimitExceeded : PySem.W.subIn K (.ref a.c_LimitExceeded) (.type "StopIteration") = some false
  n_bool : mg "bool" = none
  n_enumerate : mg "enumerate" = none
  n_int : mg "int" = none
  n_isinstance : mg "isinstance" = none
  n_len : mg "len" = none
  n_list : mg "list" = none
  n_max : mg "max" = none
  n_min : mg "min" = none
  n_range : mg "range" = none
  n_sorted : mg "sorted" = none
  n_tuple : mg "tuple" = none
  g_MOST_TURNS : ∃ t, mg "MOST_TURNS" = some (.int 1000000000000 t)
  g_MOST_ROOTS : ∃ t, mg "MOST_ROOTS" = some (.int 6 t)
  g_LATEST_ROOT : ∃ t, mg "LATEST_ROOT" = some (.int 1000000000000 t)
  g_FREE_DEPTHS : ∃ t, mg "FREE_DEPTHS" = some (.int 120 t)
  g_TURNS_DEPTHS : ∃ t, mg "TURNS_DEPTHS" = some (.int 40 t)
  g_MOST_UNTIL : ∃ t, mg "MOST_UNTIL" = some (.int 200 t)
  g_GREATEST_PART : ∃ t, mg "GREATEST_PART" = some (.int 1000000000 t)
end My
namespace HQ
open PySem PySem.Spec PyProof.Rows PySem.Calls
theorem kind_push : builtinKind "_heapq.heappush" = none := by decide +kernel
theorem plain_push : plainId "_heapq.heappush" = true := by decide +kernel
theorem entry_push : entryFor table "_heapq.heappush" = some Builtin.«_heapq.heappush» := entryFor_of_fast (by kernel_rfl)
theorem args_push (a b : Value) : argsOk "_heapq.heappush" ⟨[a, b], []⟩ := by unfold argsOk; kernel_rfl
theorem kind_pop : builtinKind "_heapq.heappop" = none := by decide +kernel
theorem plain_pop : plainId "_heapq.heappop" = true := by decide +kernel
theorem entry_pop : entryFor table "_heapq.heappop" = some Builtin.«_heapq.heappop» := entryFor_of_fast (by kernel_rfl)
theorem args_pop (a : Value) : argsOk "_heapq.heappop" ⟨[a], []⟩ := by unfold argsOk; kernel_rfl
theorem plain_sift : plainId "_heapq.heapify.sift" = true := by decide +kernel
theorem entry_sift : entryFor table "_heapq.heapify.sift" = some Builtin.«_heapq.heapify.sift» := entryFor_of_fast (by kernel_rfl)
/-! ### heaps: the order along the tree -/
structure Ordr {κ : Type} (lt : κ → κ → Bool) : Prop where
  asym : ∀ {a b}, lt a b = true → lt b a = false
  tr : ∀ {a b c}, lt b a = false → lt c b = false → lt c a = false
section
variable {κ : Type} {lt : κ → κ → Bool}
def sw (f : Nat → κ) (i j : Nat) : Nat → κ := fun x => if x = i then f j else if x = j then f i else f x
/-- each key is no less than its parent's, but around pos -/
structure Hole (lt : κ → κ → Bool) (f : Nat → κ) (n pos : Nat) : Prop where
  edge : ∀ i, 0 < i → i < n → i ≠ pos → (i - 1) / 2 ≠ pos → lt (f i) (f ((i - 1) / 2)) = false
  over : ∀ i, 0 < i → i < n → (i - 1) / 2 = pos → 0 < pos → lt (f i) (f ((pos - 1) / 2)) = false
structure UpOk (lt : κ → κ → Bool) (f : Nat → κ) (n pos : Nat) : Prop extends Hole lt f n pos where
  kids : ∀ i, 0 < i → i < n → (i - 1) / 2 = pos → lt (f i) (f pos) = false
def Heaped (lt : κ → κ → Bool) (f : Nat → κ) (n : Nat) : Prop := ∀ i, 0 < i → i < n → lt (f i) (f ((i - 1) / 2)) = false
theorem Ordr.irr (O : Ordr lt) (a : κ) : lt a a = false := by
  cases h : lt a a with
  | false => rfl
  | true => have := O.asym h; rw [h] at this; cases this
theorem hole_down {f : Nat → κ} {n pos c : Nat} (O : Ordr lt) (h : Hole lt f n pos) (hc : (c - 1) / 2 = pos) (c0 : 0 < c) (cn : c < n) (hd : ∀ d, 0 < d → d < n → (d - 1) / 2 = pos → lt (f d) (f c) = false) : Hole lt (sw f c pos) n c where
  edge := fun i i0 hi n1 n2 => by
    unfold sw
    by_cases e : i = pos
    · subst e
      rw [if_neg n1, if_pos rfl, if_neg n2, if_neg (show ¬ (i - 1) / 2 = i by omega)]
      exact h.over c c0 cn hc i0
    · rw [if_neg n1, if_neg e, if_neg n2]
      by_cases e2 : (i - 1) / 2 = pos
      · rw [if_pos e2]
        exact hd i i0 hi e2
      · rw [if_neg e2]
        exact h.edge i i0 hi e e2
  over := fun i i0 hi e _ => by
    unfold sw
    have e1 : i ≠ c := by omega
    have e2 : i ≠ pos := by omega
    rw [if_neg e1, if_neg e2, hc, if_neg (show ¬ pos = c by omega), if_pos rfl]
    have := h.edge i i0 hi e2 (by omega)
    rwa [e] at this
theorem hole_up {f : Nat → κ} {n pos : Nat} (O : Ordr lt) (h : UpOk lt f n pos) (p0 : 0 < pos) (hp : pos < n) (hl : lt (f pos) (f ((pos - 1) / 2)) = true) : UpOk lt (sw f ((pos - 1) / 2) pos) n ((pos - 1) / 2) := by
  generalize hq : (pos - 1) / 2 = q at hl ⊢
  have hne : q ≠ pos := by omega
  have hle := O.asym hl
  refine ⟨⟨fun i i0 hi n1 n2 => ?_, fun i i0 hi e q0 => ?_⟩, fun i i0 hi e => ?_⟩
  · unfold sw
    have e0 : i ≠ pos := fun z => by subst z; exact n2 hq
    rw [if_neg n1, if_neg e0, if_neg n2]
    by_cases e2 : (i - 1) / 2 = pos
    · rw [if_pos e2, ← hq]
      exact h.over i i0 hi e2 p0
    · rw [if_neg e2]
      exact h.edge i i0 hi e0 e2
  · unfold sw
    have e1 : i ≠ q := by omega
    rw [if_neg e1, if_neg (show ¬ (q - 1) / 2 = q by omega), if_neg (show ¬ (q - 1) / 2 = pos by omega)]
    have hqe := h.edge q q0 (by omega) hne (by omega)
    by_cases e2 : i = pos
    · rw [if_pos e2]
      exact hqe
    · rw [if_neg e2]
      have := h.edge i i0 hi e2 (by omega)
      rw [e] at this
      exact O.tr hqe this
  · unfold sw
    have e1 : i ≠ q := by omega
    rw [if_neg e1, if_pos rfl]
    by_cases e2 : i = pos
    · rw [if_pos e2]
      exact hle
    · rw [if_neg e2]
      have := h.edge i i0 hi e2 (by omega)
      rw [e] at this
      exact O.tr hle this
theorem up_done {f : Nat → κ} {n pos : Nat} (h : UpOk lt f n pos) (hd : pos = 0 ∨ lt (f pos) (f ((pos - 1) / 2)) = false) : Heaped lt f n := fun i i0 hi => by
  by_cases e : i = pos
  · subst e
    rcases hd with z | z
    · omega
    · exact z
  · by_cases e2 : (i - 1) / 2 = pos
    · rw [e2]
      exact h.kids i i0 hi e2
    · exact h.edge i i0 hi e e2
theorem heap_min {f : Nat → κ} {n : Nat} (O : Ordr lt) (h : Heaped lt f n) : ∀ i, i < n → lt (f i) (f 0) = false := by
  intro i
  induction i using Nat.strongRecOn with
  | ind i ih =>
    intro hi
    by_cases e : i = 0
    · subst e
      exact O.irr _
    · exact O.tr (ih ((i - 1) / 2) (by omega) (by omega)) (h i (by omega) hi)
theorem leaf_up {f : Nat → κ} {n pos : Nat} (h : Hole lt f n pos) (hl : n / 2 ≤ pos) : UpOk lt f n pos := ⟨h, fun i i0 hi e => absurd hi (by omega)⟩
theorem top_hole {f g : Nat → κ} {n : Nat} (h : Heaped lt f n) (hg : ∀ i, 0 < i → i < n → g i = f i) : Hole lt g n 0 where
  edge := fun i i0 hi _ n2 => by
    rw [hg i i0 hi, hg ((i - 1) / 2) (by omega) (by omega)]
    exact h i i0 hi
  over := fun i _ _ _ z => absurd z (Nat.lt_irrefl 0)
theorem end_up {f g : Nat → κ} {n : Nat} (h : Heaped lt f n) (hg : ∀ i, i < n → g i = f i) : UpOk lt g (n + 1) n where
  edge := fun i i0 hi n1 _ => by
    rw [hg i (by omega), hg ((i - 1) / 2) (by omega)]
    exact h i i0 (by omega)
  over := fun i i0 hi e _ => absurd hi (by omega)
  kids := fun i i0 hi e => absurd hi (by omega)
end
end HQ
namespace HQ
open PySem PySem.Spec PyProof.Rows PySem.Calls L2
section
variable {prog : Program} {w : World} {A : Around} {s : Shared} {E : Value → Shared → Prop}
theorem nk {id : String} {ps : List Value} {Q : Unit → Shared → Prop} (h : Q () s) : wpAny (model prog w) A (noKeywords id ⟨ps, []⟩) Q E s := wpAny_pure h
end
/-- keys of items, by data whose order is lt -/
structure Enc {κ : Type} (enc : κ → PyData) (lt : κ → κ → Bool) : Prop where
  ord : Ordr lt
  lt_eq : ∀ a b, PySem.W.dataLt (enc a) (enc b) = lt a b
  alike : ∀ a b, PySem.W.alike (enc a) (enc b) = true
  nn : ∀ a, enc a ≠ .none
  dep : ∀ a, (enc a).depth ≤ 60
section
variable {κ : Type} {enc : κ → PyData} {lt : κ → κ → Bool} {X : Cx} {pins : List (Addr × Obj)} {σ : L2.St} {H : Hp} {a : Addr}
/-- the items' data are read whatever the list at a holds -/
def HpAt (K : PySem.W.Frag) (H : Hp) (a : Addr) (enc : κ → PyData) (ps : List (V × κ)) : Prop := ∀ xs : List V, ∀ p, p ∈ ps → Dp K (L2.upd H a (.lst xs)) p.1 (enc p.2)
/-- the list at a holds these, and nothing else has changed -/
structure At (X : Cx) (pins : List (Addr × Obj)) (σ : L2.St) (H : Hp) (a : Addr) (ps : List (V × κ)) (its : List Value) (n : Nat) (s : Shared) : Prop where
  inv : Inv X pins σ (L2.upd H a (.lst (ps.map Prod.fst))) s
  ho : s.heap.get? a = some (seqObj "list" its.toArray n)
  rv : Vals (ps.map Prod.fst) its
  len : ps.length ≤ 1000
theorem At.of {ps : List (V × κ)} {s : Shared} (I : Inv X pins σ (L2.upd H a (.lst (ps.map Prod.fst))) s) (hl : ps.length ≤ 1000) : ∃ its n, At X pins σ H a ps its n s := by
  obtain ⟨_, its, n, rv, ho⟩ := (show ObjOk X.prog X.w _ s.heap a (.lst (ps.map Prod.fst)) from I.hok a _ upd_same)
  exact ⟨its, n, I, ho, rv, hl⟩
theorem At.get {ps : List (V × κ)} {its : List Value} {n i : Nat} {s : Shared} {p : V × κ} (h : At X pins σ H a ps its n s) (hi : ps[i]? = some p) : ∃ v, its[i]? = some v ∧ RelV p.1 v := h.rv.get (by rw [List.getElem?_map, hi]; rfl)
theorem At.size {ps : List (V × κ)} {its : List Value} {n : Nat} {s : Shared} (h : At X pins σ H a ps its n s) : its.length = ps.length := by rw [← h.rv.length, List.length_map]
theorem upd_upd {H : Hp} {a : Addr} {o u : HO} : L2.upd (L2.upd H a o) a u = L2.upd H a u := by
  funext b
  by_cases e : b = a
  · subst e; rw [upd_same, upd_same]
  · rw [upd_ne e, upd_ne e, upd_ne e]
/-- the list is written -/
theorem At.write {ps qs : List (V × κ)} {its : List Value} {n : Nat} {s : Shared} (h : At X pins σ H a ps its n s) (f : Array Value → Array Value) {ys : List Value} (hf : f its.toArray = ys.toArray) (rv : Vals (qs.map Prod.fst) ys) (hl : qs.length ≤ 1000) : ∃ m, At X pins σ H a qs ys m { s with heap := s.heap.update a (Obj.mapSeq f) } := by
  obtain ⟨m, hm⟩ : ∃ m, (s.heap.update a (Obj.mapSeq f)).get? a = some (seqObj "list" ys.toArray m) := ⟨_, by rw [get?_update_seq h.ho f, hf]⟩
  have I2 := h.inv.write (e := a) (o := .lst (qs.map Prod.fst)) (t' := s.toks) (h' := s.heap.update a (Obj.mapSeq f)) (by rw [upd_same]; trivial) (.inl rfl) (fun b u hb hu => (Heap.get?_update_ne _ _ _ _ hb).trans hu) ⟨_, hm⟩ ⟨by rw [List.length_map, sizeLine_eq]; omega, ys, m, rv, hm⟩
  rw [upd_upd] at I2
  exact ⟨m, I2, hm, rv, hl⟩
theorem vals_swap {xs : List V} {us : List Value} {i j : Nat} {x y : V} {u v : Value} (r : Vals xs us) (h1 : RelV x u) (h2 : RelV y v) : Vals ((xs.set i y).set j x) ((us.set i v).set j u) := Vals.set h1 j (Vals.set h2 i r)
/-- the model's compare of two items of the list -/
theorem less {ps : List (V × κ)} {its : List Value} {n : Nat} {s : Shared} {p q : V × κ} {x y : Value} {A : Around} {E : Value → Shared → Prop} {Q : Value → Shared → Prop} (O : Enc enc lt) (hD : HpAt X.K H a enc ps) (h : At X pins σ H a ps its n s) (hp : p ∈ ps) (hq : q ∈ ps) (rx : RelV p.1 x) (ry : RelV q.1 y) (hu : A.units + 60 < cLine)
    (k : Q (.bool (lt p.2 q.2)) s) : wpAny (model X.prog X.w) A (richCompare .Lt x y) Q E s := by
  obtain ⟨as, r1⟩ := Dp.reads h.inv (enc p.2) p.1 x (hD _ p hp) rx
  obtain ⟨bs, r2⟩ := Dp.reads h.inv (enc q.2) q.1 y (hD _ q hq) ry
  refine PySem.W.rcLt_alike _ _ A s x y _ _ r1 r2 (O.alike _ _) (O.nn _) ?_ X.prog X.w E Q (by rw [O.lt_eq]; exact k)
  have := Nat.min_le_left (enc p.2).depth (enc q.2).depth
  have := O.dep p.2
  omega
variable [Inhabited κ]
def fk (ps : List (V × κ)) : Nat → κ := fun i => ((ps[i]?).map Prod.snd).getD default
theorem fk_at {ps : List (V × κ)} {i : Nat} {p : V × κ} (h : ps[i]? = some p) : fk ps i = p.2 := by unfold fk; rw [h]; rfl
theorem fk_swap {ps : List (V × κ)} {i j : Nat} {p q : V × κ} (hp : ps[i]? = some p) (hq : ps[j]? = some q) (hne : i ≠ j) : fk ((ps.set i q).set j p) = sw (fk ps) i j := by
  have hi := (List.getElem?_eq_some_iff.mp hp).1
  have hj := (List.getElem?_eq_some_iff.mp hq).1
  funext x
  unfold sw
  by_cases e1 : x = i
  · subst e1
    rw [if_pos rfl, fk_at hq]
    exact fk_at (by rw [List.getElem?_set_ne hne.symm, List.getElem?_set_self hi])
  · rw [if_neg e1]
    by_cases e2 : x = j
    · subst e2
      rw [if_pos rfl, fk_at hp]
      exact fk_at (by rw [List.getElem?_set_self (by rw [List.length_set]; exact hj)])
    · rw [if_neg e2]
      unfold fk
      rw [List.getElem?_set_ne (Ne.symm e2), List.getElem?_set_ne (Ne.symm e1)]
theorem swap_perm {ps : List (V × κ)} {i j : Nat} {p q : V × κ} (hp : ps[i]? = some p) (hq : ps[j]? = some q) : ((ps.set i q).set j p).Perm ps := by
  obtain ⟨hi, e1⟩ := List.getElem?_eq_some_iff.mp hp
  obtain ⟨hj, e2⟩ := List.getElem?_eq_some_iff.mp hq
  have := List.set_set_perm (as := ps) hi hj
  rwa [e1, e2] at this
theorem HpAt.perm {K : PySem.W.Frag} {ps qs : List (V × κ)} (h : HpAt K H a enc ps) (hp : qs.Perm ps) : HpAt K H a enc qs := fun xs p hm => h xs p (hp.mem_iff.mp hm)
/-- two items of the list change their places -/
theorem At.swap {ps : List (V × κ)} {its : List Value} {n i j : Nat} {s : Shared} {p q : V × κ} {x y : Value} (h : At X pins σ H a ps its n s) (hp : ps[i]? = some p) (hq : ps[j]? = some q) (hx : its[i]? = some x) (hy : its[j]? = some y) (rx : RelV p.1 x) (ry : RelV q.1 y) :
    ∃ m, At X pins σ H a ((ps.set i q).set j p) ((its.set i y).set j x) m { s with heap := s.heap.update a (Obj.mapSeq fun xs => (xs.setIfInBounds i y).setIfInBounds j x) } :=
  h.write (fun xs => (xs.setIfInBounds i y).setIfInBounds j x) (by simp) (by rw [List.map_set, List.map_set]; exact vals_swap h.rv rx ry) (by rw [List.length_set, List.length_set]; exact h.len)
theorem sift_up {R : Result → Shared → Prop} {res : Value} {A : Around} (O : Enc enc lt) (hu : A.units + 61 < cLine) (ps0 : List (V × κ)) (k : ∀ qs its n s, At X pins σ H a qs its n s → qs.Perm ps0 → Heaped lt (fk qs) qs.length → R (.ok (.ret res)) s) :
    ∀ (pos : Nat) (ps : List (V × κ)) (its : List Value) (n : Nat) (s : Shared), At X pins σ H a ps its n s → HpAt X.K H a enc ps → ps.Perm ps0 → pos < ps.length → UpOk lt (fk ps) ps.length pos →
      codeAny (model X.prog X.w) A (.builtin "_heapq.heapify.sift" ⟨[.ref a, .bool false, .bool false, rawInt pos, rawInt 0, res, rawInt (-1)], []⟩) R s := by
  intro pos
  induction pos using Nat.strongRecOn with
  | ind pos ih =>
    intro ps its n s h hD hperm hpos hup
    refine codeAny_builtin entry_sift ?_
    rw [Around.under_plainId plain_sift _]
    unfold Builtin.«_heapq.heapify.sift»
    refine wpAny_bind ?_
    refine wpAny_bind (wpAny_seqItems h.ho rfl ?_)
    refine wpAny_pure ?_
    dsimp only
    rw [if_neg Bool.false_ne_true, Int.toNat_natCast]
    by_cases p0 : 0 < pos
    · rw [if_pos (show pos > Int.toNat 0 from p0)]
      obtain ⟨p, hp⟩ : ∃ p, ps[pos]? = some p := ⟨_, List.getElem?_eq_getElem hpos⟩
      obtain ⟨q, hq⟩ : ∃ q, ps[(pos - 1) / 2]? = some q := ⟨_, List.getElem?_eq_getElem (by omega)⟩
      obtain ⟨x, hx, rx⟩ := h.get hp
      obtain ⟨y, hy, ry⟩ := h.get hq
      have hpm := List.mem_iff_getElem?.mpr ⟨_, hp⟩
      have hqm := List.mem_iff_getElem?.mpr ⟨_, hq⟩
      refine wpAny_bind ?_
      show wpAny _ _ (match its.toArray[pos]? with | some v => pure v | none => _) _ _ _
      rw [show its.toArray[pos]? = some x by simpa using hx]
      refine wpAny_pure (wpAny_bind ?_)
      show wpAny _ _ (match its.toArray[(pos - 1) / 2]? with | some v => pure v | none => _) _ _ _
      rw [show its.toArray[(pos - 1) / 2]? = some y by simpa using hy]
      refine wpAny_pure ?_
      rw [if_neg Bool.false_ne_true]
      refine wpAny_bind (wpAny_bind (wpAny_holding (wpAny_bind (less (A := A.in1) O hD h hpm hqm rx ry (by show A.units + 1 + 60 < _; omega) (wpAny_truthy_bool (wpAny_bind (wpAny_bind (wpAny_seqItems h.ho rfl (wpAny_pure ?_)))))))))
      dsimp only
      rw [if_neg (by simp)]
      refine wpAny_pure ?_
      cases hlt : lt p.2 q.2 with
      | true =>
        rw [if_pos rfl]
        refine wpAny_bind (wpAny_bind (wpAny_bind (wpAny_seqItems h.ho rfl (wpAny_pure ?_))))
        refine wpAny_bind ?_
        show wpAny _ _ (match its.toArray[(pos - 1) / 2]? with | some v => pure v | none => _) _ _ _
        rw [show its.toArray[(pos - 1) / 2]? = some y by simpa using hy]
        refine wpAny_pure (wpAny_bind ?_)
        show wpAny _ _ (match its.toArray[pos]? with | some v => pure v | none => _) _ _ _
        rw [show its.toArray[pos]? = some x by simpa using hx]
        refine wpAny_pure ?_
        have hsz := h.size
        have hln := h.len
        refine wpAny_updateSeq h.ho rfl ?_ (by rw [List.size_toArray, sizeLine_eq]; omega) (by simp; rw [sizeLine_eq]; omega)
        obtain ⟨m, h2⟩ := h.swap hq hp hy hx ry rx
        have hsw := fk_swap hq hp (show (pos - 1) / 2 ≠ pos by omega)
        have hpm2 := (swap_perm hq hp).trans hperm
        refine wpAny_pure ⟨plainId_quiet plain_sift _, ?_⟩
        refine ih ((pos - 1) / 2) (by omega) _ _ m _ h2 (hD.perm (swap_perm hq hp)) hpm2 (by rw [List.length_set, List.length_set]; omega) ?_
        rw [hsw, List.length_set, List.length_set]
        exact hole_up O.ord hup p0 hpos (by rw [fk_at hp, fk_at hq]; exact hlt)
      | false =>
        rw [if_neg Bool.false_ne_true, if_pos (by decide)]
        refine wpAny_pure ?_
        exact k _ _ _ _ h hperm (up_done hup (.inr (by rw [fk_at hp, fk_at hq]; exact hlt)))
    · rw [if_neg (show ¬ pos > Int.toNat 0 from p0), if_pos (by decide)]
      refine wpAny_pure ?_
      exact k _ _ _ _ h hperm (up_done hup (.inl (by omega)))
theorem sift_down {R : Result → Shared → Prop} {res : Value} {A : Around} (O : Enc enc lt) (hu : A.units + 61 < cLine) (ps0 : List (V × κ)) (k : ∀ qs its n s, At X pins σ H a qs its n s → qs.Perm ps0 → Heaped lt (fk qs) qs.length → R (.ok (.ret res)) s) :
    ∀ (r pos : Nat) (ps : List (V × κ)) (its : List Value) (n : Nat) (s : Shared), ps.length - pos = r → At X pins σ H a ps its n s → HpAt X.K H a enc ps → ps.Perm ps0 → pos < ps.length → Hole lt (fk ps) ps.length pos →
      codeAny (model X.prog X.w) A (.builtin "_heapq.heapify.sift" ⟨[.ref a, .bool false, .bool true, rawInt pos, rawInt 0, res, rawInt (-1)], []⟩) R s := by
  intro r
  induction r using Nat.strongRecOn with
  | ind r ih =>
    intro pos ps its n s hr h hD hperm hpos hho
    have hsz := h.size
    have hln := h.len
    refine codeAny_builtin entry_sift ?_
    rw [Around.under_plainId plain_sift _]
    unfold Builtin.«_heapq.heapify.sift»
    refine wpAny_bind ?_
    refine wpAny_bind (wpAny_seqItems h.ho rfl ?_)
    refine wpAny_pure ?_
    dsimp only
    rw [if_pos rfl, Int.toNat_natCast, List.size_toArray, hsz]
    by_cases hin : pos < ps.length / 2
    · rw [if_pos hin]
      obtain ⟨p, hp⟩ : ∃ p, ps[pos]? = some p := ⟨_, List.getElem?_eq_getElem hpos⟩
      obtain ⟨x, hx, rx⟩ := h.get hp
      obtain ⟨q, hq⟩ : ∃ q, ps[2 * pos + 1]? = some q := ⟨_, List.getElem?_eq_getElem (by omega)⟩
      obtain ⟨y, hy, ry⟩ := h.get hq
      have hqm := List.mem_iff_getElem?.mpr ⟨_, hq⟩
      -- the swap with a child, and on
      have go : ∀ (c : Nat) (u : V × κ) (z : Value), ps[c]? = some u → its[c]? = some z → RelV u.1 z → (c = 2 * pos + 1 ∨ c = 2 * pos + 2) → (∀ d, 0 < d → d < ps.length → (d - 1) / 2 = pos → lt (fk ps d) (fk ps c) = false) →
          codeAny (model X.prog X.w) A (.builtin "_heapq.heapify.sift" ⟨[.ref a, .bool false, .bool true, rawInt c, rawInt 0, res, rawInt (-1)], []⟩) R { s with heap := s.heap.update a (Obj.mapSeq fun xs => (xs.setIfInBounds c x).setIfInBounds pos z) } := by
        intro c u z hc hz rz hcc hd
        have hcl := (List.getElem?_eq_some_iff.mp hc).1
        obtain ⟨m, h2⟩ := h.swap hc hp hz hx rz rx
        have hsw := fk_swap hc hp (show c ≠ pos by omega)
        refine ih (ps.length - c) (by omega) c _ _ m _ (by rw [List.length_set, List.length_set]) h2 (hD.perm (swap_perm hc hp)) ((swap_perm hc hp).trans hperm) (by rw [List.length_set, List.length_set]; omega) ?_
        rw [hsw, List.length_set, List.length_set]
        exact hole_down O.ord hho (by omega) (by omega) hcl hd
      by_cases h2 : 2 * pos + 1 + 1 < ps.length
      · rw [if_pos h2]
        obtain ⟨q2, hq2⟩ : ∃ q, ps[2 * pos + 1 + 1]? = some q := ⟨_, List.getElem?_eq_getElem h2⟩
        obtain ⟨y2, hy2, ry2⟩ := h.get hq2
        have hqm2 := List.mem_iff_getElem?.mpr ⟨_, hq2⟩
        refine wpAny_bind ?_
        show wpAny _ _ (match its.toArray[2 * pos + 1]? with | some v => pure v | none => _) _ _ _
        rw [show its.toArray[2 * pos + 1]? = some y by simpa using hy]
        refine wpAny_pure (wpAny_bind ?_)
        show wpAny _ _ (match its.toArray[2 * pos + 1 + 1]? with | some v => pure v | none => _) _ _ _
        rw [show its.toArray[2 * pos + 1 + 1]? = some y2 by simpa using hy2]
        refine wpAny_pure ?_
        rw [if_neg Bool.false_ne_true]
        refine wpAny_bind (wpAny_bind (wpAny_holding (wpAny_bind (less (A := A.in1) O hD h hqm hqm2 ry ry2 (by show A.units + 1 + 60 < _; omega) (wpAny_truthy_bool (wpAny_bind (wpAny_bind (wpAny_seqItems h.ho rfl (wpAny_pure ?_)))))))))
        dsimp only
        rw [if_neg (by simp [hsz])]
        refine wpAny_pure ?_
        cases hlt : lt q.2 q2.2 with
        | true =>
          rw [if_neg (by decide)]
          refine wpAny_bind (wpAny_bind (wpAny_bind (wpAny_seqItems h.ho rfl (wpAny_pure ?_))))
          refine wpAny_bind ?_
          show wpAny _ _ (match its.toArray[2 * pos + 1]? with | some v => pure v | none => _) _ _ _
          rw [show its.toArray[2 * pos + 1]? = some y by simpa using hy]
          refine wpAny_pure (wpAny_bind ?_)
          show wpAny _ _ (match its.toArray[pos]? with | some v => pure v | none => _) _ _ _
          rw [show its.toArray[pos]? = some x by simpa using hx]
          refine wpAny_pure ?_
          refine wpAny_updateSeq h.ho rfl ?_ (by rw [List.size_toArray, sizeLine_eq]; omega) (by simp; rw [sizeLine_eq]; omega)
          refine wpAny_pure ⟨plainId_quiet plain_sift _, go (2 * pos + 1) q y hq hy ry (.inl rfl) (fun d d0 dn e => ?_)⟩
          rw [fk_at hq]
          have hd : d = 2 * pos + 1 ∨ d = 2 * pos + 1 + 1 := by omega
          rcases hd with rfl | rfl
          · rw [fk_at hq]; exact O.ord.irr _
          · rw [fk_at hq2]; exact O.ord.asym hlt
        | false =>
          rw [if_pos (by decide)]
          refine wpAny_bind (wpAny_bind (wpAny_bind (wpAny_seqItems h.ho rfl (wpAny_pure ?_))))
          refine wpAny_bind ?_
          show wpAny _ _ (match its.toArray[2 * pos + 1 + 1]? with | some v => pure v | none => _) _ _ _
          rw [show its.toArray[2 * pos + 1 + 1]? = some y2 by simpa using hy2]
          refine wpAny_pure (wpAny_bind ?_)
          show wpAny _ _ (match its.toArray[pos]? with | some v => pure v | none => _) _ _ _
          rw [show its.toArray[pos]? = some x by simpa using hx]
          refine wpAny_pure ?_
          refine wpAny_updateSeq h.ho rfl ?_ (by rw [List.size_toArray, sizeLine_eq]; omega) (by simp; rw [sizeLine_eq]; omega)
          refine wpAny_pure ⟨plainId_quiet plain_sift _, go (2 * pos + 1 + 1) q2 y2 hq2 hy2 ry2 (.inr rfl) (fun d d0 dn e => ?_)⟩
          rw [fk_at hq2]
          have hd : d = 2 * pos + 1 ∨ d = 2 * pos + 1 + 1 := by omega
          rcases hd with rfl | rfl
          · rw [fk_at hq]; exact hlt
          · rw [fk_at hq2]; exact O.ord.irr _
      · rw [if_neg h2]
        refine wpAny_bind (wpAny_bind (wpAny_bind (wpAny_seqItems h.ho rfl (wpAny_pure ?_))))
        refine wpAny_bind ?_
        show wpAny _ _ (match its.toArray[2 * pos + 1]? with | some v => pure v | none => _) _ _ _
        rw [show its.toArray[2 * pos + 1]? = some y by simpa using hy]
        refine wpAny_pure (wpAny_bind ?_)
        show wpAny _ _ (match its.toArray[pos]? with | some v => pure v | none => _) _ _ _
        rw [show its.toArray[pos]? = some x by simpa using hx]
        refine wpAny_pure ?_
        refine wpAny_updateSeq h.ho rfl ?_ (by rw [List.size_toArray, sizeLine_eq]; omega) (by simp; rw [sizeLine_eq]; omega)
        refine wpAny_pure ⟨plainId_quiet plain_sift _, go (2 * pos + 1) q y hq hy ry (.inl rfl) (fun d d0 dn e => ?_)⟩
        rw [fk_at hq]
        have hd : d = 2 * pos + 1 := by omega
        subst hd
        rw [fk_at hq]; exact O.ord.irr _
    · rw [if_neg hin]
      refine wpAny_pure ⟨plainId_quiet plain_sift _, ?_⟩
      exact sift_up O hu ps0 k pos ps its n s h hD hperm hpos (leaf_up hho (by omega))
end
section
variable {κ : Type} [Inhabited κ] {X : Cx}
/-- heappush(l, y): l holds items with keys, heaped -/
def rPush (enc : κ → PyData) (lt : κ → κ → Bool) (K : PySem.W.Frag) : List V → Hp → VK → Prop := fun vs H Q => ∃ (a : Addr) (y : V) (k : κ) (ps : List (V × κ)), vs = [.ref a, y] ∧ H a = some (.lst (ps.map Prod.fst)) ∧ HpAt K H a enc (ps ++ [(y, k)]) ∧ Heaped lt (fk ps) ps.length ∧ ps.length ≤ 900 ∧
  ∀ qs : List (V × κ), qs.Perm (ps ++ [(y, k)]) → Heaped lt (fk qs) qs.length → Q .non (L2.upd H a (.lst (qs.map Prod.fst)))
/-- heappop(l) -/
def rPop (enc : κ → PyData) (lt : κ → κ → Bool) (K : PySem.W.Frag) : List V → Hp → VK → Prop := fun vs H Q => ∃ (a : Addr) (ps : List (V × κ)), vs = [.ref a] ∧ H a = some (.lst (ps.map Prod.fst)) ∧ HpAt K H a enc ps ∧ Heaped lt (fk ps) ps.length ∧ 0 < ps.length ∧ ps.length ≤ 1000 ∧
  ∀ (p : V × κ) (qs : List (V × κ)), (p :: qs).Perm ps → (∀ q, q ∈ ps → lt q.2 p.2 = false) → Heaped lt (fk qs) qs.length → Q p.1 (L2.upd H a (.lst (qs.map Prod.fst)))
theorem upd_id {H : Hp} {a : Addr} {o : HO} (h : H a = some o) : L2.upd H a o = H := by
  funext b
  by_cases e : b = a
  · subst e; rw [upd_same, h]
  · rw [upd_ne e]
theorem is_list {prog : Program} {w : World} {A : Around} {s : Shared} {E : Value → Shared → Prop} {Q : Bool → Shared → Prop} {a : Addr} {its : Array Value} {n : Nat} (ho : s.heap.get? a = some (seqObj "list" its n)) (h : Q true s) : wpAny (model prog w) A (isInstance (.ref a) (.type "list")) Q E s :=
  wpAny_isInstance (T := "list") ⟨_, ho, rfl⟩ sub_list_self h
theorem vals_split : ∀ {xs ys : List V} {us ws : List Value}, Vals (xs ++ ys) (us ++ ws) → xs.length = us.length → Vals xs us ∧ Vals ys ws
  | [], ys, [], ws, r, _ => ⟨.nil, r⟩
  | x :: xs, ys, u :: us, ws, r, h => by
    cases r with
    | cons a b =>
      obtain ⟨c, d⟩ := vals_split b (Nat.succ.inj h)
      exact ⟨.cons a c, d⟩
  | [], _, _ :: _, _, _, h => by cases h
  | _ :: _, _, [], _, _, h => by cases h
theorem vals2 {a : Addr} {y : V} {us : List Value} (r : Vals [V.ref a, y] us) : ∃ u, us = [.ref a, u] ∧ RelV y u := by
  cases r with
  | cons r t =>
    cases t with
    | cons r2 t =>
      cases t
      cases r
      exact ⟨_, rfl, r2⟩
theorem cr_push {enc : κ → PyData} {lt : κ → κ → Bool} (O : Enc enc lt) (hu : X.A.units + 64 < cLine) : CallR X (.builtin "_heapq.heappush") (rPush enc lt X.K) := by
  intro pins s σ H vs us Q I r h
  obtain ⟨a, y, k, ps, rfl, ha, hD, hh, hl, kk⟩ := h
  obtain ⟨u, rfl, ru⟩ := vals2 r
  have I0 := I
  rw [← upd_id ha] at I0
  obtain ⟨its, n, h0⟩ := At.of (a := a) (ps := ps) I0 (by omega)
  have hsz := h0.size
  refine call_function_tree kind_push plain_push entry_push (args_push _ _) ?_
  unfold Builtin.«_heapq.heappush»
  refine wpAny_bind (wpAny_bind (nk ?_))
  refine wpAny_bind (wpAny_of_eq (a := ()) (by rfl) ?_)
  refine wpAny_bind (wpAny_bind (is_list h0.ho ?_))
  refine wpAny_pure ?_
  refine wpAny_pure ?_
  dsimp only
  refine wpAny_bind (wpAny_updateSeq h0.ho rfl ?_ (by rw [List.size_toArray, sizeLine_eq]; omega) (by simp; rw [sizeLine_eq]; omega))
  obtain ⟨m, h1⟩ := h0.write (qs := ps ++ [(y, k)]) (fun xs => xs.push u) (ys := its ++ [u]) (by simp) (by rw [List.map_append]; exact Vals.append h0.rv (.cons ru .nil)) (by simp; omega)
  refine wpAny_bind (wpAny_bind (wpAny_seqItems h1.ho rfl (wpAny_pure ?_)))
  refine wpAny_pure ⟨plainId_quiet plain_sift _, ?_⟩
  have hs1 : (its ++ [u]).toArray.size - 1 = ps.length := by simp [hsz]
  rw [hs1]
  refine sift_up O (by omega) (ps ++ [(y, k)]) (fun qs its' n' s' h2 hp hq => ?_) ps.length _ _ m _ h1 hD (List.Perm.refl _) (by simp) ?_
  · exact ⟨.non, _, h2.inv, rfl, kk qs hp hq⟩
  · rw [List.length_append, List.length_singleton]
    exact end_up hh (fun i hi => by
      unfold fk
      rw [List.getElem?_append_left hi])
theorem cr_pop {enc : κ → PyData} {lt : κ → κ → Bool} (O : Enc enc lt) (hu : X.A.units + 64 < cLine) : CallR X (.builtin "_heapq.heappop") (rPop enc lt X.K) := by
  intro pins s σ H vs us Q I r h
  obtain ⟨a, ps, rfl, ha, hD, hh, h0l, hl, kk⟩ := h
  rw [Vals.ref1 r]
  have I0 := I
  rw [← upd_id ha] at I0
  obtain ⟨its, n, h0⟩ := At.of (a := a) (ps := ps) I0 hl
  have hsz := h0.size
  refine call_function_tree kind_pop plain_pop entry_pop (args_pop _) ?_
  unfold Builtin.«_heapq.heappop»
  refine wpAny_bind (wpAny_bind ?_)
  refine wpAny_bind (nk ?_)
  refine wpAny_pure ?_
  refine wpAny_bind (wpAny_bind (is_list h0.ho ?_))
  refine wpAny_pure ?_
  refine wpAny_pure ?_
  dsimp only
  refine wpAny_bind (wpAny_bind (wpAny_seqItems h0.ho rfl (wpAny_pure ?_)))
  have hmin : ∀ p0, ps[0]? = some p0 → ∀ q, q ∈ ps → lt q.2 p0.2 = false := fun p0 hp0 q hq => by
    obtain ⟨i, hi⟩ := List.mem_iff_getElem?.mp hq
    have := heap_min O.ord hh i (List.getElem?_eq_some_iff.mp hi).1
    rwa [fk_at hi, fk_at hp0] at this
  rcases List.eq_nil_or_concat ps with rfl | ⟨init, lp, hps⟩
  · exact absurd h0l (Nat.lt_irrefl 0)
  rw [List.concat_eq_append] at hps
  subst hps
  rcases List.eq_nil_or_concat its with rfl | ⟨iti, last, hits⟩
  · rw [List.length_append, List.length_singleton, List.length_nil] at hsz; omega
  rw [List.concat_eq_append] at hits
  subst hits
  have hsz2 : iti.length = init.length := by simpa using hsz
  have hlast : RelV lp.1 last := by
    obtain ⟨v, hv, rv⟩ := h0.get (i := init.length) (p := lp) (by rw [List.getElem?_append_right (Nat.le_refl _), Nat.sub_self]; rfl)
    rw [← hsz2, List.getElem?_append_right (Nat.le_refl _), Nat.sub_self] at hv
    cases hv
    exact rv
  have hinit : Vals (init.map Prod.fst) iti := by
    have r0 := h0.rv
    rw [List.map_append] at r0
    exact (vals_split r0 (by rw [List.length_map, hsz2])).1
  rw [show (iti ++ [last]).toArray.back? = some last by simp]
  dsimp only
  have hsl : init.length + 1 ≤ 1000 := by simpa using hl
  refine wpAny_bind (wpAny_updateSeq h0.ho rfl ?_ (by rw [List.size_toArray, sizeLine_eq]; simp; omega) (by simp; rw [sizeLine_eq]; omega))
  obtain ⟨m, h1⟩ := h0.write (qs := init) (fun xs => xs.pop) (ys := iti) (by simp) hinit (by omega)
  by_cases hone : init = []
  · subst hone
    rw [if_pos (by simp at hsz2; simp [hsz2])]
    refine wpAny_pure ?_
    exact ⟨lp.1, _, h1.inv, hlast, kk lp [] (by simp) (hmin lp rfl) (fun i h1 h2 => absurd h2 (Nat.not_lt_zero _))⟩
  · rw [if_neg (by
      have : iti.length ≠ 0 := by rw [hsz2]; exact fun z => hone (List.length_eq_zero_iff.mp z)
      simp; intro z; exact this (by rw [z]; rfl))]
    obtain ⟨p0, rest, rfl⟩ : ∃ p0 rest, init = p0 :: rest := by
      cases init with
      | nil => exact absurd rfl hone
      | cons p0 rest => exact ⟨p0, rest, rfl⟩
    obtain ⟨x0, hx0, rx0⟩ := h0.get (i := 0) (p := p0) rfl
    refine wpAny_bind ?_
    show wpAny _ _ (match (iti ++ [last]).toArray[0]? with | some v => pure v | none => _) _ _ _
    rw [show (iti ++ [last]).toArray[0]? = some x0 by rw [List.getElem?_toArray]; exact hx0]
    refine wpAny_pure (wpAny_bind (wpAny_updateSeq h1.ho rfl ?_ (by rw [List.size_toArray, sizeLine_eq]; omega) (by simp; rw [sizeLine_eq]; omega)))
    obtain ⟨m2, h2⟩ := h1.write (qs := lp :: rest) (fun xs => xs.setIfInBounds 0 last) (ys := iti.set 0 last) (by simp) (by
      have := Vals.set hlast 0 h1.rv
      rwa [List.map_cons, List.set_cons_zero] at this) (by simp at hsl ⊢; omega)
    refine wpAny_pure ⟨plainId_quiet plain_sift _, ?_⟩
    have hperm : (p0 :: (lp :: rest)).Perm (p0 :: rest ++ [lp]) := by
      rw [List.cons_append]
      exact List.Perm.cons _ (by simpa using (List.perm_append_comm (l₁ := [lp]) (l₂ := rest)))
    refine sift_down O (by omega) (lp :: rest) (fun qs its' n' s' h3 hp hq => ?_) _ 0 _ _ m2 _ rfl h2 (fun xs p hp => hD xs p (hperm.mem_iff.mp (List.mem_cons_of_mem _ hp))) (List.Perm.refl _) (by simp) ?_
    · exact ⟨p0.1, _, h3.inv, rx0, kk p0 qs ((List.Perm.cons _ hp).trans hperm) (hmin p0 rfl) hq⟩
    · refine top_hole (f := fk (p0 :: rest ++ [lp])) (fun i i0 hi => hh i i0 (by simp at hi ⊢; omega)) fun i i0 hi => ?_
      unfold fk
      obtain ⟨j, rfl⟩ : ∃ j, i = j + 1 := ⟨i - 1, by omega⟩
      rw [List.cons_append, List.getElem?_cons_succ, List.getElem?_cons_succ, List.getElem?_append_left (by simpa using hi)]
end
end HQ
namespace My
open PySem L2

end My
namespace HQ
open PySem L2 PySem.Spec PyProof.Rows PySem.Calls
/-! ### list.remove and sorted of any data -/
theorem plain_rloop : plainId "list.remove.loop" = true := by decide +kernel
theorem entry_rloop : entryFor table "list.remove.loop" = some Builtin.«list.remove.loop» := entryFor_of_fast (by kernel_rfl)
theorem erase_map {α β : Type} (f : α → β) : ∀ (l : List α) (i : Nat), (l.eraseIdx i).map f = (l.map f).eraseIdx i
  | [], i => by simp
  | x :: l, 0 => rfl
  | x :: l, i + 1 => by
    show f x :: (l.eraseIdx i).map f = f x :: (l.map f).eraseIdx i
    rw [erase_map f l i]
theorem vals_erase : ∀ {xs : List V} {us : List Value}, Vals xs us → ∀ i : Nat, Vals (xs.eraseIdx i) (us.eraseIdx i)
  | [], us, r, i => by cases r; simp; exact .nil
  | x :: xs, us, r, i => by
    cases r with
    | cons a b =>
      cases i with
      | zero => exact b
      | succ i => exact .cons a (vals_erase b i)
theorem remove_loop {P : Program} {w : World} {R : Result → Shared → Prop} {A : Around} {u : Value} {l : Addr} {items : Array Value} {n : Nat} {s : Shared} {e : Nat → Bool} (hl : s.heap.get? l = some (seqObj "list" items n)) (hz : items.size ≤ 1000) (he : ∀ i (h : i < items.size), SeqAt.EqAt A.in1 s items[i] u (e i)) {j : Nat} (hj : j < items.size) (hp : e j = true) (hno : ∀ m, m < j → e m = false)
    (k : R (.ok (.ret .none)) { s with heap := s.heap.update l (Obj.mapSeq fun xs => xs.eraseIdxIfInBounds j) }) :
    ∀ (c i : Nat), j - i = c → i ≤ j → codeAny (model P w) A (.builtin "list.remove.loop" ⟨[.ref l, u, rawInt i], []⟩) R s := by
  intro c
  induction c with
  | zero =>
    intro i hc hi
    obtain rfl : i = j := by omega
    refine codeAny_builtin entry_rloop ?_
    rw [Around.under_plainId plain_rloop _]
    show wpAny _ _ (Builtin.List.listItems (.ref l) >>= _) _ _ _
    refine wpAny_bind (listItems_at hl rfl ?_)
    rw [Int.toNat_natCast, show items[i]? = some items[i] from Array.getElem?_eq_getElem hj]
    refine wpAny_bind (he i hj _ _ _ _ ?_)
    rw [hp, if_pos rfl]
    refine wpAny_bind (listUpdate_at hl rfl ?_ (by rw [sizeLine_eq]; omega) (by
      have h1 : (items.eraseIdxIfInBounds i).toList = items.toList.eraseIdx i := by simp
      rw [← Array.length_toList, h1, List.length_eraseIdx, Array.length_toList, sizeLine_eq]
      split <;> omega))
    exact wpAny_pure k
  | succ c ih =>
    intro i hc hi
    have hil : i < items.size := by omega
    refine codeAny_builtin entry_rloop ?_
    rw [Around.under_plainId plain_rloop _]
    show wpAny _ _ (Builtin.List.listItems (.ref l) >>= _) _ _ _
    refine wpAny_bind (listItems_at hl rfl ?_)
    rw [Int.toNat_natCast, show items[i]? = some items[i] from Array.getElem?_eq_getElem hil]
    refine wpAny_bind (he i hil _ _ _ _ ?_)
    rw [hno i (by omega), if_neg Bool.false_ne_true]
    have := ih (i + 1) (by omega) (by omega)
    exact wpAny_pure ⟨plainId_quiet plain_rloop _, this⟩
theorem remove_meets (l : Addr) (u : Value) : Meets (Builtin.«list.remove» ⟨[.ref l, u], []⟩) fun A R s => ∃ (items : Array Value) (n j : Nat) (e : Nat → Bool), s.heap.get? l = some (seqObj "list" items n) ∧ items.size ≤ 1000 ∧ (∀ i (h : i < items.size), SeqAt.EqAt A.in1 s items[i] u (e i)) ∧ j < items.size ∧ e j = true ∧ (∀ m, m < j → e m = false) ∧
    R (.ok (.ret .none)) { s with heap := s.heap.update l (Obj.mapSeq fun xs => xs.eraseIdxIfInBounds j) } := by
  intro P w A R s ⟨items, n, j, e, hl, hz, he, hj, hp, hno, k⟩
  unfold Builtin.«list.remove»
  refine wpAny_bind (wpAny_bind (nk ?_))
  exact wpAny_pure (wpAny_pure ⟨plainId_quiet plain_rloop _, remove_loop hl hz he hj hp hno k j 0 rfl (Nat.zero_le _)⟩)
def rRemD {κ : Type} (enc : κ → PyData) (K : PySem.W.Frag) : V → List V → Hp → VK → Prop := fun x xs H Q => ∃ (a : Addr) (ps : List (V × κ)) (y : V) (d : PyData) (j : Nat) (p : V × κ), x = .ref a ∧ xs = [y] ∧ H a = some (.lst (ps.map Prod.fst)) ∧ HpAt K H a enc ps ∧ Dp K H y d ∧ d.canLay0 = true ∧ ps.length ≤ 1000 ∧
  ps[j]? = some p ∧ PyData.eqv (enc p.2) d = true ∧ (∀ m q, m < j → ps[m]? = some q → PyData.eqv (enc q.2) d = false) ∧ Q .non (L2.upd H a (.lst ((ps.eraseIdx j).map Prod.fst)))
theorem mt_removeD {X : Cx} {κ : Type} {enc : κ → PyData} (hdep : ∀ x, (enc x).depth ≤ 60) (hlay : ∀ x, (enc x).canLay0 = true) (hu : X.A.units + 64 < cLine) : MtR X "list.remove" (rRemD enc X.K) := by
  intro pins s σ H x xs v us Q I rx rxs h
  obtain ⟨a, ps, y, d, j, p, rfl, rfl, ha, hD, dy, hld, hl, hj, hp, hno, q⟩ := h
  cases rx
  cases rxs with
  | cons ry rt =>
    cases rt
    have I0 := I
    rw [← upd_id ha] at I0 dy
    obtain ⟨its, n, h0⟩ := At.of (a := a) (ps := ps) I0 hl
    have hil := (List.getElem?_eq_some_iff.mp hj).1
    have hsz := h0.size
    refine call_meets F.slot_list_remove ⟨_, h0.ho, rfl⟩ F.entry_list_remove (F.args_list_remove_2 _ _) (remove_meets a _) ⟨its.toArray, n, j, fun i => PyData.eqv (((ps[i]?).map fun q => enc q.2).getD .none) d, h0.ho, by rw [List.size_toArray]; omega, fun i hi => ?_, by rw [List.size_toArray]; omega, by dsimp only; rw [hj]; exact hp, fun m hm => ?_, ?_⟩
    · rw [List.size_toArray, hsz] at hi
      obtain ⟨q2, hq⟩ : ∃ q2, ps[i]? = some q2 := ⟨_, List.getElem?_eq_getElem hi⟩
      obtain ⟨v, hv, rv⟩ := h0.get hq
      obtain ⟨as, r1⟩ := Dp.reads h0.inv (enc q2.2) q2.1 v (hD _ q2 (List.mem_iff_getElem?.mpr ⟨_, hq⟩)) rv
      obtain ⟨bs, r2⟩ := Dp.reads h0.inv d y _ dy ry
      have ev : its.toArray[i] = v := by
        rw [List.getElem?_eq_getElem (by omega)] at hv
        simpa using hv
      rw [ev]
      dsimp only
      rw [hq]
      exact SeqAt.eqAt_reads _ _ X.A.in1 s v _ _ _ r1 r2 (hlay _) hld (by have := hdep q2.2; have := Nat.min_le_left (enc q2.2).depth d.depth; show X.A.units + 1 + min (enc q2.2).depth d.depth < cLine; omega)
    · obtain ⟨q2, hq⟩ : ∃ q2, ps[m]? = some q2 := ⟨_, List.getElem?_eq_getElem (by omega)⟩
      dsimp only
      rw [hq]
      exact hno m q2 hm hq
    · have he : its.toArray.eraseIdxIfInBounds j = (its.eraseIdx j).toArray := by
        apply Array.toList_inj.mp
        simp
      obtain ⟨m, h2⟩ := h0.write (qs := ps.eraseIdx j) (fun xs => xs.eraseIdxIfInBounds j) (ys := its.eraseIdx j) he (by
        rw [erase_map]
        exact vals_erase h0.rv j) (by rw [List.length_eraseIdx]; split <;> omega)
      exact ⟨.non, _, h2.inv, rfl, q⟩
/-! sorted(xs), of any data in one order -/
theorem each_of {β : Type} {R : Value → β → Prop} : ∀ {us : List Value} {bs : List β}, us.length = bs.length → (∀ i (h1 : i < us.length) (h2 : i < bs.length), R us[i] bs[i]) → PySem.W.EachIs R us bs
  | [], [], _, _ => .nil
  | [], b :: bs, h, _ => absurd h (by simp)
  | u :: us, [], h, _ => absurd h (by simp)
  | u :: us, b :: bs, h, k => .cons (k 0 (by simp) (by simp)) (each_of (by simpa using h) fun i h1 h2 => k (i + 1) (by simpa using h1) (by simpa using h2))
theorem each_valsQ {κ : Type} : ∀ {us : List Value} {ps : List (V × κ)}, PySem.W.EachIs (fun v (p : V × κ) => RelV p.1 v) us ps → Vals (ps.map Prod.fst) us
  | [], ps, h => by cases h; exact .nil
  | u :: us, ps, h => by
    cases h with
    | cons a b => exact .cons a (each_valsQ b)
theorem le_of {β : Type} {enc : β → PyData} {p q : β} : PySem.W.dataLe false enc p q = !PySem.W.dataLt (enc q) (enc p) := rfl
def rSortD {κ : Type} (enc : κ → PyData) (K : PySem.W.Frag) : List V → Hp → VK → Prop := fun vs H Q => ∃ (a : Addr) (ps : List (V × κ)), vs = [.ref a] ∧ SqL K H a (ps.map Prod.fst) ∧ (∀ p, p ∈ ps → Dp K H p.1 (enc p.2)) ∧ ps.length ≤ 1000 ∧
  ∀ (l : Addr) (qs : List (V × κ)), qs.Perm ps → qs.Pairwise (fun p q => PySem.W.dataLt (enc q.2) (enc p.2) = false) → H l = none → Q (.ref l) (L2.upd H l (.lst (qs.map Prod.fst)))
theorem cr_sortD {X : Cx} {κ : Type} {enc : κ → PyData} {lt : κ → κ → Bool} (O : Enc enc lt) (hs : ∀ k, ∃ x r, enc k = .tuple (x :: r)) (hu : X.A.units + 64 < cLine) : CallR X (.builtin "sorted") (rSortD enc X.K) := by
  intro pins s σ H vs us Q I r h
  obtain ⟨a, ps, rfl, hq, hD, hl, kk⟩ := h
  rw [Vals.ref1 r]
  obtain ⟨its, rv, pl, hz⟩ := I.list hq
  have hln : its.length = ps.length := by rw [← rv.length, List.length_map]
  have get : ∀ i (h1 : i < its.length) (h2 : i < ps.length), RelV ps[i].1 its[i] := fun i h1 h2 => by
    obtain ⟨v, hv, r⟩ := rv.get (i := i) (x := ps[i].1) (by rw [List.getElem?_map, List.getElem?_eq_getElem h2]; rfl)
    rw [List.getElem?_eq_getElem h1] at hv
    rw [Option.some.inj hv]
    exact r
  refine PySem.W.sorted_data (vs := its) (bs := ps) (enc := fun p => enc p.2) (R := fun v p => RelV p.1 v) pl.isList (each_of hln get) (each_of hln fun i h1 h2 => Dp.reads I _ _ _ (hD _ (List.getElem_mem h2)) (get i h1 h2)) ?_ ?_ (by rw [sizeLine_eq]; omega) (fun b hb => by have := O.dep b.2; omega) fun out hout hE => ?_
  · intro d hd d' hd'
    obtain ⟨p, _, rfl⟩ := List.mem_map.mp hd
    obtain ⟨q, _, rfl⟩ := List.mem_map.mp hd'
    exact O.alike _ _
  · exact PySem.W.Sortable.tuples fun b => hs b.2
  · have vals := each_valsQ hE
    have tot : ∀ p q : V × κ, (PySem.W.dataLe false (fun p : V × κ => enc p.2) p q || PySem.W.dataLe false (fun p : V × κ => enc p.2) q p) = true := fun p q => by
      rw [le_of, le_of]
      cases e : PySem.W.dataLt (enc q.2) (enc p.2) with
      | false => rfl
      | true => rw [O.lt_eq] at e; rw [O.lt_eq, O.ord.asym e]; rfl
    have tr : ∀ p q r : V × κ, PySem.W.dataLe false (fun p : V × κ => enc p.2) p q = true → PySem.W.dataLe false (fun p : V × κ => enc p.2) q r = true → PySem.W.dataLe false (fun p : V × κ => enc p.2) p r = true := fun p q r h1 h2 => by
      rw [le_of] at h1 h2 ⊢
      rw [O.lt_eq] at h1 h2 ⊢
      cases e : lt r.2 p.2 with
      | false => rfl
      | true =>
        have := O.ord.tr (a := p.2) (b := q.2) (c := r.2) (by simpa using h1) (by simpa using h2)
        rw [this] at e; cases e
    have srt := List.pairwise_mergeSort tr tot ps
    have pm : (ps.mergeSort (PySem.W.dataLe false fun p => enc p.2)).Perm ps := List.mergeSort_perm _ _
    have srt2 : (ps.mergeSort (PySem.W.dataLe false fun p => enc p.2)).Pairwise fun p q => PySem.W.dataLt (enc q.2) (enc p.2) = false := srt.imp fun {p q} h => by
      rw [le_of] at h
      simpa using h
    obtain ⟨c, hc⟩ := sortedAll_at s.heap its out.toArray
    exact ⟨.ref _, L2.upd H (s.heap.objs.size + 1) (.lst ((ps.mergeSort (PySem.W.dataLe false fun p => enc p.2)).map Prod.fst)), I.laid (t' := s.toks) (fun b o e => sortedAll_old e) (Nat.le_succ _) ⟨by rw [List.length_map, pm.length_eq, sizeLine_eq]; omega, out, c, vals, hc⟩, rfl, kk _ _ pm srt2 (I.hok.fresh (Nat.le_succ _))⟩
end HQ
namespace My
open PySem L2

end My
/-! ### for, in a generator -/
namespace PySem
section
variable {M : Model} {A : Around} {R : GenEnd} {Y : Protocol} {n : Nat} {s₀ : Shared} {c : Code} {fs : List Frame} {s : Shared} {env : Env}
  {K : Flow → Sem Fin} {H : Value → Sem Fin} {gd : Bool → Bool} {lv : List Value → List Value}
theorem seg_For {target iter : Expr} {body : List Stmt} {pos : Pos}
    (h : wpAny M (A.over c fs) (eval iter env) (fun x s₁ => wpAny M (A.over c fs) (pyIter x) (fun it s₂ => ∀ p, Seg M A R Y n s₀ (.forLoop target it body [] env) (M.den (.forLoop target it body [] env))
      (.ret (fun r => ((match r with | .ok f => (.pure f : Sem Flow) | .error e => .raise e).onRaise fun (x : Value) => do
        if (← field x 1) == Value.none then unsupported "frame.own-activation:exception-without-traceback"
        setFlight x env.frame).wrap K H gd lv) none (gd false) (lv []) c p [] :: fs) s₂) (fun x s' => Seg M A R Y n s₀ c (H x) fs s') s₁) (fun x s' => Seg M A R Y n s₀ c (H x) fs s') s)
    (hs : ∀ x, foldedSetIterable iter env x = pure x := by intro _; rfl) :
    Seg M A R Y n s₀ c ((exec (.For target iter body [] pos) env).wrap K H gd lv) fs s := by
  rw [exec_For]
  refine seg_at ?_
  show Seg M A R Y n s₀ c ((eval iter env >>= fun v => foldedSetIterable iter env v >>= fun x => standAt iter.pos >>= fun _ => holding [x] (pyIter x) >>= fun it => runOwn (.forLoop target it body [] env) env).wrap K H gd lv) fs s
  rw [Sem.bind_eq_wrap', Sem.wrap_wrap]
  refine seg_wrap (wpAny_mono h (fun v s1 h1 => ?_) fun _ _ x => x)
  show Seg M A R Y n s₀ c ((foldedSetIterable iter env v >>= fun x => standAt iter.pos >>= fun _ => holding [x] (pyIter x) >>= fun it => runOwn (.forLoop target it body [] env) env).wrap K H gd lv) fs s1
  rw [hs v]
  show Seg M A R Y n s₀ c ((standAt iter.pos >>= fun _ => holding [v] (pyIter v) >>= fun it => runOwn (.forLoop target it body [] env) env).wrap K H gd lv) fs s1
  refine seg_at ?_
  show Seg M A R Y n s₀ c ((holding [v] (pyIter v) >>= fun it => runOwn (.forLoop target it body [] env) env).wrap K H gd lv) fs s1
  rw [Sem.bind_eq_wrap', Sem.wrap_wrap]
  refine seg_wrap (wpAny_holding (wpAny_mono h1 (fun it s2 h2 => ?_) fun _ _ x => x))
  exact seg_call h2
end
section
variable {prog : Program} {w : World} {A : Around} {R : GenEnd} {Y : Protocol} {n : Nat} {s₀ : Shared} {fs : List Frame} {s : Shared} {env : Env}
theorem seg_forLoop {target : Expr} {it : Value} {body : List Stmt}
    (h : wpAny (model prog w) (A.over (.forLoop target it body [] env) fs) (pyNext it) (fun r s₁ => match r with
      | none => Seg (model prog w) A R Y n s₀ (.block [] env) ((model prog w).den (.block [] env)) fs s₁
      | some v => wpAny (model prog w) (A.over (.forLoop target it body [] env) fs) (letOwnedTupleGo target it v) (fun _ s₂ =>
          wpAny (model prog w) (A.over (.forLoop target it body [] env) fs) (assign target env v) (fun _ s₃ =>
            Seg (model prog w) A R Y n s₀ (.forLoop target it body [] env) ((execs body env).wrap (fun f => match f with
              | .next | .cont => .pure (.again (.forLoop target it body [] env))
              | .brk => .pure (.done .next)
              | .ret v => .pure (.done (.ret v))) (fun e => (do noteFrame e env; theTreesLotGoes e : Sem Unit).wrap (fun _ => .raise e) .raise id id) id id) fs s₃)
            (fun x s' => Seg (model prog w) A R Y n s₀ (.forLoop target it body [] env) ((do noteFrame x env; theTreesLotGoes x : Sem Unit).wrap (fun _ => .raise x) .raise id id) fs s') s₂)
          (fun x s' => Seg (model prog w) A R Y n s₀ (.forLoop target it body [] env) ((do noteFrame x env; theTreesLotGoes x : Sem Unit).wrap (fun _ => .raise x) .raise id id) fs s') s₁)
      (fun x s' => Seg (model prog w) A R Y n s₀ (.forLoop target it body [] env) ((do noteFrame x env; theTreesLotGoes x : Sem Unit).wrap (fun _ => .raise x) .raise id id) fs s') s) :
    Seg (model prog w) A R Y n s₀ (.forLoop target it body [] env) ((model prog w).den (.forLoop target it body [] env)) fs s := by
  have exc : ∀ x s', Seg (model prog w) A R Y n s₀ (.forLoop target it body [] env) ((do noteFrame x env; theTreesLotGoes x : Sem Unit).wrap (fun _ => .raise x) .raise id id) fs s' → Seg (model prog w) A R Y n s₀ (.forLoop target it body [] env) ((do noteFrame x env; theTreesLotGoes x : Sem Unit).bind fun _ => .raise x) fs s' := fun x s' hx => by
    rw [Sem.bind_eq_wrap]; exact hx
  show Seg _ A R Y n s₀ _ ((forTurn target it body [] env).onRaise (fun x => do noteFrame x env; theTreesLotGoes x)) fs s
  unfold forTurn
  rw [Sem.onRaise_eq_wrap]
  refine seg_at ?_
  show Seg _ A R Y n s₀ _ (Sem.wrap _ _ _ _ ((pyNext it).onRaise (fun _ => standAt { target.pos with line := 0 }) >>= fun r => _)) fs s
  rw [Sem.bind_eq_wrap', Sem.wrap_wrap]
  refine seg_wrap (wpAny_onRaise (wpAny_mono h (fun r s1 h1 => ?_) fun x s' h' => wpAny_standAt (exc x s' h')))
  cases r with
  | none => exact seg_again rfl h1
  | some v =>
    show Seg _ A R Y n s₀ _ (Sem.wrap _ _ _ _ (letOwnedTupleGo target it v >>= fun _ => _)) fs s1
    rw [Sem.bind_eq_wrap', Sem.wrap_wrap]
    refine seg_wrap (wpAny_mono h1 (fun _ s2 h2 => ?_) fun x s' h' => exc x s' h')
    show Seg _ A R Y n s₀ _ (Sem.wrap _ _ _ _ (assign target env v >>= fun _ => _)) fs s2
    rw [Sem.bind_eq_wrap', Sem.wrap_wrap]
    refine seg_wrap (wpAny_mono h2 (fun _ s3 h3 => ?_) fun x s' h' => exc x s' h')
    show Seg _ A R Y n s₀ _ (Sem.wrap _ _ _ _ (execs body env >>= fun f => _)) fs s3
    rw [Sem.bind_eq_wrap', Sem.wrap_wrap]
    rw [Sem.wrap_congr (execs body env) _ _ (K' := fun f => match f with
            | .next | .cont => .pure (.again (.forLoop target it body [] env))
            | .brk => .pure (.done .next)
            | .ret v => .pure (.done (.ret v))) (H' := (fun e => (do noteFrame e env; theTreesLotGoes e : Sem Unit).wrap (fun _ => .raise e) .raise id id))
        (fun f => by cases f <;> rfl)
        (fun e => by first | exact Sem.bind_eq_wrap _ _ | (show (do noteFrame e env; theTreesLotGoes e : Sem Unit).bind (fun _ => .raise e) = _; rw [Sem.bind_eq_wrap]))]
    exact h3
end
end PySem
namespace L2
open PySem PySem.Spec PyProof.Rows
section
variable {X : Cx} {tg : Expr}
def tGFor (wi : TI) (g : TG) (tb : TGn) : TGn := fun D ys σ H => wi σ H fun J H1 => ∃ W : Nat → Nat → List V → St → Hp → Prop, (∃ m, W 0 m ys σ H1) ∧ ∀ i m ys σ H, W i m ys σ H →
  (J.stop i H ∧ D.nx ys σ H) ∨ (J.go i H ∧ ∃ N : List V → St → Hp → Prop, (∀ ys' σ' H', N ys' σ' H' → ∃ m', m' < m ∧ W (i + 1) m' ys' σ' H') ∧ ∀ x H', J.yld i H x H' → g x σ H' fun σ2 H2 => tb { D with nx := N, ct := N, bk := D.nx } ys σ2 H2)
theorem GI.unpin {S : Addr} {ip pl : List (Addr × Obj)} {ys : List V} {σ : St} {H : Hp} {s : Shared} (h : GI X S (ip ++ pl) ys σ H s) : GI X S ip ys σ H s := by
  obtain ⟨acc, c, r, I⟩ := h
  exact ⟨acc, c, r, Inv.unpinned (pins := (S, lstObj acc c) :: ip) (pl := pl) I⟩
theorem gs_for {iter : Expr} {body : List Stmt} {wi : TI} {g : TG} {tb : TGn} {pos : Pos} (hp : PassesOwn (model X.prog X.w) X.A X.env X.xe) (hc : X.calm = true) (hi : PI X tg iter wi) (hg : PG X tg g) (hb : GSs X body tb)
    (hs : ∀ x, foldedSetIterable iter X.env x = pure x := by intro _; rfl) : GS X (.For tg iter body [] pos) (tGFor wi g tb) := by
  refine ⟨fun A S ip R n ys s₀ c fs K J gd lv s σ H D gc hn k hI ht => ?_⟩
  obtain ⟨acc0, cc0, r0, I⟩ := hI
  refine seg_For ?_ hs
  rw [gc.over]
  refine wpAny_mono (hi.run ((S, lstObj acc0 cc0) :: ip) s σ H _ I ht) (fun v s1 h1 => wpAny_mono h1 (fun itv s2 h2 p => ?_) fun x s' hx => k.exc n s₀ x s' hx) fun x s' hx => k.exc n s₀ x s' hx
  obtain ⟨it, fp, tn, J', H2, e, I2, T, st2, f2, W, ⟨m0, w0⟩, turn⟩ := h2
  subst e
  have stat : ∀ {acc : Array Value} {cc : Nat} {H' : Hp}, (∀ b ∈ fp, H' b = none) → ∀ b ∈ fp, FpOk X ((S, lstObj acc cc) :: ip) H' b := fun hn b hb => by
    obtain ⟨_, a1, a2, a3, a4, a5⟩ := f2 b hb
    refine ⟨hn b hb, a1, a2, a3, a4, fun q hq => ?_⟩
    rcases List.mem_append.mp hq with hq | hq
    · exact a5 q (List.mem_append_left _ hq)
    · rcases List.mem_cons.mp hq with rfl | hq
      · exact a5 (S, lstObj acc0 cc0) (List.mem_append_right _ (List.mem_cons_self ..))
      · exact a5 q (List.mem_append_right _ (List.mem_cons_of_mem _ hq))
  have gl := fun (kk : Result → Sem PySem.Fin) => gc_loop (k := kk) (c' := .forLoop tg (.ref it) body [] X.env) (l := lv []) (kp := []) (p := p) gc rfl rfl
  have loop : ∀ (m i n : Nat) (ys : List V) (s₀ s : Shared) (σ : St) (H : Hp), n + ys.length = sizeLine → W i m ys σ H → GI X S ip ys σ H s → tn i s.heap → (∀ b ∈ fp, H b = none) →
      Seg (model X.prog X.w) A R (GY X S) n s₀ (.forLoop tg (.ref it) body [] X.env) ((model X.prog X.w).den (.forLoop tg (.ref it) body [] X.env))
        (.ret (fun r => ((match r with | .ok f => (.pure f : Sem Flow) | .error e => .raise e).onRaise (cameBack X.env)).wrap K J gd lv) none (gd false) (lv []) c p [] :: fs) s := by
    intro m
    induction m using Nat.strongRecOn with
    | ind m ih =>
      intro i n ys s₀ s σ H hn w hI st3 fr3
      have ee : ∀ (n : Nat) (s₀ : Shared) (x : Value) (s' : Shared), X.xe x s' → Seg (model X.prog X.w) A R (GY X S) n s₀ (.forLoop tg (.ref it) body [] X.env)
          ((do noteFrame x X.env; theTreesLotGoes x : Sem Unit).wrap (fun _ => .raise x) .raise id id)
          (.ret (fun r => ((match r with | .ok f => (.pure f : Sem Flow) | .error e => .raise e).onRaise (cameBack X.env)).wrap K J gd lv) none (gd false) (lv []) c p [] :: fs) s' := fun n s₀ x s' hx => by
        refine seg_wrap ?_
        rw [(gl _).over]
        refine wpAny_bind (wpAny_mono (hp x s' hx) (fun _ s'' hcb => wpAny_theTreesLotGoes ?_) fun y s'' hcb => ?_)
        · exact seg_leaf (.error x) (seg_cameBack gc k hcb)
        · exact seg_leaf (.error y) (seg_cameBack gc k hcb)
      refine seg_forLoop ?_
      rw [(gl _).over]
      obtain ⟨acc, cc, r, I3⟩ := hI
      rcases turn i m ys σ H w with ⟨stop, qn⟩ | ⟨go, N, hN, step⟩
      · refine wpAny_mono (T.done X rfl rfl rfl hc i _ s σ H X.xe I3 (stat fr3) st3 stop) (fun r1 s4 h4 => ?_) fun x s' hx => ee n s₀ x s' hx
        obtain ⟨hr, I4⟩ := h4
        subst hr
        exact seg_leaf (.ok .next) (k.ok n ys s₀ s4 .next hn ⟨σ, H, ⟨acc, cc, r, I4⟩, qn⟩)
      · refine wpAny_mono (T.item X rfl rfl rfl hc i _ s σ H X.xe I3 (stat fr3) st3 go) (fun r1 s4 h4 => ?_) fun x s' hx => ee n s₀ x s' hx
        obtain ⟨u, hr, h4⟩ := h4
        subst hr
        refine wpAny_mono h4 (fun _ s5 h5 => ?_) fun x s' hx => ee n s₀ x s' hx
        obtain ⟨x, H5, I5, r5, y5, st5, fr5⟩ := h5
        have I5' := I5.pinned (stat fr5) (T.obj _ _ st5)
        refine wpAny_mono (hg.run _ s5 σ H5 x u _ I5' r5 (step x H5 y5)) (fun _ s6 h6 => ?_) fun x s' hx => ee n s₀ x s' hx
        obtain ⟨σ6, H6, I6, q6⟩ := h6
        have again : ∀ {ys' : List V} {σ7 : St} {H7 : Hp} {s7 : Shared}, GI X S (ip ++ pinsAt fp s5.heap) ys' σ7 H7 s7 → tn (i + 1) s7.heap ∧ ∀ b ∈ fp, H7 b = none := fun {ys' σ7 H7 s7} g7 => by
          obtain ⟨acc7, c7, r7, I7⟩ := g7
          refine ⟨T.keep _ _ _ st5 fun b hb o e => (I7.pin (b, o) (List.mem_append_right _ (List.mem_cons_of_mem _ (List.mem_append_right _ (mem_pinsAt hb e))))).1, fun b hb => ?_⟩
          obtain ⟨o, e, d⟩ := T.obj _ _ st5 b hb
          exact (I7.pin (b, o) (List.mem_append_right _ (List.mem_cons_of_mem _ (List.mem_append_right _ (mem_pinsAt hb e))))).2.1
        have gb := gl (fun r => ((match r with | .ok f => (.pure f : Sem Flow) | .error e => .raise e).onRaise (cameBack X.env)).wrap K J gd lv)
        have gb' : GC X S (ip ++ pinsAt fp s5.heap) A (.forLoop tg (.ref it) body [] X.env) (.ret (fun r => ((match r with | .ok f => (.pure f : Sem Flow) | .error e => .raise e).onRaise (cameBack X.env)).wrap K J gd lv) none (gd false) (lv []) c p [] :: fs) id :=
          { gb with ip := fun q hq => (List.mem_append.mp hq).elim (gb.ip q) fun z e => (stat (acc := acc) (cc := cc) fr5 q.1 (of_pinsAt z).1).2.2.2.2.2 (S, lstObj acc cc) (List.mem_append_right _ (List.mem_cons_self ..)) e.symm }
        refine hb.run A S (ip ++ pinsAt fp s5.heap) R n ys s₀ _ _ _ _ id id s6 σ6 H6 { D with nx := N, ct := N, bk := D.nx } gb' hn ⟨fun n' ys' s₀' s7 f hn' hs7 => ?_, fun n' s₀' x s7 hx => ee n' s₀' x s7 hx⟩ ⟨acc, cc, r, I6⟩ q6
        cases f with
        | next =>
          obtain ⟨σ7, H7, I7, n7⟩ := hs7
          obtain ⟨m', hm, w7⟩ := hN ys' σ7 H7 n7
          exact seg_again rfl (ih m' hm (i + 1) n' ys' s₀' s7 σ7 H7 hn' w7 I7.unpin (again I7).1 (again I7).2)
        | cont =>
          obtain ⟨σ7, H7, I7, n7⟩ := hs7
          obtain ⟨m', hm, w7⟩ := hN ys' σ7 H7 n7
          exact seg_again rfl (ih m' hm (i + 1) n' ys' s₀' s7 σ7 H7 hn' w7 I7.unpin (again I7).1 (again I7).2)
        | brk =>
          obtain ⟨σ7, H7, I7, q7⟩ := hs7
          exact seg_leaf (.ok .next) (k.ok n' ys' s₀' s7 .next hn' ⟨σ7, H7, I7.unpin, q7⟩)
        | ret v =>
          obtain ⟨v7, σ7, H7, I7, r7, q7⟩ := hs7
          exact seg_leaf (.ok (.ret v)) (k.ok n' ys' s₀' s7 (.ret v) hn' ⟨v7, σ7, H7, I7.unpin, r7, q7⟩)
  exact loop m0 0 n ys s₀ s2 σ H2 hn w0 ⟨acc0, cc0, r0, I2⟩ st2 fun b hb => (f2 b hb).1
end
end L2
namespace My
open PySem L2

local macro_rules | `(tactic| walk_at "src") => `(tactic| first | assumption | (refine' SrcAt.keep ?h ?s; (case s => assumption); (case h => walk_at "src")))
local macro_rules | `(tactic| walk_at "ne") => `(tactic| first | assumption | (apply Ne.symm; assumption) | (refine' SrcAt.ne ?a ?b; (case b => assumption); (case a => walk_at "src")))
local macro_rules | `(tactic| walk_at "hp") => `(tactic| first
  | assumption
  | with_reducible exact upd_same
  | (refine' Same.at ?s ?h; (case s => assumption); (case h => walk_at "hp"))
  | (refine' But.at ?s ?n ?h; (case s => assumption); (case n => walk_at "ne"); (case h => walk_at "hp"))
  | (rw [upd_ne (by first | assumption | (apply Ne.symm; assumption))]; walk_at "hp"))
local macro_rules | `(tactic| walk_at "side") => `(tactic| first | assumption | decide | omega | exact mulL (by omega) (by omega) | exact mulR (by omega) (by omega) | exact cdiv_of (by omega) (by omega) | exact powOk (by omega) (by omega) (by decide) | exact mulL (Int.lt_of_lt_of_le (by decide) (fmod_nn (by decide))) (Int.lt_trans (fmod_lt (by decide)) (by decide)))
local macro_rules | `(tactic| walk_at "pl") => `(tactic| ((repeat with_reducible refine putF_le ?_); with_unfolding_all exact Nat.le_of_ble_eq_true rfl))
local macro_rules | `(tactic| walk_at "lk") => `(tactic| first | assumption | (rw [lookup_putF, if_pos rfl]) | (rw [lookup_putF, if_neg (by decide +kernel)]; walk_at "lk"))
local macro_rules | `(tactic| walk_at "cls") => `(tactic| first | with_unfolding_all exact Txt.cl_Tree (by assumption) | with_unfolding_all exact Txt.nF_Tree_letter (by assumption) | with_unfolding_all exact Txt.nF_Tree_gap (by assumption) | with_unfolding_all exact Txt.nF_Tree_turns (by assumption) | with_unfolding_all exact Txt.nF_Tree_roots (by assumption) | with_unfolding_all exact Txt.nF_Tree_horizon (by assumption) | with_unfolding_all exact Txt.nF_Tree_powers (by assumption) | with_unfolding_all exact Txt.cl_Machine (by assumption) | with_unfolding_all exact Txt.nF_Machine_o (by assumption) | with_unfolding_all exact Txt.nF_Machine_l (by assumption) | with_unfolding_all exact Txt.nF_Machine_g (by assumption) | with_unfolding_all exact Txt.nF_Machine_letter (by assumption) | with_unfolding_all exact Txt.nF_Machine_gap (by assumption))
/-- one turn of a reading -/
local macro_rules | `(tactic| walk_at "rd") => `(tactic| with_reducible first
  | (refine r_seq ?_; fail_if_success (refine r_ifS ?_))
  | refine r_asg ?_
  | refine r_gName ?_
  | (refine' r_var ?hv ?_; (case hv => with_unfolding_all exact rfl))
  | refine r_c ?_
  | refine r_op ?_
  | refine r_I0 ?_
  | (refine' r_I ?hc ?_; (case hc => walk_at "side"))
  | refine r_add ?_
  | refine r_sub ?_
  | refine r_eqI ?_
  | refine r_neI ?_
  | (refine' r_ixL ?hp ?he ?_; (case hp => walk_at "hp"); (case he => with_unfolding_all exact rfl))
  | (refine' r_ixT ?hp ?he ?_; (case hp => walk_at "hp"); (case he => with_unfolding_all exact rfl))
  | refine r_cons ?_
  | refine r_nil ?_
  | refine r_CB ?_
  | refine r_call ?_
  | refine r_test ?_
  | refine r_tB ?_
  | refine r_bl ?_
  | refine r_in ?_
  | refine Or.inl (r_in1 ?_)
  | refine r_in1 ?_
  | refine r_in2 ?_
  | (refine' r_lenL ?hp ?_; (case hp => walk_at "hp"))
  | (refine' r_lenT ?hp ?_; (case hp => walk_at "hp"))
  | refine r_ifS ?_
  | refine r_and ?_
  | refine r_or ?_
  | refine r_not ?_
  | refine r_andV ?_
  | refine r_orV ?_
  | refine r_notV ?_
  | refine r_ifE ?_
  | refine r_ret ?_
  | refine r_next ?_
  | refine r_drop ?_
  | refine r_gSub ?_
  | (refine' r_setL ?hp ?he ?_; (case hp => walk_at "hp"); (case he => with_unfolding_all exact rfl))
  | (refine' r_aug ?he ?_; (case he => with_unfolding_all exact rfl))
  | refine r_augS ?_
  | refine r_ip ?_
  | refine r_tup ?_
  | refine r_lst ?_
  | refine r_tFld ?_
  | (refine' r_fld ?hc ?hn ?hx ?he ?_; (case hx => walk_at "hp"); (case hc => walk_at "cls"); (case hn => walk_at "cls"); (case he => walk_at "lk"))
  | (refine' r_put ?hc ?hn ?hx ?hl ?_; (case hx => walk_at "hp"); (case hc => walk_at "cls"); (case hn => walk_at "cls"); (case hl => walk_at "pl"))
  | refine r_sl ?_
  | refine r_noP ?_
  | refine r_part ?_
  | refine r_un ?_
  | refine r_U ?_
  | refine r_Bm ?_
  | refine r_cont ?_
  | refine r_brk ?_
  | refine r_isNn ?_
  | refine r_isNi ?_
  | refine r_isNr ?_
  | refine r_notNn ?_
  | refine r_notNi ?_
  | refine r_notNr ?_
  | refine r_chain ?_
  | refine r_sFld ?_
  | refine r_make ?_
  | refine r_yes ?_
  | refine r_lc ?_
  | refine r_isiI true (by decide +kernel) ?_
  | refine r_isiI false (by decide +kernel) ?_
  | refine r_for ?_
  | refine r_iR1 ?_
  | refine r_iR2 ?_
  | refine r_iL ?_
  | refine r_tMeth ?_
  | (refine' r_meth ?hx ?hl ?_; (case hx => walk_at "hp"); (case hl => walk_at "no"))
  | refine r_iT ?_
  | refine iteT ?_
  | refine r_nF ?_
  | refine r_nT ?_
  | refine iteF ?_)
local macro_rules | `(tactic| walk_at "rdi") => `(tactic| with_reducible (refine r_seq ?_; refine r_ifS ?_))

/-! ### the law's draws -/
def spDraw : Sp := fun vs H Q _ => ∃ (p q : Addr) (lim : Int), vs = [.ref p, .int lim] ∧ SrcAt H p q ∧ 0 < lim ∧ lim < 2 ^ 200 ∧
  ∀ (r : Int) (H' : Hp), 0 ≤ r → r < lim → SrcAt H' p q → But p H H' → Q (.int r) H'
section
variable {P : Program} {w : World} {K : PySem.W.Frag} {mg : Str → Option Value} {base : Heap} {a : Adr}
theorem ok__law_draw (T : Txt K mg a) : FnOk P w K mg base CX0 1 a.a__law_draw a.d__law_draw ["_law_source_here", "_law_limit"] spDraw := by
  refine T.F__law_draw.ok sc__law_draw (fun vs H Q E h => ?_) (fun cdv A outer s H vs Q E hr h => ?_)
  · obtain ⟨p, q, lim, rfl, _⟩ := h
    rfl
  · obtain ⟨p, q, lim, rfl, ⟨cs, i, big, cnt, st, h1, h2, h3, hi, hb, hl⟩, hl0, hl1, k⟩ := h
    refine ⟨_, (pss_cons (ps_augS (pv 0) pe_int gt_list pe_int ip_add set_list)
 (pss_cons (ps_if (PW.pt (pw_and (pt_cmpR op_eq (pe_ix ix_list (pv 0) pe_int (fun _ _ => rfl)) pe_int (nomark _)) (pw_and1 (pt_cmpR op_lt (pe_ix ix_list (pv 0) pe_int (fun _ _ => rfl)) (pe_callB call_len_seq (by rfl) T.n_len (by decide +kernel) (pa_cons (pe_ix ix_list (pv 0) pe_int (fun _ _ => rfl)) pa_nil)) (nomark _))))) (pss_cons (ps_set (i := 2) sc__law_draw.nd rfl (Or.inl rfl) (pe_ix ix_list (pe_ix ix_list (pv 0) pe_int (fun _ _ => rfl)) (pe_ix ix_list (pv 0) pe_int (fun _ _ => rfl)) (fun _ _ => rfl)))
 (pss_cons (ps_augS (pv 0) pe_int gt_list pe_int ip_add set_list)
 (pss_one (ps_if (pt_cmpR op_ge (pv 2) (pe_powN (z := 1000000000000000000) ⟨by decide, by decide, by decide⟩ (by decide +kernel)) (nomark _)) (pss_one (ps_asg (pv 2) (pg_sub (pv 0) pe_int set_list)))
 (pss_one (ps_asg (pe_op op_modN (pe_callTy call_int1 (by rfl) T.n_int (by decide +kernel) (pa_cons (pe_op op_add (pe_op op_add (pe_op op_mul (pe_ix ix_list (pv 0) pe_int (fun _ _ => rfl)) pe_int) (pe_op op_mul (pv 2) pe_int)) pe_int) pa_nil)) pe_int) (pg_sub (pv 0) pe_int set_list)))))))
 pss_nil)
 (pss_cons (ps_if (pt_cmpR op_gt (pe_ix ix_list (pv 0) pe_int (fun _ _ => rfl)) pe_int (nomark _)) (pss_cons (ps_set (i := 3) sc__law_draw.nd rfl (Or.inl rfl) (pe_op op_modN (pe_callTy call_int1 (by rfl) T.n_int (by decide +kernel) (pa_cons (pe_ix ix_list (pv 0) pe_int (fun _ _ => rfl)) pa_nil)) (pv 1)))
 (pss_cons (ps_asg (pe_op op_fdivW (pe_ix ix_list (pv 0) pe_int (fun _ _ => rfl)) (pv 1)) (pg_sub (pv 0) pe_int set_list))
 (pss_one (ps_ret (pv 3)))))
 pss_nil)
 (pss_cons (ps_set (i := 4) sc__law_draw.nd rfl (Or.inl rfl) (pe_op op_modN (pe_callTy call_int1 (by rfl) T.n_int (by decide +kernel) (pa_cons (pe_op op_mul (pe_op op_add (pe_ix ix_list (pv 0) pe_int (fun _ _ => rfl)) (pe_op op_mul pe_int (pe_ix ix_list (pv 0) pe_int (fun _ _ => rfl)))) pe_int) pa_nil)) pe_int))
 (pss_cons (ps_set (i := 5) sc__law_draw.nd rfl (Or.inl rfl) (pe_op op_modN (pe_callTy call_int1 (by rfl) T.n_int (by decide +kernel) (pa_cons (pe_op op_mul (pv 4) (pe_op op_add (pe_op op_fdivW (pv 4) pe_int) pe_int)) pa_nil)) pe_int))
 (pss_cons (ps_set (i := 6) sc__law_draw.nd rfl (Or.inl rfl) (pe_op op_modN (pe_callTy call_int1 (by rfl) T.n_int (by decide +kernel) (pa_cons (pe_op op_mul (pv 5) (pe_op op_add (pe_op op_fdivW (pv 5) pe_int) pe_int)) pa_nil)) pe_int))
 (pss_one (ps_ret (pe_op op_modN (pe_callTy call_int1 (by rfl) T.n_int (by decide +kernel) (pa_cons (pe_op op_fdivW (pv 6) pe_int) pa_nil)) (pv 1)))))))))), ?_⟩
    -- src[3] += 1
    repeat walk_at "rd"
    with_reducible refine seq_with (fun σ H' => ∃ (i big cnt st : Int) (v : Option V), σ = [some (.ref p), some (.int lim), v, none, none, none, none] ∧ H' p = some (.lst [.ref q, .int i, .int big, .int cnt, .int st]) ∧ H' q = some (.lst (cs.map V.int)) ∧ But p H H' ∧ 0 ≤ i ∧ 0 ≤ big) ?_ (fun rest => ?_)
    · clear h1 h2 hi hb
      rintro σ H' ⟨i, big, cnt, st, v, rfl, hp, hq, bt, hi, hb⟩
      walk_at "rdi"
      repeat walk_at "rd"
      refine ite_d (fun hc => ?_) (fun hc => ?_)
      · repeat walk_at "rd"
        exact k _ _ (fmod_nn hl0) (fmod_lt hl0) ⟨cs, i, _, cnt, st, upd_same, (upd_ne h3).trans hq, h3, hi, Int.ediv_nonneg hb (by omega), hl⟩ (bt.trans But.upd)
      · repeat walk_at "rd"
        exact k _ _ (fmod_nn hl0) (fmod_lt hl0) ⟨cs, i, _, cnt, st, hp, hq, h3, hi, hb, hl⟩ bt
    · have nq : H q ≠ none := by rw [h2]; intro z; cases z
      have hp1 : upd H p (HO.lst ([V.ref q, V.int i, V.int big, V.int cnt, V.int st].set (Int.toNat 3) (V.int (cnt + 1)))) p = some (.lst [.ref q, .int i, .int big, .int (cnt + 1), .int st]) := upd_same
      have hq1 : upd H p (HO.lst ([V.ref q, V.int i, V.int big, V.int cnt, V.int st].set (Int.toNat 3) (V.int (cnt + 1)))) q = some (.lst (cs.map V.int)) := (upd_ne h3).trans h2
      have bt1 : But p H (upd H p (HO.lst ([V.ref q, V.int i, V.int big, V.int cnt, V.int st].set (Int.toNat 3) (V.int (cnt + 1))))) := But.upd
      generalize upd H p (HO.lst ([V.ref q, V.int i, V.int big, V.int cnt, V.int st].set (Int.toNat 3) (V.int (cnt + 1)))) = H1 at hp1 hq1 bt1 ⊢
      clear h1 h2
      have no : ∀ (v : Option V), _ := fun v => rest [some (.ref p), some (.int lim), v, none, none, none, none] H1 ⟨i, big, cnt + 1, st, v, rfl, hp1, hq1, bt1, hi, hb⟩
      repeat walk_at "rd"
      refine ite_d (fun hc => ?_) (fun hc => ?_)
      · repeat walk_at "rd"
        refine ite_d (fun hc2 => ?_) (fun hc2 => ?_)
        · obtain ⟨c, hc3, _⟩ := at_nat (ns := cs) hi hc2
          repeat walk_at "rd"
          refine r_ixL hq1 hc3 ?_
          repeat walk_at "rd"
          refine ite_d (fun hc4 => ?_) (fun hc4 => ?_)
          · repeat walk_at "rd"
            exact rest _ _ ⟨i + 1, c, cnt + 1, st, _, rfl, upd_same, (upd_ne h3).trans ((upd_ne h3).trans hq1), (bt1.trans But.upd).trans But.upd, by omega, by omega⟩
          · repeat walk_at "rd"
            exact rest _ _ ⟨i + 1, big, cnt + 1, _, _, rfl, upd_same, (upd_ne h3).trans ((upd_ne h3).trans hq1), (bt1.trans But.upd).trans But.upd, by omega, by omega⟩
        · ((repeat walk_at "rd"); exact no none)
      · ((repeat walk_at "rd"); exact no none)

def spBig : Sp := fun vs H Q _ => ∃ (p q : Addr) (lim : Int), vs = [.ref p, .int lim] ∧ SrcAt H p q ∧ 0 < lim ∧
  ∀ (r : Int) (H' : Hp), 0 ≤ r → r < lim → SrcAt H' p q → But p H H' → Q (.int r) H'
theorem ok__law_big (T : Txt K mg a) : FnOk P w K mg base CX0 2 a.a__law_big a.d__law_big ["_law_source_here", "_law_limit"] spBig := by
  refine T.F__law_big.ok sc__law_big (fun vs H Q E h => ?_) (fun cdv A outer s H vs Q E hr h => ?_)
  · obtain ⟨p, q, lim, rfl, _⟩ := h
    rfl
  · obtain ⟨p, q, lim, rfl, hs, hl0, k⟩ := h
    refine ⟨_, (pss_cons (ps_set (i := 2) sc__law_big.nd rfl (Or.inl rfl) pe_int)
 (pss_cons (ps_for (by exact PassesOwn.never) rfl (pi_range1 (by rfl) T.n_range (pa_cons pe_int pa_nil)) (pg_name (i := 3) sc__law_big.nd rfl (Or.inl rfl))
 (pss_one (ps_set (i := 2) sc__law_big.nd rfl (Or.inl rfl) (pe_op op_add (pe_op op_mul (pv 2) pe_int) (pe_call (ok__law_draw T) (hr.mono (by decide)) (by rfl) T.g__law_draw T.F__law_draw.kp T.b__law_draw .nil pass0 (pa_cons (pv 0) (pa_cons pe_int pa_nil)))))))
 (pss_one (ps_ret (pe_op op_modN (pe_callTy call_int1 (by rfl) T.n_int (by decide +kernel) (pa_cons (pv 2) pa_nil)) (pv 1)))))), ?_⟩
    repeat walk_at "rd"
    refine ⟨by decide, by decide, for_range (lo := 0) (n := 5) (fun i σ H' => ∃ (n : Int) (v : Option V), σ = [some (.ref p), some (.int lim), some (.int n), v] ∧ SrcAt H' p q ∧ But p H H') ⟨_, _, rfl, hs, But.refl _ _⟩ ?_ ?_⟩
    · rintro i σ H1 hi ⟨n, v, rfl, hs1, b1⟩
      repeat walk_at "rd"
      refine ⟨p, q, _, rfl, hs1, by decide, by decide, fun r H2 r0 r1 hs2 b2 => ?_⟩
      repeat walk_at "rd"
      exact ⟨_, _, rfl, hs2, b1.trans b2⟩
    · rintro σ H1 ⟨n, v, rfl, hs1, b1⟩
      repeat walk_at "rd"
      exact k _ _ (fmod_nn hl0) (fmod_lt hl0) hs1 b1
end

/-! ### the machine's numbers, its times, whether a thing is an int -/
/-- o, l, g of a machine, at t -/
structure NumAt (H : Hp) (t : Addr) (o l g : Int) : Prop where
  at_ : H t = some (.tup [.int o, .int l, .int g])
  o0 : 0 ≤ o
  o9 : o ≤ 1000000000
  l0 : 0 ≤ l
  l9 : l ≤ 1000000000
  g1 : 1 ≤ g
  g9 : g ≤ 1000000000
  pos : 0 < 2 * o + l
theorem NumAt.keep {H H' : Hp} {t : Addr} {o l g : Int} (N : NumAt H t o l g) (h : H' t = H t) : NumAt H' t o l g := { N with at_ := h.trans N.at_ }
def spNumbers : Sp := fun vs H Q _ => ∃ (p q : Addr), vs = [.ref p] ∧ SrcAt H p q ∧ ∀ (t : Addr) (o l g : Int) (H' : Hp), NumAt H' t o l g → H t = none → SrcAt H' p q → But p H H' → Q (.ref t) H'
def gapOf (o g : Int) : Int := if g > o then g else o
def spTimes : Sp := fun vs H Q _ => ∃ (t : Addr) (o l g : Int), vs = [.ref t] ∧ H t = some (.tup [.int o, .int l, .int g]) ∧ ∀ (u : Addr) (H' : Hp), H u = none → Same H H' → H' u = some (.tup [.int (2 * o + l), .int (gapOf o g)]) → Q (.ref u) H'
def spIs : Sp := fun vs H Q _ => ∃ (i j : Int), vs = [.int i, .int j] ∧ Q (.bl (decide (i = j))) H
def spSource (K : PySem.W.Frag) : Sp := fun vs H Q _ => ∃ (b : Addr) (ns : List Int), vs = [.ref b] ∧ SqL K H b (ns.map V.int) ∧ ns.length ≤ 63 ∧ ∀ (p q : Addr) (H' : Hp), SrcAt H' p q → H p = none → H q = none → Same H H' → Q (.ref p) H'
section
variable {P : Program} {w : World} {K : PySem.W.Frag} {mg : Str → Option Value} {base : Heap} {a : Adr}
theorem ok__law_times (T : Txt K mg a) : FnOk P w K mg base CX0 1 a.a__law_times a.d__law_times ["_law_numbers_here"] spTimes := by
  refine T.F__law_times.ok sc__law_times (fun vs H Q E h => ?_) (fun cdv A outer s H vs Q E hr h => ?_)
  · obtain ⟨t, o, l, g, rfl, _⟩ := h
    rfl
  · obtain ⟨t, o, l, g, rfl, ht, k⟩ := h
    refine ⟨_, (pss_one (ps_ret (pe_tup (pa_cons (pe_op op_add (pe_op op_mul pe_int (pe_ix ix_tup (pv 0) pe_int (fun _ _ => rfl))) (pe_ix ix_tup (pv 0) pe_int (fun _ _ => rfl))) (pa_cons (pe_callB (call_max2 rfl) (by rfl) T.n_max (by decide +kernel) (pa_cons (pe_ix ix_tup (pv 0) pe_int (fun _ _ => rfl)) (pa_cons (pe_ix ix_tup (pv 0) pe_int (fun _ _ => rfl)) pa_nil))) pa_nil))))), ?_⟩
    repeat walk_at "rd"
    exact new_at (Nat.le_of_ble_eq_true rfl) k
theorem ok__law_source (T : Txt K mg a) : FnOk P w K mg base CX0 1 a.a__law_source a.d__law_source ["_law_script"] (spSource K) := by
  refine T.F__law_source.ok sc__law_source (fun vs H Q E h => ?_) (fun cdv A outer s H vs Q E hr h => ?_)
  · obtain ⟨i, j, rfl, _⟩ := h
    rfl
  · obtain ⟨b, ns, rfl, hS, hl, k⟩ := h
    refine ⟨_, (pss_one (ps_ret (pe_lst (pa_cons (pe_lc (own := [("_law_cell", 1)]) (g := gName 1) (tt := tYes) rfl sc__law_source.nd (pi_list (pe_slice sl_list (pv 0) po_none (po_some pe_int))) (blkOk_by (own := [("_law_cell", 1)]) (N := ["_law_script", "_law_cell"]) (sc := defScope s__law_source) (by decide +kernel)) (fun _ _ _ _ _ => (pg_name (i := 1) sc__law_source.nd rfl (Or.inl rfl))) (fun _ _ _ _ _ => pts_nil) (fun _ _ _ _ _ => (pe_callTy call_int1 (by rfl) T.n_int (by decide +kernel) (pa_cons (pv 1) pa_nil)))) (pa_cons pe_int (pa_cons pe_int (pa_cons pe_int (pa_cons pe_int pa_nil)))))))), ?_⟩
    repeat walk_at "rd"
    refine r_slL hS (fun p0 H1 n0 s1 e0 => ?_)
    rw [cut_take (by rw [List.length_map]; omega)] at e0
    refine ⟨p0, rfl, ⟨_, SqL.of e0⟩, fun D hD => lc_list (K := K) (a := p0) (xs := ns.map V.int) (fun i H' => H' D = some (.lst ((ns.take i).map V.int)) ∧ H' p0 = some (.lst (ns.map V.int)) ∧ Same H H') ?_ (fun i H' _ h => SqL.of h.2.1) ?_ ?_⟩
    · exact ⟨upd_same, (upd_ne (ne_of_none e0 hD)).trans e0, s1.trans (Same.new hD)⟩
    · rintro i x H2 hi ⟨h1, h2, h3⟩
      obtain ⟨z, hz, rfl⟩ := int_of_get hi
      repeat walk_at "rd"
      refine ⟨rfl, ?_⟩
      repeat walk_at "rd"
      have nD : H D = none := s1.free hD
      refine ⟨_, h1, small1000 (by rw [List.length_map, List.length_take]; omega), ?_, (upd_ne (ne_of_none e0 hD)).trans h2, h3.over nD h1⟩
      rw [upd_same, take_more hz, List.map_append]
      rfl
    · rintro H2 ⟨h1, h2, h3⟩
      repeat walk_at "rd"
      refine new_at (Nat.le_of_ble_eq_true rfl) (fun p H3 np s3 e3 => ?_)
      rw [List.length_map, List.take_length] at h1
      exact k p D _ ⟨ns, 0, 0, 0, 7, e3, s3 _ _ h1, ne_of_none h1 np, by decide, by decide, hl⟩ (h3.free np) (s1.free hD) (h3.trans s3)
theorem ok__law_numbers (T : Txt K mg a) : FnOk P w K mg base CX0 3 a.a__law_numbers a.d__law_numbers ["_law_source_here"] spNumbers := by
  refine T.F__law_numbers.ok sc__law_numbers (fun vs H Q E h => ?_) (fun cdv A outer s H vs Q E hr h => ?_)
  · obtain ⟨p, q, rfl, _⟩ := h
    rfl
  · obtain ⟨p, q, rfl, hs, k⟩ := h
    refine ⟨_, (pss_cons (ps_set (i := 1) sc__law_numbers.nd rfl (Or.inl rfl) (pe_call (ok__law_draw T) (hr.mono (by decide)) (by rfl) T.g__law_draw T.F__law_draw.kp T.b__law_draw .nil pass0 (pa_cons (pv 0) (pa_cons pe_int pa_nil))))
 (pss_cons (ps_set (i := 2) sc__law_numbers.nd rfl (Or.inl rfl) (pe_ix ix_list (pe_lst (pa_cons (pe_tup (pa_cons pe_int (pa_cons pe_int (pa_cons pe_int pa_nil)))) (pa_cons (pe_tup (pa_cons pe_int (pa_cons pe_int (pa_cons pe_int pa_nil)))) (pa_cons (pe_tup (pa_cons pe_int (pa_cons pe_int (pa_cons pe_int pa_nil)))) (pa_cons (pe_tup (pa_cons pe_int (pa_cons pe_int (pa_cons pe_int pa_nil)))) (pa_cons (pe_tup (pa_cons pe_int (pa_cons pe_int (pa_cons pe_int pa_nil)))) (pa_cons (pe_tup (pa_cons (pe_op op_add (pe_powN (z := 1000000000) ⟨by decide, by decide, by decide⟩ (by decide +kernel)) pe_int) (pa_cons (pe_op op_add (pe_powN (z := 1000000000) ⟨by decide, by decide, by decide⟩ (by decide +kernel)) pe_int) (pa_cons (pe_powN (z := 1000000000) ⟨by decide, by decide, by decide⟩ (by decide +kernel)) pa_nil)))) pa_nil))))))) (pv 1) (fun _ _ => rfl)))
 (pss_cons (ps_set (i := 3) sc__law_numbers.nd rfl (Or.inl rfl) (pe_call (ok__law_big T) (hr.mono (by decide)) (by rfl) T.g__law_big T.F__law_big.kp T.b__law_big .nil pass0 (pa_cons (pv 0) (pa_cons (pe_ix ix_tup (pv 2) pe_int (fun _ _ => rfl)) pa_nil))))
 (pss_cons (ps_set (i := 4) sc__law_numbers.nd rfl (Or.inl rfl) (pe_call (ok__law_big T) (hr.mono (by decide)) (by rfl) T.g__law_big T.F__law_big.kp T.b__law_big .nil pass0 (pa_cons (pv 0) (pa_cons (pe_ix ix_tup (pv 2) pe_int (fun _ _ => rfl)) pa_nil))))
 (pss_cons (ps_set (i := 5) sc__law_numbers.nd rfl (Or.inl rfl) (pe_op op_add pe_int (pe_call (ok__law_big T) (hr.mono (by decide)) (by rfl) T.g__law_big T.F__law_big.kp T.b__law_big .nil pass0 (pa_cons (pv 0) (pa_cons (pe_ix ix_tup (pv 2) pe_int (fun _ _ => rfl)) pa_nil)))))
 (pss_cons (ps_if (pt_cmpR op_eq (pe_op op_add (pe_op op_mul pe_int (pv 3)) (pv 4)) pe_int (nomark _)) (pss_one (ps_set (i := 4) sc__law_numbers.nd rfl (Or.inl rfl) pe_int))
 pss_nil)
 (pss_one (ps_ret (pe_tup (pa_cons (pv 3) (pa_cons (pv 4) (pa_cons (pv 5) pa_nil)))))))))))), ?_⟩
    repeat walk_at "rd"
    refine ⟨p, q, 6, rfl, hs, by decide, by decide, fun kind H1 k0 k6 hs1 b1 => ?_⟩
    repeat walk_at "rd"
    refine new_at (Nat.le_of_ble_eq_true rfl) (fun t1 H2 n1 s1 e1 => ?_)
    repeat walk_at "rd"
    refine new_at (Nat.le_of_ble_eq_true rfl) (fun t2 H3 n2 s2 e2 => ?_)
    repeat walk_at "rd"
    refine new_at (Nat.le_of_ble_eq_true rfl) (fun t3 H4 n3 s3 e3 => ?_)
    repeat walk_at "rd"
    refine new_at (Nat.le_of_ble_eq_true rfl) (fun t4 H5 n4 s4 e4 => ?_)
    repeat walk_at "rd"
    refine new_at (Nat.le_of_ble_eq_true rfl) (fun t5 H6 n5 s5 e5 => ?_)
    repeat walk_at "rd"
    refine new_at (Nat.le_of_ble_eq_true rfl) (fun t6 H7 n6 s6 e6 => ?_)
    repeat walk_at "rd"
    refine new_at (Nat.le_of_ble_eq_true rfl) (fun tl H8 n7 s7 e7 => ?_)
    obtain ⟨t, A, B, C, hat, et, nt, hA, hB, hC⟩ : ∃ (t : Addr) (A B C : Int), atI [V.ref t1, V.ref t2, V.ref t3, V.ref t4, V.ref t5, V.ref t6] kind = some (.ref t) ∧ H8 t = some (.tup [.int A, .int B, .int C]) ∧ t ≠ p ∧ (1 ≤ A ∧ A ≤ 1000000001) ∧ (1 ≤ B ∧ B ≤ 1000000001) ∧ 1 ≤ C ∧ C ≤ 1000000000 := by
      have hk : kind = 0 ∨ kind = 1 ∨ kind = 2 ∨ kind = 3 ∨ kind = 4 ∨ kind = 5 := by omega
      rcases hk with rfl | rfl | rfl | rfl | rfl | rfl
      · exact ⟨t1, _, _, _, rfl, by walk_at "hp", by walk_at "ne", by decide, by decide, by decide⟩
      · exact ⟨t2, _, _, _, rfl, by walk_at "hp", by walk_at "ne", by decide, by decide, by decide⟩
      · exact ⟨t3, _, _, _, rfl, by walk_at "hp", by walk_at "ne", by decide, by decide, by decide⟩
      · exact ⟨t4, _, _, _, rfl, by walk_at "hp", by walk_at "ne", by decide, by decide, by decide⟩
      · exact ⟨t5, _, _, _, rfl, by walk_at "hp", by walk_at "ne", by decide, by decide, by decide⟩
      · exact ⟨t6, _, _, _, rfl, by walk_at "hp", by walk_at "ne", by decide, by decide, by decide⟩
    have hs8 : SrcAt H8 p q := by walk_at "src"
    have b8 : But p H H8 := b1.trans (But.of_same (s1.trans (s2.trans (s3.trans (s4.trans (s5.trans (s6.trans s7)))))))
    repeat walk_at "rd"
    refine r_ixL e7 hat ?_
    clear e1 e2 e3 e4 e5 e6 s1 s2 s3 s4 s5 s6 s7 n1 n2 n3 n4 n5 n6 b1 hat e7
    repeat walk_at "rd"
    refine ⟨p, q, A, rfl, hs8, by omega, fun o H9 o0 oA hs9 b9 => ?_⟩
    repeat walk_at "rd"
    refine ⟨p, q, B, rfl, hs9, by omega, fun l H10 l0 lB hs10 b10 => ?_⟩
    repeat walk_at "rd"
    refine ⟨p, q, C, rfl, hs10, by omega, fun g H11 g0 gC hs11 b11 => ?_⟩
    have b12 : But p H H11 := ((b8.trans b9).trans b10).trans b11
    repeat walk_at "rd"
    with_reducible refine seq_with (fun σ H' => ∃ (l' : Int), σ = [some (.ref p), some (.int kind), some (.ref t), some (.int o), some (.int l'), some (.int (1 + g))] ∧ H' = H11 ∧ 0 < 2 * o + l' ∧ 0 ≤ l' ∧ l' ≤ 1000000000) ?_ (fun rest => ?_)
    · rintro σ H' ⟨l', rfl, rfl, h1, h2, h3⟩
      repeat walk_at "rd"
      refine new_at (Nat.le_of_ble_eq_true rfl) (fun u H12 nu su eu => ?_)
      have nH : H u = none := b12.free hs11 nu
      exact k u o l' (1 + g) _ ⟨eu, o0, by omega, h2, h3, by omega, by omega, h1⟩ nH (hs11.keep su) (b12.trans (But.of_same su))
    · repeat walk_at "rd"
      refine ite_d (fun hc => ?_) (fun hc => ?_)
      · iterate 3 walk_at "rd"
        exact rest _ _ ⟨1, rfl, rfl, by omega, by omega, by omega⟩
      · walk_at "rd"
        exact rest _ _ ⟨l, rfl, rfl, by omega, by omega, by omega⟩
end

/-! ### integers, machines -/
/-- whether the value is an int and no bool -/
def IntV (K : PySem.W.Frag) (H : Hp) (x : V) (b : Bool) : Prop := ∃ (t : Value) (b1 b2 : Bool), TyX K H x t ∧ PySem.W.kitOne K t (.type "int") = some b1 ∧ PySem.W.kitOne K t (.type "bool") = some b2 ∧ b = (b1 && !b2)
theorem IntV.int {K : PySem.W.Frag} {H : Hp} {i : Int} : IntV K H (.int i) true := ⟨_, true, false, .base (.int i), kit_ty (by decide +kernel), kit_ty (by decide +kernel), rfl⟩
theorem r_isi {K : PySem.W.Frag} {H : Hp} {Q : VK} {x : V} {t : Value} {n : String} {b : Bool} (ty : TyX K H x t) (h : PySem.W.kitOne K t (.type n) = some b) (q : Q (.bl b) H) : rIsi K [x, .ty n] H Q := ⟨_, _, t, .type n, b, rfl, .ty n, ty, h, q⟩
def spIsInteger (K : PySem.W.Frag) : Sp := fun vs H Q _ => ∃ (x : V) (b : Bool), vs = [x] ∧ IntV K H x b ∧ Q (.bl b) H
def spBetween (K : PySem.W.Frag) : Sp := fun vs H Q _ => ∃ (x : V) (lo hi : Int) (b : Bool), vs = [x, .int lo, .int hi] ∧ IntV K H x b ∧ (b = false → Q (.bl false) H) ∧ (b = true → ∃ i, x = .int i ∧ Q (.bl (decide (lo ≤ i ∧ i ≤ hi))) H)
theorem r_between {K : PySem.W.Frag} {H : Hp} {Q : VK} {E : XK} {i lo hi : Int} (q : Q (.bl (decide (lo ≤ i ∧ i ≤ hi))) H) : spBetween K [.int i, .int lo, .int hi] H Q E := ⟨_, lo, hi, true, rfl, IntV.int, (fun z => Bool.noConfusion z), fun _ => ⟨i, rfl, q⟩⟩
/-- the attributes of a machine -/
def mf (o l g : Int) : List (Str × V) := putF "gap" (.int (gapOf o g)) (putF "letter" (.int (2 * o + l)) (putF "g" (.int g) (putF "l" (.int l) (putF "o" (.int o) []))))
def MachAt (C : Addr) (H : Hp) (m : Addr) (o l g : Int) : Prop := ∃ dx, H m = some (.ins C dx (mf o l g))
theorem MachAt.keep {C m : Addr} {H H' : Hp} {o l g : Int} (h : MachAt C H m o l g) (s : Same H H') : MachAt C H' m o l g := let ⟨dx, e⟩ := h; ⟨dx, s _ _ e⟩
theorem mf_o {o l g : Int} : (mf o l g).lookup ("o" : Str) = some (.int o) := by unfold mf; walk_at "lk"
theorem mf_l {o l g : Int} : (mf o l g).lookup ("l" : Str) = some (.int l) := by unfold mf; walk_at "lk"
theorem mf_g {o l g : Int} : (mf o l g).lookup ("g" : Str) = some (.int g) := by unfold mf; walk_at "lk"
theorem mf_letter {o l g : Int} : (mf o l g).lookup ("letter" : Str) = some (.int (2 * o + l)) := by unfold mf; walk_at "lk"
theorem mf_gap {o l g : Int} : (mf o l g).lookup ("gap" : Str) = some (.int (gapOf o g)) := by unfold mf; walk_at "lk"
theorem MachAt.but {C m p : Addr} {H H' : Hp} {o l g : Int} (h : MachAt C H m o l g) (s : But p H H') (n : m ≠ p) : MachAt C H' m o l g := let ⟨dx, e⟩ := h; ⟨dx, s _ _ e n⟩
def spMachine (C : Addr) : Sp := fun vs H Q _ => ∃ (m dx : Addr) (o l g : Int), vs = [.ref m, .int o, .int l, .int g] ∧ H m = some (.ins C dx []) ∧ (0 ≤ o ∧ o ≤ 1000000000) ∧ (0 ≤ l ∧ l ≤ 1000000000) ∧ (1 ≤ g ∧ g ≤ 1000000000) ∧ 0 < 2 * o + l ∧ ∀ H', MachAt C H' m o l g → But m H H' → Q .non H'
local macro_rules | `(tactic| walk_at "lk") => `(tactic| first | exact mf_o | exact mf_l | exact mf_g | exact mf_letter | exact mf_gap)
section
variable {P : Program} {w : World} {K : PySem.W.Frag} {mg : Str → Option Value} {base : Heap} {a : Adr}
theorem ok_is_integer (T : Txt K mg a) : FnOk P w K mg base CX0 1 a.a_is_integer a.d_is_integer ["thing"] (spIsInteger K) := by
  refine T.F_is_integer.ok sc_is_integer (fun vs H Q E h => ?_) (fun cdv A outer s H vs Q E hr h => ?_)
  · obtain ⟨x, b, rfl, _⟩ := h
    rfl
  · obtain ⟨x, b, rfl, ⟨t, b1, b2, ty, h1, h2, rfl⟩, k⟩ := h
    refine ⟨_, (pss_one (ps_ret (pe_and (pe_callB call_isi (by rfl) T.n_isinstance (by decide +kernel) (pa_cons (pv 0) (pa_cons (pe_bltn (v := .ty "int") (u := .type "int") (by rfl) T.n_int (by decide +kernel) rfl) pa_nil))) (pe_one (pe_not (pe_callB call_isi (by rfl) T.n_isinstance (by decide +kernel) (pa_cons (pv 0) (pa_cons (pe_bltn (v := .ty "bool") (u := .type "bool") (by rfl) T.n_bool (by decide +kernel) rfl) pa_nil)))))))), ?_⟩
    repeat walk_at "rd"
    refine r_isi ty h1 ?_
    refine ⟨b1, rfl, ?_⟩
    cases b1 with
    | false => exact iteF k
    | true =>
      repeat walk_at "rd"
      refine r_isi ty h2 ?_
      exact ⟨b2, rfl, k⟩
theorem ok_is_between (T : Txt K mg a) : FnOk P w K mg base CX0 2 a.a_is_between a.d_is_between ["thing", "low", "high"] (spBetween K) := by
  refine T.F_is_between.ok sc_is_between (fun vs H Q E h => ?_) (fun cdv A outer s H vs Q E hr h => ?_)
  · obtain ⟨x, lo, hi, b, rfl, _⟩ := h
    rfl
  · obtain ⟨x, lo, hi, b, rfl, iv, k0, k1⟩ := h
    refine ⟨_, (pss_one (ps_ret (pe_and (pe_call (ok_is_integer T) (hr.mono (by decide)) (by rfl) T.g_is_integer T.F_is_integer.kp T.b_is_integer .nil pass0 (pa_cons (pv 0) pa_nil)) (pe_one (pe_chain op_le op_le (pv 1) (pv 0) (pv 2)))))), ?_⟩
    repeat walk_at "rd"
    refine ⟨x, b, rfl, iv, ?_⟩
    refine ⟨b, rfl, ?_⟩
    cases b with
    | false => exact iteF (k0 rfl)
    | true =>
      obtain ⟨i, rfl, q⟩ := k1 rfl
      repeat walk_at "rd"
      refine ite_d (fun h1 => ?_) (fun h1 => ?_)
      · repeat walk_at "rd"
        rw [decide_eq_decide.mpr (show lo ≤ i ∧ i ≤ hi ↔ i ≤ hi from ⟨fun h => h.2, fun h => ⟨h1, h⟩⟩)] at q
        exact q
      · rw [decide_eq_false (show ¬ (lo ≤ i ∧ i ≤ hi) from fun h => h1 h.1)] at q
        exact q
theorem ok_Machine_init (T : Txt K mg a) : FnOk P w K mg base CX0 3 a.a_Machine_init a.d_Machine_init ["self", "o", "l", "g"] (spMachine a.c_Machine) := by
  refine T.F_Machine_init.ok sc_Machine_init (fun vs H Q E h => ?_) (fun cdv A outer s H vs Q E hr h => ?_)
  · obtain ⟨m, dx, o, l, g, rfl, _⟩ := h
    rfl
  · obtain ⟨m, dx, o, l, g, rfl, hm, ho, hl, hg, hp, k⟩ := h
    refine ⟨_, (pss_cons (ps_if (pt_not (pt_val (pe_call (ok_is_between T) (hr.mono (by decide)) (by rfl) T.g_is_between T.F_is_between.kp T.b_is_between .nil pass0 (pa_cons (pv 1) (pa_cons pe_int (pa_cons (pe_glob (v := .int 1000000000) (by rfl) T.g_GREATEST_PART.choose_spec ⟨_, rfl⟩) pa_nil)))))) (pss_one ps_never)
 pss_nil)
 (pss_cons (ps_if (pt_not (pt_val (pe_call (ok_is_between T) (hr.mono (by decide)) (by rfl) T.g_is_between T.F_is_between.kp T.b_is_between .nil pass0 (pa_cons (pv 2) (pa_cons pe_int (pa_cons (pe_glob (v := .int 1000000000) (by rfl) T.g_GREATEST_PART.choose_spec ⟨_, rfl⟩) pa_nil)))))) (pss_one ps_never)
 pss_nil)
 (pss_cons (ps_if (pt_not (pt_val (pe_call (ok_is_between T) (hr.mono (by decide)) (by rfl) T.g_is_between T.F_is_between.kp T.b_is_between .nil pass0 (pa_cons (pv 3) (pa_cons pe_int (pa_cons (pe_glob (v := .int 1000000000) (by rfl) T.g_GREATEST_PART.choose_spec ⟨_, rfl⟩) pa_nil)))))) (pss_one ps_never)
 pss_nil)
 (pss_cons (ps_if (pt_cmpR op_eq (pe_op op_add (pe_op op_mul pe_int (pv 1)) (pv 2)) pe_int (nomark _)) (pss_one ps_never)
 pss_nil)
 (pss_cons (ps_fld (pv 0) (pv 1) rfl)
 (pss_cons (ps_fld (pv 0) (pv 2) rfl)
 (pss_cons (ps_fld (pv 0) (pv 3) rfl)
 (pss_cons (ps_fld (pv 0) (pe_op op_add (pe_op op_mul pe_int (pv 1)) (pv 2)) rfl)
 (pss_one (ps_fld (pv 0) (pe_callB (call_max2 rfl) (by rfl) T.n_max (by decide +kernel) (pa_cons (pv 1) (pa_cons (pv 3) pa_nil))) rfl)))))))))), ?_⟩
    walk_at "rdi"
    repeat walk_at "rd"
    refine r_between ?_
    repeat walk_at "rd"
    refine r_nD (fun h => absurd ho h) (fun _ => ?_)
    walk_at "rd"
    walk_at "rdi"
    repeat walk_at "rd"
    refine r_between ?_
    repeat walk_at "rd"
    refine r_nD (fun h => absurd hl h) (fun _ => ?_)
    walk_at "rd"
    walk_at "rdi"
    repeat walk_at "rd"
    refine r_between ?_
    repeat walk_at "rd"
    refine r_nD (fun h => absurd hg h) (fun _ => ?_)
    walk_at "rd"
    walk_at "rdi"
    repeat walk_at "rd"
    refine ite_d (fun h => absurd h (by omega)) (fun _ => ?_)
    repeat walk_at "rd"
    refine k _ ⟨dx, ?_⟩ ?_
    · exact upd_same
    · exact But.upd.trans (But.upd.trans (But.upd.trans (But.upd.trans But.upd)))
end

/-! ### own rules: C(..) by a local name, x op y by an own def, targets in a tuple -/
/-- the slot n holds the class at C: a new instance -/
def tMakeL (n : Nat) (C : Addr) (sp : Sp) (dvs : List V) (E : XK) (t : TA) : TE := fun σ H Q => σ[n]? = some (some (.ref C)) ∧ tMake C sp dvs E t σ H Q
/-- x op y, x an instance with a dict, y of a known type -/
def rOwnD (K : PySem.W.Frag) (C : Addr) (sp : Sp) (E : XK) : R2 := fun x y H Q => ∃ m dx fs tb, x = .ref m ∧ H m = some (.ins C dx fs) ∧ TyX K H y tb ∧ PySem.W.notFirst K C tb = true ∧ sp [x, y] H Q E
section
variable {X : Cx} {CX : CXT} {k i : Nat} {f C : Addr} {fd : FuncData} {ps : List Str} {sp : Sp} {dvs : List V} {ds : List Value} {E : XK} {x : Str} {p pos : Pos} {e : Expr} {es : List Expr} {t : TA}
theorem pe_makeL (M : Mk X.K C f) (F : FnOk X.prog X.w X.K X.mg X.base CX k f fd ps sp) (hr : Room (k + 1) X.A) (hN : X.N[i]? = some x) (hv : Vis X.env.scope x) (hb : Binds X.K fd ps ds) (hd : Vals dvs ds) (hx : Passes CX X E) (ha : PA X (e :: es) t)
    (hdb : (x == ("__debug__" : Str)) = false := by decide) (hcd : (x == ("__classdict__" : Str)) = false := by decide)
    (he : starEach (e :: es) X.env = (false, eval e X.env) :: starEach es X.env := by rfl) (hpl : (backTo pos (starEach es X.env)).any (·.1) = false := by rfl) : PE X (.Call (.Name x p) (e :: es) [] pos) (tMakeL i C sp dvs E t) := by
  refine ⟨fun pins s σ H Q I h => wpAny_Call_Name_kw (thn ((pe_var (pos := p) hN hv hdb hcd).run pins s σ H (fun v H1 => v = .ref C ∧ H1 = H) I ⟨.ref C, h.1, rfl, rfl⟩) fun u s1 g => ?_)⟩
  obtain ⟨v, H1, J, r1, rfl, rfl⟩ := g
  cases r1
  exact PySem.W.callWith_K (h₀ := X.base) J.ok.mod.kin M.kp (thn (ha.run pos pins s1 σ _ _ J h.2) fun us s2 ⟨vs, H2, J2, r, q⟩ => ⟨J2.kIn, run_make M F hr hb hd hx J2 r q⟩) he hpl
theorem op_ownD {op : CmpOp} {g : Addr} {n : Nat} (hop : ∀ a b, compareOp op a b = richCompare op a b) (hs : PySem.W.findIn X.K (.ref C) (cmpInfo op).2.1 = some (some (.ref g))) (hf : PySem.W.isFn X.K (.ref g) = true) (F : FnR X.prog X.w X.K X.mg X.base CX n g sp)
    (hr : Room n X.A) (hx : Passes CX X E) : OpR X (compareOp op) (rOwnD X.K C sp E) := by
  intro pins s σ H x y v u Q I rx ry h
  obtain ⟨m, dx, fs, tb, rfl, hm, ty, hn, q⟩ := h
  obtain rfl : v = Value.ref m := rx
  obtain ⟨mA, J, _⟩ := ins_get I.hok hm
  obtain ⟨od, J, _⟩ := J.look
  obtain ⟨Pk, Z, pz, _⟩ := kit_of I ry ty
  obtain ⟨mF, hF⟩ := I.fr
  rw [hop]
  refine PySem.W.cmp_K (op := op) (tb := tb) hr.units0 hF I.ok.mod.kin J (Z.ty _ _ I.kIn pz) hn hs hf ?_
  refine wpAny_mono (wpAny_call (run_fnR (us := [.ref m, u]) (vs := [.ref m, y]) F hr hx I (.cons rfl (.cons ry .nil)) q)) (fun w s' z => ?_) fun _ _ x => x
  exact (let ⟨z', H', I', rz, qz⟩ := z; SlX.cmpback rz ⟨z', H', I', rz, qz⟩)
end
theorem kit_self {K : PySem.W.Frag} {C : Addr} : PySem.W.kitOne K (.ref C) (.ref C) = some true := by
  unfold PySem.W.kitOne
  rw [if_pos (by simp)]
theorem kit_no {K : PySem.W.Frag} {C : Addr} {n : String} (h1 : PySem.W.isClsIn K C = true) (h2 : PySem.W.typeIn K (.ref C) = some (.type "type")) (h3 : PySem.W.subIn K (.type n) (.ref C) = some false) : PySem.W.kitOne K (.type n) (.ref C) = some false := by
  have e : ((PySem.W.clsIn K C).isSome && PySem.W.typeIn K (.ref C) == some (.type "type")) = true := by
    rw [show (PySem.W.clsIn K C).isSome = true from h1, h2]
    rfl
  unfold PySem.W.kitOne
  rw [if_neg (by simp)]
  show (if ((PySem.W.clsIn K C).isSome && PySem.W.typeIn K (.ref C) == some (.type "type")) = true then PySem.W.subIn K (.type n) (.ref C) else none) = some false
  rw [if_pos e]
  exact h3
theorem nf_self {K : PySem.W.Frag} {C : Addr} : PySem.W.notFirst K C (.ref C) = true := by
  unfold PySem.W.notFirst
  simp
theorem nf_no {K : PySem.W.Frag} {C : Addr} {n : String} (h3 : PySem.W.subIn K (.type n) (.ref C) = some false) : PySem.W.notFirst K C (.type n) = true := by
  unfold PySem.W.notFirst
  rw [h3]
  simp
section
variable {K : PySem.W.Frag} {σ : St} {H : Hp} {Q : VK} {R : St → Hp → Prop} {n : Nat} {v : V} {vs : List V}
theorem r_gTup {t : TGs} {p : Addr} (h : H p = some (.tup vs)) (hl : vs.length = n) (q : t vs σ H R) : gTup K n t (.ref p) σ H R := ⟨p, vs, rfl, SqT.of h, hl, q⟩
theorem r_gCons {t : TG} {u : TGs} (h : t v σ H fun σ' H' => u vs σ' H' R) : gCons t u (v :: vs) σ H R := ⟨v, vs, rfl, h⟩
theorem r_gNil (h : R σ H) : gNil [] σ H R := ⟨rfl, h⟩
theorem r_par {i j : Nat} {ta : TA} {D : Ends} (h : ta σ H fun vs H1 => ∃ v w, vs = [v, w] ∧ D.nx ((σ.set i (some v)).set j (some w)) H1) : tPar i j ta D σ H := h
theorem r_par3 {i j l : Nat} {ta : TA} {D : Ends} (h : ta σ H fun vs H1 => ∃ u v w, vs = [u, v, w] ∧ D.nx (((σ.set i (some u)).set j (some v)).set l (some w)) H1) : tPar3 i j l ta D σ H := h
theorem r_ex2 {u v : V} {R : V → V → Prop} (q : R u v) : ∃ x y, [u, v] = [x, y] ∧ R x y := ⟨_, _, rfl, q⟩
theorem r_ex3 {u v w : V} {R : V → V → V → Prop} (q : R u v w) : ∃ x y z, [u, v, w] = [x, y, z] ∧ R x y z := ⟨_, _, _, rfl, q⟩
theorem r_nDT {c A B : Prop} [Decidable c] (hc : c) (h : B) : if (!decide c) = true then A else B := r_nD (fun z => absurd hc z) fun _ => h
theorem r_neB {a b : Bool} (q : Q (.bl (!decide (a = b))) H) : rNe (.bl a) (.bl b) H Q := ⟨rfl, by
  have e : decide (V.bl a = V.bl b) = decide (a = b) := by cases a <;> cases b <;> decide
  rw [e]; exact q⟩
theorem r_isB {a b : Bool} (q : Q (.bl (decide (a = b))) H) : rIsB (.bl a) (.bl b) H Q := ⟨a, b, rfl, rfl, q⟩
theorem r_notB {a b : Bool} (q : Q (.bl (!decide (a = b))) H) : rNotB (.bl a) (.bl b) H Q := ⟨a, b, rfl, rfl, q⟩
theorem r_dnew (k : ∀ p H', H p = none → Same H H' → H' p = some (.dK []) → Q (.ref p) H') : tDNewK σ H Q := new_of k
theorem r_makeL {C : Addr} {sp : Sp} {dvs : List V} {E : XK} {t : TA} (e : σ[n]? = some (some (.ref C))) (h : tMake C sp dvs E t σ H Q) : tMakeL n C sp dvs E t σ H Q := ⟨e, h⟩
theorem r_cmeth {C : Addr} {sp : Sp} {E : XK} {t : TA} (h : t σ H fun vs H2 => sp (.ref C :: vs) H2 Q E) : ClX.tCMeth C sp E (tC (.ref C)) t σ H Q := ⟨rfl, h⟩
theorem eq_ints {xs ys : List Int} : PyData.eqvAll (xs.map PyData.int) (ys.map PyData.int) = decide (xs = ys) := by
  induction xs generalizing ys with
  | nil => cases ys <;> rfl
  | cons x xs ih =>
    cases ys with
    | nil => rfl
    | cons y ys =>
      show (PyData.eqv (.int x) (.int y) && PyData.eqvAll (xs.map PyData.int) (ys.map PyData.int)) = _
      rw [ih]
      show ((x == y) && decide (xs = ys)) = _
      by_cases h : x = y
      · subst h; simp
      · simp [h]
theorem dp_ints (xs : List Int) : DpAll K H (xs.map V.int) (xs.map PyData.int) := by
  induction xs with
  | nil => exact .nil
  | cons x xs ih => exact .cons (.int x) ih
/-- == of two tuples of ints -/
theorem r_eqT {p q : Addr} {xs ys : List Int} (h1 : H p = some (.tup (xs.map V.int))) (h2 : H q = some (.tup (ys.map V.int))) (s1 : SeqAt.shaped (.tuple (xs.map PyData.int)) = true) (s2 : SeqAt.shaped (.tuple (ys.map PyData.int)) = true)
    (k : Q (.bl (decide (xs = ys))) H) : rEqD K (.ref p) (.ref q) H Q := ⟨_, _, .tup (SqT.of h1) (dp_ints xs), .tup (SqT.of h2) (dp_ints ys), s1, s2, by
  show Q (.bl (PyData.eqvAll (xs.map PyData.int) (ys.map PyData.int))) H
  rw [eq_ints]; exact k⟩
end
theorem r_Machine {C : Addr} {H : Hp} {Q : VK} {E : XK} {o l g : Int} (ho : 0 ≤ o ∧ o ≤ 1000000000) (hl : 0 ≤ l ∧ l ≤ 1000000000) (hg : 1 ≤ g ∧ g ≤ 1000000000) (hp : 0 < 2 * o + l) (k : ∀ m H', H m = none → MachAt C H' m o l g → Same H H' → Q (.ref m) H') :
    MakeAt C (spMachine C) ([.int o, .int l, .int g] ++ []) E H Q :=
  fun x dx nx nd _ => ⟨x, dx, o, l, g, rfl, upd_same, ho, hl, hg, hp, fun H' hm bt => ⟨rfl, k x H' nx hm (Same.made nx nd bt)⟩⟩

local macro_rules | `(tactic| walk_at "rd") => `(tactic| with_reducible first
  | (refine' r_gTup ?hp ?hl ?_; (case hp => walk_at "hp"); (case hl => with_unfolding_all exact rfl))
  | refine r_gCons ?_
  | refine r_gNil ?_
  | refine r_par ?_
  | refine r_par3 ?_
  | refine r_ex2 ?_
  | refine r_ex3 ?_
  | refine r_nDT rfl ?_
  | refine r_neB ?_
  | refine r_isB ?_
  | refine r_notB ?_
  | refine r_cmeth ?_
  | (refine' r_makeL ?he ?_; (case he => with_unfolding_all exact rfl))
  | refine r_isiB true (by decide +kernel) ?_
  | refine r_isiB false (by decide +kernel) ?_
  | refine r_callN ?_
  | refine r_andV ?_)

/-! ### enumerate over a tuple -/
open PySem.AutoSeq1 (wpAny_loadPart') in
theorem en_newT (p : Addr) (its : Array Value) (n : Nat) (dd : Option Addr) (sl : Array (Option Value)) :
    Meets (Builtin.«enumerate.__new__» ⟨[.type "enumerate", .ref p], []⟩) (fun _ R s => s.heap.get? p = some { cls := .type "tuple", dict := dd, data := .seq its n, slots := sl } ∧
      R (.ok (.ret (.ref (s.heap.push { cls := .type "tuple_iterator", data := .fields #[.ref p, .int 0 0] }).objs.size)))
        { s with heap := (s.heap.push { cls := .type "tuple_iterator", data := .fields #[.ref p, .int 0 0] }).push { cls := .type "enumerate", data := .fields #[.none, .bool false, .ref s.heap.objs.size, rawInt 0, .none, .none] } }) :=
  .of_wp fun prog w A R s h => by
    obtain ⟨hp, g, d, tk, os⟩ := s
    obtain ⟨hl, h⟩ := h
    have hsub := sub_enumerate
    have hT : Heap.IsTuple (Shared.heap ⟨hp, g, d, tk, os⟩) p its := ⟨_, hl, rfl, n, rfl⟩
    wp_walk using wpAny_loadPart' hl
    refine wpAny_stack_any fun st => wpAny_pure ?_
    split
    · rename_i c _ _ _ _ _
      cases (c == Value.type "enumerate") <;> (wp_walk using wpAny_loadPart' hl, wpAny_pyIter_tuple hT; exact ⟨_, rfl, h⟩)
    · wp_walk using wpAny_loadPart' hl, wpAny_pyIter_tuple hT
      exact ⟨_, rfl, h⟩
theorem en_callT {prog : Program} {w : World} {A : Around} {E : Value → Shared → Prop} {s : Shared} {p : Addr} {its : Array Value} {Q : Value → Shared → Prop} (hT : s.heap.IsTuple p its)
    (h : ∀ h', IsEnum h' (s.heap.objs.size + 1) s.heap.objs.size 0 .none → h'.IsTupleIter s.heap.objs.size p 0 → h'.objs.size = s.heap.objs.size + 2 →
      (∀ b o, s.heap.get? b = some o → h'.get? b = some o) → Q (.ref (s.heap.objs.size + 1)) { s with heap := h' }) : wpAny (model prog w) A (call (.type "enumerate") [.ref p]) Q E s := by
  obtain ⟨⟨c, dct, dt, sl⟩, hl, hc, n, hd⟩ := hT
  simp only at hc hd
  subst hc hd
  refine callType_new F.called_enumerate (by decide) (F.typeCall_enumerate_1 _) (F.newCall_enumerate_1 _) (fun obj => F.args_object_init_2 obj _) F.entry_enumerate_new (en_newT p its n dct sl) ⟨hl, ?_⟩
  generalize hg : s.heap.push { cls := .type "tuple_iterator", data := .fields #[.ref p, .int 0 0] } = g
  have hz : g.objs.size = s.heap.objs.size + 1 := by rw [← hg]; exact Heap.size_push ..
  show _ ∧ _
  rw [hz]
  have he : IsEnum (g.push { cls := .type "enumerate", data := .fields #[.none, .bool false, .ref s.heap.objs.size, rawInt 0, .none, .none] }) (s.heap.objs.size + 1) s.heap.objs.size 0 .none := by
    have q := Heap.get?_push_size g (o := { cls := .type "enumerate", data := .fields #[.none, .bool false, .ref s.heap.objs.size, rawInt 0, .none, .none] }) rfl
    rw [hz] at q
    exact q
  have hi : g.get? s.heap.objs.size = some { cls := .type "tuple_iterator", data := .fields #[.ref p, .int 0 0] } := by rw [← hg]; exact Heap.get?_push_size _ rfl
  refine ⟨⟨_, he, rfl⟩, h _ he ⟨_, Heap.get?_push_of_some _ hi, rfl, rfl⟩ (by rw [Heap.size_push, hz]) fun b o x => Heap.get?_push_of_some _ ?_⟩
  rw [← hg]
  exact Heap.get?_push_of_some _ x
/-- the tuple at a, each item in a new pair -/
def IteT (K : PySem.W.Frag) (a : Addr) : It :=
  ⟨fun i H => ∃ (xs : List V) (x : V), SqT K H a xs ∧ xs[i]? = some x, fun i H v H' => ∃ T x, v = .ref T ∧ H T = none ∧ H' = upd H T (.tup [.int (i : Nat), x]) ∧ ∀ xs, SqT K H a xs → xs[i]? = some x, fun i H => ∃ xs : List V, SqT K H a xs ∧ xs.length ≤ i⟩
theorem turn_enT {P : Program} {w : World} {K : PySem.W.Frag} {elts : List Expr} {kk : Nat} {tpos : Pos} (a e it : Addr) :
    Turn P w K (.Tuple elts kk tpos) (IteT K a) [e, it] e (fun i h => (∃ old, IsEnum h e it ((i : Nat) : Int) old) ∧ h.IsTupleIter it a i ∧ e ≠ it ∧ e ≠ a ∧ a ≠ it) where
  mem := by simp
  obj := fun i h st b hb => by
    obtain ⟨⟨old, he⟩, ⟨o, ho, hc, hd⟩, _⟩ := st
    rcases (by simpa using hb : b = e ∨ b = it) with z | z
    · rw [z]; exact ⟨_, he, fun v q => nomatch q⟩
    · rw [z]; exact ⟨o, ho, fun v q => by rw [hd] at q; cases q⟩
  keep := fun i h h' st k => let ⟨⟨old, he⟩, hi, hne⟩ := st; ⟨⟨old, k e (by simp) _ he⟩, hi.at fun o q => k it (by simp) o q, hne⟩
  item := by
    intro X hP hw hK hc i pins s σ H E I hf st hg
    subst hP hw hK
    obtain ⟨⟨old, he⟩, hit, hne, hea, hai⟩ := st
    obtain ⟨xs, x, hq, hx⟩ := hg
    obtain ⟨its, rv, p, hz⟩ := I.tuple hq
    obtain ⟨u, hu, ru⟩ := rv.get hx
    have hel : e < s.heap.objs.size := Heap.lt_size he
    have hil : it < s.heap.objs.size := by obtain ⟨_, q, _⟩ := hit; exact Heap.lt_size q
    have pT : s.heap.IsTuple a its.toArray := p
    have hlt : i < its.toArray.size := by
      have := (List.getElem?_eq_some_iff.mp hu).1
      simpa using this
    refine wpAny_pyNext_enum_itemD (Draws.tuple (A := X.A.in1) (show X.A.in1.handled = none from I.ok.hd hc) it a hai its.toArray) he ⟨hit, pT⟩ hlt hne (by simp [hne, hea]) fun v h' tk hv ho hst hT hsz hk => ?_
    have ev : v = u := by
      have q : its[i]? = some v := by simpa using hv
      rw [hu] at q
      exact (Option.some.inj q).symm
    subst ev
    refine ⟨_, rfl, wpAny_letOwnedTupleGo_enum (s := { s with heap := h', toks := tk + 1 }) ho fun h'' he' sb => ?_⟩
    have hT2 : h''.get? s.heap.objs.size = some { cls := .type "tuple", data := .seq #[.int i tk, v] } := (sb.2 _ (Nat.ne_of_gt hel)).trans hT
    have new : ObjOk X.prog X.w (upd H s.heap.objs.size (.tup [.int (i : Nat), x])) h'' s.heap.objs.size (.tup [.int (i : Nat), x]) :=
      ⟨by show 2 ≤ sizeLine; decide, [.int i tk, v], .cons ⟨_, rfl⟩ (.cons ru .nil), ⟨_, hT2, rfl, _, rfl⟩⟩
    have I1 : Inv X pins σ (upd H s.heap.objs.size (.tup [.int (i : Nat), x])) { s with heap := h'', toks := tk + 1 } :=
      I.turnedNew (ch := [e, it]) (fun b ob hb q => (sb.2 b (fun z => hb (by simp [z]))).trans (hk b ob (fun z => hb (by simp [z])) (fun z => hb (by simp [z])) q)) hf (Nat.le_refl _) new
    refine ⟨.ref s.heap.objs.size, _, I1, rfl, ⟨_, x, rfl, I.hok.fresh (Nat.le_refl _), rfl, fun ys hy => by rw [I.tuple_inj hy hq]; exact hx⟩, ⟨⟨v, ?_⟩, hst.1.at fun o q => (sb.2 it (Ne.symm hne)).trans q, hne, hea, hai⟩, fun b hb => ?_⟩
    · rw [show ((i + 1 : Nat) : Int) = (i : Int) + 1 by omega]; exact he'
    · have hb' : b < s.heap.objs.size := by
        rcases (by simpa using hb : b = e ∨ b = it) with z | z
        · rw [z]; exact hel
        · rw [z]; exact hil
      rw [upd_ne (Nat.ne_of_lt hb')]
      exact (hf b hb).1
  done := by
    intro X hP hw hK hc i pins s σ H E I hf st hg
    subst hP hw hK
    obtain ⟨⟨old, he⟩, hit, hne, hea, hai⟩ := st
    obtain ⟨xs, hq, hx⟩ := hg
    obtain ⟨its, rv, p, hz⟩ := I.tuple hq
    obtain ⟨f0, f1, f2, f3, f4, f5⟩ := hf it (by simp)
    have hl := rv.length
    have pT : s.heap.IsTuple a its.toArray := p
    unfold pyNext
    have hTy : s.TypeIs (.ref e) "enumerate" := ⟨_, he, rfl⟩
    refine wpAny_bind (wpAny_attempt (wpAny_callSpecial?_slot (name := Str.ofString "__next__") hTy F.slot_enumerate_next (wpAny_call_entry F.slot_enumerate_next hTy F.entry_enumerate_next ?_ (F.args_enumerate_next_1 _))))
    show wpAny _ _ (field (.ref e) 2 >>= _) _ _ _
    refine wpAny_bind (wpAny_field he rfl (x := .ref it) rfl ?_)
    refine wpAny_bind (wpAny_nextOf_tuple_end (I.ok.hd hc) hit pT (by simp; omega) fun h' x he' hx' => ?_)
    obtain ⟨o, ho, hcl⟩ := hx'
    refine wpAny_bind (wpAny_isInstance (T := "StopIteration") (b := true) ⟨o, ho, hcl⟩ isSubtype_stop ?_)
    exact wpAny_pure ⟨rfl, I.turned (t' := s.toks) (fun b o hb q => he' b o hb q) f0 f1 f3 f4 f5⟩
  self := fun A i s Q E st h => let ⟨⟨_, he⟩, _⟩ := st; wpAny_pyIter_enum he h
def iEnumS (K : PySem.W.Frag) (ta : TA) : TI := fun σ H R => ta σ H fun vs H1 => ∃ a xs, vs = [.ref a] ∧ ((SqL K H1 a xs ∧ R (Ite K a) H1) ∨ (SqT K H1 a xs ∧ R (IteT K a) H1))
theorem pi_enumS {X : Cx} {e : Expr} {ta : TA} {p pos tpos : Pos} {elts : List Expr} {kk : Nat} (hg : Gl X "enumerate") (hm : X.mg "enumerate" = none) (ha : PA X [e] ta) (hs : starEach [e] X.env = [(false, eval e X.env)] := by rfl) :
    PI X (.Tuple elts kk tpos) (.Call (.Name "enumerate" p) [e] [] pos) (iEnumS X.K ta) := by
  refine ⟨fun pins s σ H R I h => PyProof.Rows.Call_ (ld_blt I hg hm PyProof.Rows.boot_enumerate (PyProof.Rows.callWith_type1 (thn (ha.run pos pins s σ H _ I h) fun us s1 g => ?_) hs rfl))⟩
  obtain ⟨vs, H1, I1, r1, a, xs, rfl, g⟩ := g
  cases r1 with
  | cons r rr =>
    cases rr
    cases r
    have fresh : ∀ b ∈ [s1.heap.objs.size + 1, s1.heap.objs.size], s1.heap.objs.size ≤ b := fun b hb => by
      rcases (by simpa using hb : b = s1.heap.objs.size + 1 ∨ b = s1.heap.objs.size) with z | z <;> omega
    rcases g with ⟨hq, q⟩ | ⟨hq, q⟩
    · obtain ⟨its, rv, p', hz⟩ := I1.list hq
      refine call_enumerate_list p'.isList fun h' he hit hsz hk => wpAny_pyIter_enum he ?_
      exact ⟨s1.heap.objs.size + 1, [s1.heap.objs.size + 1, s1.heap.objs.size], _, _, H1, rfl, I1.kept (t' := s1.toks) hk, turn_enum a (s1.heap.objs.size + 1) s1.heap.objs.size, ⟨⟨.none, he⟩, hit, Nat.succ_ne_self _⟩, fun b hb => I1.fpOk (fresh b hb) (I1.hok.fresh (fresh b hb)), q⟩
    · obtain ⟨its, rv, p', hz⟩ := I1.tuple hq
      have pT : s1.heap.IsTuple a its.toArray := p'
      have hal : a < s1.heap.objs.size := by obtain ⟨o, ho, _⟩ := pT; exact Heap.lt_size ho
      refine en_callT pT fun h' he hit hsz hk => wpAny_pyIter_enum he ?_
      exact ⟨s1.heap.objs.size + 1, [s1.heap.objs.size + 1, s1.heap.objs.size], _, _, H1, rfl, I1.kept (t' := s1.toks) hk, turn_enT a (s1.heap.objs.size + 1) s1.heap.objs.size, ⟨⟨.none, he⟩, hit, Nat.succ_ne_self _, Nat.ne_of_gt (Nat.lt_succ_of_lt hal), Nat.ne_of_lt hal⟩, fun b hb => I1.fpOk (fresh b hb) (I1.hok.fresh (fresh b hb)), q⟩
theorem for_en {K : PySem.W.Frag} {a : Addr} {xs : List V} {g : TG} {tb : TS} {D : Ends} {σ : St} {H : Hp} (J : It) (Sq : Hp → List V → Prop) (hJ : J = Ite K a ∧ Sq = (fun H ys => SqL K H a ys) ∨ J = IteT K a ∧ Sq = (fun H ys => SqT K H a ys)) (Pv : Nat → St → Hp → Prop) (h0 : Pv 0 σ H) (hl : ∀ i σ H, i ≤ xs.length → Pv i σ H → Sq H xs)
    (hs : ∀ i x σ H T H', xs[i]? = some x → Pv i σ H → H T = none → H' = upd H T (.tup [.int (i : Nat), x]) → g (.ref T) σ H' fun σ2 H2 => tb { D with nx := Pv (i + 1), ct := Pv (i + 1), bk := D.nx } σ2 H2) (hd : ∀ σ H, Pv xs.length σ H → D.nx σ H) :
    ∃ W : Nat → Nat → St → Hp → Prop, (∃ m, W 0 m σ H) ∧ ∀ i m σ H, W i m σ H →
      (J.stop i H ∧ D.nx σ H) ∨ (J.go i H ∧ ∃ N : St → Hp → Prop, (∀ σ' H', N σ' H' → ∃ m', m' < m ∧ W (i + 1) m' σ' H') ∧ ∀ x H', J.yld i H x H' → g x σ H' fun σ2 H2 => tb { D with nx := N, ct := N, bk := D.nx } σ2 H2) := by
  refine ⟨fun i m σ H => m = xs.length - i ∧ i ≤ xs.length ∧ Pv i σ H, ⟨xs.length, by simp, Nat.zero_le _, h0⟩, ?_⟩
  rintro i m σ H ⟨rfl, hi, pv⟩
  have sq := hl i σ H hi pv
  by_cases hlt : i < xs.length
  · have hx : xs[i]? = some xs[i] := List.getElem?_eq_getElem hlt
    have hgo : J.go i H := by
      rcases hJ with ⟨rfl, rfl⟩ | ⟨rfl, rfl⟩
      · exact ⟨xs, _, sq, hx⟩
      · exact ⟨xs, _, sq, hx⟩
    refine .inr ⟨hgo, Pv (i + 1), fun σ' H' q => ⟨xs.length - (i + 1), by omega, rfl, hlt, q⟩, fun x H' y => ?_⟩
    have hy : ∃ T z, x = .ref T ∧ H T = none ∧ H' = upd H T (.tup [.int (i : Nat), z]) ∧ xs[i]? = some z := by
      rcases hJ with ⟨rfl, rfl⟩ | ⟨rfl, rfl⟩
      · obtain ⟨T, z, e1, e2, e3, e4⟩ := y; exact ⟨T, z, e1, e2, e3, e4 xs sq⟩
      · obtain ⟨T, z, e1, e2, e3, e4⟩ := y; exact ⟨T, z, e1, e2, e3, e4 xs sq⟩
    obtain ⟨T, z, rfl, e2, rfl, e4⟩ := hy
    exact hs i z σ H T _ e4 pv e2 rfl
  · have e : i = xs.length := by omega
    subst e
    refine .inl ⟨?_, hd σ H pv⟩
    rcases hJ with ⟨rfl, rfl⟩ | ⟨rfl, rfl⟩
    · exact ⟨xs, sq, Nat.le_refl _⟩
    · exact ⟨xs, sq, Nat.le_refl _⟩
theorem r_enS {K : PySem.W.Frag} {r : Addr} {xs : List V} {ta : TA} {g : TG} {tb : TS} {D : Ends} {σ : St} {H : Hp} (ha : ∀ QA : List V → Hp → Prop, QA [.ref r] H → ta σ H QA) (hq : SqL K H r xs ∨ SqT K H r xs) (Pv : Nat → St → Hp → Prop) (h0 : Pv 0 σ H) (hl : ∀ i σ H', Pv i σ H' → Same H H')
    (hs : ∀ i x σ H T H', xs[i]? = some x → Pv i σ H → H T = none → H' = upd H T (.tup [.int (i : Nat), x]) → g (.ref T) σ H' fun σ2 H2 => tb { D with nx := Pv (i + 1), ct := Pv (i + 1), bk := D.nx } σ2 H2) (hd : ∀ σ H, Pv xs.length σ H → D.nx σ H) :
    iEnumS K ta σ H fun J H1 => ∃ W : Nat → Nat → St → Hp → Prop, (∃ m, W 0 m σ H1) ∧ ∀ i m σ H, W i m σ H →
      (J.stop i H ∧ D.nx σ H) ∨ (J.go i H ∧ ∃ N : St → Hp → Prop, (∀ σ' H', N σ' H' → ∃ m', m' < m ∧ W (i + 1) m' σ' H') ∧ ∀ x H', J.yld i H x H' → g x σ H' fun σ2 H2 => tb { D with nx := N, ct := N, bk := D.nx } σ2 H2) := by
  refine ha _ ⟨r, xs, rfl, ?_⟩
  rcases hq with hq | hq
  · exact .inl ⟨hq, for_en _ _ (.inl ⟨rfl, rfl⟩) Pv h0 (fun i σ H' _ pv => Same.seq (hl i σ H' pv) hq) hs hd⟩
  · refine .inr ⟨hq, for_en _ _ (.inr ⟨rfl, rfl⟩) Pv h0 (fun i σ H' _ pv => ?_) hs hd⟩
    have s := hl i σ H' pv
    rcases hq with (h | ⟨o, h⟩) | h
    · exact .inl (.inl (s _ _ h))
    · exact .inl (.inr ⟨o, s _ _ h⟩)
    · exact .inr h

/-! ### the growing tree: rules, specifications -/
abbrev Turns := Option Nat
/-- turns as a value -/
abbrev tv : Turns → V
  | none => .non
  | some d => .int d
def TurnsIn (T : Turns) : Prop := match T with
  | none => True
  | some d => 1 ≤ d ∧ d ≤ 1000000000000
def depths (T : Turns) : Nat := match T with
  | none => 120
  | some _ => 40
theorem depths_le (T : Turns) : depths T ≤ 120 := by
  cases T with
  | none => exact Nat.le_refl _
  | some d => exact (by decide : (40 : Nat) ≤ 120)
/-- ascending times of roots -/
def RootsFrom : Int → List Int → Prop
  | _, [] => True
  | b, r :: rs => b ≤ r ∧ r ≤ 1000000000000 ∧ RootsFrom r rs
def RootsOk (rs : List Int) : Prop := 1 ≤ rs.length ∧ rs.length ≤ 6 ∧ RootsFrom 0 rs
theorem RootsFrom.get : ∀ {rs : List Int} {b : Int} {i : Nat} {r : Int}, RootsFrom b rs → rs[i]? = some r → b ≤ r ∧ r ≤ 1000000000000
  | [], _, _, _, _, h => by simp at h
  | a :: rs, b, 0, r, h, e => by
    have : a = r := by simpa using e
    subst this
    exact ⟨h.1, h.2.1⟩
  | a :: rs, b, i + 1, r, h, e => by
    have q := RootsFrom.get h.2.2 (by simpa using e : rs[i]? = some r)
    exact ⟨Int.le_trans h.1 q.1, q.2⟩
theorem RootsFrom.next : ∀ {rs : List Int} {b : Int} {i : Nat} {r s : Int}, RootsFrom b rs → rs[i]? = some r → rs[i + 1]? = some s → r ≤ s
  | [], _, _, _, _, _, h, _ => by simp at h
  | a :: rs, b, 0, r, s, h, e1, e2 => by
    have : a = r := by simpa using e1
    subst this
    exact (RootsFrom.get h.2.2 (by simpa using e2 : rs[0]? = some s)).1
  | a :: rs, b, i + 1, r, s, h, e1, e2 => RootsFrom.next h.2.2 (by simpa using e1) (by simpa using e2)
def SqR (K : PySem.W.Frag) (H : Hp) (r : Addr) (rs : List Int) : Prop := H r = some (.lst (rs.map V.int)) ∨ SqT K H r (rs.map V.int)
theorem SqR.keep {K : PySem.W.Frag} {H H' : Hp} {r : Addr} {rs : List Int} (h : SqR K H r rs) (s : Same H H') : SqR K H' r rs := by
  rcases h with h | h
  · exact .inl (s _ _ h)
  · refine .inr ?_
    rcases h with (h | ⟨o, h⟩) | h
    · exact .inl (.inl (s _ _ h))
    · exact .inl (.inr ⟨o, s _ _ h⟩)
    · exact .inr h
def tf (D G : Int) (T : Turns) (rt pw : Addr) : List (Str × V) := putF "powers" (.ref pw) (putF "horizon" (.int (depths T * D)) (putF "roots" (.ref rt) (putF "turns" (tv T) (putF "gap" (.int G) (putF "letter" (.int D) [])))))
theorem tf_letter {D G : Int} {T : Turns} {rt pw : Addr} : (tf D G T rt pw).lookup ("letter" : Str) = some (.int D) := by unfold tf; walk_at "lk"
theorem tf_gap {D G : Int} {T : Turns} {rt pw : Addr} : (tf D G T rt pw).lookup ("gap" : Str) = some (.int G) := by unfold tf; walk_at "lk"
theorem tf_turns {D G : Int} {T : Turns} {rt pw : Addr} : (tf D G T rt pw).lookup ("turns" : Str) = some (tv T) := by unfold tf; walk_at "lk"
theorem tf_roots {D G : Int} {T : Turns} {rt pw : Addr} : (tf D G T rt pw).lookup ("roots" : Str) = some (.ref rt) := by unfold tf; walk_at "lk"
theorem tf_horizon {D G : Int} {T : Turns} {rt pw : Addr} : (tf D G T rt pw).lookup ("horizon" : Str) = some (.int (depths T * D)) := by unfold tf; walk_at "lk"
theorem tf_powers {D G : Int} {T : Turns} {rt pw : Addr} : (tf D G T rt pw).lookup ("powers" : Str) = some (.ref pw) := by unfold tf; walk_at "lk"
theorem tf_no {D G : Int} {T : Turns} {rt pw : Addr} {m : Str} (h1 : ¬ m = "powers") (h2 : ¬ m = "horizon") (h3 : ¬ m = "roots") (h4 : ¬ m = "turns") (h5 : ¬ m = "gap") (h6 : ¬ m = "letter") : (tf D G T rt pw).lookup m = none := by
  unfold tf
  rw [lookup_putF, if_neg h1, lookup_putF, if_neg h2, lookup_putF, if_neg h3, lookup_putF, if_neg h4, lookup_putF, if_neg h5, lookup_putF, if_neg h6]
  rfl
/-- a tree at x -/
structure TreeAt (K : PySem.W.Frag) (C : Addr) (H : Hp) (x : Addr) (D G : Int) (T : Turns) (rs : List Int) : Prop where
  ex : ∃ dx rt pw, H x = some (.ins C dx (tf D G T rt pw)) ∧ SqT K H rt (rs.map V.int) ∧ ∀ d, T = some d → H pw = some (.tup (((List.range 41).map fun k => (d : Int) ^ k).map V.int))
  D0 : 0 < D
  D9 : D ≤ 3000000000
  G0 : 0 < G
  G9 : G ≤ 1000000000
  T0 : TurnsIn T
  R0 : RootsOk rs
theorem sqT_keep {K : PySem.W.Frag} {H H' : Hp} {r : Addr} {xs : List V} (h : SqT K H r xs) (s : Same H H') : SqT K H' r xs := by
  rcases h with (h | ⟨o, h⟩) | h
  · exact .inl (.inl (s _ _ h))
  · exact .inl (.inr ⟨o, s _ _ h⟩)
  · exact .inr h
theorem sqT_but {K : PySem.W.Frag} {H H' : Hp} {r p : Addr} {xs : List V} (h : SqT K H r xs) (s : But p H H') (n : r ≠ p) : SqT K H' r xs := by
  rcases h with (h | ⟨o, h⟩) | h
  · exact .inl (.inl (s _ _ h n))
  · exact .inl (.inr ⟨o, s _ _ h n⟩)
  · exact .inr h
theorem sqT_keep2 {K : PySem.W.Frag} {H : Hp} {r L : Addr} {xs ys zs : List V} (h : SqT K H r xs) (e : H L = some (.lst ys)) : SqT K (upd H L (.lst zs)) r xs := by
  rcases h with (h | ⟨o, h⟩) | h
  · exact .inl (.inl ((upd_ne (ne_of h e (by intro z; cases z))).trans h))
  · exact .inl (.inr ⟨o, (upd_ne (ne_of h e (by intro z; cases z))).trans h⟩)
  · exact .inr h
theorem SqR.but {K : PySem.W.Frag} {H H' : Hp} {r p : Addr} {rs : List Int} (h : SqR K H r rs) (s : But p H H') (n : r ≠ p) : SqR K H' r rs := by
  rcases h with h | h
  · exact .inl (s _ _ h n)
  · exact .inr (sqT_but h s n)
theorem sqT_butI {K : PySem.W.Frag} {H H' : Hp} {r x C dx : Addr} {fs : List (Str × V)} {xs : List V} (h : SqT K H r xs) (hx : H x = some (.ins C dx fs)) (s : But x H H') : SqT K H' r xs := by
  rcases h with (h | ⟨o, h⟩) | h
  · exact .inl (.inl (s _ _ h (ne_of h hx (by intro z; cases z))))
  · exact .inl (.inr ⟨o, s _ _ h (ne_of h hx (by intro z; cases z))⟩)
  · exact .inr h
theorem SqR.butI {K : PySem.W.Frag} {H H' : Hp} {r x C dx : Addr} {fs : List (Str × V)} {rs : List Int} (h : SqR K H r rs) (hx : H x = some (.ins C dx fs)) (s : But x H H') : SqR K H' r rs := by
  rcases h with h | h
  · exact .inl (s _ _ h (ne_of h hx (by intro z; cases z)))
  · exact .inr (sqT_butI h hx s)
theorem r_tupR {K : PySem.W.Frag} {H : Hp} {Q : VK} {r : Addr} {rs : List Int} (h : SqR K H r rs) (q : ∀ p H', Same H H' → SqT K H' p (rs.map V.int) → Q (.ref p) H') : rTupOf K [.ref r] H Q := by
  rcases h with h | h
  · exact r_tupL h fun p H' np s e => q p H' s (SqT.of e)
  · exact ⟨r, _, rfl, .inr ⟨h, q r H (Same.refl _) h⟩⟩
theorem TreeAt.keep {K : PySem.W.Frag} {C x : Addr} {H H' : Hp} {D G : Int} {T : Turns} {rs : List Int} (h : TreeAt K C H x D G T rs) (s : Same H H') : TreeAt K C H' x D G T rs :=
  { h with ex := let ⟨dx, rt, pw, e1, e2, e3⟩ := h.ex; ⟨dx, rt, pw, s _ _ e1, sqT_keep e2 s, fun d hd => s _ _ (e3 d hd)⟩ }
def spCheckTurns : Sp := fun vs H Q _ => ∃ T : Turns, vs = [tv T] ∧ TurnsIn T ∧ Q .non H
def spCheckRoots (K : PySem.W.Frag) : Sp := fun vs H Q _ => ∃ (r : Addr) (rs : List Int), vs = [.ref r] ∧ SqR K H r rs ∧ RootsOk rs ∧ ∀ H', Same H H' → Q .non H'
def spTree (K : PySem.W.Frag) (C M : Addr) : Sp := fun vs H Q _ => ∃ (x dx m r : Addr) (o l g : Int) (T : Turns) (rs : List Int), vs = [.ref x, .ref m, tv T, .ref r] ∧ H x = some (.ins C dx []) ∧ MachAt M H m o l g ∧ (0 ≤ o ∧ o ≤ 1000000000) ∧ (0 ≤ l ∧ l ≤ 1000000000) ∧ (1 ≤ g ∧ g ≤ 1000000000) ∧ 0 < 2 * o + l ∧
  TurnsIn T ∧ SqR K H r rs ∧ RootsOk rs ∧ ∀ H', TreeAt K C H' x (2 * o + l) (gapOf o g) T rs → But x H H' → Q .non H'
theorem r_Tree {K : PySem.W.Frag} {C M : Addr} {H : Hp} {Q : VK} {E : XK} {m r : Addr} {o l g : Int} {T : Turns} {rs : List Int} (hm : MachAt M H m o l g) (ho : 0 ≤ o ∧ o ≤ 1000000000) (hl : 0 ≤ l ∧ l ≤ 1000000000) (hg : 1 ≤ g ∧ g ≤ 1000000000) (hp : 0 < 2 * o + l) (hT : TurnsIn T) (hR : SqR K H r rs) (hRo : RootsOk rs)
    (k : ∀ x H', H x = none → TreeAt K C H' x (2 * o + l) (gapOf o g) T rs → Same H H' → Q (.ref x) H') : MakeAt C (spTree K C M) ([.ref m, tv T, .ref r] ++ []) E H Q :=
  fun x dx nx nd _ => by
    have s0 : Same H (upd (upd H dx (.own x)) x (.ins C dx [])) := Same.made0 nx nd
    exact ⟨x, dx, m, r, o, l, g, T, rs, rfl, upd_same, hm.keep s0, ho, hl, hg, hp, hT, hR.keep s0, hRo, fun H' ht bt => ⟨rfl, k x H' nx ht (Same.made nx nd bt)⟩⟩
theorem gap_pos {o g : Int} (h : 1 ≤ g) : 1 ≤ gapOf o g := by unfold gapOf; by_cases c : g > o <;> simp [c] <;> omega
theorem gap_le {o g : Int} (h : g ≤ 1000000000) (h2 : o ≤ 1000000000) : gapOf o g ≤ 1000000000 := by unfold gapOf; by_cases c : g > o <;> simp [c] <;> omega
theorem r_tyL {K : PySem.W.Frag} {H : Hp} {r : Addr} {rs : List Int} (h : SqR K H r rs) : TyX K H (.ref r) (.type "list") ∨ TyX K H (.ref r) (.type "tuple") := by
  rcases h with h | (h | ⟨o, h⟩) | ⟨o, its, n, h, hc, _⟩
  · exact .inl (.base (.lst h))
  · exact .inr (.base (.tup h))
  · exact .inr (.fTuple h)
  · exact .inr (.kTuple h hc)
local macro_rules | `(tactic| walk_at "no") => `(tactic| exact tf_no (by decide +kernel) (by decide +kernel) (by decide +kernel) (by decide +kernel) (by decide +kernel) (by decide +kernel))
local macro_rules | `(tactic| walk_at "lk") => `(tactic| first | exact tf_letter | exact tf_gap | exact tf_turns | exact tf_roots | exact tf_horizon | exact tf_powers)
local macro_rules | `(tactic| walk_at "rd") => `(tactic| with_reducible first
  | refine r_lenS (by assumption) ?_)
section
variable {P : Program} {w : World} {K : PySem.W.Frag} {mg : Str → Option Value} {base : Heap} {a : Adr}
theorem ok_check_turns (T : Txt K mg a) : FnOk P w K mg base CX0 3 a.a_check_turns a.d_check_turns ["turns"] spCheckTurns := by
  refine T.F_check_turns.ok sc_check_turns (fun vs H Q E h => ?_) (fun cdv A outer s H vs Q E hr h => ?_)
  · obtain ⟨d, rfl, _⟩ := h
    rfl
  · obtain ⟨d, rfl, hd, k⟩ := h
    refine ⟨_, (pss_one (ps_if (PW.pt (pw_and (pt_cmpR op_notNo (pv 0) pe_non (nomark _)) (pw_and1 (pt_not (pt_val (pe_call (ok_is_between T) (hr.mono (by decide)) (by rfl) T.g_is_between T.F_is_between.kp T.b_is_between .nil pass0 (pa_cons (pv 0) (pa_cons pe_int (pa_cons (pe_glob (v := .int 1000000000000) (by rfl) T.g_MOST_TURNS.choose_spec ⟨_, rfl⟩) pa_nil))))))))) (pss_one ps_never)
 pss_nil)), ?_⟩
    cases d with
    | none =>
      repeat walk_at "rd"
      exact k
    | some d =>
      repeat walk_at "rd"
      refine r_between ?_
      repeat walk_at "rd"
      refine r_nDT ⟨by have := hd.1; omega, by have := hd.2; omega⟩ ?_
      repeat walk_at "rd"
      exact k
theorem ok_check_roots (T : Txt K mg a) : FnOk P w K mg base CX0 3 a.a_check_roots a.d_check_roots ["roots"] (spCheckRoots K) := by
  refine T.F_check_roots.ok sc_check_roots (fun vs H Q E h => ?_) (fun cdv A outer s H vs Q E hr h => ?_)
  · obtain ⟨r, rs, rfl, _⟩ := h
    rfl
  · obtain ⟨r, rs, rfl, hS, ⟨l1, l6, hR⟩, k⟩ := h
    refine ⟨_, (pss_cons (ps_if (PW.pt (pw_or (pt_not (pt_val (pe_callB call_isiT (by rfl) T.n_isinstance (by decide +kernel) (pa_cons (pv 0) (pa_cons (pe_tup (pa_cons (pe_bltn (v := .ty "list") (u := .type "list") (by rfl) T.n_list (by decide +kernel) rfl) (pa_cons (pe_bltn (v := .ty "tuple") (u := .type "tuple") (by rfl) T.n_tuple (by decide +kernel) rfl) pa_nil))) pa_nil))))) (pw_or1 (pt_not (pt_chain op_le op_le pe_int (pe_callB call_len_seq (by rfl) T.n_len (by decide +kernel) (pa_cons (pv 0) pa_nil)) (pe_glob (v := .int 6) (by rfl) T.g_MOST_ROOTS.choose_spec ⟨_, rfl⟩)))))) (pss_one ps_never)
 pss_nil)
 (pss_cons (ps_set (i := 1) sc_check_roots.nd rfl (Or.inl rfl) pe_int)
 (pss_one (ps_for (by exact PassesOwn.never) rfl (pi_enumS (by rfl) T.n_enumerate (pa_cons (pv 0) pa_nil)) (pg_tup (by rfl) (pgs_cons (pg_name (i := 2) sc_check_roots.nd rfl (Or.inl rfl)) (pgs_cons (pg_name (i := 3) sc_check_roots.nd rfl (Or.inl rfl)) pgs_nil)))
 (pss_cons (ps_if (pt_not (pt_val (pe_call (ok_is_between T) (hr.mono (by decide)) (by rfl) T.g_is_between T.F_is_between.kp T.b_is_between .nil pass0 (pa_cons (pv 3) (pa_cons (pv 1) (pa_cons (pe_glob (v := .int 1000000000000) (by rfl) T.g_LATEST_ROOT.choose_spec ⟨_, rfl⟩) pa_nil)))))) (pss_one ps_never)
 pss_nil)
 (pss_one (ps_set (i := 1) sc_check_roots.nd rfl (Or.inl rfl) (pv 3)))))))), ?_⟩
    walk_at "rdi"
    repeat walk_at "rd"
    refine new_at (Nat.le_of_ble_eq_true rfl) (fun u H1 nu s1 e1 => ?_)
    have hS1 := hS.keep s1
    have hk : ∃ t, TyX K H1 (.ref r) t ∧ PySem.W.kitAny K t [.type "list", .type "tuple"] = some true := by
      rcases r_tyL hS1 with h | h
      · exact ⟨_, h, kitAny_cons (b := true) (kit_ty (by decide +kernel)) (fun z => Bool.noConfusion z) fun _ => rfl⟩
      · exact ⟨_, h, kitAny_cons (b := false) (kit_ty (by decide +kernel)) (fun _ => kitAny_cons (b := true) (kit_ty (by decide +kernel)) (fun z => Bool.noConfusion z) fun _ => rfl) (fun z => Bool.noConfusion z)⟩
    obtain ⟨t, ty, hk⟩ := hk
    repeat walk_at "rd"
    refine ⟨_, u, [.ty "list", .ty "tuple"], t, [.type "list", .type "tuple"], true, rfl, e1, .cons (.ty _) (.cons (.ty _) .nil), ty, hk, ?_⟩
    have hq : SqL K H1 r (rs.map V.int) ∨ SqT K H1 r (rs.map V.int) := hS1.imp SqL.of id
    repeat walk_at "rd"
    refine r_lenS hq ?_
    repeat walk_at "rd"
    refine ite_tt (by rw [List.length_map]; omega) ?_
    repeat walk_at "rd"
    refine r_nDT (by rw [List.length_map]; omega) ?_
    repeat walk_at "rd"
    refine r_enS (xs := rs.map V.int) (by intro QA q; (repeat walk_at "rd"); exact q) hq (fun i σ H' => ∃ (b : Int) (v2 v3 : Option V), σ = [some (.ref r), some (.int b), v2, v3] ∧ Same H1 H' ∧ (∀ r0, rs[i]? = some r0 → b ≤ r0)) ⟨0, _, _, rfl, Same.refl _, fun r0 h => (hR.get h).1⟩ (fun i σ H' ⟨_, _, _, _, s, _⟩ => s) ?_ ?_
    · rintro i x σ H2 u2 H3 hx ⟨b, v2, v3, rfl, s2, hb⟩ nu2 rfl
      obtain ⟨z, hz, rfl⟩ := int_of_get hx
      repeat walk_at "rd"
      walk_at "rdi"
      repeat walk_at "rd"
      refine r_between ?_
      repeat walk_at "rd"
      refine r_nDT ⟨hb z hz, (hR.get hz).2⟩ ?_
      repeat walk_at "rd"
      exact ⟨z, _, _, rfl, s2.trans (Same.new nu2), fun r0 h => hR.next hz h⟩
    · rintro σ H2 ⟨b, v2, v3, rfl, s2, _⟩
      exact k _ (s1.trans s2)

theorem ok_Tree_init (T : Txt K mg a) : FnOk P w K mg base CX0 4 a.a_Tree_init a.d_Tree_init ["self", "machine", "turns", "roots"] (spTree K a.c_Tree a.c_Machine) := by
  refine T.F_Tree_init.ok sc_Tree_init (fun vs H Q E h => ?_) (fun cdv A outer s H vs Q E hr h => ?_)
  · obtain ⟨x, dx, m, r, o, l, g, Tn, rs, rfl, _⟩ := h
    rfl
  · obtain ⟨x, dx, m, r, o, l, g, Tn, rs, rfl, hx, ⟨dm, hm⟩, ho, hl, hg, hp, hT, hR, hRo, k⟩ := h
    refine ⟨_, (pss_cons (ps_expr (pe_call (ok_check_turns T) (hr.mono (by decide)) (by rfl) T.g_check_turns T.F_check_turns.kp T.b_check_turns .nil pass0 (pa_cons (pv 2) pa_nil)))
 (pss_cons (ps_expr (pe_call (ok_check_roots T) (hr.mono (by decide)) (by rfl) T.g_check_roots T.F_check_roots.kp T.b_check_roots .nil pass0 (pa_cons (pv 3) pa_nil)))
 (pss_cons (ps_fld (pv 0) (pe_fld (pv 1) rfl) rfl)
 (pss_cons (ps_fld (pv 0) (pe_fld (pv 1) rfl) rfl)
 (pss_cons (ps_fld (pv 0) (pv 2) rfl)
 (pss_cons (ps_fld (pv 0) (pe_callTy cr_tup (by rfl) T.n_tuple (by decide +kernel) (pa_cons (pv 3) pa_nil)) rfl)
 (pss_one (ps_if (pt_cmpR op_isNo (pv 2) pe_non (nomark _)) (pss_cons (ps_fld (pv 0) (pe_op op_mul (pe_glob (v := .int 120) (by rfl) T.g_FREE_DEPTHS.choose_spec ⟨_, rfl⟩) (pe_fld (pv 0) rfl)) rfl)
 (pss_one (ps_fld (pv 0) (pe_tup pa_nil) rfl)))
 (pss_cons (ps_fld (pv 0) (pe_op op_mul (pe_glob (v := .int 40) (by rfl) T.g_TURNS_DEPTHS.choose_spec ⟨_, rfl⟩) (pe_fld (pv 0) rfl)) rfl)
 (pss_one (ps_fld (pv 0) (pe_callTy cr_tup (by rfl) T.n_tuple (by decide +kernel) (pa_cons (pe_lc (own := [("k", 4)]) (g := gName 4) (tt := tYes) rfl sc_Tree_init.nd (pi_range1 (by rfl) T.n_range (pa_cons pe_int pa_nil)) (blkOk_by (own := [("k", 4)]) (N := ["self", "machine", "turns", "roots", "k"]) (sc := defScope s_Tree_init) (by decide +kernel)) (fun _ _ _ _ _ => (pg_name (i := 4) sc_Tree_init.nd rfl (Or.inl rfl))) (fun _ _ _ _ _ => pts_nil) (fun _ _ _ _ _ => (pe_op op_pow (pv 2) (pv 4)))) pa_nil)) rfl))))))))))), ?_⟩
    repeat walk_at "rd"
    refine ⟨Tn, rfl, hT, ?_⟩
    repeat walk_at "rd"
    refine ⟨r, rs, rfl, hR, hRo, fun H1 s1 => ?_⟩
    have hx1 := s1 _ _ hx
    have hm1 := s1 _ _ hm
    have hR1 := hR.keep s1
    have nmx : m ≠ x := ne_of hm hx fun z => by
      have e := mf_o (o := o) (l := l) (g := g)
      rw [(HO.ins.inj z).2.2] at e
      cases e
    repeat walk_at "rd"
    refine r_tupR (hR1.butI hx1 (But.upd.trans (But.upd.trans But.upd))) (fun rt H2 s2 hrt => ?_)
    have e2 := s2 _ _ upd_same
    have b2 : But x H H2 := (But.of_same s1).trans (((But.upd.trans (But.upd.trans But.upd))).trans (But.of_same s2))
    clear hR1 hm1 hx1 s2
    repeat walk_at "rd"
    have hD0 : 0 < gapOf o g := by have := gap_pos (o := o) hg.1; omega
    have hG9 := gap_le (o := o) hg.2 ho.2
    cases Tn with
    | none =>
      repeat walk_at "rd"
      refine new_at (Nat.le_of_ble_eq_true rfl) (fun pw H3 npw s3 e3 => ?_)
      have e4 := s3 _ _ upd_same
      repeat walk_at "rd"
      have bz := (But.upd.trans (But.upd.trans ((But.of_same s3).trans (But.upd (p := x) (o := .ins a.c_Tree dx (tf (2 * o + l) (gapOf o g) none rt pw))))))
      refine k _ ⟨⟨dx, rt, pw, upd_same, sqT_butI hrt e2 bz, fun d hd => by cases hd⟩, hp, by omega, hD0, hG9, hT, hRo⟩ (b2.trans bz)
    | some d =>
      repeat walk_at "rd"
      refine ⟨by decide, by decide, fun L hL => lc_range (lo := 0) (n := 41) (fun i H' => H' L = some (.lst (((List.range i).map fun k => (d : Int) ^ k).map V.int)) ∧
        H' x = some (.ins a.c_Tree dx (putF "horizon" (.int (40 * (2 * o + l))) (putF "roots" (.ref rt) (putF "turns" (tv (some d)) (putF "gap" (.int (gapOf o g)) (putF "letter" (.int (2 * o + l)) [])))))) ∧ But x H2 H' ∧ L ≠ x ∧ H2 L = none) ?_ ?_ ?_⟩
      · have nxL : x ≠ L := ne_of_none upd_same hL
        refine ⟨upd_same, (upd_ne nxL).trans upd_same, But.upd.trans (But.upd.trans (But.new hL)), nxL.symm, ?_⟩
        rw [upd_ne nxL.symm, upd_ne nxL.symm] at hL
        exact hL
      · rintro i H3 hi ⟨h1, h2, h4, h5, h6⟩
        repeat walk_at "rd"
        refine ⟨rfl, ?_⟩
        repeat walk_at "rd"
        refine r_I (powOk (by omega) (by omega) (by have := hT.2; omega)) ?_
        refine ⟨_, h1, small1000 (by simp; omega), ?_, (upd_ne h5.symm).trans h2, h4.updOver h6 h1, h5, h6⟩
        rw [upd_same, List.range_succ, List.map_append, List.map_append, show ((0 + (i : Int)) : Int).toNat = i by omega]
        rfl
      · rintro H3 ⟨h1, h2, h4, h5, h6⟩
        repeat walk_at "rd"
        refine r_tupL h1 (fun pw H4 npw s4 e4 => ?_)
        have h2 := s4 _ _ h2
        have npx : pw ≠ x := (ne_of_none (show H3 x = some _ from by assumption) npw).symm
        repeat walk_at "rd"
        have bz := (h4.trans (But.of_same s4)).trans (But.upd (p := x) (o := .ins a.c_Tree dx (putF "powers" (.ref pw) (putF "horizon" (.int (40 * (2 * o + l))) (putF "roots" (.ref rt) (putF "turns" (tv (some d)) (putF "gap" (.int (gapOf o g)) (putF "letter" (.int (2 * o + l)) []))))))))
        refine k _ ⟨⟨dx, rt, pw, upd_same, sqT_butI hrt e2 bz, fun d' hd => ?_⟩, hp, by omega, hD0, hG9, hT, hRo⟩ (b2.trans bz)
        cases hd
        exact (upd_ne npx).trans e4
end

local macro_rules | `(tactic| walk_at "src") => `(tactic| first | assumption | (refine' SrcAt.keep ?h ?s; (case s => assumption); (case h => walk_at "src")))
local macro_rules | `(tactic| walk_at "ne") => `(tactic| first | assumption | (apply Ne.symm; assumption) | (refine' SrcAt.ne ?a ?b; (case b => assumption); (case a => walk_at "src")))
local macro_rules | `(tactic| walk_at "hp") => `(tactic| first
  | assumption
  | with_reducible exact upd_same
  | (refine' Same.at ?s ?h; (case s => assumption); (case h => walk_at "hp"))
  | (refine' But.at ?s ?n ?h; (case s => assumption); (case n => walk_at "ne"); (case h => walk_at "hp"))
  | (rw [upd_ne (by first | assumption | (apply Ne.symm; assumption))]; walk_at "hp"))
local macro_rules | `(tactic| walk_at "side") => `(tactic| first | assumption | decide | omega | exact mulL (by omega) (by omega) | exact mulR (by omega) (by omega) | exact cdiv_of (by omega) (by omega) | exact powOk (by omega) (by omega) (by decide) | exact mulL (Int.lt_of_lt_of_le (by decide) (fmod_nn (by decide))) (Int.lt_trans (fmod_lt (by decide)) (by decide)))
local macro_rules | `(tactic| walk_at "pl") => `(tactic| ((repeat with_reducible refine putF_le ?_); with_unfolding_all exact Nat.le_of_ble_eq_true rfl))
local macro_rules | `(tactic| walk_at "lk") => `(tactic| first | assumption | (rw [lookup_putF, if_pos rfl]) | (rw [lookup_putF, if_neg (by decide +kernel)]; walk_at "lk"))
local macro_rules | `(tactic| walk_at "cls") => `(tactic| first | with_unfolding_all exact Txt.cl_Tree (by assumption) | with_unfolding_all exact Txt.nF_Tree_letter (by assumption) | with_unfolding_all exact Txt.nF_Tree_gap (by assumption) | with_unfolding_all exact Txt.nF_Tree_turns (by assumption) | with_unfolding_all exact Txt.nF_Tree_roots (by assumption) | with_unfolding_all exact Txt.nF_Tree_horizon (by assumption) | with_unfolding_all exact Txt.nF_Tree_powers (by assumption) | with_unfolding_all exact Txt.cl_Machine (by assumption) | with_unfolding_all exact Txt.nF_Machine_o (by assumption) | with_unfolding_all exact Txt.nF_Machine_l (by assumption) | with_unfolding_all exact Txt.nF_Machine_g (by assumption) | with_unfolding_all exact Txt.nF_Machine_letter (by assumption) | with_unfolding_all exact Txt.nF_Machine_gap (by assumption))
/-- one turn of a reading -/
local macro_rules | `(tactic| walk_at "rd") => `(tactic| with_reducible first
  | (refine r_seq ?_; fail_if_success (refine r_ifS ?_))
  | refine r_asg ?_
  | refine r_gName ?_
  | (refine' r_var ?hv ?_; (case hv => with_unfolding_all exact rfl))
  | refine r_c ?_
  | refine r_op ?_
  | refine r_I0 ?_
  | (refine' r_I ?hc ?_; (case hc => walk_at "side"))
  | refine r_add ?_
  | refine r_sub ?_
  | refine r_eqI ?_
  | refine r_neI ?_
  | (refine' r_ixL ?hp ?he ?_; (case hp => walk_at "hp"); (case he => with_unfolding_all exact rfl))
  | (refine' r_ixT ?hp ?he ?_; (case hp => walk_at "hp"); (case he => with_unfolding_all exact rfl))
  | refine r_cons ?_
  | refine r_nil ?_
  | refine r_CB ?_
  | refine r_call ?_
  | refine r_test ?_
  | refine r_tB ?_
  | refine r_bl ?_
  | refine r_in ?_
  | refine Or.inl (r_in1 ?_)
  | refine r_in1 ?_
  | refine r_in2 ?_
  | (refine' r_lenL ?hp ?_; (case hp => walk_at "hp"))
  | (refine' r_lenT ?hp ?_; (case hp => walk_at "hp"))
  | refine r_ifS ?_
  | refine r_and ?_
  | refine r_or ?_
  | refine r_not ?_
  | refine r_andV ?_
  | refine r_orV ?_
  | refine r_notV ?_
  | refine r_ifE ?_
  | refine r_ret ?_
  | refine r_next ?_
  | refine r_drop ?_
  | refine r_gSub ?_
  | (refine' r_setL ?hp ?he ?_; (case hp => walk_at "hp"); (case he => with_unfolding_all exact rfl))
  | (refine' r_aug ?he ?_; (case he => with_unfolding_all exact rfl))
  | refine r_augS ?_
  | refine r_ip ?_
  | refine r_tup ?_
  | refine r_lst ?_
  | refine r_tFld ?_
  | (refine' r_fld ?hc ?hn ?hx ?he ?_; (case hx => walk_at "hp"); (case hc => walk_at "cls"); (case hn => walk_at "cls"); (case he => walk_at "lk"))
  | (refine' r_put ?hc ?hn ?hx ?hl ?_; (case hx => walk_at "hp"); (case hc => walk_at "cls"); (case hn => walk_at "cls"); (case hl => walk_at "pl"))
  | refine r_sl ?_
  | refine r_noP ?_
  | refine r_part ?_
  | refine r_un ?_
  | refine r_U ?_
  | refine r_Bm ?_
  | refine r_cont ?_
  | refine r_brk ?_
  | refine r_isNn ?_
  | refine r_isNi ?_
  | refine r_isNr ?_
  | refine r_notNn ?_
  | refine r_notNi ?_
  | refine r_notNr ?_
  | refine r_chain ?_
  | refine r_sFld ?_
  | refine r_make ?_
  | refine r_yes ?_
  | refine r_lc ?_
  | refine r_isiI true (by decide +kernel) ?_
  | refine r_isiI false (by decide +kernel) ?_
  | refine r_for ?_
  | refine r_iR1 ?_
  | refine r_iR2 ?_
  | refine r_iL ?_
  | refine r_tMeth ?_
  | (refine' r_meth ?hx ?hl ?_; (case hx => walk_at "hp"); (case hl => walk_at "no"))
  | refine r_iT ?_
  | refine iteT ?_
  | refine r_nF ?_
  | refine r_nT ?_
  | refine iteF ?_)
local macro_rules | `(tactic| walk_at "rdi") => `(tactic| with_reducible (refine r_seq ?_; refine r_ifS ?_))

local macro_rules | `(tactic| walk_at "rd") => `(tactic| with_reducible first
  | (refine' r_gTup ?hp ?hl ?_; (case hp => walk_at "hp"); (case hl => with_unfolding_all exact rfl))
  | refine r_gCons ?_
  | refine r_gNil ?_
  | refine r_par ?_
  | refine r_par3 ?_
  | refine r_ex2 ?_
  | refine r_ex3 ?_
  | refine r_nDT rfl ?_
  | refine r_neB ?_
  | refine r_isB ?_
  | refine r_notB ?_
  | refine r_cmeth ?_
  | (refine' r_makeL ?he ?_; (case he => with_unfolding_all exact rfl))
  | refine r_isiB true (by decide +kernel) ?_
  | refine r_isiB false (by decide +kernel) ?_
  | refine r_callN ?_
  | refine r_andV ?_)

theorem lay_ints : ∀ xs : List Int, PyData.canLayAll0 (xs.map PyData.int) = true
  | [] => rfl
  | x :: xs => by
    show (true && PyData.canLayAll0 (xs.map PyData.int)) = true
    rw [lay_ints xs]; rfl
theorem dep_ints : ∀ xs : List Int, PyData.depthAll (xs.map PyData.int) ≤ 1
  | [] => by decide
  | x :: xs => by
    have := dep_ints xs
    show max (PyData.depth (.int x)) (PyData.depthAll (xs.map PyData.int)) ≤ 1
    have h : PyData.depth (.int x) ≤ 1 := Nat.zero_le 1
    exact Nat.max_le.mpr ⟨h, this⟩
theorem sh_tints (xs : List Int) : SeqAt.shaped (.tuple (xs.map PyData.int)) = true := by
  have h1 := lay_ints xs
  have h2 := dep_ints xs
  have h3 : (PyData.tuple (xs.map PyData.int)).depth ≤ 64 := by
    show _ + _ ≤ 64
    omega
  show (PyData.canLayAll0 (xs.map PyData.int) && decide ((PyData.tuple (xs.map PyData.int)).depth ≤ 64)) = true
  rw [h1, decide_eq_true h3]; rfl
theorem r_neT0 {K : PySem.W.Frag} {H : Hp} {Q : VK} {p q : Addr} {xs : List Int} (h1 : H p = some (.tup (xs.map V.int))) (h2 : H q = some (.tup (xs.map V.int))) (k : Q (.bl false) H) : rNeD K (.ref p) (.ref q) H Q := by
  refine ⟨_, _, .tup (SqT.of h1) (dp_ints xs), .tup (SqT.of h2) (dp_ints xs), sh_tints xs, sh_tints xs, ?_⟩
  rw [show PyData.eqv (.tuple (xs.map PyData.int)) (.tuple (xs.map PyData.int)) = true from (eq_ints (xs := xs) (ys := xs)).trans (by simp)]
  exact k

/-! ### x < y, tuples that hold tuples -/
def rLtN (K : PySem.W.Frag) : R2 := fun x y H Q => ∃ d e, Dp K H x d ∧ Dp K H y e ∧ PySem.W.alike d e = true ∧ d ≠ .none ∧ min d.depth e.depth ≤ 64 ∧ Q (.bl (PySem.W.dataLt d e)) H
theorem op_ltN {X : Cx} (hu : X.A.units + 64 < cLine) : OpR X (compareOp .Lt) (rLtN X.K) := by
  intro pins s σ H x y v u Q I rx ry h
  obtain ⟨d, e, hd, he, ha, hn, hm, q⟩ := h
  obtain ⟨as, r1⟩ := Dp.reads I d x v hd rx
  obtain ⟨bs, r2⟩ := Dp.reads I e y u he ry
  exact PySem.W.lt_data r1 r2 ha hn (by omega) ⟨.bl _, H, I, rfl, q⟩
theorem ltAll_int (a b : Int) (r s : List PyData) : PyProof.Rows.lexLt PyProof.Rows.itemOrd (PySem.W.keyToksAll (.int a :: r)) (PySem.W.keyToksAll (.int b :: s)) = if a = b then PyProof.Rows.lexLt PyProof.Rows.itemOrd (PySem.W.keyToksAll r) (PySem.W.keyToksAll s) else decide (a < b) := by
  have ha : PySem.W.alike (.int a) (.int b) = true := by simp only [PySem.W.alike]
  by_cases c : a = b
  · rw [if_pos c, PySem.W.dataLt_all_yes ha (by show (a == b) = true; simp [c])]
  · rw [if_neg c, PySem.W.dataLt_all_no ha (by show (a == b) = false; simp [c])]
    exact PySem.W.dataLt_int a b
theorem ltAll_ints : ∀ xs ys : List Int, PyProof.Rows.lexLt PyProof.Rows.itemOrd (PySem.W.keyToksAll (xs.map PyData.int)) (PySem.W.keyToksAll (ys.map PyData.int)) = PySem.W.listLt xs ys := fun xs ys => PySem.W.lexAll_map xs ys
theorem listLt_self : ∀ xs : List Int, PySem.W.listLt xs xs = false
  | [] => rfl
  | x :: xs => by
    show (if x = x then PySem.W.listLt xs xs else _) = false
    rw [if_pos rfl, listLt_self xs]
theorem ltAll_tup (xs ys : List Int) : PyProof.Rows.lexLt PyProof.Rows.itemOrd (PySem.W.keyToksAll [.tuple (xs.map PyData.int)]) (PySem.W.keyToksAll [.tuple (ys.map PyData.int)]) = PySem.W.listLt xs ys := by
  have ha : PySem.W.alike (.tuple (xs.map PyData.int)) (.tuple (ys.map PyData.int)) = true := by
    simp only [PySem.W.alike]
    exact PySem.W.alikeAll_map xs ys
  have he : PyData.eqv (.tuple (xs.map PyData.int)) (.tuple (ys.map PyData.int)) = decide (xs = ys) := by simp only [PyData.eqv]; exact eq_ints
  by_cases c : xs = ys
  · rw [PySem.W.dataLt_all_yes ha (by rw [he]; exact decide_eq_true c)]
    subst c
    rw [listLt_self]
    exact PyProof.Rows.lex_irrefl _
  · rw [PySem.W.dataLt_all_no ha (by rw [he]; exact decide_eq_false c), PySem.W.dataLt_tuple]
    exact ltAll_ints xs ys
/-- what a key (time, depth, name) is less than -/
theorem lt_key {a b c d : Int} {xs ys : List Int} : PySem.W.dataLt (.tuple [.int a, .int b, .tuple (xs.map PyData.int)]) (.tuple [.int c, .int d, .tuple (ys.map PyData.int)]) = if a = c then (if b = d then PySem.W.listLt xs ys else decide (b < d)) else decide (a < c) := by
  rw [PySem.W.dataLt_tuple, ltAll_int, ltAll_int, ltAll_tup]

/-! ### keys of names: time, depth, name; the first names -/
abbrev Key3 := Int × Int × List Int
def keyD (k : Key3) : PyData := .tuple [.int k.1, .int k.2.1, .tuple (k.2.2.map PyData.int)]
def ltK (a b : Key3) : Bool := if a.1 = b.1 then (if a.2.1 = b.2.1 then PySem.W.listLt a.2.2 b.2.2 else decide (a.2.1 < b.2.1)) else decide (a.1 < b.1)
theorem lt_keyD (a b : Key3) : PySem.W.dataLt (keyD a) (keyD b) = ltK a b := lt_key
theorem encK : HQ.Enc keyD ltK where
  ord := ⟨fun {a b} h => by
      rw [← lt_keyD] at h ⊢
      cases e : PySem.W.dataLt (keyD b) (keyD a) with
      | false => rfl
      | true =>
        have := PyProof.Rows.lex_irrefl (O := PyProof.Rows.itemOrd) (PySem.W.keyToks (keyD a))
        rcases PyProof.Rows.lex_negTrans (O := PyProof.Rows.itemOrd) (PySem.W.keyToks (keyD a)) (PySem.W.keyToks (keyD a)) (PySem.W.keyToks (keyD b)) h with q | q
        · rw [this] at q; cases q
        · exact absurd (PyProof.Rows.lex_trans (O := PyProof.Rows.itemOrd) _ _ _ h e) (by rw [this]; exact Bool.false_ne_true), fun {a b c} h1 h2 => by
      rw [← lt_keyD] at h1 h2 ⊢
      cases e : PySem.W.dataLt (keyD c) (keyD a) with
      | false => rfl
      | true =>
        rcases PyProof.Rows.lex_negTrans (O := PyProof.Rows.itemOrd) (PySem.W.keyToks (keyD c)) (PySem.W.keyToks (keyD b)) (PySem.W.keyToks (keyD a)) e with q | q
        · have : PySem.W.dataLt (keyD c) (keyD b) = true := q
          rw [h2] at this; cases this
        · have : PySem.W.dataLt (keyD b) (keyD a) = true := q
          rw [h1] at this; cases this⟩
  lt_eq := lt_keyD
  alike := fun a b => by
    have h : PySem.W.alikeAll (a.2.2.map PyData.int) (b.2.2.map PyData.int) = true := PySem.W.alikeAll_map _ _
    simp only [keyD, PySem.W.alike, PySem.W.alikeAll, h, Bool.and_self]
  nn := fun a => by intro z; cases z
  dep := fun a => by
    have h := dep_ints a.2.2
    show max 0 (max 0 (max (PyData.depthAll (a.2.2.map PyData.int) + 1) 0)) + 1 ≤ 60
    omega
theorem keyD_tup (k : Key3) : ∃ x r, keyD k = .tuple (x :: r) := ⟨_, _, rfl⟩
theorem keyD_lay (k : Key3) : (keyD k).canLay0 = true := by
  show (PyData.canLay0 (.int k.1) && (PyData.canLay0 (.int k.2.1) && (PyData.canLayAll0 (k.2.2.map PyData.int) && true))) = true
  rw [lay_ints]
  rfl
theorem eqv_keyD (a b : Key3) : PyData.eqv (keyD a) (keyD b) = decide (a = b) := by
  have h : PyData.eqvAll (a.2.2.map PyData.int) (b.2.2.map PyData.int) = decide (a.2.2 = b.2.2) := eq_ints
  simp only [keyD, PyData.eqv, PyData.eqvAll, h, Bool.and_true]
  obtain ⟨a1, a2, a3⟩ := a
  obtain ⟨b1, b2, b3⟩ := b
  by_cases c1 : a1 = b1 <;> by_cases c2 : a2 = b2 <;> by_cases c3 : a3 = b3 <;> simp [c1, c2, c3]
theorem listLt_total : ∀ {xs ys : List Int}, PySem.W.listLt xs ys = false → PySem.W.listLt ys xs = false → xs = ys
  | [], [], _, _ => rfl
  | [], y :: ys, h, _ => by cases h
  | x :: xs, [], _, h => by cases h
  | x :: xs, y :: ys, h1, h2 => by
    have h1 : (if x = y then PySem.W.listLt xs ys else decide (x < y)) = false := h1
    have h2 : (if y = x then PySem.W.listLt ys xs else decide (y < x)) = false := h2
    by_cases c : x = y
    · subst c
      rw [if_pos rfl] at h1 h2
      rw [listLt_total h1 h2]
    · rw [if_neg c] at h1
      rw [if_neg (Ne.symm c)] at h2
      have := of_decide_eq_false h1
      have := of_decide_eq_false h2
      omega
theorem ltK_total {a b : Key3} (h1 : ltK a b = false) (h2 : ltK b a = false) : a = b := by
  obtain ⟨a1, a2, a3⟩ := a
  obtain ⟨b1, b2, b3⟩ := b
  unfold ltK at h1 h2
  dsimp only at h1 h2
  by_cases c : a1 = b1
  · subst c
    rw [if_pos rfl] at h1 h2
    by_cases d : a2 = b2
    · subst d
      rw [if_pos rfl] at h1 h2
      rw [listLt_total h1 h2]
    · rw [if_neg d] at h1
      rw [if_neg (Ne.symm d)] at h2
      have := of_decide_eq_false h1
      have := of_decide_eq_false h2
      omega
  · rw [if_neg c] at h1
    rw [if_neg (Ne.symm c)] at h2
    have := of_decide_eq_false h1
    have := of_decide_eq_false h2
    omega
theorem ltK_time {a b : Key3} (h : ltK a b = false) : b.1 ≤ a.1 := by
  unfold ltK at h
  by_cases c : a.1 = b.1
  · omega
  · rw [if_neg c] at h
    have := of_decide_eq_false h
    omega
/-- a next sending of the same sender is let -/
def moreT (T : Turns) (z : Int) : Bool := match T with
  | none => true
  | some d => decide (z + 1 < (d : Int))
def kidsK (D G : Int) (T : Turns) (k : Key3) : List Key3 :=
  (k.1 + D, k.2.1 + 1, k.2.2 ++ [0]) :: (if decide (k.2.1 > 0) && moreT T (k.2.2.getLastD 0) then [(k.1 + G, k.2.1, k.2.2.dropLast ++ [k.2.2.getLastD 0 + 1])] else [])
/-- the first names, found one after the other; those that wait -/
inductive FirstR (D G e : Int) (T : Turns) (w0 : List Key3) : List Key3 → List Key3 → Prop
  | zero : FirstR D G e T w0 w0 []
  | step {w ks rest : List Key3} {m : Key3} (h : FirstR D G e T w0 w ks) (hp : w.Perm (m :: rest)) (hm : ∀ x, x ∈ rest → ltK x m = false) (he : m.1 ≤ e) : FirstR D G e T w0 (kidsK D G T m ++ rest) (ks ++ [m])
theorem FirstR.uniq {D G e : Int} {T : Turns} {w0 : List Key3} : ∀ (n : Nat) {w ks w' ks' : List Key3}, FirstR D G e T w0 w ks → FirstR D G e T w0 w' ks' → ks.length = n → ks'.length = n → ks = ks' ∧ w.Perm w' := by
  intro n
  induction n with
  | zero =>
    intro w ks w' ks' h h' hl hl'
    cases h with
    | zero =>
      cases h' with
      | zero => exact ⟨rfl, List.Perm.refl _⟩
      | step => rw [List.length_append] at hl'; exact absurd hl' (by simp)
    | step => rw [List.length_append] at hl; exact absurd hl (by simp)
  | succ n ih =>
    intro w ks w' ks' h h' hl hl'
    cases h with
    | zero => cases hl
    | @step w1 ks1 rest m h hp hm he =>
      cases h' with
      | zero => cases hl'
      | @step w2 ks2 rest2 m2 h2 hp2 hm2 he2 =>
        rw [List.length_append, List.length_singleton] at hl hl'
        obtain ⟨rfl, pw⟩ := ih h h2 (by omega) (by omega)
        have q : (m :: rest).Perm (m2 :: rest2) := hp.symm.trans (pw.trans hp2)
        have irr : ∀ x : Key3, ltK x x = false := fun x => encK.ord.irr x
        have e1 : ltK m2 m = false := by
          rcases List.mem_cons.mp (q.mem_iff.mpr (List.mem_cons_self ..)) with z | z
          · rw [z]; exact irr _
          · exact hm _ z
        have e2 : ltK m m2 = false := by
          rcases List.mem_cons.mp (q.mem_iff.mp (List.mem_cons_self ..)) with z | z
          · rw [z]; exact irr _
          · exact hm2 _ z
        obtain rfl := ltK_total e2 e1
        exact ⟨rfl, List.Perm.append_left _ (List.Perm.cons_inv q)⟩
/-- found: so many, or all until the end -/
def EndF (D G e : Int) (T : Turns) (w0 : List Key3) (n : Nat) (ks : List Key3) : Prop := ∃ w, FirstR D G e T w0 w ks ∧ ks.length ≤ n ∧ (ks.length = n ∨ ∀ x, x ∈ w → e < x.1)
theorem FirstR.cut {D G e : Int} {T : Turns} {w0 : List Key3} {w ks : List Key3} (h : FirstR D G e T w0 w ks) : ∀ i, i < ks.length → ∃ w' m, FirstR D G e T w0 w' (ks.take i) ∧ m ∈ w' ∧ m.1 ≤ e := by
  induction h with
  | zero => intro i hi; exact absurd hi (Nat.not_lt_zero _)
  | @step w ks rest m h hp hm he ih =>
    intro i hi
    rw [List.length_append, List.length_singleton] at hi
    by_cases c : i < ks.length
    · rw [List.take_append_of_le_length (by omega)]
      exact ih i c
    · obtain rfl : i = ks.length := by omega
      rw [List.take_left' rfl]
      exact ⟨w, m, h, hp.mem_iff.mpr (List.mem_cons_self ..), he⟩
theorem EndF.uniq {D G e : Int} {T : Turns} {w0 : List Key3} {n : Nat} {ks ks' : List Key3} (h : EndF D G e T w0 n ks) (h' : EndF D G e T w0 n ks') : ks = ks' := by
  obtain ⟨w, f, l, s⟩ := h
  obtain ⟨w', f', l', s'⟩ := h'
  have lt : ∀ {ks ks' w w' : List Key3}, FirstR D G e T w0 w ks → FirstR D G e T w0 w' ks' → ks.length ≤ n → ks'.length ≤ n → (ks.length = n ∨ ∀ x, x ∈ w → e < x.1) → ¬ ks.length < ks'.length := by
    intro ks ks' w w' f f' l l' s hlt
    rcases s with s | s
    · omega
    · obtain ⟨w2, m, f2, hm, he⟩ := f'.cut ks.length hlt
      obtain ⟨_, pw⟩ := FirstR.uniq ks.length f f2 rfl (by rw [List.length_take]; omega)
      have := s m (pw.mem_iff.mpr hm)
      omega
  have l1 := lt f f' l l' s
  have l2 := lt f' f l' l s'
  exact (FirstR.uniq ks.length f f' rfl (by omega)).1
def KeyOk (n : Nat) (k : Key3) : Prop := 0 ≤ k.1 ∧ 0 ≤ k.2.1 ∧ k.2.2.length = k.2.1.toNat + 1 ∧ k.2.2.length ≤ n ∧ ∀ z, z ∈ k.2.2 → 0 ≤ z ∧ z ≤ n + 5
theorem KeyOk.up {n : Nat} {x : Key3} (h : KeyOk n x) : KeyOk (n + 1) x := ⟨h.1, h.2.1, h.2.2.1, by have := h.2.2.2.1; omega, fun z hz => by have := h.2.2.2.2 z hz; omega⟩
theorem getLastD_in : ∀ {xs : List Int} {d : Int}, xs ≠ [] → xs.getLastD d ∈ xs := fun {xs d} h => by
  obtain ⟨ys, y, rfl⟩ : ∃ ys y, xs = ys ++ [y] := ⟨xs.dropLast, xs.getLast h, (List.dropLast_concat_getLast h).symm⟩
  rw [List.getLastD_concat]
  simp
theorem kids_ok {D G : Int} {T : Turns} {n : Nat} {k x : Key3} (D0 : 0 ≤ D) (G0 : 0 ≤ G) (h : KeyOk n k) (hx : x ∈ kidsK D G T k) : KeyOk (n + 1) x := by
  obtain ⟨h0, h1, h2, h3, h4⟩ := h
  unfold kidsK at hx
  rcases List.mem_cons.mp hx with rfl | hx
  · refine ⟨by dsimp only; omega, by dsimp only; omega, ?_, ?_, fun z hz => ?_⟩
    · dsimp only; rw [List.length_append, List.length_singleton]; omega
    · dsimp only; rw [List.length_append, List.length_singleton]; omega
    · rcases List.mem_append.mp hz with hz | hz
      · have := h4 z hz; omega
      · rw [List.mem_singleton] at hz; omega
  · split at hx
    · rw [List.mem_singleton] at hx
      subst hx
      refine ⟨by dsimp only; omega, h1, ?_, ?_, fun z hz => ?_⟩
      · dsimp only; rw [List.length_append, List.length_singleton, List.length_dropLast]; omega
      · dsimp only; rw [List.length_append, List.length_singleton, List.length_dropLast]; omega
      · rcases List.mem_append.mp hz with hz | hz
        · have := h4 z (List.dropLast_subset _ hz); omega
        · rw [List.mem_singleton] at hz
          have := h4 (k.2.2.getLastD 0) (getLastD_in (fun e => by rw [e] at h2; simp at h2))
          omega
    · cases hx
theorem FirstR.ok {D G e : Int} {T : Turns} {w0 w ks : List Key3} (D0 : 0 ≤ D) (G0 : 0 ≤ G) (h0 : ∀ x, x ∈ w0 → KeyOk 1 x) (h1 : 1 ≤ w0.length) (h : FirstR D G e T w0 w ks) : (∀ x, x ∈ w → KeyOk (ks.length + 1) x) ∧ (∀ x, x ∈ ks → KeyOk ks.length x ∧ x.1 ≤ e) ∧ w.length ≤ w0.length + ks.length ∧ 1 ≤ w.length := by
  induction h with
  | zero => exact ⟨h0, fun x hx => (nomatch hx), Nat.le_refl _, h1⟩
  | @step w ks rest m h hp hm he ih =>
    obtain ⟨a, b, c, _⟩ := ih
    have ll : (ks ++ [m]).length = ks.length + 1 := by rw [List.length_append]; rfl
    rw [ll]
    have hmk := a m (hp.mem_iff.mpr (List.mem_cons_self ..))
    refine ⟨fun x hx => ?_, fun x hx => ?_, ?_, ?_⟩
    · rcases List.mem_append.mp hx with hx | hx
      · exact kids_ok D0 G0 hmk hx
      · exact (a x (hp.mem_iff.mpr (List.mem_cons_of_mem _ hx))).up
    · rcases List.mem_append.mp hx with hx | hx
      · exact ⟨(b x hx).1.up, (b x hx).2⟩
      · rw [List.mem_singleton] at hx; subst hx; exact ⟨hmk, he⟩
    · have := hp.length_eq
      rw [List.length_cons] at this
      have hk : (kidsK D G T m).length ≤ 2 := by unfold kidsK; split <;> simp
      rw [List.length_append]
      omega
    · unfold kidsK; simp
/-- the roots wait first -/
def rootsK (rs : List Int) : List Key3 := rs.zipIdx.map fun p => (p.1, 0, [(p.2 : Int)])
theorem rootsK_at {rs : List Int} {i : Nat} : (rootsK rs)[i]? = (rs[i]?).map fun r => (r, 0, [(i : Int)]) := by
  unfold rootsK
  rw [List.getElem?_map, List.getElem?_zipIdx]
  cases rs[i]? <;> simp
theorem rootsK_len {rs : List Int} : (rootsK rs).length = rs.length := by unfold rootsK; rw [List.length_map, List.length_zipIdx]
theorem rootsK_ok {rs : List Int} (h : ∀ r, r ∈ rs → 0 ≤ r) (hl : rs.length ≤ 6) : ∀ x, x ∈ rootsK rs → KeyOk 1 x := fun x hx => by
  obtain ⟨i, hi⟩ := List.mem_iff_getElem?.mp hx
  rw [rootsK_at] at hi
  cases e : rs[i]? with
  | none => rw [e] at hi; cases hi
  | some r =>
    rw [e] at hi
    obtain rfl := Option.some.inj hi
    have := (List.getElem?_eq_some_iff.mp e).1
    refine ⟨h r (List.mem_iff_getElem?.mpr ⟨i, e⟩), Int.le_refl _, rfl, Nat.le_refl _, fun z hz => ?_⟩
    rw [List.mem_singleton] at hz
    omega

/-! ### generator defs: their rule, calls by keywords, in a try -/
section
open PySem.W PySem.Calls PyProof.Rows
variable {P : Program} {w : World} {K : PySem.W.Frag} {mg : Str → Option Value} {base : Heap} {x qual : Str} {params : Arguments} {body : List Stmt} {scope : Scope} {dvs : List V} {kws : List (Str × V)} {f : Addr} {fd : FuncData}
theorem FunD_gok {N ps : List Str} {k : Nat} {sp : SpG} (F : FunD K x qual params body scope dvs kws f fd) (S : GScope N ps scope) (len : ∀ vs H Q E, sp vs H Q E → vs.length = ps.length)
    (hbody : ∀ (cdv : Value) (A : Around) (outer : List Env) (s : Shared) (H : Hp) (vs : List V) (Q : List V → Hp → Prop) (E : XK) (pn : List (Addr × Obj)), Room k (A.deeper (envOfC qual scope s.heap.objs.size f cdv)) → sp vs H Q E →
      ∃ t, GSs (gcxOf P w K mg base N qual scope f cdv A outer s H E pn) body t ∧ t { nx := fun ys _ H' => Q ys H', rt := fun ys v H' => v = .non ∧ Q ys H' } [] (start N vs) H) : GFn P w K mg base (k + 1) f fd ps sp := by
  obtain ⟨oc, od, dV, kV, doc, pm, an, cdv, ct, osl, rfl, lk, hcd, _, _⟩ := F.ex
  exact gfn_of lk hcd S len fun A outer s H vs Q E pn hr hsp => hbody cdv A outer s H vs Q E pn hr hsp
end
def tCallGN (n m : Nat) (sp : SpG) (gV : List V → List V → List V) (E : XK) (t tk : TA) : TGen := fun σ H cont => t σ H fun vs H1 => tk σ H1 fun zs H2 => vs.length = n ∧ zs.length = m ∧ sp (gV vs zs) H2 cont E
section
variable {X : Cx} {k n : Nat} {f : Addr} {fd : FuncData} {ps ks : List Str} {sp : SpG} {E : XK} {x : Str} {p pos : Pos} {e : Expr} {es : List Expr} {kws : List Keyword} {t tk : TA} {g : List Value → List Value → List Value} {gV : List V → List V → List V}
theorem run_gfnN {pins : List (Addr × Obj)} {σ : St} {H : Hp} {s : Shared} {us ws : List Value} {vs zs : List V} {cont : List V → Hp → Prop} {E1 : Value → Shared → Prop} (F : GFn X.prog X.w X.K X.mg X.base k f fd ps sp) (hr : Room k X.A) (hb : KBn X.K fd ps n ks g gV)
    (I : Inv X pins σ H s) (r : Vals vs us) (rz : Vals zs ws) (l1 : vs.length = n) (l2 : zs.length = ks.length) (h : sp (gV vs zs) H cont E) :
    wpAny (model X.prog X.w) X.A (call (.ref f) us (ks.zip ws)) (fun u s' => ∃ H1 sc ex, Inv X pins σ H1 sc ∧ ExOk X pins ex ∧ GMade X.prog X.w k X.stack H1 sc ex cont E u s') E1 s := by
  have r2 := hb.rel r rz
  refine wpAny_call (codeAny_mono (F.run X.A X.stack s H ⟨us, ks.zip ws⟩ (g us ws) (gV vs zs) cont E hr I.env0 (hb.to s us ws I.kIn (r.length.symm.trans l1) (rz.length.symm.trans l2)) r2 h) fun r s' hq => ?_)
  cases r with
  | error e => exact False.elim hq
  | ok fl =>
    cases fl with
    | ret u => exact ⟨H, s, [], I, .nil, hq⟩
    | next => exact False.elim hq
    | brk => exact False.elim hq
    | cont => exact False.elim hq
theorem pgen_callN (F : GFn X.prog X.w X.K X.mg X.base k f fd ps sp) (hr : Room k X.A) (hg : Gl X x) (hm : X.mg x = some (.ref f)) (hk : PySem.W.keepIn X.K (.ref f) = true) (hb : KBn X.K fd ps n ks g gV)
    (ha : PA X (e :: es) t) (hkw : PK X kws tk) (hall : (backToKw pos (keywordEach kws X.env)).all (·.1.isSome) = true := by rfl) (hks : (backToKw pos (keywordEach kws X.env)).filterMap (·.1) = ks := by rfl)
    (hdb : (x == ("__debug__" : Str)) = false := by decide) (he : starEach (e :: es) X.env = (false, eval e X.env) :: starEach es X.env := by rfl)
    (hpl : ((backTo pos (starEach (e :: es) X.env)).any (·.1) || (backToKw pos (keywordEach kws X.env)).any (·.1.isNone)) = false := by rfl) :
    PGen X k (.Call (.Name x p) (e :: es) kws pos) (tCallGN n ks.length sp gV E t tk) E := by
  refine ⟨fun pins s σ H cont I h => ?_⟩
  refine wpAny_Call_Name_kw (ld_glob I hg hm ?_ hdb)
  refine PySem.W.callWith_KW (h₀ := X.base) I.ok.mod.kin hk hall (thn (ha.run pos pins s σ H _ I h) fun us s1 ⟨vs, H1, I1, r, q⟩ => ?_) hpl he
  refine thn (hkw.run pos pins s1 σ H1 _ I1 q) fun ws s2 ⟨zs, H2, I2, rz, l1, l2, q2⟩ => ⟨I2.kIn, ?_⟩
  rw [hks]
  exact run_gfnN F hr hb I2 r rz l1 l2 q2
end
/-- only errors of the class at C come -/
def OnlyC (C : Addr) (E : XK) : XK := fun cls d H => cls = .ref C ∧ E cls d H
theorem passesTC {X : Cx} {W : WX} {n : Nat} {C : Addr} (tk : Takes X W) (hn : X.N.length = n := by rfl) : Passes (L2.CX X.prog X.w) X (OnlyC C (WT n W)) := fun _ σ _ _ e s' I c => tk e s' (XE.of_call I (fun _ _ _ h => h.2 σ (I.len.trans hn)) c)
theorem nostopC {K : PySem.W.Frag} {C : Addr} {E : XK} (h : PySem.W.subIn K (.ref C) (.type "StopIteration") = some false) : NoStop K (OnlyC C E) := fun cls d H q => by rw [q.1]; exact h

local macro_rules | `(tactic| walk_at "no") => `(tactic| exact tf_no (by decide +kernel) (by decide +kernel) (by decide +kernel) (by decide +kernel) (by decide +kernel) (by decide +kernel))
local macro_rules | `(tactic| walk_at "lk") => `(tactic| first | exact tf_letter | exact tf_gap | exact tf_turns | exact tf_roots | exact tf_horizon | exact tf_powers)
local macro_rules | `(tactic| walk_at "rd") => `(tactic| with_reducible first
  | refine r_lenS (by assumption) ?_)

/-! ### comprehensions over enumerate(..) -/
theorem en_core {K : PySem.W.Frag} {a : Addr} {xs : List V} {H0 : Hp} (J : It) (Sq : Hp → List V → Prop) (hJ : J = Ite K a ∧ Sq = (fun H ys => SqL K H a ys) ∨ J = IteT K a ∧ Sq = (fun H ys => SqT K H a ys)) (Pv : Nat → Hp → Prop) (h0 : Pv 0 H0) (hl : ∀ i H, i ≤ xs.length → Pv i H → Sq H xs)
    (B : (Hp → Prop) → V → Hp → Prop) (hs : ∀ i x H T H', xs[i]? = some x → Pv i H → H T = none → H' = upd H T (.tup [.int (i : Nat), x]) → B (Pv (i + 1)) (.ref T) H') (E : Hp → Prop) (hd : ∀ H, Pv xs.length H → E H) :
    ∃ W : Nat → Nat → Hp → Prop, (∃ m, W 0 m H0) ∧ ∀ i m H, W i m H → (J.stop i H ∧ E H) ∨ (J.go i H ∧ ∃ Nx : Hp → Prop, (∀ H', Nx H' → ∃ m', m' < m ∧ W (i + 1) m' H') ∧ ∀ x H', J.yld i H x H' → B Nx x H') := by
  refine ⟨fun i m H => m = xs.length - i ∧ i ≤ xs.length ∧ Pv i H, ⟨xs.length, by simp, Nat.zero_le _, h0⟩, ?_⟩
  rintro i m H ⟨rfl, hi, pv⟩
  have sq := hl i H hi pv
  by_cases hlt : i < xs.length
  · have hx : xs[i]? = some xs[i] := List.getElem?_eq_getElem hlt
    have hgo : J.go i H := by
      rcases hJ with ⟨rfl, rfl⟩ | ⟨rfl, rfl⟩
      · exact ⟨xs, _, sq, hx⟩
      · exact ⟨xs, _, sq, hx⟩
    refine .inr ⟨hgo, Pv (i + 1), fun H' q => ⟨xs.length - (i + 1), by omega, rfl, hlt, q⟩, fun x H' y => ?_⟩
    have hy : ∃ T z, x = .ref T ∧ H T = none ∧ H' = upd H T (.tup [.int (i : Nat), z]) ∧ xs[i]? = some z := by
      rcases hJ with ⟨rfl, rfl⟩ | ⟨rfl, rfl⟩
      · obtain ⟨T, z, e1, e2, e3, e4⟩ := y; exact ⟨T, z, e1, e2, e3, e4 xs sq⟩
      · obtain ⟨T, z, e1, e2, e3, e4⟩ := y; exact ⟨T, z, e1, e2, e3, e4 xs sq⟩
    obtain ⟨T, z, rfl, e2, rfl, e4⟩ := hy
    exact hs i z H T _ e4 pv e2 rfl
  · have e : i = xs.length := by omega
    subst e
    refine .inl ⟨?_, hd H pv⟩
    rcases hJ with ⟨rfl, rfl⟩ | ⟨rfl, rfl⟩
    · exact ⟨xs, sq, Nat.le_refl _⟩
    · exact ⟨xs, sq, Nat.le_refl _⟩

/-! ### names as they are found -/
def KIs (H : Hp) (v : V) (k : Key3) : Prop := ∃ t u : Addr, v = .ref t ∧ H t = some (.tup [.int k.1, .int k.2.1, .ref u]) ∧ H u = some (.tup (k.2.2.map V.int))
theorem KIs.keep {H H' : Hp} {v : V} {k : Key3} (h : KIs H v k) (s : Same H H') : KIs H' v k := let ⟨t, u, e, a, b⟩ := h; ⟨t, u, e, s _ _ a, s _ _ b⟩
theorem KIs.upd {H : Hp} {L : Addr} {zs : List V} {o : HO} {v : V} {k : Key3} (h : KIs H v k) (e : H L = some (.lst zs)) : KIs (L2.upd H L o) v k := let ⟨t, u, e1, a, b⟩ := h; ⟨t, u, e1, (upd_ne (fun y => by rw [y, e] at a; cases a)).trans a, (upd_ne (fun y => by rw [y, e] at b; cases b)).trans b⟩
theorem KIs.dp {K : PySem.W.Frag} {H : Hp} {v : V} {k : Key3} (h : KIs H v k) : Dp K H v (keyD k) := by
  obtain ⟨t, u, rfl, a, b⟩ := h
  exact .tup (SqT.of a) (.cons (.int _) (.cons (.int _) (.cons (.tup (SqT.of b) (dp_ints _)) .nil)))
def KRefs (H : Hp) (ps : List (V × Key3)) : Prop := ∀ p, p ∈ ps → KIs H p.1 p.2
theorem KRefs.keep {H H' : Hp} {ps : List (V × Key3)} (h : KRefs H ps) (s : Same H H') : KRefs H' ps := fun p hp => (h p hp).keep s
theorem KRefs.upd {H : Hp} {L : Addr} {zs : List V} {o : HO} {ps : List (V × Key3)} (h : KRefs H ps) (e : H L = some (.lst zs)) : KRefs (L2.upd H L o) ps := fun p hp => (h p hp).upd e
theorem KRefs.perm {H : Hp} {ps qs : List (V × Key3)} (h : KRefs H ps) (hp : ∀ p, p ∈ qs → p ∈ ps) : KRefs H qs := fun p hm => h p (hp p hm)
theorem KRefs.snoc {H : Hp} {ps : List (V × Key3)} {v : V} {k : Key3} (h : KRefs H ps) (e : KIs H v k) : KRefs H (ps ++ [(v, k)]) := fun p hp => by
  rcases List.mem_append.mp hp with hp | hp
  · exact h p hp
  · rw [List.mem_singleton] at hp; subst hp; exact e
theorem KRefs.hp {K : PySem.W.Frag} {H : Hp} {a : Addr} {zs : List V} {ps : List (V × Key3)} (h : KRefs H ps) (e : H a = some (.lst zs)) : HQ.HpAt K H a keyD ps := fun xs p hp => ((h.upd (o := .lst xs) e) p hp).dp
/-- a list of names -/
def NmL (H : Hp) (xs : List V) (ls : List (List Int)) : Prop := xs.length = ls.length ∧ ∀ (i : Nat) l, ls[i]? = some l → ∃ u : Addr, xs[i]? = some (.ref u) ∧ H u = some (.tup (l.map V.int))
theorem NmL.nil {H : Hp} : NmL H [] [] := ⟨rfl, fun i l h => by simp at h⟩
theorem NmL.keep {H H' : Hp} {xs : List V} {ls : List (List Int)} (h : NmL H xs ls) (s : Same H H') : NmL H' xs ls := ⟨h.1, fun i l hl => let ⟨u, e, z⟩ := h.2 i l hl; ⟨u, e, s _ _ z⟩⟩
theorem NmL.upd {H : Hp} {L : Addr} {zs xs : List V} {o : HO} {ls : List (List Int)} (h : NmL H xs ls) (e : H L = some (.lst zs)) : NmL (L2.upd H L o) xs ls := ⟨h.1, fun i l hl => let ⟨u, e1, z⟩ := h.2 i l hl; ⟨u, e1, (upd_ne (fun y => by rw [y, e] at z; cases z)).trans z⟩⟩
theorem NmL.snoc {H : Hp} {xs : List V} {ls : List (List Int)} {u : Addr} {l : List Int} (h : NmL H xs ls) (e : H u = some (.tup (l.map V.int))) : NmL H (xs ++ [.ref u]) (ls ++ [l]) := ⟨by rw [List.length_append, List.length_append, h.1]; rfl, fun i m hm => by
  by_cases c : i < ls.length
  · rw [List.getElem?_append_left c] at hm
    obtain ⟨v, e1, z⟩ := h.2 i m hm
    exact ⟨v, by rw [List.getElem?_append_left (by rw [h.1]; exact c)]; exact e1, z⟩
  · have hi := (List.getElem?_eq_some_iff.mp hm).1
    rw [List.length_append, List.length_singleton] at hi
    obtain rfl : i = ls.length := by omega
    rw [List.getElem?_append_right (Nat.le_refl _), Nat.sub_self] at hm
    obtain rfl := Option.some.inj hm
    exact ⟨u, by rw [List.getElem?_append_right (by rw [h.1]; exact Nat.le_refl _), h.1, Nat.sub_self]; rfl, e⟩⟩
theorem RootsFrom.mono : ∀ {rs : List Int} {b : Int} {i j : Nat} {r s : Int}, RootsFrom b rs → i ≤ j → rs[i]? = some r → rs[j]? = some s → r ≤ s
  | [], _, _, _, _, _, _, _, h, _ => by simp at h
  | a :: rs, b, 0, 0, r, s, h, _, e1, e2 => by rw [Option.some.inj (e1.symm.trans e2)]; exact Int.le_refl _
  | a :: rs, b, 0, j + 1, r, s, h, _, e1, e2 => by
    have : a = r := by simpa using e1
    subst this
    exact (RootsFrom.get h.2.2 (by simpa using e2 : rs[j]? = some s)).1
  | a :: rs, b, i + 1, 0, r, s, h, hl, _, _ => absurd hl (by omega)
  | a :: rs, b, i + 1, j + 1, r, s, h, hl, e1, e2 => RootsFrom.mono (i := i) (j := j) h.2.2 (by omega) (by simpa using e1) (by simpa using e2)
theorem roots_heap {rs : List Int} {ps : List (V × Key3)} (hR : RootsOk rs) (hp : ps.map Prod.snd = rootsK rs) : HQ.Heaped ltK (HQ.fk ps) ps.length := fun i i0 hi => by
  have hl : ps.length = rs.length := by rw [← List.length_map (f := Prod.snd), hp, rootsK_len]
  have at_ : ∀ j, j < ps.length → ∃ r, rs[j]? = some r ∧ HQ.fk ps j = (r, 0, [(j : Int)]) := fun j hj => by
    have h1 : (rootsK rs)[j]? = some ps[j].2 := by rw [← hp, List.getElem?_map, List.getElem?_eq_getElem hj]; rfl
    rw [rootsK_at, List.getElem?_eq_getElem (by omega)] at h1
    refine ⟨_, List.getElem?_eq_getElem (by omega), ?_⟩
    rw [HQ.fk_at (List.getElem?_eq_getElem hj)]
    exact (Option.some.inj h1).symm
  obtain ⟨r, h1, e1⟩ := at_ i hi
  obtain ⟨s, h2, e2⟩ := at_ ((i - 1) / 2) (by omega)
  rw [e1, e2]
  have := RootsFrom.mono hR.2.2 (show (i - 1) / 2 ≤ i by omega) h2 h1
  unfold ltK
  dsimp only
  by_cases c : r = s
  · rw [if_pos c, if_pos rfl]
    show (if (i : Int) = (((i - 1) / 2 : Nat) : Int) then PySem.W.listLt [] [] else decide ((i : Int) < (((i - 1) / 2 : Nat) : Int))) = false
    rw [if_neg (by omega)]
    exact decide_eq_false (by omega)
  · rw [if_neg c]
    exact decide_eq_false (by omega)
/-- a comprehension over enumerate of a tuple -/
theorem r_compEnT {K : PySem.W.Frag} {ta : TA} {σ : St} {H : Hp} {p : Addr} {xs : List V} {o : HO} {B : Addr → (Hp → Prop) → V → Hp → Prop} {Qd : Addr → Hp → Prop} (Pv : Addr → Nat → Hp → Prop) (ha : ∀ QA : List V → Hp → Prop, QA [.ref p] H → ta σ H QA) (h : SqT K H p xs)
    (h0 : ∀ D, H D = none → Pv D 0 (upd H D o)) (hk : ∀ D i H', H D = none → Pv D i H' → SqT K H' p xs)
    (hs : ∀ D i x H1 T H', H D = none → xs[i]? = some x → Pv D i H1 → H1 T = none → H' = upd H1 T (.tup [.int (i : Nat), x]) → B D (Pv D (i + 1)) (.ref T) H') (hd : ∀ D H', H D = none → Pv D xs.length H' → Qd D H') :
    iEnumS K ta σ H fun J H1 => ∀ D, H1 D = none → ∃ W : Nat → Nat → Hp → Prop, (∃ m, W 0 m (upd H1 D o)) ∧ ∀ i m H, W i m H → (J.stop i H ∧ Qd D H) ∨ (J.go i H ∧ ∃ Nx : Hp → Prop, (∀ H', Nx H' → ∃ m', m' < m ∧ W (i + 1) m' H') ∧ ∀ x H', J.yld i H x H' → B D Nx x H') := by
  refine ha _ ⟨p, xs, rfl, ?_⟩
  exact .inr ⟨h, fun D hD => en_core _ _ (.inr ⟨rfl, rfl⟩) (Pv D) (h0 D hD) (fun i H' _ pv => hk D i H' hD pv) (B D) (fun i x H1 T H' => hs D i x H1 T H' hD) (Qd D) (hd D · hD)⟩
theorem r_catN {K : PySem.W.Frag} {H : Hp} {Q : VK} {a b : Addr} {xs ys : List V} (h1 : H a = some (.tup xs)) (h2 : H b = some (.tup ys)) (n1 : xs ≠ []) (n2 : ys ≠ []) (hl : xs.length + ys.length ≤ 1000) (q : ∀ p H', H p = none → Same H H' → H' p = some (.tup (xs ++ ys)) → Q (.ref p) H') : rCatT K (.ref a) (.ref b) H Q :=
  ⟨a, b, xs, ys, rfl, rfl, SqT.of h1, SqT.of h2, n1, Nat.le_trans hl (by decide), fun e => absurd e n2, fun _ => new_of q⟩
theorem sIx_last' (xs : List V) (x : V) : HT.sIx (xs ++ [x]).length (xs ++ [x]).length (some (-1)) = xs.length := by
  show (if (-1 : Int) < 0 then ((-1 : Int) + ((xs ++ [x]).length : Int)).toNat else min (-1 : Int).toNat (xs ++ [x]).length) = _
  rw [if_pos (by decide), List.length_append, List.length_singleton]
  omega
theorem cut_init' (xs : List V) (x : V) : cutV (xs ++ [x]) none (some (-1)) = xs := by
  unfold cutV
  rw [sIx_last', HT.sIx_none, List.drop_zero, Nat.sub_zero, List.take_left]
theorem not_whole2' (xs : List V) (x : V) : ¬ (HT.sIx (xs ++ [x]).length 0 none = 0 ∧ HT.sIx (xs ++ [x]).length (xs ++ [x]).length (some (-1)) = (xs ++ [x]).length) := by
  rw [sIx_last', List.length_append, List.length_singleton]
  omega
theorem atI_last' (xs : List V) (x : V) : atI (xs ++ [x]) (-1) = some x := by
  have e : (xs ++ [x])[xs.length]? = some x := by simp
  have ei : ixN (xs ++ [x]).length (-1) = some xs.length := by
    unfold ixN
    rw [List.length_append, List.length_singleton]
    simp
    omega
  unfold atI
  rw [ei]
  exact e
def spOccurs1 (K : PySem.W.Frag) (C : Addr) : Sp := fun vs H Q _ => ∃ (x : Addr) (j D G : Int) (T : Turns) (rs : List Int), vs = [.ref x, .int 1, .int (j + 1)] ∧ TreeAt K C H x D G T rs ∧ 0 ≤ j ∧ j ≤ 1000000 ∧ Q (.bl (moreT T j)) H
def spInOrder (K : PySem.W.Frag) (C : Addr) : Sp := fun vs H Q _ => ∃ (x : Addr) (n e D G : Int) (T : Turns) (rs : List Int), vs = [.ref x, .int n, .int e] ∧ TreeAt K C H x D G T rs ∧ (0 ≤ n ∧ n ≤ 300) ∧ (0 ≤ e ∧ e ≤ 1000000000000) ∧
  ∀ (p : Addr) (xs : List V) (ks : List Key3) H', EndF D G e T (rootsK rs) n.toNat ks → Same H H' → H p = none → H' p = some (.lst xs) → NmL H' xs (ks.map fun k => k.2.2) → Q (.ref p) H'
section
variable {P : Program} {w : World} {K : PySem.W.Frag} {mg : Str → Option Value} {base : Heap} {a : Adr}
theorem ok_Tree_sum_occurs (T : Txt K mg a) : FnOk P w K mg base CX0 1 a.a_Tree_sum_occurs a.d_Tree_sum_occurs ["self", "k", "worth"] (spOccurs1 K a.c_Tree) := by
  refine T.F_Tree_sum_occurs.ok sc_Tree_sum_occurs (fun vs H Q E h => ?_) (fun cdv A outer s H vs Q E hr h => ?_)
  · obtain ⟨x, j, D, G, Tn, rs, rfl, _⟩ := h
    rfl
  · obtain ⟨x, j, D, G, Tn, rs, rfl, TA, j0, j9, q⟩ := h
    obtain ⟨⟨dx, rt, pw, hx, hrt, hpw⟩, D0, D9, G0, G9, T0, R0⟩ := id TA
    refine ⟨_, (pss_cons (ps_if (pt_cmpR op_eq (pv 1) pe_int (nomark _)) (pss_one (ps_ret (pe_cmpR op_eq (pv 2) pe_int (nomark _))))
 pss_nil)
 (pss_one (ps_ret (pe_or (pe_cmpR op_isNo (pe_fld (pv 0) rfl) pe_non (nomark _)) (pe_one (pe_cmpR op_le (pv 2) (pe_op op_mul (pv 1) (pe_op op_sub (pe_fld (pv 0) rfl) pe_int)) (nomark _))))))), ?_⟩
    walk_at "rdi"
    repeat walk_at "rd"
    refine ite_ff (by decide) ?_
    cases Tn with
    | none =>
      repeat walk_at "rd"
      exact q
    | some d =>
      have hd := T0
      repeat walk_at "rd"
      rw [show decide (j + 1 ≤ 1 * ((d : Int) - 1)) = moreT (some d) j from by unfold moreT; dsimp only; congr 1; apply propext; omega]
      exact q
set_option maxHeartbeats 0 in
theorem ok_names_in_order (T : Txt K mg a) : FnOk P w K mg base CX0 2 a.a_names_in_order a.d_names_in_order ["tree", "most", "until"] (spInOrder K a.c_Tree) := by
  refine T.F_names_in_order.ok sc_names_in_order (fun vs H Q E h => ?_) (fun cdv A outer s H vs Q E hr h => ?_)
  · obtain ⟨x, n, e, D, G, Tn, rs, rfl, _⟩ := h
    rfl
  · obtain ⟨x, n, e, D, G, Tn, rs, rfl, TA, ⟨n0, n9⟩, ⟨e0, e9⟩, k⟩ := h
    obtain ⟨⟨dx, rt, pw, hx, hrt, hpw⟩, D0, D9, G0, G9, T0, R0⟩ := id TA
    refine ⟨_, (pss_cons (ps_setLc (i := 3) (own := [("r", 8), ("root", 9)]) (g := gTup K 2 (gCons (gName 8) (gCons (gName 9) (gNil)))) (tt := tYes) rfl sc_names_in_order.nd rfl rfl (sw_true rfl rfl rfl (by decide +kernel)) (pi_enumS (by rfl) T.n_enumerate (pa_cons (pe_fld (pv 0) rfl) pa_nil)) (blkOk_by (own := [("r", 8), ("root", 9)]) (N := ["tree", "most", "until", "queue", "names", "time", "k", "name", "r", "root"]) (sc := defScope s_names_in_order) (by decide +kernel)) (fun _ _ _ _ _ => (pg_tupK (K := K) (n := 2) rfl (by rfl) (pgs_cons (pg_name (i := 8) sc_names_in_order.nd rfl (Or.inl rfl)) (pgs_cons (pg_name (i := 9) sc_names_in_order.nd rfl (Or.inl rfl)) pgs_nil)))) (fun _ _ _ _ _ => pts_nil) (fun _ _ _ _ _ => (pe_tup (pa_cons (pv 9) (pa_cons pe_int (pa_cons (pe_tup (pa_cons (pv 8) pa_nil)) pa_nil))))))
 (pss_cons (ps_set (i := 4) sc_names_in_order.nd rfl (Or.inl rfl) (pe_lst pa_nil))
 (pss_cons (ps_while PassesOwn.never (PW.pt (pw_and (pt_cmpR op_lt (pe_callB call_len_seq (by rfl) T.n_len (by decide +kernel) (pa_cons (pv 4) pa_nil)) (pv 1) (nomark _)) (pw_and1 (pt_cmpR op_le (pe_ix ix_tup (pe_ix ix_list (pv 3) pe_int (fun _ _ => rfl)) pe_int (fun _ _ => rfl)) (pv 2) (nomark _))))) (pss_cons (ps_asg (pe_callBfun (HQ.cr_pop encK hr.units) (by rfl) T.g_heappop (pa_cons (pv 3) pa_nil)) (pg_tup (by rfl) (pgs_cons (pg_name (i := 5) sc_names_in_order.nd rfl (Or.inl rfl)) (pgs_cons (pg_name (i := 6) sc_names_in_order.nd rfl (Or.inl rfl)) (pgs_cons (pg_name (i := 7) sc_names_in_order.nd rfl (Or.inl rfl)) pgs_nil)))))
 (pss_cons (ps_expr (pe_bm PySem.F.plainAttrs_list PySem.F.slot_list_append PySem.F.type_list_append mt_append (pv 4) (pa_cons (pv 7) pa_nil)))
 (pss_cons (ps_expr (pe_callBfun (HQ.cr_push encK hr.units) (by rfl) T.g_heappush (pa_cons (pv 3) (pa_cons (pe_tup (pa_cons (pe_op op_add (pv 5) (pe_fld (pv 0) rfl)) (pa_cons (pe_op op_add (pv 6) pe_int) (pa_cons (pe_op op_catT (pv 7) (pe_tup (pa_cons pe_int pa_nil))) pa_nil)))) pa_nil))))
 (pss_one (ps_if (PW.pt (pw_and (pt_cmpR op_gt (pv 6) pe_int (nomark _)) (pw_and1 (pt_val (pe_meth (pv 0) T.cl_Tree T.m_Tree_sum_occurs (ok_Tree_sum_occurs T) (hr.mono (by decide)) T.b_Tree_sum_occurs .nil pass0 (pa_cons pe_int (pa_cons (pe_op op_add (pe_ix ix_tup (pv 7) (pe_un un_neg pe_int) (fun _ _ => rfl)) pe_int) pa_nil))))))) (pss_one (ps_expr (pe_callBfun (HQ.cr_push encK hr.units) (by rfl) T.g_heappush (pa_cons (pv 3) (pa_cons (pe_tup (pa_cons (pe_op op_add (pv 5) (pe_fld (pv 0) rfl)) (pa_cons (pv 6) (pa_cons (pe_op op_catT (pe_slice sl_tup (pv 7) po_none (po_some (pe_un un_neg pe_int))) (pe_tup (pa_cons (pe_op op_add (pe_ix ix_tup (pv 7) (pe_un un_neg pe_int) (fun _ _ => rfl)) pe_int) pa_nil))) pa_nil)))) pa_nil)))))
 pss_nil))))))
 (pss_one (ps_ret (pv 4)))))), ?_⟩
    have hl := R0.2.1
    repeat walk_at "rd"
    refine r_compEnT (p := rt) (xs := rs.map V.int) (fun L i H' => ∃ ps : List (V × Key3), H' L = some (.lst (ps.map Prod.fst)) ∧ Same H H' ∧ KRefs H' ps ∧ ps.map Prod.snd = (rootsK rs).take i) (by intro QA q; (repeat walk_at "rd"); exact q) hrt (fun L nL => ⟨[], upd_same, Same.new nL, fun p hp => (nomatch hp), rfl⟩) (fun L i H' _ ⟨_, _, s, _⟩ => sqT_keep hrt s) ?_ ?_
    · rintro L i v H1 u H2 nL hv ⟨ps, eL, s1, hP, hk⟩ nu rfl
      obtain ⟨z, hz, rfl⟩ := int_of_get hv
      have s2 : Same H1 (L2.upd H1 u (.tup [.int (i : Nat), .int z])) := Same.new nu
      have eu : L2.upd H1 u (.tup [.int (i : Nat), .int z]) u = some (.tup [.int (i : Nat), .int z]) := upd_same
      have eL2 := s2 _ _ eL
      have hP2 := hP.keep s2
      have s12 := s1.trans s2
      generalize L2.upd H1 u (.tup [.int (i : Nat), .int z]) = H2 at s2 eu eL2 hP2 s12 ⊢
      repeat walk_at "rd"
      refine ⟨rfl, ?_⟩
      repeat walk_at "rd"
      refine new_at (Nat.le_of_ble_eq_true rfl) (fun q1 H3 nq1 s3 e3 => ?_)
      repeat walk_at "rd"
      refine new_at (Nat.le_of_ble_eq_true rfl) (fun q2 H4 nq2 s4 e4 => ?_)
      repeat walk_at "rd"
      have s14 := (s12.trans s3).trans s4
      have eL4 := (s3.trans s4) _ _ eL2
      have hP4 := (hP2.keep (s3.trans s4)).snoc (v := .ref q2) (k := (z, 0, [(i : Int)])) ⟨q2, q1, rfl, e4, s4 _ _ e3⟩
      have hps : ps.length ≤ 6 := by rw [← List.length_map (f := Prod.snd), hk, List.length_take, rootsK_len]; omega
      refine ⟨_, eL4, small1000 (by rw [List.length_map]; omega), ps ++ [(.ref q2, (z, 0, [(i : Int)]))], by rw [upd_same, List.map_append]; rfl, s14.over nL eL4, hP4.upd eL4, ?_⟩
      rw [List.map_append, hk]
      exact (take_more (by rw [rootsK_at, hz]; rfl)).symm
    · rintro W H1 nW ⟨ps, eW, s1, hP, hk⟩
      rw [List.length_map, List.take_of_length_le (by rw [rootsK_len]; exact Nat.le_refl _)] at hk
      repeat walk_at "rd"
      refine new_at (Nat.zero_le _) (fun N H2 nN s2 eN => ?_)
      repeat walk_at "rd"
      have nWH : H W = none := nW
      have nNH : H N = none := s1.free nN
      have hWN : W ≠ N := ne_of_none eW nN
      have eW2 := s2 _ _ eW
      have hP2 := hP.keep s2
      have s2 := s1.trans s2
      have hok0 := rootsK_ok (rs := rs) (fun r hr => by obtain ⟨i, hi⟩ := List.mem_iff_getElem?.mp hr; exact (R0.2.2.get hi).1) R0.2.1
      have hl0 : 1 ≤ (rootsK rs).length := by rw [rootsK_len]; exact R0.1
      refine while_by (fun σ H' => ∃ (v5 v6 v7 v8 v9 : Option V) (ws ks : List Key3) (ps : List (V × Key3)) (xs : List V), σ = [some (.ref x), some (.int n), some (.int e), some (.ref W), some (.ref N), v5, v6, v7, v8, v9] ∧ Same H H' ∧ FirstR D G e Tn (rootsK rs) ws ks ∧ (ks.length : Int) ≤ n ∧
        H' W = some (.lst (ps.map Prod.fst)) ∧ KRefs H' ps ∧ (ps.map Prod.snd).Perm ws ∧ HQ.Heaped ltK (HQ.fk ps) ps.length ∧ H' N = some (.lst xs) ∧ NmL H' xs (ks.map fun k => k.2.2))
        (fun σ H' => match H' N with | some (.lst xs) => n.toNat - xs.length | _ => 0) ⟨_, _, _, _, _, rootsK rs, [], ps, [], rfl, s2, .zero, n0, eW2, hP2, by rw [hk], roots_heap R0 hk, eN, NmL.nil⟩ ?_ ?_
      · clear s2 eN eW2 hP2 eW hP hk s1 nN nW
        rintro σ H4 ⟨v5, v6, v7, v8, v9, ws, ks, ps, xs, rfl, s4, hR, hkn, eW, hP, hPm, hH, eN, hA⟩
        have hxl : xs.length = ks.length := by rw [hA.1, List.length_map]
        obtain ⟨ok1, ok2, ok3, ok4⟩ := hR.ok (Int.le_of_lt D0) (Int.le_of_lt G0) hok0 hl0
        rw [rootsK_len] at ok3
        have hpl : ps.length = ws.length := by rw [← List.length_map (f := Prod.snd), hPm.length_eq]
        obtain ⟨dx, rt, pw, hx, hrt, hpw⟩ := (TA.keep s4).ex
        repeat walk_at "rd"
        rw [hxl]
        refine ite_d (fun hc => ?_) (fun hc => ?_)
        · repeat walk_at "rd"
          have hp0 : 0 < ps.length := by omega
          have g0 : (ps.map Prod.fst)[0]? = some (ps[0]'hp0).1 := by rw [List.getElem?_map, List.getElem?_eq_getElem hp0]; rfl
          have hmin0 : ∀ q, q ∈ ps → ltK q.2 (ps[0]'hp0).2 = false := fun q hq => by
            obtain ⟨i, hi⟩ := List.mem_iff_getElem?.mp hq
            have := HQ.heap_min encK.ord hH i (List.getElem?_eq_some_iff.mp hi).1
            rwa [HQ.fk_at hi, HQ.fk_at (List.getElem?_eq_getElem hp0)] at this
          obtain ⟨t0, u0, et0, at0, _⟩ := hP _ (List.getElem_mem hp0)
          rw [et0] at g0
          refine r_ixL eW (atI_nat (j := 0) g0) ?_
          repeat walk_at "rd"
          refine ite_d (fun hc2 => ?_) (fun hc2 => ?_)
          · repeat walk_at "rd"
            refine ⟨W, ps, rfl, eW, hP.hp eW, hH, hp0, by omega, fun p rest hperm hmin hH2 => ?_⟩
            have hpm : p ∈ ps := hperm.mem_iff.mp (List.mem_cons_self ..)
            obtain ⟨t, u, ep, et, eu⟩ := hP p hpm
            obtain ⟨pv, m⟩ := p
            obtain rfl : pv = .ref t := ep
            have hmw : m ∈ ws := hPm.mem_iff.mp (List.mem_map.mpr ⟨_, hpm, rfl⟩)
            have hkp : (m :: rest.map Prod.snd).Perm ws := (hperm.map Prod.snd).trans hPm
            have hme : m.1 ≤ e := by have := ltK_time (hmin _ (List.getElem_mem hp0)); dsimp only at this; omega
            have hR2 := hR.step (m := m) (rest := rest.map Prod.snd) hkp.symm (fun x hx => by
              obtain ⟨q, hq, rfl⟩ := List.mem_map.mp hx
              exact hmin q (hperm.mem_iff.mp (List.mem_cons_of_mem _ hq))) hme
            obtain ⟨m0, m1, m2, m3, m4⟩ := ok1 m hmw
            have hrl : rest.length + 1 = ps.length := by have := hperm.length_eq; rwa [List.length_cons] at this
            have m5 : m.2.1 ≤ 400 := by omega
            have hnn : m.2.2 ≠ [] := fun z => by rw [z] at m2; simp at m2
            have zin := m4 _ (getLastD_in (d := 0) hnn)
            have hsp : m.2.2 = m.2.2.dropLast ++ [m.2.2.getLastD 0] := by
              obtain ⟨ys, y, e1⟩ : ∃ ys y, m.2.2 = ys ++ [y] := ⟨_, _, (List.dropLast_concat_getLast hnn).symm⟩
              rw [e1, List.getLastD_concat, List.dropLast_concat]
            have s5 := s4.over (o := HO.lst (rest.map Prod.fst)) nWH eW
            have hP5 := (hP.perm (qs := rest) fun q hq => hperm.mem_iff.mp (List.mem_cons_of_mem _ hq)).upd (o := HO.lst (rest.map Prod.fst)) eW
            have et5 : L2.upd H4 W (HO.lst (rest.map Prod.fst)) t = some (.tup [.int m.1, .int m.2.1, .ref u]) := (upd_ne (fun z => by rw [z, eW] at et; cases et)).trans et
            have eu5 : L2.upd H4 W (HO.lst (rest.map Prod.fst)) u = some (.tup (m.2.2.map V.int)) := (upd_ne (fun z => by rw [z, eW] at eu; cases eu)).trans eu
            have eN5 : L2.upd H4 W (HO.lst (rest.map Prod.fst)) N = some (.lst xs) := (upd_ne hWN.symm).trans eN
            have hA5 := hA.upd (o := HO.lst (rest.map Prod.fst)) eW
            have eW5 : L2.upd H4 W (HO.lst (rest.map Prod.fst)) W = some (.lst (rest.map Prod.fst)) := upd_same
            generalize L2.upd H4 W (HO.lst (rest.map Prod.fst)) = H5 at s5 hP5 et5 eu5 eN5 hA5 eW5 ⊢
            clear hx hrt hpw
            repeat walk_at "rd"
            refine ⟨.inl ⟨rfl, _, SqL.of eN5⟩, ?_⟩
            repeat walk_at "rd"
            refine r_app eN5 (small1000 (by omega)) ?_
            have s6 := s5.over (o := HO.lst (xs ++ [.ref u])) nNH eN5
            have hP6 := hP5.upd (o := HO.lst (xs ++ [.ref u])) eN5
            have hA6 := (hA5.snoc eu5).upd (o := HO.lst (xs ++ [.ref u])) eN5
            have eu6 : L2.upd H5 N (HO.lst (xs ++ [.ref u])) u = some (.tup (m.2.2.map V.int)) := (upd_ne (fun z => by rw [z, eN5] at eu5; cases eu5)).trans eu5
            have eN6 : L2.upd H5 N (HO.lst (xs ++ [.ref u])) N = some (.lst (xs ++ [.ref u])) := upd_same
            have eW6 : L2.upd H5 N (HO.lst (xs ++ [.ref u])) W = some (.lst (rest.map Prod.fst)) := (upd_ne hWN).trans eW5
            generalize L2.upd H5 N (HO.lst (xs ++ [.ref u])) = H6 at s6 hP6 hA6 eu6 eN6 eW6 ⊢
            obtain ⟨dx, rt, pw, hx, hrt, hpw⟩ := (TA.keep s6).ex
            repeat walk_at "rd"
            refine new_at (Nat.le_of_ble_eq_true rfl) (fun z1 H7 n7 s7 e7 => ?_)
            repeat walk_at "rd"
            refine r_catN (s7 _ _ eu6) e7 (fun z => hnn (List.map_eq_nil_iff.mp z)) (by simp) (by rw [List.length_map, List.length_singleton]; omega) (fun u1 H8 n8 s8 e8 => ?_)
            repeat walk_at "rd"
            refine new_at (Nat.le_of_ble_eq_true rfl) (fun t1 H9 n9' s9 e9' => ?_)
            have s79 := (s7.trans s8).trans s9
            have e8 : H9 u1 = some (.tup ((m.2.2 ++ [0]).map V.int)) := by rw [List.map_append]; exact s9 _ _ e8
            have hP9 := (hP6.keep s79).snoc (v := .ref t1) (k := (m.1 + D, m.2.1 + 1, m.2.2 ++ [0])) ⟨t1, u1, rfl, e9', e8⟩
            have hA9 := hA6.keep s79
            have eu9 := s79 _ _ eu6
            have eN9 := s79 _ _ eN6
            have eW9 := s79 _ _ eW6
            have s9 := s6.trans s79
            clear s79 e7 n7 n8 n9' s7 s8 hx hrt hpw eu6 hP6 hA6 eN6 eW6
            repeat walk_at "rd"
            refine ⟨W, .ref t1, (m.1 + D, m.2.1 + 1, m.2.2 ++ [0]), rest, rfl, eW9, hP9.hp eW9, hH2, by omega, fun p1 hp1 hh1 => ?_⟩
            have hp1l : p1.length = ps.length := by rw [hp1.length_eq, List.length_append, List.length_singleton]; omega
            have s10 := s9.over (o := HO.lst (p1.map Prod.fst)) nWH eW9
            have hP10 := (hP9.perm (qs := p1) fun q hq => hp1.mem_iff.mp hq).upd (o := HO.lst (p1.map Prod.fst)) eW9
            have hA10 := hA9.upd (o := HO.lst (p1.map Prod.fst)) eW9
            have eu10 : L2.upd H9 W (HO.lst (p1.map Prod.fst)) u = some (.tup (m.2.2.map V.int)) := (upd_ne (fun z => by rw [z, eW9] at eu9; cases eu9)).trans eu9
            have eN10 : L2.upd H9 W (HO.lst (p1.map Prod.fst)) N = some (.lst (xs ++ [.ref u])) := (upd_ne hWN.symm).trans eN9
            have eW10 : L2.upd H9 W (HO.lst (p1.map Prod.fst)) W = some (.lst (p1.map Prod.fst)) := upd_same
            have hp1m : (p1.map Prod.snd).Perm (rest.map Prod.snd ++ [(m.1 + D, m.2.1 + 1, m.2.2 ++ [0])]) := by
              have := hp1.map Prod.snd
              rwa [List.map_append] at this
            generalize L2.upd H9 W (HO.lst (p1.map Prod.fst)) = H10 at s10 hP10 eu10 eN10 hA10 eW10 ⊢
            clear hA9 eu9 eN9 eW9 hP9 s9 e9' e8
            have eu11 := eu10
            rw [hsp, List.map_append] at eu11
            have eu11 : H10 u = some (.tup (m.2.2.dropLast.map V.int ++ [V.int (m.2.2.getLastD 0)])) := eu11
            have fin : ∀ H' (p2 : List (V × Key3)) v8' v9', Same H H' → H' W = some (.lst (p2.map Prod.fst)) → KRefs H' p2 → (p2.map Prod.snd).Perm (kidsK D G Tn m ++ rest.map Prod.snd) → HQ.Heaped ltK (HQ.fk p2) p2.length → H' N = some (.lst (xs ++ [.ref u])) → NmL H' (xs ++ [.ref u]) (ks.map (fun k => k.2.2) ++ [m.2.2]) → 
              ∃ (v5 v6 v7 v8 v9 : Option V) (ws ks : List Key3) (ps : List (V × Key3)) (xs : List V), [some (.ref x), some (.int n), some (.int e), some (.ref W), some (.ref N), some (.int m.1), some (.int m.2.1), some (.ref u), v8', v9'] = [some (.ref x), some (.int n), some (.int e), some (.ref W), some (.ref N), v5, v6, v7, v8, v9] ∧ Same H H' ∧ FirstR D G e Tn (rootsK rs) ws ks ∧ (ks.length : Int) ≤ n ∧
                H' W = some (.lst (ps.map Prod.fst)) ∧ KRefs H' ps ∧ (ps.map Prod.snd).Perm ws ∧ HQ.Heaped ltK (HQ.fk ps) ps.length ∧ H' N = some (.lst xs) ∧ NmL H' xs (ks.map fun k => k.2.2) := fun H' p2 v8' v9' a1 a2 a3 a4 a5 a6 a7 =>
              ⟨_, _, _, _, _, _, ks ++ [m], p2, _, rfl, a1, hR2, by rw [List.length_append, List.length_singleton]; omega, a2, a3, a4, a5, a6, by rw [List.map_append]; exact a7⟩
            repeat walk_at "rd"
            refine ite_d (fun hc3 => ?_) (fun hc3 => ?_)
            · repeat walk_at "rd"
              refine r_ixT eu11 (v := .int (m.2.2.getLastD 0)) (atI_last' _ _) ?_
              repeat walk_at "rd"
              refine ⟨x, m.2.2.getLastD 0, D, G, Tn, rs, rfl, TA.keep s10, zin.1, by omega, ?_⟩
              repeat walk_at "rd"
              cases hmo : moreT Tn (m.2.2.getLastD 0) with
              | true =>
                have hkk : kidsK D G Tn m = [(m.1 + D, m.2.1 + 1, m.2.2 ++ [0]), (m.1 + G, m.2.1, m.2.2.dropLast ++ [m.2.2.getLastD 0 + 1])] := by
                  unfold kidsK
                  rw [hmo, if_pos (by rw [Bool.and_true]; exact decide_eq_true (by omega))]
                obtain ⟨dx, rt, pw, hx, hrt, hpw⟩ := (TA.keep s10).ex
                repeat walk_at "rd"
                refine r_slT (SqT.of eu11) (not_whole2' _ _) (fun u2 H11 n11 s11 e11 => ?_)
                rw [cut_init'] at e11
                repeat walk_at "rd"
                refine r_ixT (s11 _ _ eu11) (v := .int (m.2.2.getLastD 0)) (atI_last' _ _) ?_
                repeat walk_at "rd"
                refine new_at (Nat.le_of_ble_eq_true rfl) (fun z2 H12 n12 s12 e12 => ?_)
                repeat walk_at "rd"
                have hdl : m.2.2.dropLast ≠ [] := fun z => by
                  have := congrArg List.length hsp
                  rw [z, m2] at this
                  simp at this
                  omega
                refine r_catN (s12 _ _ e11) e12 (fun z => hdl (List.map_eq_nil_iff.mp z)) (by simp) (by rw [List.length_map, List.length_singleton, List.length_dropLast]; omega) (fun u3 H13 n13 s13 e13 => ?_)
                repeat walk_at "rd"
                refine new_at (Nat.le_of_ble_eq_true rfl) (fun t2 H14 n14 s14 e14 => ?_)
                have s1014 := ((s11.trans s12).trans s13).trans s14
                have e13 : H14 u3 = some (.tup ((m.2.2.dropLast ++ [m.2.2.getLastD 0 + 1]).map V.int)) := by rw [List.map_append]; exact s14 _ _ e13
                have hP14 := (hP10.keep s1014).snoc (v := .ref t2) (k := (m.1 + G, m.2.1, m.2.2.dropLast ++ [m.2.2.getLastD 0 + 1])) ⟨t2, u3, rfl, e14, e13⟩
                have hA14 := hA10.keep s1014
                have eN14 := s1014 _ _ eN10
                have eW14 := s1014 _ _ eW10
                have s14 := s10.trans s1014
                clear s1014 e11 e12 n11 n12 n13 n14 s11 s12 s13 hx hrt hpw hP10 hA10 eN10 eW10 s10
                repeat walk_at "rd"
                refine ⟨W, .ref t2, (m.1 + G, m.2.1, m.2.2.dropLast ++ [m.2.2.getLastD 0 + 1]), p1, rfl, eW14, hP14.hp eW14, hh1, by omega, fun p2 hp2 hh2 => ?_⟩
                refine ⟨fin _ p2 _ _ (s14.over nWH eW14) upd_same ((hP14.perm fun q hq => hp2.mem_iff.mp hq).upd eW14) ?_ hh2 ((upd_ne hWN.symm).trans eN14) (hA14.upd eW14), ?_⟩
                · rw [hkk]
                  have h1 := hp2.map Prod.snd
                  rw [List.map_append] at h1
                  refine h1.trans ((List.Perm.append_right _ hp1m).trans ?_)
                  rw [List.append_assoc]
                  exact List.perm_append_comm
                · rw [show L2.upd H14 W (HO.lst (p2.map Prod.fst)) N = some (.lst (xs ++ [.ref u])) from (upd_ne hWN.symm).trans eN14, eN]
                  dsimp only
                  rw [List.length_append, List.length_singleton]
                  omega
              | false =>
                have hkk : kidsK D G Tn m = [(m.1 + D, m.2.1 + 1, m.2.2 ++ [0])] := by
                  unfold kidsK
                  rw [hmo, Bool.and_false]
                  rfl
                repeat walk_at "rd"
                refine ⟨fin _ p1 _ _ s10 eW10 hP10 ?_ hh1 eN10 hA10, ?_⟩
                · rw [hkk]
                  exact hp1m.trans List.perm_append_comm
                · rw [eN10, eN]
                  dsimp only
                  rw [List.length_append, List.length_singleton]
                  omega
            · have hkk : kidsK D G Tn m = [(m.1 + D, m.2.1 + 1, m.2.2 ++ [0])] := by
                unfold kidsK
                rw [decide_eq_false (by omega), Bool.false_and]
                rfl
              repeat walk_at "rd"
              refine ⟨fin _ p1 _ _ s10 eW10 hP10 ?_ hh1 eN10 hA10, ?_⟩
              · rw [hkk]
                exact hp1m.trans List.perm_append_comm
              · rw [eN10, eN]
                dsimp only
                rw [List.length_append, List.length_singleton]
                omega
          · repeat walk_at "rd"
            refine k N xs ks _ ⟨ws, hR, by omega, .inr fun y hy => ?_⟩ s4 nNH eN hA
            obtain ⟨q, hq, rfl⟩ := List.mem_map.mp (hPm.mem_iff.mpr hy)
            have := ltK_time (hmin0 q hq)
            omega
        · repeat walk_at "rd"
          exact k N xs ks _ ⟨ws, hR, by omega, .inl (by omega)⟩ s4 nNH eN hA
      · rintro σ H' Q1 Q2 hq ⟨y1, e1, p, ys, e2, hs, y2, e3, i, j, r1, r2, b, r5, q⟩
        refine ⟨y1, e1, p, ys, e2, hs, y2, e3, i, j, r1, r2, b, r5, ?_⟩
        cases b with
        | false => exact hq _ _ q
        | true =>
          obtain ⟨y3, e4, l1, xs1, i1, v1, a1, a2, a3, a4, l2, xs2, i2, v2, b1, b2, b3, b4, y5, e6, i5, j5, c1, c2, b', c3, q'⟩ := q
          exact ⟨y3, e4, l1, xs1, i1, v1, a1, a2, a3, a4, l2, xs2, i2, v2, b1, b2, b3, b4, y5, e6, i5, j5, c1, c2, b', c3, hq _ _ q'⟩
end

/-! ### names_until -/
theorem gfor_list {K : PySem.W.Frag} {a : Addr} {xs ys0 : List V} {g : TG} {tb : TGn} {D : GEnds} {σ : St} {H : Hp} (Pv : Nat → List V → St → Hp → Prop) (h0 : Pv 0 ys0 σ H) (hl : ∀ i ys σ H, i ≤ xs.length → Pv i ys σ H → SqL K H a xs)
    (hs : ∀ i x ys σ H, xs[i]? = some x → Pv i ys σ H → g x σ H fun σ2 H2 => tb { D with nx := Pv (i + 1), ct := Pv (i + 1), bk := D.nx } ys σ2 H2) (hd : ∀ ys σ H, Pv xs.length ys σ H → D.nx ys σ H) :
    ∃ W : Nat → Nat → List V → St → Hp → Prop, (∃ m, W 0 m ys0 σ H) ∧ ∀ i m ys σ H, W i m ys σ H →
      ((Itl K a).stop i H ∧ D.nx ys σ H) ∨ ((Itl K a).go i H ∧ ∃ N : List V → St → Hp → Prop, (∀ ys' σ' H', N ys' σ' H' → ∃ m', m' < m ∧ W (i + 1) m' ys' σ' H') ∧ ∀ x H', (Itl K a).yld i H x H' → g x σ H' fun σ2 H2 => tb { D with nx := N, ct := N, bk := D.nx } ys σ2 H2) := by
  refine ⟨fun i m ys σ H => m = xs.length - i ∧ i ≤ xs.length ∧ Pv i ys σ H, ⟨xs.length, by simp, Nat.zero_le _, h0⟩, ?_⟩
  rintro i m ys σ H ⟨rfl, hi, p⟩
  have q := hl i ys σ H hi p
  by_cases hlt : i < xs.length
  · refine .inr ⟨⟨xs, xs[i], q, by simp [hlt]⟩, Pv (i + 1), fun ys' σ' H' p' => ⟨xs.length - (i + 1), by omega, rfl, hlt, p'⟩, fun x H' y => ?_⟩
    obtain ⟨e, y⟩ := y
    subst e
    exact hs i x ys σ _ (y xs q) p
  · have e : i = xs.length := by omega
    subst e
    exact .inl ⟨⟨xs, q, Nat.le_refl _⟩, hd ys σ H p⟩
theorem r_gThen {t u : TGn} {D : GEnds} {ys : List V} {σ : St} {H : Hp} (h : t { D with nx := fun ys' σ' H' => u D ys' σ' H' } ys σ H) : tGThen t u D ys σ H := h
theorem r_gPlain {t : TS} {D : GEnds} {ys : List V} {σ : St} {H : Hp} (h : t { nx := D.nx ys, rt := D.rt ys, bk := D.bk ys, ct := D.ct ys } σ H) : tPlain t D ys σ H := h
theorem r_g0 {D : GEnds} {ys : List V} {σ : St} {H : Hp} (h : D.nx ys σ H) : tG0 D ys σ H := h
theorem r_gYield {te : TE} {D : GEnds} {ys : List V} {σ : St} {H : Hp} (hl : ys.length < sizeLine) (h : te σ H fun x H1 => D.nx (ys ++ [x]) σ H1) : tGYield te D ys σ H := ⟨hl, h⟩
theorem r_gFor {wi : TI} {g : TG} {tb : TGn} {D : GEnds} {ys : List V} {σ : St} {H : Hp} (h : wi σ H fun J H1 => ∃ W : Nat → Nat → List V → St → Hp → Prop, (∃ m, W 0 m ys σ H1) ∧ ∀ i m ys σ H, W i m ys σ H →
  (J.stop i H ∧ D.nx ys σ H) ∨ (J.go i H ∧ ∃ N : List V → St → Hp → Prop, (∀ ys' σ' H', N ys' σ' H' → ∃ m', m' < m ∧ W (i + 1) m' ys' σ' H') ∧ ∀ x H', J.yld i H x H' → g x σ H' fun σ2 H2 => tb { D with nx := N, ct := N, bk := D.nx } ys σ2 H2)) : tGFor wi g tb D ys σ H := h
local macro_rules | `(tactic| walk_at "rd") => `(tactic| with_reducible first | refine r_gThen ?_ | refine r_gPlain ?_ | refine r_gFor ?_ | refine r_g0 ?_)
def spCheckTime : Sp := fun vs H Q _ => ∃ (t e : Int), vs = [.int t, .int e] ∧ 0 ≤ t ∧ t ≤ e ∧ Q .non H
def spUntil (K : PySem.W.Frag) (M L : Addr) : SpG := fun vs H cont E => ∃ (m r : Addr) (t : Int) (o l g : Int) (T : Turns) (rs : List Int), vs = [.ref m, .int t, tv T, .ref r] ∧ MachAt M H m o l g ∧ (0 ≤ o ∧ o ≤ 1000000000) ∧ (0 ≤ l ∧ l ≤ 1000000000) ∧ (1 ≤ g ∧ g ≤ 1000000000) ∧ 0 < 2 * o + l ∧
  TurnsIn T ∧ SqR K H r rs ∧ RootsOk rs ∧ (0 ≤ t ∧ t ≤ depths T * (2 * o + l)) ∧
  (∀ (ys : List V) (ks : List Key3) H', EndF (2 * o + l) (gapOf o g) t T (rootsK rs) 201 ks → ks.length ≤ 200 → Same H H' → NmL H' ys (ks.map fun k => k.2.2) → cont ys H') ∧
  ∀ ks : List Key3, EndF (2 * o + l) (gapOf o g) t T (rootsK rs) 201 ks → 200 < ks.length → Exc1 E L "limit" (.str "names") H
section
variable {P : Program} {w : World} {K : PySem.W.Frag} {mg : Str → Option Value} {base : Heap} {a : Adr}
theorem ok_check_time (T : Txt K mg a) : FnOk P w K mg base CX0 3 a.a_check_time a.d_check_time ["time", "latest"] spCheckTime := by
  refine T.F_check_time.ok sc_check_time (fun vs H Q E h => ?_) (fun cdv A outer s H vs Q E hr h => ?_)
  · obtain ⟨t, e, rfl, _⟩ := h
    rfl
  · obtain ⟨t, e, rfl, h0, h1, k⟩ := h
    refine ⟨_, (pss_one (ps_if (pt_not (pt_val (pe_call (ok_is_between T) (hr.mono (by decide)) (by rfl) T.g_is_between T.F_is_between.kp T.b_is_between .nil pass0 (pa_cons (pv 0) (pa_cons pe_int (pa_cons (pv 1) pa_nil)))))) (pss_one ps_never)
 pss_nil)), ?_⟩
    repeat walk_at "rd"
    refine r_between ?_
    repeat walk_at "rd"
    refine r_nDT ⟨h0, h1⟩ ?_
    repeat walk_at "rd"
    exact k
theorem ok_names_until (T : Txt K mg a) : GFn P w K mg base 6 a.a_names_until a.d_names_until ["machine", "t", "turns", "roots"] (spUntil K a.c_Machine a.c_LimitExceeded) := by
  refine FunD_gok T.F_names_until sc_names_until (fun vs H Q E h => ?_) (fun cdv A outer s H vs Q E pn hr h => ?_)
  · obtain ⟨m, r, t, o, l, g, Tn, rs, rfl, _⟩ := h
    rfl
  · obtain ⟨m, r, t, o, l, g, Tn, rs, rfl, hm, ho, hl, hg, hp, hT, hR, hRo, ⟨t0, t9⟩, k1, k2⟩ := h
    refine ⟨_, (gss_cons (gs_ps (ps_set (i := 4) sc_names_until.nd rfl (Or.inl rfl) (pe_make T.mk_Tree (ok_Tree_init T) (hr.mono (by decide)) (by rfl) T.g_Tree T.b_Tree_init .nil pass0 (pa_cons (pv 0) (pa_cons (pv 2) (pa_cons (pv 3) pa_nil))))))
 (gss_cons (gs_ps (ps_expr (pe_call (ok_check_time T) (hr.mono (by decide)) (by rfl) T.g_check_time T.F_check_time.kp T.b_check_time .nil pass0 (pa_cons (pv 1) (pa_cons (pe_fld (pv 4) rfl) pa_nil)))))
 (gss_cons (gs_ps (ps_set (i := 5) sc_names_until.nd rfl (Or.inl rfl) (pe_call (ok_names_in_order T) (hr.mono (by decide)) (by rfl) T.g_names_in_order T.F_names_in_order.kp T.b_names_in_order .nil pass0 (pa_cons (pv 4) (pa_cons (pe_op op_add (pe_glob (v := .int 200) (by rfl) T.g_MOST_UNTIL.choose_spec ⟨_, rfl⟩) pe_int) (pa_cons (pv 1) pa_nil))))))
 (gss_cons (gs_ps (ps_if (pt_cmpR op_gt (pe_callB call_len_seq (by rfl) T.n_len (by decide +kernel) (pa_cons (pv 5) pa_nil)) (pe_glob (v := .int 200) (by rfl) T.g_MOST_UNTIL.choose_spec ⟨_, rfl⟩) (nomark _)) (pss_one (ps_raise rfl takes_gcx (by exact (pmk_LimitExceeded T.x_LimitExceeded hr (pa_cons pe_str pa_nil)))))
 pss_nil))
 (gss_cons (gs_for owns_gcx rfl (pi_list (pv 5)) (pg_name (i := 6) sc_names_until.nd rfl (Or.inl rfl))
 (gss_cons (gs_yield (pv 6))
 gss_nil))
 gss_nil))))), ?_⟩
    repeat walk_at "rd"
    refine r_Tree hm ho hl hg hp hT hR hRo (fun x H1 nx hx s1 => ?_)
    repeat walk_at "rd"
    obtain ⟨⟨dx, rt, pw, e1, _⟩, _⟩ := id hx
    repeat walk_at "rd"
    refine ⟨t, _, rfl, t0, t9, ?_⟩
    repeat walk_at "rd"
    have h9 : (depths Tn : Int) * (2 * o + l) ≤ 120 * 3000000000 := Int.mul_le_mul (by have := depths_le Tn; omega) (by have := ho.2; have := hl.2; omega) (by omega) (by decide)
    refine ⟨x, 200 + 1, t, _, _, Tn, rs, rfl, hx, ⟨by decide, by decide⟩, ⟨t0, by omega⟩, fun p xs ks H2 hE s2 np e2 hA => ?_⟩
    have hxl : xs.length = ks.length := by rw [hA.1, List.length_map]
    repeat first | walk_at "rd" | walk_at "rdi"
    rw [hxl]
    refine ite_d (fun hc => ?_) (fun hc => ?_)
    · repeat walk_at "rd"
      refine r_mkLimitExceeded ?_
      repeat walk_at "rd"
      exact ⟨_, rfl, Exc1.after (k2 ks hE (by omega)) (s1.trans s2)⟩
    · repeat walk_at "rd"
      refine ⟨p, rfl, ⟨_, SqL.of e2⟩, gfor_list (K := K) (a := p) (xs := xs) (fun i ys σ H' => ∃ v6 : Option V, σ = [some (.ref m), some (.int t), some (tv Tn), some (.ref r), some (.ref x), some (.ref p), v6] ∧ H' = H2 ∧ ys = xs.take i) ⟨_, rfl, rfl, rfl⟩ (fun i ys σ H' _ ⟨_, _, h, _⟩ => by rw [h]; exact SqL.of e2) ?_ ?_⟩
      · rintro i v ys σ H' hv ⟨v6, rfl, rfl, rfl⟩
        repeat walk_at "rd"
        refine r_gYield (Nat.lt_of_le_of_lt (m := 1000) (by rw [List.length_take]; omega) (by decide)) ?_
        repeat walk_at "rd"
        exact ⟨_, rfl, rfl, (take_more hv).symm⟩
      · rintro ys σ H' ⟨v6, rfl, rfl, rfl⟩
        rw [List.take_length]
        repeat first | exact k1 xs ks _ hE (by omega) (s1.trans s2) hA | walk_at "rd"
end

/-! ### how calls with keyword-only parameters bind -/
theorem kb_names_until_turns_roots {K : PySem.W.Frag} {mg : Str → Option Value} {a : Adr} (T : Txt K mg a) : ∃ mv : List Value, KBn K a.d_names_until ["machine", "t", "turns", "roots"] 2 ["turns", "roots"] (fun us ws => us ++ ws ++ mv) (fun vs zs => vs ++ zs ++ []) :=
  FunD.kbinds0 T.F_names_until 2 ["turns", "roots"] [] (fun us mv ws => us ++ ws ++ mv) (by simp) (by simp) (fun r1 r2 r3 => (r1.append r3).append r2) fun D doc pm an cdv ct us mv ws h1 h2 h3 => match us, mv, ws, h1, h2, h3 with
    | [_, _], [], [_, _], _, _, _ => rfl

section
variable {P : Program} {w : World} {K : PySem.W.Frag} {mg : Str → Option Value} {base : Heap} {a : Adr}
theorem ok__law_is (T : Txt K mg a) : FnOk P w K mg base CX0 1 a.a__law_is a.d__law_is ["_law_thing", "_law_due"] spIs := by
  refine T.F__law_is.ok sc__law_is (fun vs H Q E h => ?_) (fun cdv A outer s H vs Q E hr h => ?_)
  · obtain ⟨i, j, rfl, _⟩ := h
    rfl
  · obtain ⟨i, j, rfl, k⟩ := h
    refine ⟨_, (pss_one (ps_ret (pe_and (pe_callB call_isi (by rfl) T.n_isinstance (by decide +kernel) (pa_cons (pv 0) (pa_cons (pe_bltn (v := .ty "int") (u := .type "int") (by rfl) T.n_int (by decide +kernel) rfl) pa_nil))) (pe_and (pe_not (pe_callB call_isi (by rfl) T.n_isinstance (by decide +kernel) (pa_cons (pv 0) (pa_cons (pe_bltn (v := .ty "bool") (u := .type "bool") (by rfl) T.n_bool (by decide +kernel) rfl) pa_nil)))) (pe_one (pe_cmpR op_eq (pv 0) (pv 1) (nomark _))))))), ?_⟩
    repeat walk_at "rd"
    exact k
end

/-! ### tuples that a law compares: told, refused -/
theorem sh_told (v : Int) : SeqAt.shaped (.tuple [.str "told", .int v]) = true := by
  have h : PyData.canLay0 (.str "told") = true := by decide +kernel
  show ((PyData.canLay0 (.str "told") && (true && true)) && decide ((PyData.tuple [.str "told", .int v]).depth ≤ 64)) = true
  rw [h]; rfl
theorem sh_time : SeqAt.shaped (.tuple [.str "refused", .str "time"]) = true := by decide +kernel
theorem r_neTime {K : PySem.W.Frag} {H : Hp} {Q : VK} {p q : Addr} (h1 : H p = some (.tup [.str "refused", .str "time"])) (h2 : H q = some (.tup [.str "refused", .str "time"])) (k : Q (.bl false) H) : rNeD K (.ref p) (.ref q) H Q := by
  refine ⟨.tuple [.str "refused", .str "time"], .tuple [.str "refused", .str "time"], .tup (SqT.of h1) (.cons (.str _) (.cons (.str _) .nil)), .tup (SqT.of h2) (.cons (.str _) (.cons (.str _) .nil)), sh_time, sh_time, ?_⟩
  rw [show PyData.eqv (.tuple [.str "refused", .str "time"]) (.tuple [.str "refused", .str "time"]) = true by simp [PyData.eqv, PyData.eqvAll]]
  exact k
theorem r_eqTime {K : PySem.W.Frag} {H : Hp} {Q : VK} {p q : Addr} (h1 : H p = some (.tup [.str "refused", .str "time"])) (h2 : H q = some (.tup [.str "refused", .str "time"])) (k : Q (.bl true) H) : rEqD K (.ref p) (.ref q) H Q := by
  refine ⟨.tuple [.str "refused", .str "time"], .tuple [.str "refused", .str "time"], .tup (SqT.of h1) (.cons (.str _) (.cons (.str _) .nil)), .tup (SqT.of h2) (.cons (.str _) (.cons (.str _) .nil)), sh_time, sh_time, ?_⟩
  rw [show PyData.eqv (.tuple [.str "refused", .str "time"]) (.tuple [.str "refused", .str "time"]) = true by simp [PyData.eqv, PyData.eqvAll]]
  exact k
theorem r_neTold {K : PySem.W.Frag} {H : Hp} {Q : VK} {p q : Addr} {v : Int} (h1 : H p = some (.tup [.str "told", .int v])) (h2 : H q = some (.tup [.str "told", .int v])) (k : Q (.bl false) H) : rNeD K (.ref p) (.ref q) H Q := by
  refine ⟨.tuple [.str "told", .int v], .tuple [.str "told", .int v], .tup (SqT.of h1) (.cons (.str _) (.cons (.int _) .nil)), .tup (SqT.of h2) (.cons (.str _) (.cons (.int _) .nil)), sh_told v, sh_told v, ?_⟩
  rw [show PyData.eqv (.tuple [.str "told", .int v]) (.tuple [.str "told", .int v]) = true by simp [PyData.eqv, PyData.eqvAll]]
  exact k

/-! ### what a law asks: answers or refusals of counts and times -/
theorem r_eqSt {x y : Str} {H : Hp} {Q : VK} (e : x = y) (q : Q (.bl true) H) : rEq (.str x) (.str y) H Q := ⟨rfl, by rw [decide_eq_true (congrArg V.str e)]; exact q⟩
theorem r_eqSf {x y : Str} {H : Hp} {Q : VK} (e : x ≠ y) (q : Q (.bl false) H) : rEq (.str x) (.str y) H Q := ⟨rfl, by rw [decide_eq_false fun z => e (V.str.inj z)]; exact q⟩
theorem r_neSt {x y : Str} {H : Hp} {Q : VK} (e : x ≠ y) (q : Q (.bl true) H) : rNe (.str x) (.str y) H Q := ⟨rfl, by rw [decide_eq_false fun z => e (V.str.inj z)]; exact q⟩
theorem r_neSf {x y : Str} {H : Hp} {Q : VK} (e : x = y) (q : Q (.bl false) H) : rNe (.str x) (.str y) H Q := ⟨rfl, by rw [decide_eq_true (congrArg V.str e)]; exact q⟩
theorem r_xf {n : Nat} {a0 C dd : Addr} {d : Option Addr} {cls : Value} {f : Str} {v : V} {fs : List (Str × V)} {σ : St} {H : Hp} {Q : VK} (hs : σ[n]? = some (some (.ref a0))) (hd : (cls, d) = (Value.ref C, some dd)) (e : H dd = some (.xd fs)) (l : fs.lookup f = some v) (q : Q v H) : tXf a0 cls d C f (tVar n) σ H Q := by
  cases hd
  exact ⟨_, hs, rfl, rfl, dd, fs, v, rfl, e, l, q⟩

/-! ### the same names -/
def spSameN : Sp := fun vs H Q _ => ∃ (p q : Addr) (xs ys : List V) (ls : List (List Int)), vs = [.ref p, .ref q] ∧ H p = some (.lst xs) ∧ H q = some (.lst ys) ∧ NmL H xs ls ∧ NmL H ys ls ∧ ls.length ≤ 300 ∧ (∀ l, l ∈ ls → l.length ≤ 1000) ∧ Q (.bl true) H
theorem r_isiTuN {K : PySem.W.Frag} {H : Hp} {Q : VK} {p : Addr} {xs : List V} {n : String} (b : Bool) (h : H p = some (.tup xs)) (hk : kitB "tuple" n = some b) (q : Q (.bl b) H) : rIsi K [.ref p, .ty n] H Q := r_isi (.base (.tup h)) (kit_ty hk) q
section
variable {P : Program} {w : World} {K : PySem.W.Frag} {mg : Str → Option Value} {base : Heap} {a : Adr}
set_option maxHeartbeats 0 in
theorem ok__law_same_names (T : Txt K mg a) : FnOk P w K mg base CX0 2 a.a__law_same_names a.d__law_same_names ["_law_thing", "_law_due"] spSameN := by
  refine T.F__law_same_names.ok sc__law_same_names (fun vs H Q E h => ?_) (fun cdv A outer s H vs Q E hr h => ?_)
  · obtain ⟨p, q, xs, ys, ls, rfl, _⟩ := h
    rfl
  · obtain ⟨p, q, xs, ys, ls, rfl, ep, eq, hX, hY, hn, hl, k⟩ := h
    refine ⟨_, (pss_cons (ps_if (PW.pt (pw_or (pt_not (pt_val (pe_callB call_isi (by rfl) T.n_isinstance (by decide +kernel) (pa_cons (pv 0) (pa_cons (pe_bltn (v := .ty "list") (u := .type "list") (by rfl) T.n_list (by decide +kernel) rfl) pa_nil))))) (pw_or1 (pt_cmpR op_ne (pe_callB call_len_seq (by rfl) T.n_len (by decide +kernel) (pa_cons (pv 0) pa_nil)) (pe_callB call_len_seq (by rfl) T.n_len (by decide +kernel) (pa_cons (pv 1) pa_nil)) (nomark _))))) (pss_one (ps_ret pe_bl))
 pss_nil)
 (pss_cons (ps_for (by exact PassesOwn.never) rfl (pi_range1 (by rfl) T.n_range (pa_cons (pe_callB call_len_seq (by rfl) T.n_len (by decide +kernel) (pa_cons (pv 1) pa_nil)) pa_nil)) (pg_name (i := 2) sc__law_same_names.nd rfl (Or.inl rfl))
 (pss_cons (ps_if (PW.pt (pw_or (pt_not (pt_val (pe_callB call_isi (by rfl) T.n_isinstance (by decide +kernel) (pa_cons (pe_ix ix_list (pv 0) (pv 2) (fun _ _ => rfl)) (pa_cons (pe_bltn (v := .ty "tuple") (u := .type "tuple") (by rfl) T.n_tuple (by decide +kernel) rfl) pa_nil))))) (pw_or1 (pt_cmpR op_ne (pe_callB call_len_seq (by rfl) T.n_len (by decide +kernel) (pa_cons (pe_ix ix_list (pv 0) (pv 2) (fun _ _ => rfl)) pa_nil)) (pe_callB call_len_seq (by rfl) T.n_len (by decide +kernel) (pa_cons (pe_ix ix_list (pv 1) (pv 2) (fun _ _ => rfl)) pa_nil)) (nomark _))))) (pss_one (ps_ret pe_bl))
 pss_nil)
 (pss_one (ps_for (by exact PassesOwn.never) rfl (pi_range1 (by rfl) T.n_range (pa_cons (pe_callB call_len_seq (by rfl) T.n_len (by decide +kernel) (pa_cons (pe_ix ix_list (pv 1) (pv 2) (fun _ _ => rfl)) pa_nil)) pa_nil)) (pg_name (i := 3) sc__law_same_names.nd rfl (Or.inl rfl))
 (pss_one (ps_if (pt_not (pt_val (pe_call (ok__law_is T) (hr.mono (by decide)) (by rfl) T.g__law_is T.F__law_is.kp T.b__law_is .nil pass0 (pa_cons (pe_ix ix_tup (pe_ix ix_list (pv 0) (pv 2) (fun _ _ => rfl)) (pv 3) (fun _ _ => rfl)) (pa_cons (pe_ix ix_tup (pe_ix ix_list (pv 1) (pv 2) (fun _ _ => rfl)) (pv 3) (fun _ _ => rfl)) pa_nil))))) (pss_one (ps_ret pe_bl))
 pss_nil))))))
 (pss_one (ps_ret pe_bl)))), ?_⟩
    have lx := hX.1
    have ly := hY.1
    repeat first | walk_at "rd" | walk_at "rdi"
    refine r_isi (n := "list") (b := true) (.base (.lst ep)) (kit_ty (by decide +kernel)) ?_
    repeat first | walk_at "rd" | walk_at "rdi"
    refine r_nDT (by omega) ?_
    repeat first | walk_at "rd" | walk_at "rdi"
    refine ⟨by omega, by omega, for_range (lo := 0) (n := (ys.length : Int).toNat) (fun i σ H' => ∃ v2 v3 : Option V, σ = [some (.ref p), some (.ref q), v2, v3] ∧ H' = H) ⟨_, _, rfl, rfl⟩ ?_ ?_⟩
    · rintro i σ H1 hi ⟨v2, v3, rfl, rfl⟩
      have hin : i < ls.length := by omega
      have hnm : ls[i]? = some (ls[i]'hin) := List.getElem?_eq_getElem hin
      generalize (ls[i]'hin) = nm at hnm
      obtain ⟨t1, e1, et1⟩ := hX.2 i nm hnm
      obtain ⟨t2, e2, et2⟩ := hY.2 i nm hnm
      have hll := hl nm (List.mem_iff_getElem?.mpr ⟨i, hnm⟩)
      have a1 : atI xs (0 + (i : Int)) = some (.ref t1) := by rw [Int.zero_add]; exact atI_nat e1
      have a2 : atI ys (0 + (i : Int)) = some (.ref t2) := by rw [Int.zero_add]; exact atI_nat e2
      repeat first | walk_at "rd" | walk_at "rdi"
      refine r_ixL ep a1 ?_
      repeat first | walk_at "rd" | walk_at "rdi"
      refine r_isiTuN true et1 (by decide +kernel) ?_
      repeat first | walk_at "rd" | walk_at "rdi"
      refine r_ixL ep a1 ?_
      repeat first | walk_at "rd" | walk_at "rdi"
      refine r_ixL eq a2 ?_
      repeat first | walk_at "rd" | walk_at "rdi"
      repeat first | walk_at "rd" | walk_at "rdi"
      refine r_ixL eq a2 ?_
      repeat first | walk_at "rd" | walk_at "rdi"
      refine ⟨by omega, by rw [List.length_map]; omega, for_range (lo := 0) (n := ((nm.map V.int).length : Int).toNat) (fun j σ H' => ∃ v3 : Option V, σ = [some (.ref p), some (.ref q), some (.int (0 + (i : Nat))), v3] ∧ H' = H1) ⟨_, rfl, rfl⟩ ?_ ?_⟩
      · rintro j σ H2 hj ⟨v3, rfl, rfl⟩
        rw [List.length_map] at hj
        have hjl : j < nm.length := by omega
        have a3 : atI (nm.map V.int) (0 + (j : Int)) = some (.int (nm[j]'hjl)) := by
          rw [Int.zero_add]
          refine atI_nat ?_
          rw [List.getElem?_map, List.getElem?_eq_getElem hjl]
          rfl
        repeat first | walk_at "rd" | walk_at "rdi"
        refine r_ixL ep a1 ?_
        repeat first | walk_at "rd" | walk_at "rdi"
        refine r_ixT et1 a3 ?_
        repeat first | walk_at "rd" | walk_at "rdi"
        refine r_ixL eq a2 ?_
        repeat first | walk_at "rd" | walk_at "rdi"
        refine r_ixT et2 a3 ?_
        repeat first | walk_at "rd" | walk_at "rdi"
        refine ⟨nm[j]'hjl, nm[j]'hjl, rfl, ?_⟩
        rw [decide_eq_true (show nm[j]'hjl = nm[j]'hjl from rfl)]
        repeat first | exact ⟨_, rfl, rfl⟩ | walk_at "rd" | walk_at "rdi"
      · rintro σ H2 ⟨v3, rfl, rfl⟩
        repeat first | exact ⟨_, _, rfl, rfl⟩ | walk_at "rd" | walk_at "rdi"
    · rintro σ H1 ⟨v2, v3, rfl, rfl⟩
      repeat first | exact k | walk_at "rd" | walk_at "rdi"
end

/-! ### first_names; the law's own search -/
def spLawFirst : Sp := fun vs H Q _ => ∃ (r : Addr) (n e D G : Int) (T : Turns) (rs : List Int), vs = [.int D, .int G, tv T, .ref r, .int n, .int e] ∧ H r = some (.lst (rs.map V.int)) ∧ RootsOk rs ∧ (0 < D ∧ D ≤ 3000000000) ∧ (0 < G ∧ G ≤ 1000000000) ∧ TurnsIn T ∧ (0 ≤ n ∧ n ≤ 300) ∧ (0 ≤ e ∧ e ≤ 1000000000000) ∧
  ∀ (p : Addr) (ps : List (V × Key3)) H', EndF D G e T (rootsK rs) n.toNat (ps.map Prod.snd) → Same H H' → H p = none → H' p = some (.lst (ps.map Prod.fst)) → KRefs H' ps → Q (.ref p) H'
theorem erase_perm {α : Type} : ∀ {l : List α} {j : Nat} {x : α}, l[j]? = some x → (x :: l.eraseIdx j).Perm l
  | [], j, x, h => by simp at h
  | a :: l, 0, x, h => by rw [Option.some.inj h]; exact List.Perm.refl _
  | a :: l, j + 1, x, h => (List.Perm.swap a x _).trans (List.Perm.cons a (erase_perm (by simpa using h)))
theorem of_test {t : St → Hp → (Bool → Hp → Prop) → Prop} {σ : St} {H : Hp} {QT : Bool → Hp → Prop} (b : Bool) (h : ∀ Q : Bool → Hp → Prop, Q b H → t σ H Q) (k : QT b H) : t σ H QT := h _ k
theorem first_idx : ∀ {ps : List (V × Key3)} {m : Key3}, m ∈ ps.map Prod.snd → ∃ (j : Nat) (p : V × Key3), ps[j]? = some p ∧ p.2 = m ∧ ∀ i q, i < j → ps[i]? = some q → q.2 ≠ m
  | [], m, h => by cases h
  | p :: ps, m, h => by
    by_cases c : p.2 = m
    · exact ⟨0, p, rfl, c, fun i q hi => absurd hi (Nat.not_lt_zero _)⟩
    · rcases List.mem_cons.mp h with h | h
      · exact absurd h.symm c
      · obtain ⟨j, q, h1, h2, h3⟩ := first_idx h
        refine ⟨j + 1, q, by simpa using h1, h2, fun i x hi hx => ?_⟩
        cases i with
        | zero => rw [← Option.some.inj hx]; exact c
        | succ i => exact h3 i x (by omega) (by simpa using hx)
section
variable {P : Program} {w : World} {K : PySem.W.Frag} {mg : Str → Option Value} {base : Heap} {a : Adr}
set_option maxHeartbeats 0 in
theorem ok__law_first (T : Txt K mg a) : FnOk P w K mg base CX0 2 a.a__law_first a.d__law_first ["_law_letter", "_law_gap", "_law_turns", "_law_roots", "_law_many", "_law_end"] spLawFirst := by
  refine T.F__law_first.ok sc__law_first (fun vs H Q E h => ?_) (fun cdv A outer s H vs Q E hr h => ?_)
  · obtain ⟨r, n, e, D, G, Tn, rs, rfl, _⟩ := h
    rfl
  · obtain ⟨r, n, e, D, G, Tn, rs, rfl, er, R0, ⟨D0, D9⟩, ⟨G0, G9⟩, T0, ⟨n0, n9⟩, ⟨e0, e9⟩, k⟩ := h
    refine ⟨_, (pss_cons (ps_setLc (i := 6) (own := [("_law_r", 13)]) (g := gName 13) (tt := tYes) rfl sc__law_first.nd rfl rfl (sw_true rfl rfl rfl (by decide +kernel)) (pi_range1 (by rfl) T.n_range (pa_cons (pe_callB call_len_seq (by rfl) T.n_len (by decide +kernel) (pa_cons (pv 3) pa_nil)) pa_nil)) (blkOk_by (own := [("_law_r", 13)]) (N := ["_law_letter", "_law_gap", "_law_turns", "_law_roots", "_law_many", "_law_end", "_law_waiting", "_law_found", "_law_k", "_law_first_here", "_law_time", "_law_depth", "_law_name", "_law_r"]) (sc := defScope s__law_first) (by decide +kernel)) (fun _ _ _ _ _ => (pg_name (i := 13) sc__law_first.nd rfl (Or.inl rfl))) (fun _ _ _ _ _ => pts_nil) (fun _ _ _ _ _ => (pe_tup (pa_cons (pe_ix (ix_listK (K := K) rfl) (pv 3) (pv 13) (fun _ _ => rfl)) (pa_cons pe_int (pa_cons (pe_tup (pa_cons (pv 13) pa_nil)) pa_nil))))))
 (pss_cons (ps_set (i := 7) sc__law_first.nd rfl (Or.inl rfl) (pe_lst pa_nil))
 (pss_cons (ps_for (by exact PassesOwn.never) rfl (pi_range1 (by rfl) T.n_range (pa_cons (pv 4) pa_nil)) (pg_name (i := 8) sc__law_first.nd rfl (Or.inl rfl))
 (pss_cons (ps_set (i := 9) sc__law_first.nd rfl (Or.inl rfl) (pe_ix ix_list (pe_callB (HQ.cr_sortD encK keyD_tup hr.units) (by rfl) T.n_sorted (by decide +kernel) (pa_cons (pv 6) pa_nil)) pe_int (fun _ _ => rfl)))
 (pss_one (ps_if (pt_cmpR op_le (pe_ix ix_tup (pv 9) pe_int (fun _ _ => rfl)) (pv 5) (nomark _)) (pss_cons (ps_expr (pe_bm PySem.F.plainAttrs_list PySem.F.slot_list_append PySem.F.type_list_append mt_append (pv 7) (pa_cons (pv 9) pa_nil)))
 (pss_cons (ps_expr (pe_bm PySem.F.plainAttrs_list PySem.F.slot_list_remove PySem.F.type_list_remove (HQ.mt_removeD encK.dep keyD_lay hr.units) (pv 6) (pa_cons (pv 9) pa_nil)))
 (pss_cons (ps_asg (pv 9) (pg_tup (by rfl) (pgs_cons (pg_name (i := 10) sc__law_first.nd rfl (Or.inl rfl)) (pgs_cons (pg_name (i := 11) sc__law_first.nd rfl (Or.inl rfl)) (pgs_cons (pg_name (i := 12) sc__law_first.nd rfl (Or.inl rfl)) pgs_nil)))))
 (pss_cons (ps_expr (pe_bm PySem.F.plainAttrs_list PySem.F.slot_list_append PySem.F.type_list_append mt_append (pv 6) (pa_cons (pe_tup (pa_cons (pe_op op_add (pv 10) (pv 0)) (pa_cons (pe_op op_add (pv 11) pe_int) (pa_cons (pe_op op_catT (pv 12) (pe_tup (pa_cons pe_int pa_nil))) pa_nil)))) pa_nil)))
 (pss_one (ps_if (PW.pt (pw_and (pt_cmpR op_gt (pv 11) pe_int (nomark _)) (pw_and1 (PW.pt (pw_or (pt_cmpR op_isNo (pv 2) pe_non (nomark _)) (pw_or1 (pt_cmpR op_lt (pe_op op_add (pe_ix ix_tup (pv 12) (pe_un un_neg pe_int) (fun _ _ => rfl)) pe_int) (pv 2) (nomark _)))))))) (pss_one (ps_expr (pe_bm PySem.F.plainAttrs_list PySem.F.slot_list_append PySem.F.type_list_append mt_append (pv 6) (pa_cons (pe_tup (pa_cons (pe_op op_add (pv 10) (pv 1)) (pa_cons (pv 11) (pa_cons (pe_op op_catT (pe_slice sl_tup (pv 12) po_none (po_some (pe_un un_neg pe_int))) (pe_tup (pa_cons (pe_op op_add (pe_ix ix_tup (pv 12) (pe_un un_neg pe_int) (fun _ _ => rfl)) pe_int) pa_nil))) pa_nil)))) pa_nil))))
 pss_nil))))))
 pss_nil))))
 (pss_one (ps_ret (pv 7)))))), ?_⟩
    have hl := R0.2.1
    repeat walk_at "rd"
    refine ⟨by omega, by rw [List.length_map]; omega, fun L nL => lc_range (lo := 0) (n := ((rs.map V.int).length : Int).toNat) (fun i H' => ∃ ps : List (V × Key3), H' L = some (.lst (ps.map Prod.fst)) ∧ Same H H' ∧ KRefs H' ps ∧ ps.map Prod.snd = (rootsK rs).take i) ⟨[], upd_same, Same.new nL, fun p hp => (nomatch hp), rfl⟩ ?_ ?_⟩
    · rintro i H1 hi ⟨ps, eL, s1, hP, hk⟩
      rw [List.length_map] at hi
      have hil : i < rs.length := by omega
      repeat walk_at "rd"
      refine ⟨rfl, ?_⟩
      repeat walk_at "rd"
      have hz : rs[i]? = some (rs[i]'hil) := List.getElem?_eq_getElem hil
      refine r_ixL (s1 _ _ er) (v := .int (rs[i]'hil)) (by rw [Int.zero_add]; exact atI_nat (by rw [List.getElem?_map, hz]; rfl)) ?_
      repeat walk_at "rd"
      refine new_at (Nat.le_of_ble_eq_true rfl) (fun q1 H3 nq1 s3 e3 => ?_)
      repeat walk_at "rd"
      refine new_at (Nat.le_of_ble_eq_true rfl) (fun q2 H4 nq2 s4 e4 => ?_)
      repeat walk_at "rd"
      rw [Int.zero_add] at e3
      have s14 := (s1.trans s3).trans s4
      have eL4 := (s3.trans s4) _ _ eL
      have hP4 := (hP.keep (s3.trans s4)).snoc (v := .ref q2) (k := (rs[i]'hil, 0, [(i : Int)])) ⟨q2, q1, rfl, e4, s4 _ _ e3⟩
      have hps : ps.length ≤ 6 := by rw [← List.length_map (f := Prod.snd), hk, List.length_take, rootsK_len]; omega
      refine ⟨_, eL4, small1000 (by rw [List.length_map]; omega), ps ++ [(.ref q2, (rs[i]'hil, 0, [(i : Int)]))], by rw [upd_same, List.map_append]; rfl, s14.over nL eL4, hP4.upd eL4, ?_⟩
      rw [List.map_append, hk]
      exact (take_more (by rw [rootsK_at, hz]; rfl)).symm
    · rintro H1 ⟨ps, eW, s1, hP, hk⟩
      rw [List.length_map, Int.toNat_natCast, List.take_of_length_le (by rw [rootsK_len]; exact Nat.le_refl _)] at hk
      repeat walk_at "rd"
      refine new_at (Nat.zero_le _) (fun N H2 nN s2 eN => ?_)
      repeat walk_at "rd"
      have nWH : H L = none := nL
      have nNH : H N = none := s1.free nN
      have hWN : L ≠ N := ne_of_none eW nN
      have eW2 := s2 _ _ eW
      have hP2 := hP.keep s2
      have s2 := s1.trans s2
      have hok0 := rootsK_ok (rs := rs) (fun r hr => by obtain ⟨i, hi⟩ := List.mem_iff_getElem?.mp hr; exact (R0.2.2.get hi).1) R0.2.1
      have hl0 : 1 ≤ (rootsK rs).length := by rw [rootsK_len]; exact R0.1
      refine ⟨by omega, by omega, for_range (lo := 0) (n := n.toNat) (fun i σ H' => ∃ (v8 v9 v10 v11 v12 v13 : Option V) (ws : List Key3) (ps fs : List (V × Key3)), σ = [some (.int D), some (.int G), some (tv Tn), some (.ref r), some (.int n), some (.int e), some (.ref L), some (.ref N), v8, v9, v10, v11, v12, v13] ∧ Same H H' ∧ FirstR D G e Tn (rootsK rs) ws (fs.map Prod.snd) ∧ fs.length ≤ i ∧ (fs.length = i ∨ ∀ x, x ∈ ws → e < x.1) ∧
        H' L = some (.lst (ps.map Prod.fst)) ∧ KRefs H' ps ∧ (ps.map Prod.snd).Perm ws ∧ H' N = some (.lst (fs.map Prod.fst)) ∧ KRefs H' fs)
        ⟨_, _, _, _, _, _, rootsK rs, ps, [], rfl, s2, .zero, Nat.le_refl _, .inl rfl, eW2, hP2, by rw [hk], eN, fun p hp => (nomatch hp)⟩ ?_ ?_⟩
      · clear s2 eN eW2 hP2 eW hP hk s1 nN
        rintro i σ H4 hi ⟨v8, v9, v10, v11, v12, v13, ws, ps, fs, rfl, s4, hR, hfi, hor, eW, hP, hPm, eN, hF⟩
        obtain ⟨ok1, ok2, ok3, ok4⟩ := hR.ok (Int.le_of_lt D0) (Int.le_of_lt G0) hok0 hl0
        rw [rootsK_len, List.length_map] at ok3
        have hpl : ps.length = ws.length := by rw [← List.length_map (f := Prod.snd), hPm.length_eq]
        repeat walk_at "rd"
        refine ⟨L, ps, rfl, SqL.of eW, fun p hp => (hP p hp).dp, by omega, fun S qs hq hs nS => ?_⟩
        have hql : qs.length = ps.length := hq.length_eq
        obtain ⟨p0, rest, rfl⟩ : ∃ p0 rest, qs = p0 :: rest := by
          cases qs with
          | nil => rw [List.length_nil] at hql; omega
          | cons p0 rest => exact ⟨p0, rest, rfl⟩
        have s5 : Same H4 (L2.upd H4 S (.lst ((p0 :: rest).map Prod.fst))) := Same.new nS
        have e5 : L2.upd H4 S (.lst ((p0 :: rest).map Prod.fst)) S = some (.lst ((p0 :: rest).map Prod.fst)) := upd_same
        generalize L2.upd H4 S (.lst ((p0 :: rest).map Prod.fst)) = H5 at s5 e5 ⊢
        have eW5 := s5 _ _ eW
        have hP5 := hP.keep s5
        have eN5 := s5 _ _ eN
        have hF5 := hF.keep s5
        have s5 := s4.trans s5
        have hpm : p0 ∈ ps := hq.mem_iff.mp (List.mem_cons_self ..)
        obtain ⟨t, u, ep, et, eu⟩ := hP5 p0 hpm
        obtain ⟨pv, m⟩ := p0
        obtain rfl : pv = .ref t := ep
        have et : H5 t = some (.tup [.int m.1, .int m.2.1, .ref u]) := et
        have eu : H5 u = some (.tup (m.2.2.map V.int)) := eu
        have hmin : ∀ q, q ∈ rest → ltK q.2 m = false := fun q hq => by
          have := (List.pairwise_cons.mp hs).1 q hq
          rwa [lt_keyD] at this
        have hmw : m ∈ ws := hPm.mem_iff.mp (List.mem_map.mpr ⟨_, hpm, rfl⟩)
        have hkp : (m :: rest.map Prod.snd).Perm ws := (hq.map Prod.snd).trans hPm
        obtain ⟨m0, m1, m2, m3, m4⟩ := ok1 m hmw
        rw [List.length_map] at m3 m4
        have m5 : m.2.1 ≤ 400 := by omega
        repeat walk_at "rd"
        refine r_ixL e5 (v := .ref t) (atI_nat (j := 0) rfl) ?_
        repeat first | walk_at "rd" | walk_at "rdi"
        refine ite_d (fun hc => ?_) (fun hc => ?_)
        · have hfl : fs.length = i := by
            rcases hor with h | h
            · exact h
            · have := h m hmw; omega
          have hR2 := hR.step (m := m) (rest := rest.map Prod.snd) hkp.symm (fun x hx => by
              obtain ⟨q, hq, rfl⟩ := List.mem_map.mp hx
              exact hmin q hq) hc
          have hnn : m.2.2 ≠ [] := fun z => by rw [z] at m2; simp at m2
          have zin := m4 _ (getLastD_in (d := 0) hnn)
          have hsp : m.2.2 = m.2.2.dropLast ++ [m.2.2.getLastD 0] := by
            obtain ⟨ys, y, e1⟩ : ∃ ys y, m.2.2 = ys ++ [y] := ⟨_, _, (List.dropLast_concat_getLast hnn).symm⟩
            rw [e1, List.getLastD_concat, List.dropLast_concat]
          repeat walk_at "rd"
          refine ⟨.inl ⟨rfl, _, SqL.of eN5⟩, ?_⟩
          repeat walk_at "rd"
          refine r_app eN5 (small1000 (by rw [List.length_map]; omega)) ?_
          have s6 := s5.over (o := HO.lst (fs.map Prod.fst ++ [V.ref t])) nNH eN5
          have hP6 := hP5.upd (o := HO.lst (fs.map Prod.fst ++ [V.ref t])) eN5
          have hF6 := (hF5.snoc (v := .ref t) (k := m) ⟨t, u, rfl, et, eu⟩).upd (o := HO.lst (fs.map Prod.fst ++ [V.ref t])) eN5
          have et6 : L2.upd H5 N (HO.lst (fs.map Prod.fst ++ [V.ref t])) t = some (.tup [.int m.1, .int m.2.1, .ref u]) := (upd_ne (fun z => by rw [z, eN5] at et; cases et)).trans et
          have eu6 : L2.upd H5 N (HO.lst (fs.map Prod.fst ++ [V.ref t])) u = some (.tup (m.2.2.map V.int)) := (upd_ne (fun z => by rw [z, eN5] at eu; cases eu)).trans eu
          have eN6 : L2.upd H5 N (HO.lst (fs.map Prod.fst ++ [V.ref t])) N = some (.lst ((fs ++ [(V.ref t, m)]).map Prod.fst)) := by rw [upd_same, List.map_append]; rfl
          have eW6 : L2.upd H5 N (HO.lst (fs.map Prod.fst ++ [V.ref t])) L = some (.lst (ps.map Prod.fst)) := (upd_ne hWN).trans eW5
          generalize L2.upd H5 N (HO.lst (fs.map Prod.fst ++ [V.ref t])) = H6 at s6 hP6 hF6 et6 eu6 eN6 eW6 ⊢
          obtain ⟨j, pj, hj, hjm, hjn⟩ := first_idx (List.mem_map.mpr ⟨_, hpm, rfl⟩ : m ∈ ps.map Prod.snd)
          repeat walk_at "rd"
          refine ⟨.inl ⟨rfl, _, SqL.of eW6⟩, ?_⟩
          repeat walk_at "rd"
          refine ⟨L, ps, .ref t, keyD m, j, pj, rfl, rfl, eW6, hP6.hp eW6, KIs.dp ⟨t, u, rfl, et6, eu6⟩, keyD_lay m, by omega, hj, by rw [eqv_keyD, hjm]; exact decide_eq_true rfl, fun i q hi hq => by rw [eqv_keyD]; exact decide_eq_false (hjn i q hi hq), ?_⟩
          have hjl := (List.getElem?_eq_some_iff.mp hj).1
          have hel : (ps.eraseIdx j).length + 1 = ps.length := by rw [List.length_eraseIdx, if_pos hjl]; omega
          have hep : (m :: (ps.eraseIdx j).map Prod.snd).Perm (ps.map Prod.snd) := by
            have h2 := (erase_perm hj).map Prod.snd
            rw [List.map_cons, hjm] at h2
            exact h2
          have hep2 : ((ps.eraseIdx j).map Prod.snd).Perm (rest.map Prod.snd) := List.Perm.cons_inv (a := m) (hep.trans (hPm.trans hkp.symm))
          have hPe : KRefs H6 (ps.eraseIdx j) := hP6.perm fun q hq => List.mem_of_mem_eraseIdx hq
          generalize ps.eraseIdx j = es at hel hep hep2 hPe ⊢
          have s7 := s6.over (o := HO.lst (es.map Prod.fst)) nWH eW6
          have hP7 := hPe.upd (o := HO.lst (es.map Prod.fst)) eW6
          have hF7 := hF6.upd (o := HO.lst (es.map Prod.fst)) eW6
          have et7 : L2.upd H6 L (HO.lst (es.map Prod.fst)) t = some (.tup [.int m.1, .int m.2.1, .ref u]) := (upd_ne (fun z => by rw [z, eW6] at et6; cases et6)).trans et6
          have eu7 : L2.upd H6 L (HO.lst (es.map Prod.fst)) u = some (.tup (m.2.2.map V.int)) := (upd_ne (fun z => by rw [z, eW6] at eu6; cases eu6)).trans eu6
          have eN7 : L2.upd H6 L (HO.lst (es.map Prod.fst)) N = some (.lst ((fs ++ [(V.ref t, m)]).map Prod.fst)) := (upd_ne hWN.symm).trans eN6
          have eW7 : L2.upd H6 L (HO.lst (es.map Prod.fst)) L = some (.lst (es.map Prod.fst)) := upd_same
          generalize L2.upd H6 L (HO.lst (es.map Prod.fst)) = H7 at s7 hP7 hF7 et7 eu7 eN7 eW7 ⊢
          clear hP6 hPe hF6 eN6 eW6 s6 hP5 hF5 eN5 eW5 s5 et6 eu6
          have hlf : (fs ++ [((.ref t : V), m)]).length = i + 1 := by rw [List.length_append, hfl]; rfl
          have fin : ∀ H' (p2 : List (V × Key3)), Same H H' → H' L = some (.lst (p2.map Prod.fst)) → KRefs H' p2 → (p2.map Prod.snd).Perm (kidsK D G Tn m ++ rest.map Prod.snd) → H' N = some (.lst ((fs ++ [(V.ref t, m)]).map Prod.fst)) → KRefs H' (fs ++ [(V.ref t, m)]) → 
              ∃ (v8' v9' v10' v11' v12' v13' : Option V) (ws : List Key3) (ps fs : List (V × Key3)), [some (.int D), some (.int G), some (tv Tn), some (.ref r), some (.int n), some (.int e), some (.ref L), some (.ref N), some (.int (0 + (i : Int))), some (.ref t), some (.int m.1), some (.int m.2.1), some (.ref u), v13] = [some (.int D), some (.int G), some (tv Tn), some (.ref r), some (.int n), some (.int e), some (.ref L), some (.ref N), v8', v9', v10', v11', v12', v13'] ∧ Same H H' ∧ FirstR D G e Tn (rootsK rs) ws (fs.map Prod.snd) ∧ fs.length ≤ i + 1 ∧ (fs.length = i + 1 ∨ ∀ x, x ∈ ws → e < x.1) ∧
                H' L = some (.lst (ps.map Prod.fst)) ∧ KRefs H' ps ∧ (ps.map Prod.snd).Perm ws ∧ H' N = some (.lst (fs.map Prod.fst)) ∧ KRefs H' fs := fun H' p2 a1 a2 a3 a4 a5 a6 =>
              ⟨_, _, _, _, _, _, _, p2, _, rfl, a1, by rw [List.map_append]; exact hR2, by omega, .inl hlf, a2, a3, a4, a5, a6⟩
          repeat walk_at "rd"
          refine ⟨.inl ⟨rfl, _, SqL.of eW7⟩, ?_⟩
          repeat walk_at "rd"
          refine new_at (Nat.le_of_ble_eq_true rfl) (fun z1 H8 n8 s8 e8 => ?_)
          repeat walk_at "rd"
          refine r_catN (s8 _ _ eu7) e8 (fun z => hnn (List.map_eq_nil_iff.mp z)) (by simp) (by rw [List.length_map, List.length_singleton]; omega) (fun u1 H9 n9' s9 e9' => ?_)
          repeat walk_at "rd"
          refine new_at (Nat.le_of_ble_eq_true rfl) (fun t1 H10 n10 s10 e10 => ?_)
          have s710 := (s8.trans s9).trans s10
          have e9' : H10 u1 = some (.tup ((m.2.2 ++ [0]).map V.int)) := by rw [List.map_append]; exact s10 _ _ e9'
          have hP10 := (hP7.keep s710).snoc (v := .ref t1) (k := (m.1 + D, m.2.1 + 1, m.2.2 ++ [0])) ⟨t1, u1, rfl, e10, e9'⟩
          have hF10 := hF7.keep s710
          have eu10 := s710 _ _ eu7
          have eN10 := s710 _ _ eN7
          have eW10 := s710 _ _ eW7
          have s10 := s7.trans s710
          clear s710 e8 n8 n9' n10 s8 s9 et7 eu7 hP7 hF7 eN7 eW7 s7
          repeat walk_at "rd"
          refine r_app eW10 (small1000 (by rw [List.length_map]; omega)) ?_
          have s11 := s10.over (o := HO.lst (es.map Prod.fst ++ [V.ref t1])) nWH eW10
          have hP11 := hP10.upd (o := HO.lst (es.map Prod.fst ++ [V.ref t1])) eW10
          have hF11 := hF10.upd (o := HO.lst (es.map Prod.fst ++ [V.ref t1])) eW10
          have eu11 : L2.upd H10 L (HO.lst (es.map Prod.fst ++ [V.ref t1])) u = some (.tup (m.2.2.map V.int)) := (upd_ne (fun z => by rw [z, eW10] at eu10; cases eu10)).trans eu10
          have eN11 : L2.upd H10 L (HO.lst (es.map Prod.fst ++ [V.ref t1])) N = some (.lst ((fs ++ [(V.ref t, m)]).map Prod.fst)) := (upd_ne hWN.symm).trans eN10
          have eW11 : L2.upd H10 L (HO.lst (es.map Prod.fst ++ [V.ref t1])) L = some (.lst ((es ++ [(V.ref t1, (m.1 + D, m.2.1 + 1, m.2.2 ++ [0]))]).map Prod.fst)) := by rw [upd_same, List.map_append]; rfl
          generalize L2.upd H10 L (HO.lst (es.map Prod.fst ++ [V.ref t1])) = H11 at s11 hP11 hF11 eu11 eN11 eW11 ⊢
          clear hP10 hF10 eu10 eN10 eW10 s10 e9' e10
          have eu12 := eu11
          rw [hsp, List.map_append] at eu12
          have eu12 : H11 u = some (.tup (m.2.2.dropLast.map V.int ++ [V.int (m.2.2.getLastD 0)])) := eu12
          have one : kidsK D G Tn m = [(m.1 + D, m.2.1 + 1, m.2.2 ++ [0])] → ((es ++ [((.ref t1 : V), ((m.1 + D, m.2.1 + 1, m.2.2 ++ [0]) : Key3))]).map Prod.snd).Perm (kidsK D G Tn m ++ rest.map Prod.snd) := fun h => by
            rw [h, List.map_append]
            exact List.perm_append_comm.trans (List.Perm.append_left _ hep2)
          repeat walk_at "rd"
          refine ite_d (fun hc3 => ?_) (fun hc3 => ?_)
          · have two : moreT Tn (m.2.2.getLastD 0) = true → kidsK D G Tn m = [(m.1 + D, m.2.1 + 1, m.2.2 ++ [0]), (m.1 + G, m.2.1, m.2.2.dropLast ++ [m.2.2.getLastD 0 + 1])] := fun h => by
              unfold kidsK
              rw [h, if_pos (by rw [Bool.and_true]; exact decide_eq_true (by omega))]
            have hone : moreT Tn (m.2.2.getLastD 0) = false → kidsK D G Tn m = [(m.1 + D, m.2.1 + 1, m.2.2 ++ [0])] := fun h => by
              unfold kidsK
              rw [h, Bool.and_false]
              rfl
            refine of_test (t := tOr _ _) (moreT Tn (m.2.2.getLastD 0)) (fun Q2 q2 => ?_) ?_
            · cases Tn with
              | none =>
                repeat walk_at "rd"
                exact q2
              | some d =>
                repeat walk_at "rd"
                refine r_ixT eu12 (v := .int (m.2.2.getLastD 0)) (atI_last' _ _) ?_
                repeat first | exact q2 | walk_at "rd"
            · cases hmo : moreT Tn (m.2.2.getLastD 0) with
              | true =>
                repeat walk_at "rd"
                refine ⟨.inl ⟨rfl, _, SqL.of eW11⟩, ?_⟩
                repeat walk_at "rd"
                refine r_slT (SqT.of eu12) (not_whole2' _ _) (fun u2 H12 n12 s12 e12 => ?_)
                rw [cut_init'] at e12
                repeat walk_at "rd"
                refine r_ixT (s12 _ _ eu12) (v := .int (m.2.2.getLastD 0)) (atI_last' _ _) ?_
                repeat walk_at "rd"
                refine new_at (Nat.le_of_ble_eq_true rfl) (fun z2 H13 n13 s13 e13 => ?_)
                repeat walk_at "rd"
                have hdl : m.2.2.dropLast ≠ [] := fun z => by
                  have := congrArg List.length hsp
                  rw [z, m2] at this
                  simp at this
                  omega
                refine r_catN (s13 _ _ e12) e13 (fun z => hdl (List.map_eq_nil_iff.mp z)) (by simp) (by rw [List.length_map, List.length_singleton, List.length_dropLast]; omega) (fun u3 H14 n14 s14 e14 => ?_)
                repeat walk_at "rd"
                refine new_at (Nat.le_of_ble_eq_true rfl) (fun t2 H15 n15 s15 e15 => ?_)
                have s1215 := ((s12.trans s13).trans s14).trans s15
                have e14 : H15 u3 = some (.tup ((m.2.2.dropLast ++ [m.2.2.getLastD 0 + 1]).map V.int)) := by rw [List.map_append]; exact s15 _ _ e14
                have hP15 := (hP11.keep s1215).snoc (v := .ref t2) (k := (m.1 + G, m.2.1, m.2.2.dropLast ++ [m.2.2.getLastD 0 + 1])) ⟨t2, u3, rfl, e15, e14⟩
                have hF15 := hF11.keep s1215
                have eN15 := s1215 _ _ eN11
                have eW15 := s1215 _ _ eW11
                have s15 := s11.trans s1215
                clear s1215 e12 e13 n12 n13 n14 n15 s12 s13 s14 hP11 hF11 eN11 eW11 s11
                repeat walk_at "rd"
                refine r_app eW15 (small1000 (by rw [List.length_map, List.length_append, List.length_singleton]; omega)) ?_
                refine fin _ ((es ++ [(V.ref t1, (m.1 + D, m.2.1 + 1, m.2.2 ++ [0]))]) ++ [(V.ref t2, (m.1 + G, m.2.1, m.2.2.dropLast ++ [m.2.2.getLastD 0 + 1]))]) (s15.over nWH eW15) (by rw [upd_same]; simp only [List.map_append, List.map_cons, List.map_nil]) (hP15.upd eW15) ?_ ((upd_ne hWN.symm).trans eN15) (hF15.upd eW15)
                rw [two hmo, List.append_assoc, List.map_append]
                exact List.perm_append_comm.trans (List.Perm.append_left _ hep2)
              | false =>
                repeat walk_at "rd"
                exact fin _ _ s11 eW11 hP11 (one (hone hmo)) eN11 hF11
          · have hkk : kidsK D G Tn m = [(m.1 + D, m.2.1 + 1, m.2.2 ++ [0])] := by
              unfold kidsK
              rw [decide_eq_false (by omega), Bool.false_and]
              rfl
            repeat walk_at "rd"
            exact fin _ _ s11 eW11 hP11 (one hkk) eN11 hF11
        · repeat walk_at "rd"
          refine ⟨_, _, _, _, _, _, ws, ps, fs, rfl, s5, hR, by omega, .inr fun x hx => ?_, eW5, hP5, hPm, eN5, hF5⟩
          rcases List.mem_cons.mp (hkp.mem_iff.mpr hx) with rfl | hx
          · omega
          · obtain ⟨q, hq, rfl⟩ := List.mem_map.mp hx
            have := ltK_time (hmin q hq)
            omega
      · rintro σ H4 ⟨v8, v9, v10, v11, v12, v13, ws, ps, fs, rfl, s4, hR, hfi, hor, eW, hP, hPm, eN, hF⟩
        repeat walk_at "rd"
        refine k N fs _ ⟨ws, hR, by rw [List.length_map]; exact hfi, hor.imp (fun h => by rw [List.length_map]; exact h) id⟩ s4 nNH eN hF
end

/-! ### told until a time -/
theorem r_listG {tg : TGen} {σ : St} {H : Hp} {Q : VK} (h : tg σ H fun out H2 => ∀ p, H2 p = none → Q (.ref p) (L2.upd H2 p (.lst out))) : tListG tg σ H Q := h
theorem r_callGN {n m : Nat} {sp : SpG} {gV : List V → List V → List V} {E : XK} {t tk : TA} {σ : St} {H : Hp} {cont : List V → Hp → Prop} (h : t σ H fun vs H1 => tk σ H1 fun zs H2 => vs.length = n ∧ zs.length = m ∧ sp (gV vs zs) H2 cont E) : tCallGN n m sp gV E t tk σ H cont := h
local macro_rules | `(tactic| walk_at "rd") => `(tactic| with_reducible first | refine r_listG ?_ | refine r_callGN ?_)
def spToldU (K : PySem.W.Frag) (M : Addr) : Sp := fun vs H Q _ => ∃ (m r : Addr) (t : Int) (o l g : Int) (T : Turns) (rs : List Int), vs = [.ref m, .int t, tv T, .ref r] ∧ MachAt M H m o l g ∧ (0 ≤ o ∧ o ≤ 1000000000) ∧ (0 ≤ l ∧ l ≤ 1000000000) ∧ (1 ≤ g ∧ g ≤ 1000000000) ∧ 0 < 2 * o + l ∧
  TurnsIn T ∧ SqR K H r rs ∧ RootsOk rs ∧ (0 ≤ t ∧ t ≤ depths T * (2 * o + l)) ∧
  (∀ (p L : Addr) (xs : List V) (ks : List Key3) H', EndF (2 * o + l) (gapOf o g) t T (rootsK rs) 201 ks → ks.length ≤ 200 → Same H H' → H' p = some (.tup [.str "told", .ref L]) → H' L = some (.lst xs) → NmL H' xs (ks.map fun k => k.2.2) → Q (.ref p) H') ∧
  ∀ (p : Addr) (ks : List Key3) H', EndF (2 * o + l) (gapOf o g) t T (rootsK rs) 201 ks → 200 < ks.length → Same H H' → H' p = some (.tup [.str "refused", .str "names"]) → Q (.ref p) H'
section
variable {P : Program} {w : World} {K : PySem.W.Frag} {mg : Str → Option Value} {base : Heap} {a : Adr}
theorem ok__law_told (T : Txt K mg a) : FnOk P w K mg base CX0 10 a.a__law_told a.d__law_told ["_law_machine", "_law_t", "_law_turns", "_law_roots"] (spToldU K a.c_Machine) := by
  refine T.F__law_told.ok sc__law_told (fun vs H Q E h => ?_) (fun cdv A outer s H vs Q E hr h => ?_)
  · obtain ⟨m, r, t, o, l, g, Tn, rs, rfl, _⟩ := h
    rfl
  · obtain ⟨m, r, t, o, l, g, Tn, rs, rfl, hm, ho, hl, hg, hp, hT, hR, hRo, ht, k1, k2⟩ := h
    refine ⟨_, (pss_cons (ps_try_as (i := 5) rfl rfl sc__law_told.nd rfl rfl ⟨rfl, by decide, Or.inl T.g_LimitExceeded⟩ takes0 (fun W pn xe tk _ => (pss_one (ps_set (i := 4) sc__law_told.nd rfl (Or.inl rfl) (pe_listG (pgen_callN (ok_names_until T) (hr.mono (by decide)) (by rfl) T.g_names_until T.F_names_until.kp (kb_names_until_turns_roots T).choose_spec (pa_cons (pv 0) (pa_cons (pv 1) pa_nil)) (pk_cons (pv 2) (pk_cons (pv 3) pk_nil))) (passesTC (C := a.c_LimitExceeded) tk) (nostopC T.ns_LimitExceeded) (hr.mono (by decide)) (by rfl) T.n_list rfl)))) (fun a0 oe cls d pn hz hf => (pss_one (ps_ret (pe_tup (pa_cons pe_str (pa_cons (pe_xf T.x_LimitExceeded.xc.xf T.x_LimitExceeded.xc.noN hz hf (pv 5)) pa_nil)))))))
 (pss_one (ps_ret (pe_tup (pa_cons pe_str (pa_cons (pv 4) pa_nil)))))), ?_⟩
    repeat walk_at "rd"
    refine ⟨rfl, rfl, m, r, t, o, l, g, Tn, rs, rfl, hm, ho, hl, hg, hp, hT, hR, hRo, ht, fun xs ks H1 hE hkn s1 hA => ?_, fun ks hE hkn d H1 s1 e1 => ⟨rfl, fun σ hσ => ?_⟩⟩
    · refine fun L nL => ?_
      have s2 : Same H1 (L2.upd H1 L (.lst xs)) := Same.new nL
      have eL : L2.upd H1 L (.lst xs) L = some (.lst xs) := upd_same
      generalize L2.upd H1 L (.lst xs) = H2 at s2 eL ⊢
      have hA := hA.keep s2
      repeat walk_at "rd"
      exact new_at (Nat.le_of_ble_eq_true rfl) (fun p H3 n3 s3 e3 => k1 p L xs ks H3 hE hkn ((s1.trans s2).trans s3) e3 (s3 _ _ eL) (hA.keep s3))
    · refine ⟨true, T.m_LimitExceeded, fun _ a0 _ => ?_, fun z => Bool.noConfusion z⟩
      repeat walk_at "rd"
      refine r_xf (by rw [List.getElem?_set_self (by rw [hσ]; decide)]) rfl e1 rfl ?_
      repeat walk_at "rd"
      exact new_at (Nat.le_of_ble_eq_true rfl) (fun p H2 n2 s2 e2 => k2 p ks H2 hE hkn (s1.trans s2) e2)
end
/-! ### the names until an earlier time -/
theorem FirstR.upto {D G e t : Int} {T : Turns} {w0 w ks : List Key3} (D0 : 0 ≤ D) (G0 : 0 ≤ G) (h : FirstR D G e T w0 w ks) : ∃ w', FirstR D G t T w0 w' (ks.filter fun k => decide (k.1 ≤ t)) ∧ (((∀ x, x ∈ ks → x.1 ≤ t) ∧ w' = w) ∨ ((∀ x, x ∈ w' → t < x.1) ∧ ∀ x, x ∈ w → t < x.1)) := by
  induction h with
  | zero => exact ⟨w0, .zero, .inl ⟨fun x hx => (nomatch hx), rfl⟩⟩
  | @step w ks rest m h hp hm he ih =>
    obtain ⟨w', f, c⟩ := ih
    have mw : ∀ x, x ∈ w → m.1 ≤ x.1 := fun x hx => by
      rcases List.mem_cons.mp (hp.mem_iff.mp hx) with rfl | hx
      · exact Int.le_refl _
      · exact ltK_time (hm x hx)
    have later : t < m.1 → ∀ x, x ∈ kidsK D G T m ++ rest → t < x.1 := fun q x hx => by
      rcases List.mem_append.mp hx with hx | hx
      · unfold kidsK at hx
        rcases List.mem_cons.mp hx with rfl | hx
        · dsimp only; omega
        · split at hx
          · rw [List.mem_singleton] at hx; subst hx; dsimp only; omega
          · cases hx
      · have := ltK_time (hm x hx); omega
    rw [List.filter_append]
    by_cases q : m.1 ≤ t
    · have e1 : [m].filter (fun k : Key3 => decide (k.1 ≤ t)) = [m] := by rw [List.filter_cons, if_pos (decide_eq_true q)]; rfl
      rw [e1]
      rcases c with ⟨ca, rfl⟩ | ⟨_, cb⟩
      · exact ⟨_, f.step hp hm q, .inl ⟨fun x hx => by
          rcases List.mem_append.mp hx with hx | hx
          · exact ca x hx
          · rw [List.mem_singleton] at hx; subst hx; exact q, rfl⟩⟩
      · have := cb m (hp.mem_iff.mpr (List.mem_cons_self ..)); omega
    · have e1 : [m].filter (fun k : Key3 => decide (k.1 ≤ t)) = [] := by rw [List.filter_cons, if_neg (by rw [decide_eq_false q]; exact Bool.false_ne_true)]; rfl
      rw [e1, List.append_nil]
      refine ⟨w', f, .inr ⟨?_, later (by omega)⟩⟩
      rcases c with ⟨_, rfl⟩ | ⟨ca, _⟩
      · exact fun x hx => by have := mw x hx; omega
      · exact ca
theorem EndF.upto {D G e t : Int} {T : Turns} {w0 ks : List Key3} {n : Nat} (D0 : 0 ≤ D) (G0 : 0 ≤ G) (ht : t ≤ e) (h : EndF D G e T w0 n ks) : EndF D G t T w0 n (ks.filter fun k => decide (k.1 ≤ t)) := by
  obtain ⟨w, f, l, s⟩ := h
  obtain ⟨w', f', c⟩ := f.upto (t := t) D0 G0
  refine ⟨w', f', Nat.le_trans (List.length_filter_le _ _) l, ?_⟩
  rcases c with ⟨ca, rfl⟩ | ⟨ca, _⟩
  · rcases s with s | s
    · left
      rw [List.filter_eq_self.mpr fun x hx => decide_eq_true (ca x hx)]
      exact s
    · exact .inr fun x hx => by have := s x hx; omega
  · exact .inr ca
theorem EndF.some {D G e r : Int} {T : Turns} {rs : List Int} {n : Nat} {ks : List Key3} (h : EndF D G e T (rootsK (r :: rs)) n ks) (hn : 1 ≤ n) (hr : r ≤ e) : 1 ≤ ks.length := by
  obtain ⟨w, f, l, s⟩ := h
  cases f with
  | zero =>
    rcases s with s | s
    · rw [List.length_nil] at s; omega
    · have hm : (r, (0 : Int), [(0 : Int)]) ∈ rootsK (r :: rs) := List.mem_iff_getElem?.mpr ⟨0, by rw [rootsK_at]; rfl⟩
      have := s _ hm
      exact absurd this (by show ¬ e < r; omega)
  | step => rw [List.length_append, List.length_singleton]; omega

local macro_rules | `(tactic| walk_at "rd") => `(tactic| with_reducible first | refine r_eqSt (by decide +kernel) ?_ | refine r_eqSf (by decide +kernel) ?_ | refine r_neSt (by decide +kernel) ?_ | refine r_neSf (by decide +kernel) ?_)

/-! ### the law of k15 -/
def spLaw (K : PySem.W.Frag) : Sp := fun vs H Q _ => ∃ (b : Addr) (ns : List Int), vs = [.ref b] ∧ SqL K H b (ns.map V.int) ∧ ns.length ≤ 63 ∧ ∀ H', Q (.bl true) H'
theorem RootsFrom.add : ∀ {rs : List Int} {b x : Int}, RootsFrom b rs → b ≤ x → (∀ r, r ∈ rs → r ≤ x) → x ≤ 1000000000000 → RootsFrom b (rs ++ [x])
  | [], b, x, _, h1, _, h2 => ⟨h1, h2, trivial⟩
  | r :: rs, b, x, h, h1, h3, h2 => ⟨h.1, h.2.1, RootsFrom.add h.2.2 (h3 r (List.mem_cons_self ..)) (fun y hy => h3 y (List.mem_cons_of_mem _ hy)) h2⟩
theorem turns_of5 {x d : Int} (h0 : 0 ≤ x) (h1 : x < 30) (d0 : 0 ≤ d) (d1 : d < 5) : ∃ T : Turns, atI [V.non, .non, .int 1, .int 2, .int (1 + x)] d = some (tv T) ∧ TurnsIn T := by
  have hk : d = 0 ∨ d = 1 ∨ d = 2 ∨ d = 3 ∨ d = 4 := by omega
  rcases hk with rfl | rfl | rfl | rfl | rfl
  · exact ⟨none, rfl, trivial⟩
  · exact ⟨none, rfl, trivial⟩
  · exact ⟨some 1, rfl, by decide, by decide⟩
  · exact ⟨some 2, rfl, by decide, by decide⟩
  · refine ⟨some (1 + x).toNat, ?_, by omega, by omega⟩
    rw [show tv (some (1 + x).toNat) = V.int (1 + x) by show V.int (((1 + x).toNat : Nat) : Int) = _; rw [Int.toNat_of_nonneg (by omega)]]
    rfl
theorem four_of {d : Int} (d0 : 0 ≤ d) (d1 : d < 4) : ∃ z : Int, atI [V.int 0, .int 1, .int 2, .int 5] d = some (.int z) ∧ 0 ≤ z ∧ z ≤ 5 := by
  have hk : d = 0 ∨ d = 1 ∨ d = 2 ∨ d = 3 := by omega
  rcases hk with rfl | rfl | rfl | rfl <;> exact ⟨_, rfl, by decide, by decide⟩
theorem three_of {d : Int} (d0 : 0 ≤ d) (d1 : d < 3) : ∃ z : Int, atI [V.int 4, .int 12, .int 60] d = some (.int z) ∧ 0 < z ∧ z ≤ 60 := by
  have hk : d = 0 ∨ d = 1 ∨ d = 2 := by omega
  rcases hk with rfl | rfl | rfl <;> exact ⟨_, rfl, by decide, by decide⟩
theorem five_of {D G y d : Int} (hD : 0 < D ∧ D ≤ 3000000000) (hG : 0 < G ∧ G ≤ 1000000000) (hy : 0 ≤ y ∧ y ≤ 90000000000) (d0 : 0 ≤ d) (d1 : d < 5) : ∃ z : Int, atI [V.int 0, .int 1, .int D, .int G, .int y] d = some (.int z) ∧ 0 ≤ z ∧ z ≤ 90000000000 := by
  have hk : d = 0 ∨ d = 1 ∨ d = 2 ∨ d = 3 ∨ d = 4 := by omega
  rcases hk with rfl | rfl | rfl | rfl | rfl
  · exact ⟨_, rfl, by decide, by decide⟩
  · exact ⟨_, rfl, by decide, by decide⟩
  · exact ⟨_, rfl, by omega, by omega⟩
  · exact ⟨_, rfl, by omega, by omega⟩
  · exact ⟨_, rfl, hy.1, hy.2⟩
theorem r_bm0 {K : PySem.W.Frag} {T : String} {r : V → List V → Hp → VK → Prop} {ta : TE} {σ : St} {H : Hp} {Q : VK} (h : ta σ H fun x H1 => tyV K T x H1 ∧ r x [] H1 Q) : tBM0 K T r ta σ H Q := h
theorem small_mul {d y b : Int} (d0 : 0 ≤ d) (d1 : d < 2) (y0 : 0 ≤ y) (y1 : y < b) : 0 ≤ d * y ∧ d * y ≤ b := ⟨Int.mul_nonneg d0 y0, by
  have h1 : d * y ≤ 1 * y := Int.mul_le_mul_of_nonneg_right (by omega) y0
  omega⟩
theorem tup_but16 {H H' : Hp} {p q f : Addr} {xs : List V} (e : H f = some (.tup xs)) (hs : SrcAt H p q) (b : But p H H') : H' f = some (.tup xs) := b _ _ e (fun z => by
  obtain ⟨cs, i, big, cnt, st, h1, _⟩ := hs
  rw [z, h1] at e; cases e)
theorem KRefs.but {H H' : Hp} {ps : List (V × Key3)} {p q : Addr} (h : KRefs H ps) (hs : SrcAt H p q) (b : But p H H') : KRefs H' ps := fun x hx => let ⟨t, u, e, a1, a2⟩ := h x hx; ⟨t, u, e, tup_but16 a1 hs b, tup_but16 a2 hs b⟩
theorem three16 {d : Int} (d0 : 0 ≤ d) (d1 : d < 3) : ∃ z : Int, atI [V.int 3, .int 9, .int 120] d = some (.int z) ∧ 0 < z ∧ z ≤ 120 := by
  have hk : d = 0 ∨ d = 1 ∨ d = 2 := by omega
  rcases hk with rfl | rfl | rfl <;> exact ⟨_, rfl, by decide, by decide⟩
theorem MachAt.updL16 {C m R : Addr} {H : Hp} {o l g : Int} {xs : List V} {u : HO} (h : MachAt C H m o l g) (e : H R = some (.lst xs)) : MachAt C (L2.upd H R u) m o l g := by
  obtain ⟨dx, e1⟩ := h
  exact ⟨dx, (upd_ne (fun z => by rw [z, e] at e1; cases e1)).trans e1⟩
theorem r_neNames {K : PySem.W.Frag} {H : Hp} {Q : VK} {p q : Addr} (h1 : H p = some (.tup [.str "refused", .str "names"])) (h2 : H q = some (.tup [.str "refused", .str "names"])) (k : Q (.bl false) H) : rNeD K (.ref p) (.ref q) H Q := by
  have sh : SeqAt.shaped (.tuple [.str "refused", .str "names"]) = true := by decide +kernel
  refine ⟨.tuple [.str "refused", .str "names"], .tuple [.str "refused", .str "names"], .tup (SqT.of h1) (.cons (.str _) (.cons (.str _) .nil)), .tup (SqT.of h2) (.cons (.str _) (.cons (.str _) .nil)), sh, sh, ?_⟩
  rw [show PyData.eqv (.tuple [.str "refused", .str "names"]) (.tuple [.str "refused", .str "names"]) = true by simp [PyData.eqv, PyData.eqvAll]]
  exact k
section
variable {P : Program} {w : World} {K : PySem.W.Frag} {mg : Str → Option Value} {base : Heap} {a : Adr}
set_option maxHeartbeats 0 in
theorem ok_law (T : Txt K mg a) : FnOk P w K mg base CX0 13 a.a_law a.d_law ["_law_script"] (spLaw K) := by
  refine T.F_law.ok sc_law (fun vs H Q E h => ?_) (fun cdv A outer s H vs Q E hr h => ?_)
  · obtain ⟨b, ns, rfl, _⟩ := h
    rfl
  · obtain ⟨b, ns, rfl, hS, hl, k⟩ := h
    refine ⟨_, (pss_cons (ps_set (i := 1) sc_law.nd rfl (Or.inl rfl) (pe_call (ok__law_source T) (hr.mono (by decide)) (by rfl) T.g__law_source T.F__law_source.kp T.b__law_source .nil pass0 (pa_cons (pv 0) pa_nil)))
 (pss_cons (ps_set (i := 2) sc_law.nd rfl (Or.inl rfl) (pe_call (ok__law_numbers T) (hr.mono (by decide)) (by rfl) T.g__law_numbers T.F__law_numbers.kp T.b__law_numbers .nil pass0 (pa_cons (pv 1) pa_nil)))
 (pss_cons (ps_asg (pe_call (ok__law_times T) (hr.mono (by decide)) (by rfl) T.g__law_times T.F__law_times.kp T.b__law_times .nil pass0 (pa_cons (pv 2) pa_nil)) (pg_tup (by rfl) (pgs_cons (pg_name (i := 3) sc_law.nd rfl (Or.inl rfl)) (pgs_cons (pg_name (i := 4) sc_law.nd rfl (Or.inl rfl)) pgs_nil))))
 (pss_cons (ps_set (i := 5) sc_law.nd rfl (Or.inl rfl) (pe_make T.mk_Machine (ok_Machine_init T) (hr.mono (by decide)) (by rfl) T.g_Machine T.b_Machine_init .nil pass0 (pa_cons (pe_ix ix_tup (pv 2) pe_int (fun _ _ => rfl)) (pa_cons (pe_ix ix_tup (pv 2) pe_int (fun _ _ => rfl)) (pa_cons (pe_ix ix_tup (pv 2) pe_int (fun _ _ => rfl)) pa_nil)))))
 (pss_cons (ps_set (i := 6) sc_law.nd rfl (Or.inl rfl) (pe_ix ix_list (pe_lst (pa_cons pe_non (pa_cons pe_non (pa_cons pe_int (pa_cons pe_int (pa_cons (pe_op op_add pe_int (pe_call (ok__law_draw T) (hr.mono (by decide)) (by rfl) T.g__law_draw T.F__law_draw.kp T.b__law_draw .nil pass0 (pa_cons (pv 1) (pa_cons pe_int pa_nil)))) pa_nil)))))) (pe_call (ok__law_draw T) (hr.mono (by decide)) (by rfl) T.g__law_draw T.F__law_draw.kp T.b__law_draw .nil pass0 (pa_cons (pv 1) (pa_cons pe_int pa_nil))) (fun _ _ => rfl)))
 (pss_cons (ps_set (i := 7) sc_law.nd rfl (Or.inl rfl) (pe_lst (pa_cons (pe_op op_mul (pe_call (ok__law_draw T) (hr.mono (by decide)) (by rfl) T.g__law_draw T.F__law_draw.kp T.b__law_draw .nil pass0 (pa_cons (pv 1) (pa_cons pe_int pa_nil))) (pe_call (ok__law_big T) (hr.mono (by decide)) (by rfl) T.g__law_big T.F__law_big.kp T.b__law_big .nil pass0 (pa_cons (pv 1) (pa_cons (pe_op op_mul pe_int (pv 3)) pa_nil)))) pa_nil)))
 (pss_cons (ps_for (by exact PassesOwn.never) rfl (pi_range1 (by rfl) T.n_range (pa_cons (pe_ix ix_list (pe_lst (pa_cons pe_int (pa_cons pe_int (pa_cons pe_int (pa_cons pe_int pa_nil))))) (pe_call (ok__law_draw T) (hr.mono (by decide)) (by rfl) T.g__law_draw T.F__law_draw.kp T.b__law_draw .nil pass0 (pa_cons (pv 1) (pa_cons pe_int pa_nil))) (fun _ _ => rfl)) pa_nil)) (pg_name (i := 8) sc_law.nd rfl (Or.inl rfl))
 (pss_one (ps_expr (pe_bm PySem.F.plainAttrs_list PySem.F.slot_list_append PySem.F.type_list_append mt_append (pv 7) (pa_cons (pe_op op_add (pe_ix ix_list (pv 7) (pe_un un_neg pe_int) (fun _ _ => rfl)) (pe_ix ix_list (pe_lst (pa_cons pe_int (pa_cons pe_int (pa_cons (pv 3) (pa_cons (pv 4) (pa_cons (pe_call (ok__law_big T) (hr.mono (by decide)) (by rfl) T.g__law_big T.F__law_big.kp T.b__law_big .nil pass0 (pa_cons (pv 1) (pa_cons (pe_op op_mul pe_int (pv 3)) pa_nil))) pa_nil)))))) (pe_call (ok__law_draw T) (hr.mono (by decide)) (by rfl) T.g__law_draw T.F__law_draw.kp T.b__law_draw .nil pass0 (pa_cons (pv 1) (pa_cons pe_int pa_nil))) (fun _ _ => rfl))) pa_nil)))))
 (pss_cons (ps_set (i := 9) sc_law.nd rfl (Or.inl rfl) (pe_op op_mul pe_int (pv 3)))
 (pss_cons (ps_if (pt_cmpR op_notNo (pv 6) pe_non (nomark _)) (pss_one (ps_set (i := 9) sc_law.nd rfl (Or.inl rfl) (pe_op op_mul pe_int (pv 3))))
 pss_nil)
 (pss_cons (ps_set (i := 10) sc_law.nd rfl (Or.inl rfl) (pe_call (ok__law_first T) (hr.mono (by decide)) (by rfl) T.g__law_first T.F__law_first.kp T.b__law_first .nil pass0 (pa_cons (pv 3) (pa_cons (pv 4) (pa_cons (pv 6) (pa_cons (pv 7) (pa_cons pe_int (pa_cons (pv 9) pa_nil))))))))
 (pss_cons (ps_set (i := 11) sc_law.nd rfl (Or.inl rfl) (pe_lst (pa_cons (pe_call (ok__law_big T) (hr.mono (by decide)) (by rfl) T.g__law_big T.F__law_big.kp T.b__law_big .nil pass0 (pa_cons (pv 1) (pa_cons (pe_op op_add (pe_op op_mul (pe_ix ix_list (pe_lst (pa_cons pe_int (pa_cons pe_int (pa_cons pe_int pa_nil)))) (pe_call (ok__law_draw T) (hr.mono (by decide)) (by rfl) T.g__law_draw T.F__law_draw.kp T.b__law_draw .nil pass0 (pa_cons (pv 1) (pa_cons pe_int pa_nil))) (fun _ _ => rfl)) (pv 3)) pe_int) pa_nil))) pa_nil)))
 (pss_cons (ps_expr (pe_bm PySem.F.plainAttrs_list PySem.F.slot_list_append PySem.F.type_list_append mt_append (pv 11) (pa_cons (pe_ix ix_tup (pe_ix ix_list (pv 10) (pe_call (ok__law_draw T) (hr.mono (by decide)) (by rfl) T.g__law_draw T.F__law_draw.kp T.b__law_draw .nil pass0 (pa_cons (pv 1) (pa_cons (pe_callB call_len_seq (by rfl) T.n_len (by decide +kernel) (pa_cons (pv 10) pa_nil)) pa_nil))) (fun _ _ => rfl)) pe_int (fun _ _ => rfl)) pa_nil)))
 (pss_cons (ps_if (pt_cmpR op_eq (pe_callB call_len_seq (by rfl) T.n_len (by decide +kernel) (pa_cons (pv 10) pa_nil)) pe_int (nomark _)) (pss_one (ps_expr (pe_bm PySem.F.plainAttrs_list PySem.F.slot_list_append PySem.F.type_list_append mt_append (pv 11) (pa_cons (pe_op op_sub (pe_ix ix_tup (pe_ix ix_list (pv 10) pe_int (fun _ _ => rfl)) pe_int (fun _ _ => rfl)) (pe_call (ok__law_draw T) (hr.mono (by decide)) (by rfl) T.g__law_draw T.F__law_draw.kp T.b__law_draw .nil pass0 (pa_cons (pv 1) (pa_cons pe_int pa_nil)))) pa_nil))))
 pss_nil)
 (pss_cons (ps_for (by exact PassesOwn.never) rfl (pi_list (pv 11)) (pg_name (i := 12) sc_law.nd rfl (Or.inr rfl))
 (pss_cons (ps_set (i := 12) sc_law.nd rfl (Or.inr rfl) (pe_callB (call_max2 rfl) (by rfl) T.n_max (by decide +kernel) (pa_cons pe_int (pa_cons (pe_callB (call_min2 rfl) (by rfl) T.n_min (by decide +kernel) (pa_cons (pv 12) (pa_cons (pv 9) pa_nil))) pa_nil))))
 (pss_cons (ps_setLc (i := 13) (own := [("_law_row", 15)]) (g := gName 15) rfl sc_law.nd rfl rfl (sw_true rfl rfl rfl (by decide +kernel)) (pi_list (pv 10)) (blkOk_by (own := [("_law_row", 15)]) (N := ["_law_script", "_law_source_here", "_law_numbers_here", "_law_letter", "_law_gap", "_law_machine", "_law_turns", "_law_roots", "_law_k", "_law_last", "_law_first_here", "_law_times_here", "_law_t", "_law_due", "_law_told_here", "_law_row"]) (sc := defScope s_law) (by decide +kernel)) (fun _ _ _ _ _ => (pg_name (i := 15) sc_law.nd rfl (Or.inl rfl))) (fun _ _ _ _ _ => pts_one (pt_cmpR op_le (pe_ix (ix_tupK (K := K) rfl) (pv 15) pe_int (fun _ _ => rfl)) (pv 12) (nomark _))) (fun _ _ _ _ _ => (pe_ix (ix_tupK (K := K) rfl) (pv 15) pe_int (fun _ _ => rfl))))
 (pss_cons (ps_set (i := 14) sc_law.nd rfl (Or.inl rfl) (pe_call (ok__law_told T) (hr.mono (by decide)) (by rfl) T.g__law_told T.F__law_told.kp T.b__law_told .nil pass0 (pa_cons (pv 5) (pa_cons (pv 12) (pa_cons (pv 6) (pa_cons (pe_callTy cr_list (by rfl) T.n_list (by decide +kernel) (pa_cons (pv 7) pa_nil)) pa_nil))))))
 (pss_one (ps_if (pt_cmpR op_eq (pe_callB call_len_seq (by rfl) T.n_len (by decide +kernel) (pa_cons (pv 13) pa_nil)) pe_int (nomark _)) (pss_one (ps_if (pt_cmpR (op_neD hr.units) (pv 14) (pe_tup (pa_cons pe_str (pa_cons pe_str pa_nil))) (nomark _)) (pss_one (ps_ret pe_bl))
 pss_nil))
 (pss_one (ps_if (PW.pt (pw_or (pt_cmpR op_ne (pe_ix ix_tup (pv 14) pe_int (fun _ _ => rfl)) pe_str (nomark _)) (pw_or1 (pt_not (pt_val (pe_call (ok__law_same_names T) (hr.mono (by decide)) (by rfl) T.g__law_same_names T.F__law_same_names.kp T.b__law_same_names .nil pass0 (pa_cons (pe_ix ix_tup (pv 14) pe_int (fun _ _ => rfl)) (pa_cons (pv 13) pa_nil)))))))) (pss_one (ps_ret pe_bl))
 pss_nil))))))))
 (pss_one (ps_ret pe_bl)))))))))))))))), ?_⟩
    repeat walk_at "rd"
    refine ⟨b, ns, rfl, hS, hl, fun p q H0 hs0 np nq s0 => ?_⟩
    repeat walk_at "rd"
    refine ⟨p, q, rfl, hs0, fun t o l g H1 N1 n1 hs1 b1 => ?_⟩
    have e1 := N1.at_
    repeat walk_at "rd"
    refine ⟨t, o, l, g, rfl, e1, fun u H2 nu s2 e2 => ?_⟩
    have e1 := s2 _ _ e1
    have hs2 := hs1.keep s2
    repeat walk_at "rd"
    refine r_Machine ⟨N1.o0, N1.o9⟩ ⟨N1.l0, N1.l9⟩ ⟨N1.g1, N1.g9⟩ N1.pos (fun m H3 n3 hm s3 => ?_)
    have nmp := hs2.ne n3
    have hs3 := hs2.keep s3
    have ho : 0 ≤ o ∧ o ≤ 1000000000 := ⟨N1.o0, N1.o9⟩
    have hll : 0 ≤ l ∧ l ≤ 1000000000 := ⟨N1.l0, N1.l9⟩
    have hg : 1 ≤ g ∧ g ≤ 1000000000 := ⟨N1.g1, N1.g9⟩
    have hp := N1.pos
    have hG0 : 0 < gapOf o g := by have := gap_pos (o := o) hg.1; omega
    have hG9 := gap_le (o := o) hg.2 ho.2
    have hD9 : 2 * o + l ≤ 3000000000 := by omega
    clear hs0 hs1 hs2 s0 b1 n1 s2 s3 np nq hS N1 e1 e2 nu n3
    repeat walk_at "rd"
    refine ⟨p, q, 30, rfl, hs3, by decide, by decide, fun y H5 y0 y30 hs5 b5 => ?_⟩
    have hm5 := hm.but b5 nmp
    repeat walk_at "rd"
    refine new_at (Nat.le_of_ble_eq_true rfl) (fun L0 H6 n6 s6 e6 => ?_)
    have nL := hs5.ne n6
    repeat walk_at "rd"
    refine ⟨p, q, 5, rfl, hs5.keep s6, by decide, by decide, fun d H7 d0 d6 hs7 b7 => ?_⟩
    obtain ⟨Tn, hat, hT⟩ := turns_of5 y0 y30 d0 d6
    refine r_ixL (b7 _ _ e6 nL) hat ?_
    have hm7 := (hm5.keep s6).but b7 nmp
    clear hs3 hm b5 hm5 hs5 n6 s6 e6 nL b7 hat d0 d6 y0 y30
    repeat walk_at "rd"
    refine ⟨p, q, 2, rfl, hs7, by decide, by decide, fun x1 H8 x10 x11 hs8 b8 => ?_⟩
    have hm := hm7.but b8 nmp
    clear hs7 b8
    repeat walk_at "rd"
    refine ⟨p, q, 3 * (2 * o + l), rfl, hs8, by omega, fun x2 H9 x20 x21 hs9 b9 => ?_⟩
    have hx := small_mul x10 x11 x20 x21
    have hm := hm.but b9 nmp
    clear hs8 b9 hm7
    repeat walk_at "rd"
    refine new_at (Nat.le_of_ble_eq_true rfl) (fun R H10 nR s10 eR => ?_)
    have hm := hm.keep s10
    have hs10 := hs9.keep s10
    have nRp := hs9.ne nR
    have nRq := hs9.neq nR
    have nRm : R ≠ m := by obtain ⟨dx, e⟩ := hm; intro z; rw [z, e] at eR; cases eR
    generalize x1 * x2 = r0 at hx eR ⊢
    clear hs9 s10 nR x10 x11 x20 x21
    repeat walk_at "rd"
    refine new_at (Nat.le_of_ble_eq_true rfl) (fun L1 H11 n11 s11 e11 => ?_)
    have nL := hs10.ne n11
    repeat walk_at "rd"
    refine ⟨p, q, 4, rfl, hs10.keep s11, by decide, by decide, fun d H12 d0 d4 hs12 b12 => ?_⟩
    obtain ⟨kk, hat, kk0, kk5⟩ := four_of d0 d4
    refine r_ixL (b12 _ _ e11 nL) hat ?_
    have hm := (hm.keep s11).but b12 nmp
    have eR := b12 _ _ (s11 _ _ eR) nRp
    clear hs10 n11 s11 e11 nL b12 hat d0 d4
    repeat walk_at "rd"
    refine ⟨by omega, by omega, for_range (lo := 0) (n := kk.toNat) (fun j σ H' => ∃ (ini : List Int) (x : Int) (v8 v9 v10 v11 v12 v13 v14 v15 : Option V), σ = [some (.ref b), some (.ref p), some (.ref t), some (.int (2 * o + l)), some (.int (gapOf o g)), some (.ref m), some (tv Tn), some (.ref R), v8, v9, v10, v11, v12, v13, v14, v15] ∧
        H' R = some (.lst ((ini ++ [x]).map V.int)) ∧ (ini ++ [x]).length = j + 1 ∧ (ini ++ [x])[0]? = some r0 ∧ RootsFrom 0 (ini ++ [x]) ∧ (∀ r, r ∈ ini ++ [x] → r ≤ x) ∧ 0 ≤ x ∧ x ≤ 10000000000 + j * 90000000000 ∧ SrcAt H' p q ∧ MachAt a.c_Machine H' m o l g) ⟨[], r0, _, _, _, _, _, _, _, _, rfl, eR, rfl, rfl, ⟨hx.1, by omega, trivial⟩, fun r hr => by rw [List.nil_append, List.mem_singleton] at hr; omega, hx.1, by omega, hs12, hm⟩ ?_ ?_⟩
    · clear eR hs12 hm
      rintro j σ H13 hj ⟨ini, x, v8, v9, v10, v11, v12, v13, v14, v15, rfl, eR, hlj, hr0, hR, hx2, x0, x1, hs, hm⟩
      repeat walk_at "rd"
      refine ⟨.inl ⟨rfl, _, SqL.of eR⟩, ?_⟩
      repeat walk_at "rd"
      refine r_ixL (v := .int x) eR (by rw [List.map_append]; exact atI_last' _ _) ?_
      repeat walk_at "rd"
      refine ⟨p, q, 30 * (2 * o + l), rfl, hs, by omega, fun y H14 y0 y1 hs14 b14 => ?_⟩
      repeat walk_at "rd"
      refine new_at (Nat.le_of_ble_eq_true rfl) (fun L2_ H15 n15 s15 e15 => ?_)
      have nL := hs14.ne n15
      repeat walk_at "rd"
      refine ⟨p, q, 5, rfl, hs14.keep s15, by decide, by decide, fun d H16 d0 d5 hs16 b16 => ?_⟩
      obtain ⟨z, hat, z0, z1⟩ := five_of (D := 2 * o + l) (G := gapOf o g) ⟨hp, hD9⟩ ⟨hG0, hG9⟩ (y := y) ⟨y0, by omega⟩ d0 d5
      refine r_ixL (b16 _ _ e15 nL) hat ?_
      have hm := ((hm.but b14 nmp).keep s15).but b16 nmp
      have eR := b16 _ _ (s15 _ _ (b14 _ _ eR nRp)) nRp
      repeat walk_at "rd"
      refine r_app eR (small1000 (by rw [List.length_map]; omega)) ?_
      refine ⟨ini ++ [x], x + z, _, _, _, _, _, _, _, _, rfl, by rw [upd_same, List.map_append (l₁ := ini ++ [x])]; rfl, by rw [List.length_append, hlj]; rfl, by rw [List.getElem?_append_left (by omega)]; exact hr0, hR.add (by omega) (fun r hr => by have := hx2 r hr; omega) (by omega), fun r hr => ?_, by omega, by omega, hs16.upd nRp nRq, ?_⟩
      · rcases List.mem_append.mp hr with hr | hr
        · have := hx2 r hr; omega
        · rw [List.mem_singleton] at hr; omega
      · obtain ⟨dx, e⟩ := hm
        exact ⟨dx, (upd_ne nRm.symm).trans e⟩
    · clear eR hs12 hm
      rintro σ H13 ⟨ini, x, v8, v9, v10, v11, v12, v13, v14, v15, rfl, eR, hlj, hr0, hR, hx2, x0, x1, hs, hm⟩
      have hRo : RootsOk (ini ++ [x]) := ⟨by omega, by omega, hR⟩
      generalize ini ++ [x] = rs at eR hRo hr0
      clear hlj hR hx2 x0 x1 kk0 kk5
      have h9 : (depths Tn : Int) * (2 * o + l) ≤ 120 * 3000000000 := Int.mul_le_mul (by have := depths_le Tn; omega) hD9 (by omega) (by decide)
      have h40 : (40 : Int) * (2 * o + l) ≤ depths Tn * (2 * o + l) := Int.mul_le_mul_of_nonneg_right (by cases Tn with | none => decide | some c => exact Int.le_refl _) (by omega)
      have h0 : 0 ≤ (depths Tn : Int) * (2 * o + l) := Int.mul_nonneg (by omega) (by omega)
      repeat walk_at "rd"
      with_reducible refine seq_with (fun σ H' => σ = [some (.ref b), some (.ref p), some (.ref t), some (.int (2 * o + l)), some (.int (gapOf o g)), some (.ref m), some (tv Tn), some (.ref R), v8, some (.int (depths Tn * (2 * o + l))), v10, v11, v12, v13, v14, v15] ∧ H' = H13) ?_ (fun rest => ?_)
      · rintro σ H' ⟨rfl, rfl⟩
        repeat walk_at "rd"
        refine ⟨R, 201, _, _, _, Tn, rs, rfl, eR, hRo, ⟨hp, hD9⟩, ⟨hG0, hG9⟩, hT, ⟨by decide, by decide⟩, ⟨h0, by omega⟩, fun F fs H14 hE s14 nF eF hF => ?_⟩
        have nFp := hs.ne nF
        have nFq := hs.neq nF
        have hs := hs.keep s14
        have hm := hm.keep s14
        have eR := s14 _ _ eR
        have hfl : fs.length ≤ 201 := by obtain ⟨_, _, h1, _⟩ := hE; rw [List.length_map] at h1; exact h1
        have hf1 : 1 ≤ fs.length := by
          obtain ⟨rr, rfl⟩ : ∃ rr, rs = r0 :: rr := by
            cases rs with
            | nil => cases hr0
            | cons a rr => exact ⟨rr, by rw [Option.some.inj hr0]⟩
          have := hE.some (by decide) (by omega)
          rwa [List.length_map] at this
        clear s14 nF
        have hFb : ∀ x, x ∈ fs → 0 ≤ x.2.1 ∧ x.2.1 ≤ depths Tn * (2 * o + l) ∧ x.2.2.2.length ≤ 1000 := fun x hx => by
          obtain ⟨_, hR', _, _⟩ := hE
          obtain ⟨_, h2, _, _⟩ := hR'.ok (Int.le_of_lt hp) (Int.le_of_lt hG0) (rootsK_ok (rs := rs) (fun r hr => by obtain ⟨i, hi⟩ := List.mem_iff_getElem?.mp hr; exact (hRo.2.2.get hi).1) hRo.2.1) (by rw [rootsK_len]; exact hRo.1)
          have h3 := h2 x.2 (List.mem_map.mpr ⟨x, hx, rfl⟩)
          have h4 := h3.1.2.2.2.1
          rw [List.length_map] at h4
          exact ⟨h3.1.1, h3.2, by omega⟩
        repeat walk_at "rd"
        refine new_at (Nat.le_of_ble_eq_true rfl) (fun L1 H15 n15 s15 e15 => ?_)
        have nL := hs.ne n15
        have hs15 := hs.keep s15
        repeat walk_at "rd"
        refine ⟨p, q, 3, rfl, hs15, by decide, by decide, fun d H16 d0 d3 hs16 b16 => ?_⟩
        obtain ⟨mul, hat, mul0, mul9⟩ := three16 d0 d3
        refine r_ixL (b16 _ _ e15 nL) hat ?_
        have hm := (hm.keep s15).but b16 nmp
        have eR := b16 _ _ (s15 _ _ eR) nRp
        have eF := b16 _ _ (s15 _ _ eF) nFp
        have hF := (hF.keep s15).but hs15 b16
        clear hs n15 s15 e15 nL hs15 b16 hat d0 d3
        have hml : 0 ≤ mul * (2 * o + l) ∧ mul * (2 * o + l) ≤ 120 * 3000000000 := ⟨Int.mul_nonneg (by omega) (by omega), Int.mul_le_mul mul9 hD9 (by omega) (by decide)⟩
        repeat walk_at "rd"
        refine ⟨p, q, mul * (2 * o + l) + 1, rfl, hs16, by omega, fun y H17 y0 y1 hs17 b17 => ?_⟩
        have hm := hm.but b17 nmp
        have eR := b17 _ _ eR nRp
        have eF := b17 _ _ eF nFp
        have hF := hF.but hs16 b17
        clear hs16 b17
        repeat walk_at "rd"
        refine new_at (Nat.le_of_ble_eq_true rfl) (fun TT H18 nT s18 eT => ?_)
        have nTp := hs17.ne nT
        have nTq := hs17.neq nT
        have hTR : TT ≠ R := fun z => by rw [z, eR] at nT; cases nT
        have hTF : TT ≠ F := fun z => by rw [z, eF] at nT; cases nT
        have hs := hs17.keep s18
        have hm := hm.keep s18
        have eR := s18 _ _ eR
        have eF := s18 _ _ eF
        have hF := hF.keep s18
        clear hs17 s18 nT
        repeat walk_at "rd"
        refine ⟨.inl ⟨rfl, _, SqL.of eT⟩, ?_⟩
        repeat walk_at "rd"
        refine ⟨p, q, (fs.map Prod.fst).length, rfl, hs, by rw [List.length_map]; omega, by rw [List.length_map]; omega, fun d H19 d0 d1 hs19 b19 => ?_⟩
        rw [List.length_map] at d1
        have hm := hm.but b19 nmp
        have eR := b19 _ _ eR nRp
        have eF := b19 _ _ eF nFp
        have eT := b19 _ _ eT nTp
        have hF := hF.but hs b19
        clear hs b19
        obtain ⟨pk, hpk⟩ : ∃ pk, fs[d.toNat]? = some pk := ⟨_, List.getElem?_eq_getElem (by omega)⟩
        have hpb := hFb pk (List.mem_iff_getElem?.mpr ⟨_, hpk⟩)
        obtain ⟨t1, u1', ek, ek1, _⟩ := hF pk (List.mem_iff_getElem?.mpr ⟨_, hpk⟩)
        refine r_ixL (v := .ref t1) eF (by rw [show d = ((d.toNat : Nat) : Int) by omega]; exact atI_nat (by rw [List.getElem?_map, hpk]; exact congrArg some ek)) ?_
        repeat walk_at "rd"
        refine r_app eT (small1000 (by simp)) ?_
        have hs := hs19.upd nTp nTq (o := HO.lst ([V.int y] ++ [.int pk.2.1]))
        have hm := hm.updL16 eT (u := HO.lst ([V.int y] ++ [.int pk.2.1]))
        have eR : L2.upd H19 TT (HO.lst ([V.int y] ++ [.int pk.2.1])) R = some (.lst (rs.map V.int)) := (upd_ne hTR.symm).trans eR
        have eF : L2.upd H19 TT (HO.lst ([V.int y] ++ [.int pk.2.1])) F = some (.lst (fs.map Prod.fst)) := (upd_ne hTF.symm).trans eF
        have hF := hF.upd eT (o := HO.lst ([V.int y] ++ [.int pk.2.1]))
        have eT2 : L2.upd H19 TT (HO.lst ([V.int y] ++ [.int pk.2.1])) TT = some (.lst ([y, pk.2.1].map V.int)) := upd_same
        generalize L2.upd H19 TT (HO.lst ([V.int y] ++ [.int pk.2.1])) = H20 at hs hm eR eF hF eT2 ⊢
        clear eT hs19 ek1
        repeat walk_at "rd"
        with_reducible refine seq_with (fun σ H' => ∃ ts : List Int, σ = [some (.ref b), some (.ref p), some (.ref t), some (.int (2 * o + l)), some (.int (gapOf o g)), some (.ref m), some (tv Tn), some (.ref R), v8, some (.int (depths Tn * (2 * o + l))), some (.ref F), some (.ref TT), v12, v13, v14, v15] ∧ MachAt a.c_Machine H' m o l g ∧ H' R = some (.lst (rs.map V.int)) ∧ H' F = some (.lst (fs.map Prod.fst)) ∧ KRefs H' fs ∧ H' TT = some (.lst (ts.map V.int)) ∧ ∀ z, z ∈ ts → -10 ≤ z ∧ z ≤ 1000000000000000) ?_ (fun rest2 => ?_)
        · clear hs hm eR eF hF eT2
          rintro σ H21 ⟨ts, rfl, hm, eR, eF, hF, eT, htb⟩
          repeat first | walk_at "rd" | walk_at "rdi"
          refine ⟨TT, rfl, ⟨_, SqL.of eT⟩, for_list (K := K) (a := TT) (xs := ts.map V.int) (fun i σ H' => ∃ (v12 v13 v14 v15 : Option V), σ = [some (.ref b), some (.ref p), some (.ref t), some (.int (2 * o + l)), some (.int (gapOf o g)), some (.ref m), some (tv Tn), some (.ref R), v8, some (.int (depths Tn * (2 * o + l))), some (.ref F), some (.ref TT), v12, v13, v14, v15] ∧ Same H21 H') ⟨_, _, _, _, rfl, Same.refl _⟩ (fun i σ H' _ ⟨_, _, _, _, _, s⟩ => SqL.of (s _ _ eT)) ?_ ?_⟩
          · clear v12 v13 v14 v15
            rintro i v σ H22 hv ⟨v12, v13, v14, v15, rfl, s22⟩
            obtain ⟨tz, htz, rfl⟩ := int_of_get hv
            have tzb := htb tz (List.mem_iff_getElem?.mpr ⟨i, htz⟩)
            repeat first | walk_at "rd" | walk_at "rdi"
            obtain ⟨tm, htm, tm0, tm9⟩ : ∃ tm, (if (if (depths Tn : Int) * (2 * o + l) < tz then (depths Tn : Int) * (2 * o + l) else tz) > 0 then (if (depths Tn : Int) * (2 * o + l) < tz then (depths Tn : Int) * (2 * o + l) else tz) else 0) = tm ∧ 0 ≤ tm ∧ tm ≤ depths Tn * (2 * o + l) := ⟨_, rfl, by split <;> split <;> omega, by split <;> split <;> omega⟩
            rw [htm]
            repeat first | walk_at "rd" | walk_at "rdi"
            have eF2 := s22 _ _ eF
            have eR2 := s22 _ _ eR
            have hm2 := hm.keep s22
            have hF2 := hF.keep s22
            refine ⟨F, rfl, ⟨_, SqL.of eF2⟩, fun C hC => lc_list (K := K) (a := F) (xs := fs.map Prod.fst) (fun j H' => ∃ ys, H' C = some (.lst ys) ∧ Same H22 H' ∧ NmL H' ys ((((fs.map Prod.snd).take j).filter fun k => decide (k.1 ≤ tm)).map fun k => k.2.2)) ⟨[], upd_same, Same.new hC, NmL.nil⟩ (fun j H' _ ⟨_, _, s, _⟩ => SqL.of (s _ _ eF2)) ?_ ?_⟩
            · rintro j v' H23 hv' ⟨ys, eC, s23, hY⟩
              rw [List.getElem?_map] at hv'
              cases hfi : fs[j]? with
              | none => rw [hfi] at hv'; cases hv'
              | some f =>
                rw [hfi] at hv'
                obtain rfl := Option.some.inj hv'
                have hjl := (List.getElem?_eq_some_iff.mp hfi).1
                have hfb := hFb f (List.mem_iff_getElem?.mpr ⟨j, hfi⟩)
                obtain ⟨t', u', et', a', b'⟩ := (hF2.keep s23) f (List.mem_iff_getElem?.mpr ⟨j, hfi⟩)
                rw [et']
                have yl := hY.1
                rw [List.length_map] at yl
                have yl2 := List.length_filter_le (fun k : Key3 => decide (k.1 ≤ tm)) ((fs.map Prod.snd).take j)
                rw [List.length_take] at yl2
                have hmore : ((fs.map Prod.snd).take (j + 1)).filter (fun k : Key3 => decide (k.1 ≤ tm)) = ((fs.map Prod.snd).take j).filter (fun k : Key3 => decide (k.1 ≤ tm)) ++ (if f.2.1 ≤ tm then [f.2] else []) := by
                  rw [take_more (x := f.2) (by rw [List.getElem?_map, hfi]; rfl), List.filter_append, List.filter_cons]
                  by_cases q : f.2.1 ≤ tm
                  · rw [if_pos (decide_eq_true q), if_pos q]; rfl
                  · rw [if_neg (by rw [decide_eq_false q]; exact Bool.false_ne_true), if_neg q]; rfl
                repeat walk_at "rd"
                refine ⟨rfl, ?_⟩
                repeat walk_at "rd"
                refine ite_d (fun hc => ?_) (fun hc => ?_)
                · repeat walk_at "rd"
                  refine ⟨ys, eC, small1000 (by omega), _, upd_same, s23.over hC eC, ?_⟩
                  rw [hmore, if_pos hc, List.map_append]
                  exact (hY.snoc b').upd eC
                · refine ⟨ys, eC, s23, ?_⟩
                  rw [hmore, if_neg hc, List.append_nil]
                  exact hY
            · rintro H23 ⟨ys, eC, s23, hY⟩
              rw [show (fs.map Prod.snd).take (fs.map Prod.fst).length = fs.map Prod.snd from List.take_of_length_le (by rw [List.length_map, List.length_map]; exact Nat.le_refl _)] at hY
              have hU := hE.upto (t := tm) (Int.le_of_lt hp) (Int.le_of_lt hG0) tm9
              have eR3 := s23 _ _ eR2
              have hm3 := hm2.keep s23
              have hyl : (ys.length : Int) = (((fs.map Prod.snd).filter fun k => decide (k.1 ≤ tm)).length : Int) := by rw [hY.1, List.length_map]
              have hyb := List.length_filter_le (fun k : Key3 => decide (k.1 ≤ tm)) (fs.map Prod.snd)
              rw [List.length_map] at hyb
              have s23 := s22.trans s23
              repeat first | walk_at "rd" | walk_at "rdi"
              refine r_listL eR3 (fun R2 H24 nR2 s24 eR4 => ?_)
              have hm3 := hm3.keep s24
              have hY := hY.keep s24
              have eC := s24 _ _ eC
              repeat first | walk_at "rd" | walk_at "rdi"
              refine ⟨m, R2, tm, o, l, g, Tn, rs, rfl, hm3, ho, hll, hg, hp, hT, .inl eR4, hRo, ⟨tm0, tm9⟩, fun p1 L xs ks H25 hE2 hkn s25 ep eL hA => ?_, fun p1 ks H25 hE2 hkn s25 ep => ?_⟩
              · obtain rfl := EndF.uniq hE2 hU
                have eC := s25 _ _ eC
                have s25' := (s23.trans s24).trans s25
                repeat first | walk_at "rd" | walk_at "rdi"
                refine ite_ff (by omega) ?_
                repeat first | walk_at "rd" | walk_at "rdi"
                refine ⟨L, C, xs, ys, _, rfl, eL, eC, hA, hY.keep s25, by rw [List.length_map]; omega, fun x hx => ?_, ?_⟩
                · obtain ⟨k', hk', rfl⟩ := List.mem_map.mp hx
                  obtain ⟨f, hf, rfl⟩ := List.mem_map.mp (List.mem_filter.mp hk').1
                  exact (hFb f hf).2.2
                · repeat first | exact ⟨_, _, _, _, rfl, s25'⟩ | walk_at "rd" | walk_at "rdi"
              · obtain rfl := EndF.uniq hE2 hU
                have eC := s25 _ _ eC
                have s25' := (s23.trans s24).trans s25
                repeat first | walk_at "rd" | walk_at "rdi"
                refine ite_tt (by omega) ?_
                repeat first | walk_at "rd" | walk_at "rdi"
                refine new_at (Nat.le_of_ble_eq_true rfl) (fun z H26 nz s26 ez => ?_)
                refine r_neNames (s26 _ _ ep) ez ?_
                repeat first | exact ⟨_, _, _, _, rfl, s25'.trans s26⟩ | walk_at "rd" | walk_at "rdi"
          · clear v12 v13 v14 v15
            rintro σ H22 ⟨v12, v13, v14, v15, rfl, s22⟩
            repeat first | exact k _ | walk_at "rd" | walk_at "rdi"
        · have tb2 : ∀ z, z ∈ [y, pk.2.1] → -10 ≤ z ∧ z ≤ 1000000000000000 := fun z hz => by
            rcases List.mem_cons.mp hz with rfl | hz
            · omega
            · rw [List.mem_singleton] at hz; subst hz; omega
          have hll : (fs.map Prod.fst).length = fs.length := by rw [List.length_map]
          repeat first | walk_at "rd" | walk_at "rdi"
          rw [hll]
          refine ite_d (fun hc => ?_) (fun hc => ?_)
          · obtain ⟨pk2, hpk2⟩ : ∃ pk2, fs[200]? = some pk2 := ⟨_, List.getElem?_eq_getElem (by omega)⟩
            have hpb2 := hFb pk2 (List.mem_iff_getElem?.mpr ⟨_, hpk2⟩)
            obtain ⟨t2, u2', ek2, ek3, _⟩ := hF pk2 (List.mem_iff_getElem?.mpr ⟨_, hpk2⟩)
            repeat first | walk_at "rd" | walk_at "rdi"
            refine ⟨.inl ⟨rfl, _, SqL.of eT2⟩, ?_⟩
            repeat first | walk_at "rd" | walk_at "rdi"
            refine r_ixL (v := .ref t2) eF (atI_nat (j := 200) (by rw [List.getElem?_map, hpk2]; exact congrArg some ek2)) ?_
            repeat first | walk_at "rd" | walk_at "rdi"
            refine ⟨p, q, 2, rfl, hs, by decide, by decide, fun d2 H22 d20 d21 hs22 b22 => ?_⟩
            have hm := hm.but b22 nmp
            have eR := b22 _ _ eR nRp
            have eF := b22 _ _ eF nFp
            have eT2 := b22 _ _ eT2 nTp
            have hF := hF.but hs b22
            repeat first | walk_at "rd" | walk_at "rdi"
            refine r_app eT2 (small1000 (by simp)) ?_
            refine rest2 _ _ ⟨[y, pk.2.1, pk2.2.1 - d2], rfl, hm.updL16 eT2, (upd_ne hTR.symm).trans eR, (upd_ne hTF.symm).trans eF, hF.upd eT2, upd_same, fun z hz => ?_⟩
            rcases List.mem_cons.mp hz with rfl | hz
            · omega
            · rcases List.mem_cons.mp hz with rfl | hz
              · omega
              · rw [List.mem_singleton] at hz; subst hz; omega
          · repeat first | exact rest2 _ _ ⟨_, rfl, hm, eR, eF, hF, eT2, tb2⟩ | walk_at "rd" | walk_at "rdi"
      · cases Tn with
        | none => repeat first | exact rest _ _ ⟨rfl, rfl⟩ | walk_at "rd" | walk_at "rdi"
        | some d => repeat first | exact rest _ _ ⟨rfl, rfl⟩ | walk_at "rd" | walk_at "rdi"
end

theorem all_mk {P : Program} {w : World} {K : PySem.W.Frag} {h : Heap} {mg : Str → Option Value} {fa : Addr} (X : K.In h) (G : h.Ns mainGlobals mg) (hfa : mg "law" = some (.ref fa))
    {c_Machine : Addr} {c_Tree : Addr} {oc_is_integer : Value} {od_is_integer : Option Addr} {an_is_integer : Option Addr} {sl_is_integer : Array (Option Value)} {kV_is_integer : Value} {dc_is_integer : Value} {pm_is_integer : Value} {cd_is_integer : Value} {ct_is_integer : Value} {f_is_integer : Addr} {oc_is_between : Value} {od_is_between : Option Addr} {an_is_between : Option Addr} {sl_is_between : Array (Option Value)} {kV_is_between : Value} {dc_is_between : Value} {pm_is_between : Value} {cd_is_between : Value} {ct_is_between : Value} {f_is_between : Addr} {oc_check_turns : Value} {od_check_turns : Option Addr} {an_check_turns : Option Addr} {sl_check_turns : Array (Option Value)} {kV_check_turns : Value} {dc_check_turns : Value} {pm_check_turns : Value} {cd_check_turns : Value} {ct_check_turns : Value} {f_check_turns : Addr} {oc_check_roots : Value} {od_check_roots : Option Addr} {an_check_roots : Option Addr} {sl_check_roots : Array (Option Value)} {kV_check_roots : Value} {dc_check_roots : Value} {pm_check_roots : Value} {cd_check_roots : Value} {ct_check_roots : Value} {f_check_roots : Addr} {oc_check_time : Value} {od_check_time : Option Addr} {an_check_time : Option Addr} {sl_check_time : Array (Option Value)} {kV_check_time : Value} {dc_check_time : Value} {pm_check_time : Value} {cd_check_time : Value} {ct_check_time : Value} {f_check_time : Addr} {oc_Tree_init : Value} {od_Tree_init : Option Addr} {an_Tree_init : Option Addr} {sl_Tree_init : Array (Option Value)} {kV_Tree_init : Value} {dc_Tree_init : Value} {pm_Tree_init : Value} {cd_Tree_init : Value} {ct_Tree_init : Value} {f_Tree_init : Addr} {oc_Tree_sum_occurs : Value} {od_Tree_sum_occurs : Option Addr} {an_Tree_sum_occurs : Option Addr} {sl_Tree_sum_occurs : Array (Option Value)} {kV_Tree_sum_occurs : Value} {dc_Tree_sum_occurs : Value} {pm_Tree_sum_occurs : Value} {cd_Tree_sum_occurs : Value} {ct_Tree_sum_occurs : Value} {f_Tree_sum_occurs : Addr} {oc_names_in_order : Value} {od_names_in_order : Option Addr} {an_names_in_order : Option Addr} {sl_names_in_order : Array (Option Value)} {kV_names_in_order : Value} {dc_names_in_order : Value} {pm_names_in_order : Value} {cd_names_in_order : Value} {ct_names_in_order : Value} {f_names_in_order : Addr} {oc_names_until : Value} {od_names_until : Option Addr} {an_names_until : Option Addr} {sl_names_until : Array (Option Value)} {dc_names_until : Value} {pm_names_until : Value} {cd_names_until : Value} {ct_names_until : Value} {f_names_until : Addr} {D_names_until : Addr} {t_names_until_roots : Addr} {td_names_until_roots : Option Addr} {tn_names_until_roots : Nat} {ts_names_until_roots : Array (Option Value)} {tk0_names_until_roots : Tok} {oc_Machine_init : Value} {od_Machine_init : Option Addr} {an_Machine_init : Option Addr} {sl_Machine_init : Array (Option Value)} {kV_Machine_init : Value} {dc_Machine_init : Value} {pm_Machine_init : Value} {cd_Machine_init : Value} {ct_Machine_init : Value} {f_Machine_init : Addr} {oc__law_source : Value} {od__law_source : Option Addr} {an__law_source : Option Addr} {sl__law_source : Array (Option Value)} {kV__law_source : Value} {dc__law_source : Value} {pm__law_source : Value} {cd__law_source : Value} {ct__law_source : Value} {f__law_source : Addr} {oc__law_draw : Value} {od__law_draw : Option Addr} {an__law_draw : Option Addr} {sl__law_draw : Array (Option Value)} {kV__law_draw : Value} {dc__law_draw : Value} {pm__law_draw : Value} {cd__law_draw : Value} {ct__law_draw : Value} {f__law_draw : Addr} {oc__law_big : Value} {od__law_big : Option Addr} {an__law_big : Option Addr} {sl__law_big : Array (Option Value)} {kV__law_big : Value} {dc__law_big : Value} {pm__law_big : Value} {cd__law_big : Value} {ct__law_big : Value} {f__law_big : Addr} {oc__law_numbers : Value} {od__law_numbers : Option Addr} {an__law_numbers : Option Addr} {sl__law_numbers : Array (Option Value)} {kV__law_numbers : Value} {dc__law_numbers : Value} {pm__law_numbers : Value} {cd__law_numbers : Value} {ct__law_numbers : Value} {f__law_numbers : Addr} {oc__law_times : Value} {od__law_times : Option Addr} {an__law_times : Option Addr} {sl__law_times : Array (Option Value)} {kV__law_times : Value} {dc__law_times : Value} {pm__law_times : Value} {cd__law_times : Value} {ct__law_times : Value} {f__law_times : Addr} {oc__law_is : Value} {od__law_is : Option Addr} {an__law_is : Option Addr} {sl__law_is : Array (Option Value)} {kV__law_is : Value} {dc__law_is : Value} {pm__law_is : Value} {cd__law_is : Value} {ct__law_is : Value} {f__law_is : Addr} {oc__law_same_names : Value} {od__law_same_names : Option Addr} {an__law_same_names : Option Addr} {sl__law_same_names : Array (Option Value)} {kV__law_same_names : Value} {dc__law_same_names : Value} {pm__law_same_names : Value} {cd__law_same_names : Value} {ct__law_same_names : Value} {f__law_same_names : Addr} {oc__law_first : Value} {od__law_first : Option Addr} {an__law_first : Option Addr} {sl__law_first : Array (Option Value)} {kV__law_first : Value} {dc__law_first : Value} {pm__law_first : Value} {cd__law_first : Value} {ct__law_first : Value} {f__law_first : Addr} {oc__law_told : Value} {od__law_told : Option Addr} {an__law_told : Option Addr} {sl__law_told : Array (Option Value)} {kV__law_told : Value} {dc__law_told : Value} {pm__law_told : Value} {cd__law_told : Value} {ct__law_told : Value} {f__law_told : Addr} {oc_law : Value} {od_law : Option Addr} {an_law : Option Addr} {sl_law : Array (Option Value)} {kV_law : Value} {dc_law : Value} {pm_law : Value} {cd_law : Value} {ct_law : Value} {f_law : Addr} {c_LimitExceeded : Addr} {i_LimitExceeded : Addr} {xN_LimitExceeded : Addr} {xB_LimitExceeded : Addr} {xnm_LimitExceeded : Str} {xq_LimitExceeded : Str} {xbs_LimitExceeded : List Value} {xsn_LimitExceeded : List Str} {xsub_LimitExceeded : List Value} {xab_LimitExceeded : Bool} {xcol_LimitExceeded : Option Bool} {xdd_LimitExceeded : Option Addr} {xm0_LimitExceeded : Option Value} {xm1_LimitExceeded : Option Value} {xm2_LimitExceeded : Option Value} {xm3_LimitExceeded : Option Value} {xm5_LimitExceeded : Option Value} {xoc_LimitExceeded : Value} {xod_LimitExceeded : Option Addr} {xdc_LimitExceeded : Value} {xpm_LimitExceeded : Value} {xan_LimitExceeded : Option Addr} {xcd_LimitExceeded : Value} {xct_LimitExceeded : Value} {xsl_LimitExceeded : Array (Option Value)} {t_MOST_TURNS : Tok} {t_MOST_ROOTS : Tok} {t_LATEST_ROOT : Tok} {t_FREE_DEPTHS : Tok} {t_TURNS_DEPTHS : Tok} {t_MOST_UNTIL : Tok} {t_GREATEST_PART : Tok}
    (H_g_Machine : PySem.W.nsIn K mainGlobals "Machine" = some (some (.ref c_Machine)))
    (H_g_Tree : PySem.W.nsIn K mainGlobals "Tree" = some (some (.ref c_Tree)))
    (H_a_is_integer : PySem.W.nsIn K mainGlobals "is_integer" = some (some (.ref f_is_integer)))
    (H_l_is_integer : K.lookup f_is_integer = some ⟨oc_is_integer, od_is_integer, .func (PySem.W.fnOf "is_integer" "is_integer" (defArgs s_is_integer) (defBody s_is_integer) (defScope s_is_integer) .none kV_is_integer dc_is_integer pm_is_integer an_is_integer cd_is_integer ct_is_integer), sl_is_integer⟩)
    (H_c_is_integer : PySem.W.codeIn K cd_is_integer "is_integer" = true)
    (H_k_is_integer : PySem.W.keepIn K (.ref f_is_integer) = true)
    (H_a_is_between : PySem.W.nsIn K mainGlobals "is_between" = some (some (.ref f_is_between)))
    (H_l_is_between : K.lookup f_is_between = some ⟨oc_is_between, od_is_between, .func (PySem.W.fnOf "is_between" "is_between" (defArgs s_is_between) (defBody s_is_between) (defScope s_is_between) .none kV_is_between dc_is_between pm_is_between an_is_between cd_is_between ct_is_between), sl_is_between⟩)
    (H_c_is_between : PySem.W.codeIn K cd_is_between "is_between" = true)
    (H_k_is_between : PySem.W.keepIn K (.ref f_is_between) = true)
    (H_a_check_turns : PySem.W.nsIn K mainGlobals "check_turns" = some (some (.ref f_check_turns)))
    (H_l_check_turns : K.lookup f_check_turns = some ⟨oc_check_turns, od_check_turns, .func (PySem.W.fnOf "check_turns" "check_turns" (defArgs s_check_turns) (defBody s_check_turns) (defScope s_check_turns) .none kV_check_turns dc_check_turns pm_check_turns an_check_turns cd_check_turns ct_check_turns), sl_check_turns⟩)
    (H_c_check_turns : PySem.W.codeIn K cd_check_turns "check_turns" = true)
    (H_k_check_turns : PySem.W.keepIn K (.ref f_check_turns) = true)
    (H_a_check_roots : PySem.W.nsIn K mainGlobals "check_roots" = some (some (.ref f_check_roots)))
    (H_l_check_roots : K.lookup f_check_roots = some ⟨oc_check_roots, od_check_roots, .func (PySem.W.fnOf "check_roots" "check_roots" (defArgs s_check_roots) (defBody s_check_roots) (defScope s_check_roots) .none kV_check_roots dc_check_roots pm_check_roots an_check_roots cd_check_roots ct_check_roots), sl_check_roots⟩)
    (H_c_check_roots : PySem.W.codeIn K cd_check_roots "check_roots" = true)
    (H_k_check_roots : PySem.W.keepIn K (.ref f_check_roots) = true)
    (H_a_check_time : PySem.W.nsIn K mainGlobals "check_time" = some (some (.ref f_check_time)))
    (H_l_check_time : K.lookup f_check_time = some ⟨oc_check_time, od_check_time, .func (PySem.W.fnOf "check_time" "check_time" (defArgs s_check_time) (defBody s_check_time) (defScope s_check_time) .none kV_check_time dc_check_time pm_check_time an_check_time cd_check_time ct_check_time), sl_check_time⟩)
    (H_c_check_time : PySem.W.codeIn K cd_check_time "check_time" = true)
    (H_k_check_time : PySem.W.keepIn K (.ref f_check_time) = true)
    (H_a_Tree_init : PySem.W.findIn K (.ref c_Tree) "__init__" = some (some (.ref f_Tree_init)))
    (H_i_Tree_init : PySem.W.isFn K (.ref f_Tree_init) = true)
    (H_l_Tree_init : K.lookup f_Tree_init = some ⟨oc_Tree_init, od_Tree_init, .func (PySem.W.fnOf "__init__" "Tree.__init__" (defArgs s_Tree_init) (defBody s_Tree_init) (defScope s_Tree_init) .none kV_Tree_init dc_Tree_init pm_Tree_init an_Tree_init cd_Tree_init ct_Tree_init), sl_Tree_init⟩)
    (H_c_Tree_init : PySem.W.codeIn K cd_Tree_init "Tree.__init__" = true)
    (H_k_Tree_init : PySem.W.keepIn K (.ref f_Tree_init) = true)
    (H_a_Tree_sum_occurs : PySem.W.findIn K (.ref c_Tree) "sum_occurs" = some (some (.ref f_Tree_sum_occurs)))
    (H_i_Tree_sum_occurs : PySem.W.isFn K (.ref f_Tree_sum_occurs) = true)
    (H_l_Tree_sum_occurs : K.lookup f_Tree_sum_occurs = some ⟨oc_Tree_sum_occurs, od_Tree_sum_occurs, .func (PySem.W.fnOf "sum_occurs" "Tree.sum_occurs" (defArgs s_Tree_sum_occurs) (defBody s_Tree_sum_occurs) (defScope s_Tree_sum_occurs) .none kV_Tree_sum_occurs dc_Tree_sum_occurs pm_Tree_sum_occurs an_Tree_sum_occurs cd_Tree_sum_occurs ct_Tree_sum_occurs), sl_Tree_sum_occurs⟩)
    (H_c_Tree_sum_occurs : PySem.W.codeIn K cd_Tree_sum_occurs "Tree.sum_occurs" = true)
    (H_k_Tree_sum_occurs : PySem.W.keepIn K (.ref f_Tree_sum_occurs) = true)
    (H_a_names_in_order : PySem.W.nsIn K mainGlobals "names_in_order" = some (some (.ref f_names_in_order)))
    (H_l_names_in_order : K.lookup f_names_in_order = some ⟨oc_names_in_order, od_names_in_order, .func (PySem.W.fnOf "names_in_order" "names_in_order" (defArgs s_names_in_order) (defBody s_names_in_order) (defScope s_names_in_order) .none kV_names_in_order dc_names_in_order pm_names_in_order an_names_in_order cd_names_in_order ct_names_in_order), sl_names_in_order⟩)
    (H_c_names_in_order : PySem.W.codeIn K cd_names_in_order "names_in_order" = true)
    (H_k_names_in_order : PySem.W.keepIn K (.ref f_names_in_order) = true)
    (H_a_names_until : PySem.W.nsIn K mainGlobals "names_until" = some (some (.ref f_names_until)))
    (H_l_names_until : K.lookup f_names_until = some ⟨oc_names_until, od_names_until, .func (PySem.W.fnOf "names_until" "names_until" (defArgs s_names_until) (defBody s_names_until) (defScope s_names_until) .none (.ref D_names_until) dc_names_until pm_names_until an_names_until cd_names_until ct_names_until), sl_names_until⟩)
    (H_kw_names_until_turns : PySem.W.nsIn K D_names_until "turns" = some (some .none))
    (H_kw_names_until_roots : PySem.W.nsIn K D_names_until "roots" = some (some (.ref t_names_until_roots)))
    (H_tp_names_until_roots : K.lookup t_names_until_roots = some ⟨.type "tuple", td_names_until_roots, .seq #[.int 0 tk0_names_until_roots] tn_names_until_roots, ts_names_until_roots⟩)
    (H_c_names_until : PySem.W.codeIn K cd_names_until "names_until" = true)
    (H_k_names_until : PySem.W.keepIn K (.ref f_names_until) = true)
    (H_a_Machine_init : PySem.W.findIn K (.ref c_Machine) "__init__" = some (some (.ref f_Machine_init)))
    (H_i_Machine_init : PySem.W.isFn K (.ref f_Machine_init) = true)
    (H_l_Machine_init : K.lookup f_Machine_init = some ⟨oc_Machine_init, od_Machine_init, .func (PySem.W.fnOf "__init__" "Machine.__init__" (defArgs s_Machine_init) (defBody s_Machine_init) (defScope s_Machine_init) .none kV_Machine_init dc_Machine_init pm_Machine_init an_Machine_init cd_Machine_init ct_Machine_init), sl_Machine_init⟩)
    (H_c_Machine_init : PySem.W.codeIn K cd_Machine_init "Machine.__init__" = true)
    (H_k_Machine_init : PySem.W.keepIn K (.ref f_Machine_init) = true)
    (H_a__law_source : PySem.W.nsIn K mainGlobals "_law_source" = some (some (.ref f__law_source)))
    (H_l__law_source : K.lookup f__law_source = some ⟨oc__law_source, od__law_source, .func (PySem.W.fnOf "_law_source" "_law_source" (defArgs s__law_source) (defBody s__law_source) (defScope s__law_source) .none kV__law_source dc__law_source pm__law_source an__law_source cd__law_source ct__law_source), sl__law_source⟩)
    (H_c__law_source : PySem.W.codeIn K cd__law_source "_law_source" = true)
    (H_k__law_source : PySem.W.keepIn K (.ref f__law_source) = true)
    (H_a__law_draw : PySem.W.nsIn K mainGlobals "_law_draw" = some (some (.ref f__law_draw)))
    (H_l__law_draw : K.lookup f__law_draw = some ⟨oc__law_draw, od__law_draw, .func (PySem.W.fnOf "_law_draw" "_law_draw" (defArgs s__law_draw) (defBody s__law_draw) (defScope s__law_draw) .none kV__law_draw dc__law_draw pm__law_draw an__law_draw cd__law_draw ct__law_draw), sl__law_draw⟩)
    (H_c__law_draw : PySem.W.codeIn K cd__law_draw "_law_draw" = true)
    (H_k__law_draw : PySem.W.keepIn K (.ref f__law_draw) = true)
    (H_a__law_big : PySem.W.nsIn K mainGlobals "_law_big" = some (some (.ref f__law_big)))
    (H_l__law_big : K.lookup f__law_big = some ⟨oc__law_big, od__law_big, .func (PySem.W.fnOf "_law_big" "_law_big" (defArgs s__law_big) (defBody s__law_big) (defScope s__law_big) .none kV__law_big dc__law_big pm__law_big an__law_big cd__law_big ct__law_big), sl__law_big⟩)
    (H_c__law_big : PySem.W.codeIn K cd__law_big "_law_big" = true)
    (H_k__law_big : PySem.W.keepIn K (.ref f__law_big) = true)
    (H_a__law_numbers : PySem.W.nsIn K mainGlobals "_law_numbers" = some (some (.ref f__law_numbers)))
    (H_l__law_numbers : K.lookup f__law_numbers = some ⟨oc__law_numbers, od__law_numbers, .func (PySem.W.fnOf "_law_numbers" "_law_numbers" (defArgs s__law_numbers) (defBody s__law_numbers) (defScope s__law_numbers) .none kV__law_numbers dc__law_numbers pm__law_numbers an__law_numbers cd__law_numbers ct__law_numbers), sl__law_numbers⟩)
    (H_c__law_numbers : PySem.W.codeIn K cd__law_numbers "_law_numbers" = true)
    (H_k__law_numbers : PySem.W.keepIn K (.ref f__law_numbers) = true)
    (H_a__law_times : PySem.W.nsIn K mainGlobals "_law_times" = some (some (.ref f__law_times)))
    (H_l__law_times : K.lookup f__law_times = some ⟨oc__law_times, od__law_times, .func (PySem.W.fnOf "_law_times" "_law_times" (defArgs s__law_times) (defBody s__law_times) (defScope s__law_times) .none kV__law_times dc__law_times pm__law_times an__law_times cd__law_times ct__law_times), sl__law_times⟩)
    (H_c__law_times : PySem.W.codeIn K cd__law_times "_law_times" = true)
    (H_k__law_times : PySem.W.keepIn K (.ref f__law_times) = true)
    (H_a__law_is : PySem.W.nsIn K mainGlobals "_law_is" = some (some (.ref f__law_is)))
    (H_l__law_is : K.lookup f__law_is = some ⟨oc__law_is, od__law_is, .func (PySem.W.fnOf "_law_is" "_law_is" (defArgs s__law_is) (defBody s__law_is) (defScope s__law_is) .none kV__law_is dc__law_is pm__law_is an__law_is cd__law_is ct__law_is), sl__law_is⟩)
    (H_c__law_is : PySem.W.codeIn K cd__law_is "_law_is" = true)
    (H_k__law_is : PySem.W.keepIn K (.ref f__law_is) = true)
    (H_a__law_same_names : PySem.W.nsIn K mainGlobals "_law_same_names" = some (some (.ref f__law_same_names)))
    (H_l__law_same_names : K.lookup f__law_same_names = some ⟨oc__law_same_names, od__law_same_names, .func (PySem.W.fnOf "_law_same_names" "_law_same_names" (defArgs s__law_same_names) (defBody s__law_same_names) (defScope s__law_same_names) .none kV__law_same_names dc__law_same_names pm__law_same_names an__law_same_names cd__law_same_names ct__law_same_names), sl__law_same_names⟩)
    (H_c__law_same_names : PySem.W.codeIn K cd__law_same_names "_law_same_names" = true)
    (H_k__law_same_names : PySem.W.keepIn K (.ref f__law_same_names) = true)
    (H_a__law_first : PySem.W.nsIn K mainGlobals "_law_first" = some (some (.ref f__law_first)))
    (H_l__law_first : K.lookup f__law_first = some ⟨oc__law_first, od__law_first, .func (PySem.W.fnOf "_law_first" "_law_first" (defArgs s__law_first) (defBody s__law_first) (defScope s__law_first) .none kV__law_first dc__law_first pm__law_first an__law_first cd__law_first ct__law_first), sl__law_first⟩)
    (H_c__law_first : PySem.W.codeIn K cd__law_first "_law_first" = true)
    (H_k__law_first : PySem.W.keepIn K (.ref f__law_first) = true)
    (H_a__law_told : PySem.W.nsIn K mainGlobals "_law_told" = some (some (.ref f__law_told)))
    (H_l__law_told : K.lookup f__law_told = some ⟨oc__law_told, od__law_told, .func (PySem.W.fnOf "_law_told" "_law_told" (defArgs s__law_told) (defBody s__law_told) (defScope s__law_told) .none kV__law_told dc__law_told pm__law_told an__law_told cd__law_told ct__law_told), sl__law_told⟩)
    (H_c__law_told : PySem.W.codeIn K cd__law_told "_law_told" = true)
    (H_k__law_told : PySem.W.keepIn K (.ref f__law_told) = true)
    (H_a_law : PySem.W.nsIn K mainGlobals "law" = some (some (.ref f_law)))
    (H_l_law : K.lookup f_law = some ⟨oc_law, od_law, .func (PySem.W.fnOf "law" "law" (defArgs s_law) (defBody s_law) (defScope s_law) .none kV_law dc_law pm_law an_law cd_law ct_law), sl_law⟩)
    (H_c_law : PySem.W.codeIn K cd_law "law" = true)
    (H_k_law : PySem.W.keepIn K (.ref f_law) = true)
    (H_pg_Tree : PySem.W.plainGet K c_Tree Str.empty = true)
    (H_hd_Tree : PySem.W.hasDictIn K c_Tree = true)
    (H_po_Tree : PySem.W.plainOver K c_Tree = true)
    (H_sa_Tree : PySem.W.findIn K (.ref c_Tree) "__setattr__" = some (some (.builtin "object.__setattr__")))
    (H_mk_Tree : PySem.W.makesIn K c_Tree = true)
    (H_kc_Tree : PySem.W.keepIn K (.ref c_Tree) = true)
    (H_nF_Tree_letter : PySem.W.findIn K (.ref c_Tree) "letter" = some none)
    (H_nF_Tree_gap : PySem.W.findIn K (.ref c_Tree) "gap" = some none)
    (H_nF_Tree_turns : PySem.W.findIn K (.ref c_Tree) "turns" = some none)
    (H_nF_Tree_roots : PySem.W.findIn K (.ref c_Tree) "roots" = some none)
    (H_nF_Tree_horizon : PySem.W.findIn K (.ref c_Tree) "horizon" = some none)
    (H_nF_Tree_powers : PySem.W.findIn K (.ref c_Tree) "powers" = some none)
    (H_pg_Machine : PySem.W.plainGet K c_Machine Str.empty = true)
    (H_hd_Machine : PySem.W.hasDictIn K c_Machine = true)
    (H_po_Machine : PySem.W.plainOver K c_Machine = true)
    (H_sa_Machine : PySem.W.findIn K (.ref c_Machine) "__setattr__" = some (some (.builtin "object.__setattr__")))
    (H_mk_Machine : PySem.W.makesIn K c_Machine = true)
    (H_kc_Machine : PySem.W.keepIn K (.ref c_Machine) = true)
    (H_nF_Machine_o : PySem.W.findIn K (.ref c_Machine) "o" = some none)
    (H_nF_Machine_l : PySem.W.findIn K (.ref c_Machine) "l" = some none)
    (H_nF_Machine_g : PySem.W.findIn K (.ref c_Machine) "g" = some none)
    (H_nF_Machine_letter : PySem.W.findIn K (.ref c_Machine) "letter" = some none)
    (H_nF_Machine_gap : PySem.W.findIn K (.ref c_Machine) "gap" = some none)
    (H_g_LimitExceeded : PySem.W.nsIn K mainGlobals "LimitExceeded" = some (some (.ref c_LimitExceeded)))
    (H_k_LimitExceeded : PySem.W.keepIn K (.ref c_LimitExceeded) = true)
    (H_e_LimitExceeded : PySem.W.subIn K (.ref c_LimitExceeded) (.type "BaseException") = some true)
    (H_t_LimitExceeded : PySem.W.typeIn K (.ref c_LimitExceeded) = some (.type "type"))
    (H_I_LimitExceeded : PySem.W.isClsIn K c_LimitExceeded = true)
    (H_S_LimitExceeded : PySem.W.subIn K (.ref c_LimitExceeded) (.ref c_LimitExceeded) = some true)
    (H_l_LimitExceeded : K.lookup c_LimitExceeded = some (excClassObj xnm_LimitExceeded xq_LimitExceeded c_LimitExceeded xN_LimitExceeded xbs_LimitExceeded [.ref xB_LimitExceeded, .type "Exception", .type "BaseException", .type "object"] true xsn_LimitExceeded xsub_LimitExceeded xab_LimitExceeded xcol_LimitExceeded xdd_LimitExceeded xm0_LimitExceeded xm1_LimitExceeded xm2_LimitExceeded xm3_LimitExceeded xm5_LimitExceeded "Exception.__new__"))
    (H_sa_LimitExceeded : PySem.W.findIn K (.ref c_LimitExceeded) "__setattr__" = some (some (.builtin "object.__setattr__")))
    (H_ga_LimitExceeded : PySem.W.findIn K (.ref c_LimitExceeded) "__getattribute__" = some (some (.builtin "BaseException.__getattribute__")))
    (H_gg_LimitExceeded : PySem.W.findIn K (.ref c_LimitExceeded) "__getattr__" = some none)
    (H_no_LimitExceeded : PySem.W.findIn K (.ref c_LimitExceeded) "limit" = some none)
    (H_in_LimitExceeded : PySem.W.findIn K (.ref c_LimitExceeded) "__init__" = some (some (.ref i_LimitExceeded)))
    (H_ti_LimitExceeded : PySem.W.typeIn K (.ref i_LimitExceeded) = some (.type "function"))
    (H_hd_LimitExceeded : PySem.W.hasDictIn K c_LimitExceeded = true)
    (H_lf_LimitExceeded : K.lookup i_LimitExceeded = some ⟨xoc_LimitExceeded, xod_LimitExceeded, .func (PySem.W.fnOf "__init__" "LimitExceeded.__init__" (PySem.MyXLimitExceeded.iA ⟨22, 17, 22, 21⟩ ⟨22, 23, 22, 28⟩) (PySem.MyXLimitExceeded.iB ⟨23, 8, 23, 12⟩ ⟨23, 8, 23, 18⟩ ⟨23, 21, 23, 26⟩ ⟨23, 8, 23, 26⟩) PySem.MyXLimitExceeded.iS .none .none xdc_LimitExceeded xpm_LimitExceeded xan_LimitExceeded xcd_LimitExceeded xct_LimitExceeded), xsl_LimitExceeded⟩)
    (H_cf_LimitExceeded : PySem.W.codeIn K xcd_LimitExceeded "LimitExceeded.__init__" = true)
    (H_ns_LimitExceeded : PySem.W.subIn K (.ref c_LimitExceeded) (.type "StopIteration") = some false)
    (H_n_bool : PySem.W.nsIn K mainGlobals "bool" = some none)
    (H_n_enumerate : PySem.W.nsIn K mainGlobals "enumerate" = some none)
    (H_n_int : PySem.W.nsIn K mainGlobals "int" = some none)
    (H_n_isinstance : PySem.W.nsIn K mainGlobals "isinstance" = some none)
    (H_n_len : PySem.W.nsIn K mainGlobals "len" = some none)
    (H_n_list : PySem.W.nsIn K mainGlobals "list" = some none)
    (H_n_max : PySem.W.nsIn K mainGlobals "max" = some none)
    (H_n_min : PySem.W.nsIn K mainGlobals "min" = some none)
    (H_n_range : PySem.W.nsIn K mainGlobals "range" = some none)
    (H_n_sorted : PySem.W.nsIn K mainGlobals "sorted" = some none)
    (H_n_tuple : PySem.W.nsIn K mainGlobals "tuple" = some none)
    (H_x_MOST_TURNS : PySem.W.nsIn K mainGlobals "MOST_TURNS" = some (some (.int 1000000000000 t_MOST_TURNS)))
    (H_x_MOST_ROOTS : PySem.W.nsIn K mainGlobals "MOST_ROOTS" = some (some (.int 6 t_MOST_ROOTS)))
    (H_x_LATEST_ROOT : PySem.W.nsIn K mainGlobals "LATEST_ROOT" = some (some (.int 1000000000000 t_LATEST_ROOT)))
    (H_x_FREE_DEPTHS : PySem.W.nsIn K mainGlobals "FREE_DEPTHS" = some (some (.int 120 t_FREE_DEPTHS)))
    (H_x_TURNS_DEPTHS : PySem.W.nsIn K mainGlobals "TURNS_DEPTHS" = some (some (.int 40 t_TURNS_DEPTHS)))
    (H_x_MOST_UNTIL : PySem.W.nsIn K mainGlobals "MOST_UNTIL" = some (some (.int 200 t_MOST_UNTIL)))
    (H_x_GREATEST_PART : PySem.W.nsIn K mainGlobals "GREATEST_PART" = some (some (.int 1000000000 t_GREATEST_PART)))
    (H_heappush : PySem.W.nsIn K mainGlobals "heappush" = some (some (.builtin "_heapq.heappush")))
    (H_heappop : PySem.W.nsIn K mainGlobals "heappop" = some (some (.builtin "_heapq.heappop")))
    : ∃ fd : FuncData, (∀ (s : Shared) (v : Value), BindsTo s fd ⟨[v], []⟩ [("_law_script", v)]) ∧ ∀ base : Heap, K.In base → base.Ns mainGlobals mg → FnOk P w K mg base CX0 13 fa fd ["_law_script"] (spLaw K) := by
  have e := hfa.symm.trans (PySem.W.mg_of X G H_a_law)
  cases e
  let a : Adr := { a_is_integer := f_is_integer, d_is_integer := PySem.W.fnOf "is_integer" "is_integer" (defArgs s_is_integer) (defBody s_is_integer) (defScope s_is_integer) .none kV_is_integer dc_is_integer pm_is_integer an_is_integer cd_is_integer ct_is_integer, a_is_between := f_is_between, d_is_between := PySem.W.fnOf "is_between" "is_between" (defArgs s_is_between) (defBody s_is_between) (defScope s_is_between) .none kV_is_between dc_is_between pm_is_between an_is_between cd_is_between ct_is_between, a_check_turns := f_check_turns, d_check_turns := PySem.W.fnOf "check_turns" "check_turns" (defArgs s_check_turns) (defBody s_check_turns) (defScope s_check_turns) .none kV_check_turns dc_check_turns pm_check_turns an_check_turns cd_check_turns ct_check_turns, a_check_roots := f_check_roots, d_check_roots := PySem.W.fnOf "check_roots" "check_roots" (defArgs s_check_roots) (defBody s_check_roots) (defScope s_check_roots) .none kV_check_roots dc_check_roots pm_check_roots an_check_roots cd_check_roots ct_check_roots, a_check_time := f_check_time, d_check_time := PySem.W.fnOf "check_time" "check_time" (defArgs s_check_time) (defBody s_check_time) (defScope s_check_time) .none kV_check_time dc_check_time pm_check_time an_check_time cd_check_time ct_check_time, a_Tree_init := f_Tree_init, d_Tree_init := PySem.W.fnOf "__init__" "Tree.__init__" (defArgs s_Tree_init) (defBody s_Tree_init) (defScope s_Tree_init) .none kV_Tree_init dc_Tree_init pm_Tree_init an_Tree_init cd_Tree_init ct_Tree_init, a_Tree_sum_occurs := f_Tree_sum_occurs, d_Tree_sum_occurs := PySem.W.fnOf "sum_occurs" "Tree.sum_occurs" (defArgs s_Tree_sum_occurs) (defBody s_Tree_sum_occurs) (defScope s_Tree_sum_occurs) .none kV_Tree_sum_occurs dc_Tree_sum_occurs pm_Tree_sum_occurs an_Tree_sum_occurs cd_Tree_sum_occurs ct_Tree_sum_occurs, a_names_in_order := f_names_in_order, d_names_in_order := PySem.W.fnOf "names_in_order" "names_in_order" (defArgs s_names_in_order) (defBody s_names_in_order) (defScope s_names_in_order) .none kV_names_in_order dc_names_in_order pm_names_in_order an_names_in_order cd_names_in_order ct_names_in_order, a_names_until := f_names_until, d_names_until := PySem.W.fnOf "names_until" "names_until" (defArgs s_names_until) (defBody s_names_until) (defScope s_names_until) .none (.ref D_names_until) dc_names_until pm_names_until an_names_until cd_names_until ct_names_until, t_names_until_roots := t_names_until_roots, a_Machine_init := f_Machine_init, d_Machine_init := PySem.W.fnOf "__init__" "Machine.__init__" (defArgs s_Machine_init) (defBody s_Machine_init) (defScope s_Machine_init) .none kV_Machine_init dc_Machine_init pm_Machine_init an_Machine_init cd_Machine_init ct_Machine_init, a__law_source := f__law_source, d__law_source := PySem.W.fnOf "_law_source" "_law_source" (defArgs s__law_source) (defBody s__law_source) (defScope s__law_source) .none kV__law_source dc__law_source pm__law_source an__law_source cd__law_source ct__law_source, a__law_draw := f__law_draw, d__law_draw := PySem.W.fnOf "_law_draw" "_law_draw" (defArgs s__law_draw) (defBody s__law_draw) (defScope s__law_draw) .none kV__law_draw dc__law_draw pm__law_draw an__law_draw cd__law_draw ct__law_draw, a__law_big := f__law_big, d__law_big := PySem.W.fnOf "_law_big" "_law_big" (defArgs s__law_big) (defBody s__law_big) (defScope s__law_big) .none kV__law_big dc__law_big pm__law_big an__law_big cd__law_big ct__law_big, a__law_numbers := f__law_numbers, d__law_numbers := PySem.W.fnOf "_law_numbers" "_law_numbers" (defArgs s__law_numbers) (defBody s__law_numbers) (defScope s__law_numbers) .none kV__law_numbers dc__law_numbers pm__law_numbers an__law_numbers cd__law_numbers ct__law_numbers, a__law_times := f__law_times, d__law_times := PySem.W.fnOf "_law_times" "_law_times" (defArgs s__law_times) (defBody s__law_times) (defScope s__law_times) .none kV__law_times dc__law_times pm__law_times an__law_times cd__law_times ct__law_times, a__law_is := f__law_is, d__law_is := PySem.W.fnOf "_law_is" "_law_is" (defArgs s__law_is) (defBody s__law_is) (defScope s__law_is) .none kV__law_is dc__law_is pm__law_is an__law_is cd__law_is ct__law_is, a__law_same_names := f__law_same_names, d__law_same_names := PySem.W.fnOf "_law_same_names" "_law_same_names" (defArgs s__law_same_names) (defBody s__law_same_names) (defScope s__law_same_names) .none kV__law_same_names dc__law_same_names pm__law_same_names an__law_same_names cd__law_same_names ct__law_same_names, a__law_first := f__law_first, d__law_first := PySem.W.fnOf "_law_first" "_law_first" (defArgs s__law_first) (defBody s__law_first) (defScope s__law_first) .none kV__law_first dc__law_first pm__law_first an__law_first cd__law_first ct__law_first, a__law_told := f__law_told, d__law_told := PySem.W.fnOf "_law_told" "_law_told" (defArgs s__law_told) (defBody s__law_told) (defScope s__law_told) .none kV__law_told dc__law_told pm__law_told an__law_told cd__law_told ct__law_told, a_law := fa, d_law := PySem.W.fnOf "law" "law" (defArgs s_law) (defBody s_law) (defScope s_law) .none kV_law dc_law pm_law an_law cd_law ct_law, c_Tree := c_Tree, c_Machine := c_Machine, c_LimitExceeded := c_LimitExceeded, i_LimitExceeded := i_LimitExceeded }
  have F_is_integer := fun_mk (st := s_is_integer) H_l_is_integer H_c_is_integer H_k_is_integer
  have F_is_between := fun_mk (st := s_is_between) H_l_is_between H_c_is_between H_k_is_between
  have F_check_turns := fun_mk (st := s_check_turns) H_l_check_turns H_c_check_turns H_k_check_turns
  have F_check_roots := fun_mk (st := s_check_roots) H_l_check_roots H_c_check_roots H_k_check_roots
  have F_check_time := fun_mk (st := s_check_time) H_l_check_time H_c_check_time H_k_check_time
  have F_Tree_init := fun_mk (st := s_Tree_init) H_l_Tree_init H_c_Tree_init H_k_Tree_init
  have F_Tree_sum_occurs := fun_mk (st := s_Tree_sum_occurs) H_l_Tree_sum_occurs H_c_Tree_sum_occurs H_k_Tree_sum_occurs
  have F_names_in_order := fun_mk (st := s_names_in_order) H_l_names_in_order H_c_names_in_order H_k_names_in_order
  have F_names_until : FunD K "names_until" "names_until" (defArgs s_names_until) (defBody s_names_until) (defScope s_names_until) [] [("turns", .non), ("roots", .ref t_names_until_roots)] f_names_until (PySem.W.fnOf "names_until" "names_until" (defArgs s_names_until) (defBody s_names_until) (defScope s_names_until) .none (.ref D_names_until) dc_names_until pm_names_until an_names_until cd_names_until ct_names_until) :=
    ⟨⟨_, _, .none, .ref D_names_until, _, _, _, _, _, _, rfl, H_l_names_until, H_c_names_until, .inl ⟨rfl, rfl⟩, .inr ⟨D_names_until, rfl, fun q hq => by
      simp only [List.mem_cons, List.not_mem_nil, or_false] at hq
      rcases hq with rfl | rfl
      · exact ⟨.none, H_kw_names_until_turns, rfl⟩
      · exact ⟨.ref t_names_until_roots, H_kw_names_until_roots, rfl⟩
      ⟩⟩, H_k_names_until⟩
  have F_Machine_init := fun_mk (st := s_Machine_init) H_l_Machine_init H_c_Machine_init H_k_Machine_init
  have F__law_source := fun_mk (st := s__law_source) H_l__law_source H_c__law_source H_k__law_source
  have F__law_draw := fun_mk (st := s__law_draw) H_l__law_draw H_c__law_draw H_k__law_draw
  have F__law_big := fun_mk (st := s__law_big) H_l__law_big H_c__law_big H_k__law_big
  have F__law_numbers := fun_mk (st := s__law_numbers) H_l__law_numbers H_c__law_numbers H_k__law_numbers
  have F__law_times := fun_mk (st := s__law_times) H_l__law_times H_c__law_times H_k__law_times
  have F__law_is := fun_mk (st := s__law_is) H_l__law_is H_c__law_is H_k__law_is
  have F__law_same_names := fun_mk (st := s__law_same_names) H_l__law_same_names H_c__law_same_names H_k__law_same_names
  have F__law_first := fun_mk (st := s__law_first) H_l__law_first H_c__law_first H_k__law_first
  have F__law_told := fun_mk (st := s__law_told) H_l__law_told H_c__law_told H_k__law_told
  have F_law := fun_mk (st := s_law) H_l_law H_c_law H_k_law
  have T : Txt K mg a := {
    F_is_integer := F_is_integer,
    b_is_integer := F_is_integer.binds (ps := ["thing"]) fun _ _ _ _ _ _ us hl => match us, hl with | [_], _ => rfl,
    g_is_integer := PySem.W.mg_of X G H_a_is_integer,
    F_is_between := F_is_between,
    b_is_between := F_is_between.binds (ps := ["thing", "low", "high"]) fun _ _ _ _ _ _ us hl => match us, hl with | [_, _, _], _ => rfl,
    g_is_between := PySem.W.mg_of X G H_a_is_between,
    F_check_turns := F_check_turns,
    b_check_turns := F_check_turns.binds (ps := ["turns"]) fun _ _ _ _ _ _ us hl => match us, hl with | [_], _ => rfl,
    g_check_turns := PySem.W.mg_of X G H_a_check_turns,
    F_check_roots := F_check_roots,
    b_check_roots := F_check_roots.binds (ps := ["roots"]) fun _ _ _ _ _ _ us hl => match us, hl with | [_], _ => rfl,
    g_check_roots := PySem.W.mg_of X G H_a_check_roots,
    F_check_time := F_check_time,
    b_check_time := F_check_time.binds (ps := ["time", "latest"]) fun _ _ _ _ _ _ us hl => match us, hl with | [_, _], _ => rfl,
    g_check_time := PySem.W.mg_of X G H_a_check_time,
    F_Tree_init := F_Tree_init,
    b_Tree_init := F_Tree_init.binds (ps := ["self", "machine", "turns", "roots"]) fun _ _ _ _ _ _ us hl => match us, hl with | [_, _, _, _], _ => rfl,
    mk_Tree := ⟨H_mk_Tree, H_a_Tree_init, H_i_Tree_init, H_kc_Tree⟩,
    F_Tree_sum_occurs := F_Tree_sum_occurs,
    b_Tree_sum_occurs := F_Tree_sum_occurs.binds (ps := ["self", "k", "worth"]) fun _ _ _ _ _ _ us hl => match us, hl with | [_, _, _], _ => rfl,
    m_Tree_sum_occurs := ⟨H_a_Tree_sum_occurs, H_i_Tree_sum_occurs, H_k_Tree_sum_occurs⟩,
    F_names_in_order := F_names_in_order,
    b_names_in_order := F_names_in_order.binds (ps := ["tree", "most", "until"]) fun _ _ _ _ _ _ us hl => match us, hl with | [_, _, _], _ => rfl,
    g_names_in_order := PySem.W.mg_of X G H_a_names_in_order,
    F_names_until := F_names_until,
    t_names_until_roots := fun _ => .inr ⟨_, _, _, H_tp_names_until_roots, rfl, rfl, (by show 1 ≤ sizeLine; decide), .cons ⟨_, rfl⟩ (.nil)⟩,
    g_names_until := PySem.W.mg_of X G H_a_names_until,
    F_Machine_init := F_Machine_init,
    b_Machine_init := F_Machine_init.binds (ps := ["self", "o", "l", "g"]) fun _ _ _ _ _ _ us hl => match us, hl with | [_, _, _, _], _ => rfl,
    mk_Machine := ⟨H_mk_Machine, H_a_Machine_init, H_i_Machine_init, H_kc_Machine⟩,
    F__law_source := F__law_source,
    b__law_source := F__law_source.binds (ps := ["_law_script"]) fun _ _ _ _ _ _ us hl => match us, hl with | [_], _ => rfl,
    g__law_source := PySem.W.mg_of X G H_a__law_source,
    F__law_draw := F__law_draw,
    b__law_draw := F__law_draw.binds (ps := ["_law_source_here", "_law_limit"]) fun _ _ _ _ _ _ us hl => match us, hl with | [_, _], _ => rfl,
    g__law_draw := PySem.W.mg_of X G H_a__law_draw,
    F__law_big := F__law_big,
    b__law_big := F__law_big.binds (ps := ["_law_source_here", "_law_limit"]) fun _ _ _ _ _ _ us hl => match us, hl with | [_, _], _ => rfl,
    g__law_big := PySem.W.mg_of X G H_a__law_big,
    F__law_numbers := F__law_numbers,
    b__law_numbers := F__law_numbers.binds (ps := ["_law_source_here"]) fun _ _ _ _ _ _ us hl => match us, hl with | [_], _ => rfl,
    g__law_numbers := PySem.W.mg_of X G H_a__law_numbers,
    F__law_times := F__law_times,
    b__law_times := F__law_times.binds (ps := ["_law_numbers_here"]) fun _ _ _ _ _ _ us hl => match us, hl with | [_], _ => rfl,
    g__law_times := PySem.W.mg_of X G H_a__law_times,
    F__law_is := F__law_is,
    b__law_is := F__law_is.binds (ps := ["_law_thing", "_law_due"]) fun _ _ _ _ _ _ us hl => match us, hl with | [_, _], _ => rfl,
    g__law_is := PySem.W.mg_of X G H_a__law_is,
    F__law_same_names := F__law_same_names,
    b__law_same_names := F__law_same_names.binds (ps := ["_law_thing", "_law_due"]) fun _ _ _ _ _ _ us hl => match us, hl with | [_, _], _ => rfl,
    g__law_same_names := PySem.W.mg_of X G H_a__law_same_names,
    F__law_first := F__law_first,
    b__law_first := F__law_first.binds (ps := ["_law_letter", "_law_gap", "_law_turns", "_law_roots", "_law_many", "_law_end"]) fun _ _ _ _ _ _ us hl => match us, hl with | [_, _, _, _, _, _], _ => rfl,
    g__law_first := PySem.W.mg_of X G H_a__law_first,
    F__law_told := F__law_told,
    b__law_told := F__law_told.binds (ps := ["_law_machine", "_law_t", "_law_turns", "_law_roots"]) fun _ _ _ _ _ _ us hl => match us, hl with | [_, _, _, _], _ => rfl,
    g__law_told := PySem.W.mg_of X G H_a__law_told,
    F_law := F_law,
    b_law := F_law.binds (ps := ["_law_script"]) fun _ _ _ _ _ _ us hl => match us, hl with | [_], _ => rfl,
    g_law := PySem.W.mg_of X G H_a_law,
    g_Tree := PySem.W.mg_of X G H_g_Tree,
    cl_Tree := ⟨H_pg_Tree, H_hd_Tree, H_po_Tree, H_sa_Tree⟩,
    nF_Tree_letter := H_nF_Tree_letter,
    nF_Tree_gap := H_nF_Tree_gap,
    nF_Tree_turns := H_nF_Tree_turns,
    nF_Tree_roots := H_nF_Tree_roots,
    nF_Tree_horizon := H_nF_Tree_horizon,
    nF_Tree_powers := H_nF_Tree_powers,
    g_Machine := PySem.W.mg_of X G H_g_Machine,
    cl_Machine := ⟨H_pg_Machine, H_hd_Machine, H_po_Machine, H_sa_Machine⟩,
    nF_Machine_o := H_nF_Machine_o,
    nF_Machine_l := H_nF_Machine_l,
    nF_Machine_g := H_nF_Machine_g,
    nF_Machine_letter := H_nF_Machine_letter,
    nF_Machine_gap := H_nF_Machine_gap,
    n_bool := PySem.W.mg_none_of X G H_n_bool,
    n_enumerate := PySem.W.mg_none_of X G H_n_enumerate,
    n_int := PySem.W.mg_none_of X G H_n_int,
    n_isinstance := PySem.W.mg_none_of X G H_n_isinstance,
    n_len := PySem.W.mg_none_of X G H_n_len,
    n_list := PySem.W.mg_none_of X G H_n_list,
    n_max := PySem.W.mg_none_of X G H_n_max,
    n_min := PySem.W.mg_none_of X G H_n_min,
    n_range := PySem.W.mg_none_of X G H_n_range,
    n_sorted := PySem.W.mg_none_of X G H_n_sorted,
    n_tuple := PySem.W.mg_none_of X G H_n_tuple,
    g_MOST_TURNS := ⟨_, PySem.W.mg_of X G H_x_MOST_TURNS⟩,
    g_MOST_ROOTS := ⟨_, PySem.W.mg_of X G H_x_MOST_ROOTS⟩,
    g_LATEST_ROOT := ⟨_, PySem.W.mg_of X G H_x_LATEST_ROOT⟩,
    g_FREE_DEPTHS := ⟨_, PySem.W.mg_of X G H_x_FREE_DEPTHS⟩,
    g_TURNS_DEPTHS := ⟨_, PySem.W.mg_of X G H_x_TURNS_DEPTHS⟩,
    g_MOST_UNTIL := ⟨_, PySem.W.mg_of X G H_x_MOST_UNTIL⟩,
    g_GREATEST_PART := ⟨_, PySem.W.mg_of X G H_x_GREATEST_PART⟩,
    g_heappush := PySem.W.mg_of X G H_heappush,
    g_heappop := PySem.W.mg_of X G H_heappop,
    g_LimitExceeded := PySem.W.mg_of X G H_g_LimitExceeded,
    x_LimitExceeded := ⟨PySem.W.mg_of X G H_g_LimitExceeded, ⟨⟨_, _, _, _, _, _, _, _, _, _, _, _, _, _, _, H_l_LimitExceeded, PySem.MyX.exT _⟩, H_sa_LimitExceeded, H_ga_LimitExceeded, H_gg_LimitExceeded, H_no_LimitExceeded, H_in_LimitExceeded, H_ti_LimitExceeded, H_k_LimitExceeded, H_e_LimitExceeded, H_t_LimitExceeded, H_hd_LimitExceeded⟩, ⟨_, _, _, _, _, _, _, _, _, _, _, _, _, _, H_lf_LimitExceeded, H_cf_LimitExceeded⟩⟩,
    m_LimitExceeded := exm_self H_e_LimitExceeded H_I_LimitExceeded H_t_LimitExceeded H_S_LimitExceeded,
    ns_LimitExceeded := H_ns_LimitExceeded }
  exact ⟨a.d_law, fun s v => .of_eq rfl, fun base _ _ => ok_law T⟩
theorem walk {l : PySem.W.OpenLaw} {q : Program} {loose : List Str} {XP : (Str → Option Value) → Heap → Prop} {YP : World → Heap → Prop} {d : DefRec} {K : Params → PySem.W.Frag} (hn : l.most = some 63) (hdf : d.params.defaults = [])
    (hY : ∀ (w : World) (h : Heap), YP w h → (K w.params).In h)
    (F : ∀ (w : World) (mg : Str → Option Value) (fa : Addr) (h : Heap), (K w.params).In h → h.Ns mainGlobals mg → mg d.name = some (.ref fa) →
      ∃ fd : FuncData, (∀ (s : Shared) (u : Value), BindsTo s fd ⟨[u], []⟩ [("_law_script", u)]) ∧ ∀ base : Heap, (K w.params).In base → base.Ns mainGlobals mg → FnOk l.prog w (K w.params) mg base CX0 13 fa fd ["_law_script"] (spLaw (K w.params))) :
    PySem.W.WalkO q loose XP YP l.row.toRowW d [] (fun f vs => PySem.call f vs) :=
  L2.walk_of (n := 63) (k := 13) (x := "_law_script") (CX := fun _ => CX0) (sp := fun w => spLaw (K w.params)) hn (by decide) hdf ⟨rfl, by decide, by decide⟩ hY F (fun _ _ a ns hl _ hS => ⟨a, ns, rfl, hS, hl, fun _ => rfl⟩) fun _ _ _ _ _ z => z
end My
open PySem PySem.W PyProof.Rows
set_option maxRecDepth 100000 in
set_option maxHeartbeats 0 in
theorem PySem.Challenge.cw_tellontree_k16_names_until_a_time_holds : PySem.Challenge.rw_tellontree_k16_names_until_a_time.Holds := by
  w_on; o_law; k_head; (case hw => w_witness2)
  k_fill
  refine My.walk (l := PySem.Challenge.rw_tellontree_k16_names_until_a_time) rfl rfl (fun w h Y => PySem.W.kIn_of Y) ?F
  case F =>
    intro w mg fa h KX G hmg
    refine' My.all_mk KX G hmg ?H_g_Machine ?H_g_Tree ?H_a_is_integer ?H_l_is_integer ?H_c_is_integer ?H_k_is_integer ?H_a_is_between ?H_l_is_between ?H_c_is_between ?H_k_is_between ?H_a_check_turns ?H_l_check_turns ?H_c_check_turns ?H_k_check_turns ?H_a_check_roots ?H_l_check_roots ?H_c_check_roots ?H_k_check_roots ?H_a_check_time ?H_l_check_time ?H_c_check_time ?H_k_check_time ?H_a_Tree_init ?H_i_Tree_init ?H_l_Tree_init ?H_c_Tree_init ?H_k_Tree_init ?H_a_Tree_sum_occurs ?H_i_Tree_sum_occurs ?H_l_Tree_sum_occurs ?H_c_Tree_sum_occurs ?H_k_Tree_sum_occurs ?H_a_names_in_order ?H_l_names_in_order ?H_c_names_in_order ?H_k_names_in_order ?H_a_names_until ?H_l_names_until ?H_kw_names_until_turns ?H_kw_names_until_roots ?H_tp_names_until_roots ?H_c_names_until ?H_k_names_until ?H_a_Machine_init ?H_i_Machine_init ?H_l_Machine_init ?H_c_Machine_init ?H_k_Machine_init ?H_a__law_source ?H_l__law_source ?H_c__law_source ?H_k__law_source ?H_a__law_draw ?H_l__law_draw ?H_c__law_draw ?H_k__law_draw ?H_a__law_big ?H_l__law_big ?H_c__law_big ?H_k__law_big ?H_a__law_numbers ?H_l__law_numbers ?H_c__law_numbers ?H_k__law_numbers ?H_a__law_times ?H_l__law_times ?H_c__law_times ?H_k__law_times ?H_a__law_is ?H_l__law_is ?H_c__law_is ?H_k__law_is ?H_a__law_same_names ?H_l__law_same_names ?H_c__law_same_names ?H_k__law_same_names ?H_a__law_first ?H_l__law_first ?H_c__law_first ?H_k__law_first ?H_a__law_told ?H_l__law_told ?H_c__law_told ?H_k__law_told ?H_a_law ?H_l_law ?H_c_law ?H_k_law ?H_pg_Tree ?H_hd_Tree ?H_po_Tree ?H_sa_Tree ?H_mk_Tree ?H_kc_Tree ?H_nF_Tree_letter ?H_nF_Tree_gap ?H_nF_Tree_turns ?H_nF_Tree_roots ?H_nF_Tree_horizon ?H_nF_Tree_powers ?H_pg_Machine ?H_hd_Machine ?H_po_Machine ?H_sa_Machine ?H_mk_Machine ?H_kc_Machine ?H_nF_Machine_o ?H_nF_Machine_l ?H_nF_Machine_g ?H_nF_Machine_letter ?H_nF_Machine_gap ?H_g_LimitExceeded ?H_k_LimitExceeded ?H_e_LimitExceeded ?H_t_LimitExceeded ?H_I_LimitExceeded ?H_S_LimitExceeded ?H_l_LimitExceeded ?H_sa_LimitExceeded ?H_ga_LimitExceeded ?H_gg_LimitExceeded ?H_no_LimitExceeded ?H_in_LimitExceeded ?H_ti_LimitExceeded ?H_hd_LimitExceeded ?H_lf_LimitExceeded ?H_cf_LimitExceeded ?H_ns_LimitExceeded ?H_n_bool ?H_n_enumerate ?H_n_int ?H_n_isinstance ?H_n_len ?H_n_list ?H_n_max ?H_n_min ?H_n_range ?H_n_sorted ?H_n_tuple ?H_x_MOST_TURNS ?H_x_MOST_ROOTS ?H_x_LATEST_ROOT ?H_x_FREE_DEPTHS ?H_x_TURNS_DEPTHS ?H_x_MOST_UNTIL ?H_x_GREATEST_PART ?H_heappush ?H_heappop
    (case H_g_Machine => k_is)
    (case H_g_Tree => k_is)
    (case H_a_is_integer => k_is)
    (case H_l_is_integer => k_is)
    (case H_c_is_integer => k_is)
    (case H_k_is_integer => k_is)
    (case H_a_is_between => k_is)
    (case H_l_is_between => k_is)
    (case H_c_is_between => k_is)
    (case H_k_is_between => k_is)
    (case H_a_check_turns => k_is)
    (case H_l_check_turns => k_is)
    (case H_c_check_turns => k_is)
    (case H_k_check_turns => k_is)
    (case H_a_check_roots => k_is)
    (case H_l_check_roots => k_is)
    (case H_c_check_roots => k_is)
    (case H_k_check_roots => k_is)
    (case H_a_check_time => k_is)
    (case H_l_check_time => k_is)
    (case H_c_check_time => k_is)
    (case H_k_check_time => k_is)
    (case H_a_Tree_init => k_is)
    (case H_i_Tree_init => k_is)
    (case H_l_Tree_init => k_is)
    (case H_c_Tree_init => k_is)
    (case H_k_Tree_init => k_is)
    (case H_a_Tree_sum_occurs => k_is)
    (case H_i_Tree_sum_occurs => k_is)
    (case H_l_Tree_sum_occurs => k_is)
    (case H_c_Tree_sum_occurs => k_is)
    (case H_k_Tree_sum_occurs => k_is)
    (case H_a_names_in_order => k_is)
    (case H_l_names_in_order => k_is)
    (case H_c_names_in_order => k_is)
    (case H_k_names_in_order => k_is)
    (case H_a_names_until => k_is)
    (case H_l_names_until => k_is)
    (case H_kw_names_until_turns => k_is)
    (case H_kw_names_until_roots => k_is)
    (case H_tp_names_until_roots => k_is)
    (case H_c_names_until => k_is)
    (case H_k_names_until => k_is)
    (case H_a_Machine_init => k_is)
    (case H_i_Machine_init => k_is)
    (case H_l_Machine_init => k_is)
    (case H_c_Machine_init => k_is)
    (case H_k_Machine_init => k_is)
    (case H_a__law_source => k_is)
    (case H_l__law_source => k_is)
    (case H_c__law_source => k_is)
    (case H_k__law_source => k_is)
    (case H_a__law_draw => k_is)
    (case H_l__law_draw => k_is)
    (case H_c__law_draw => k_is)
    (case H_k__law_draw => k_is)
    (case H_a__law_big => k_is)
    (case H_l__law_big => k_is)
    (case H_c__law_big => k_is)
    (case H_k__law_big => k_is)
    (case H_a__law_numbers => k_is)
    (case H_l__law_numbers => k_is)
    (case H_c__law_numbers => k_is)
    (case H_k__law_numbers => k_is)
    (case H_a__law_times => k_is)
    (case H_l__law_times => k_is)
    (case H_c__law_times => k_is)
    (case H_k__law_times => k_is)
    (case H_a__law_is => k_is)
    (case H_l__law_is => k_is)
    (case H_c__law_is => k_is)
    (case H_k__law_is => k_is)
    (case H_a__law_same_names => k_is)
    (case H_l__law_same_names => k_is)
    (case H_c__law_same_names => k_is)
    (case H_k__law_same_names => k_is)
    (case H_a__law_first => k_is)
    (case H_l__law_first => k_is)
    (case H_c__law_first => k_is)
    (case H_k__law_first => k_is)
    (case H_a__law_told => k_is)
    (case H_l__law_told => k_is)
    (case H_c__law_told => k_is)
    (case H_k__law_told => k_is)
    (case H_a_law => k_is)
    (case H_l_law => k_is)
    (case H_c_law => k_is)
    (case H_k_law => k_is)
    (case H_pg_Tree => k_is)
    (case H_hd_Tree => k_is)
    (case H_po_Tree => k_is)
    (case H_sa_Tree => k_is)
    (case H_mk_Tree => k_is)
    (case H_kc_Tree => k_is)
    (case H_nF_Tree_letter => k_is)
    (case H_nF_Tree_gap => k_is)
    (case H_nF_Tree_turns => k_is)
    (case H_nF_Tree_roots => k_is)
    (case H_nF_Tree_horizon => k_is)
    (case H_nF_Tree_powers => k_is)
    (case H_pg_Machine => k_is)
    (case H_hd_Machine => k_is)
    (case H_po_Machine => k_is)
    (case H_sa_Machine => k_is)
    (case H_mk_Machine => k_is)
    (case H_kc_Machine => k_is)
    (case H_nF_Machine_o => k_is)
    (case H_nF_Machine_l => k_is)
    (case H_nF_Machine_g => k_is)
    (case H_nF_Machine_letter => k_is)
    (case H_nF_Machine_gap => k_is)
    (case H_g_LimitExceeded => k_is)
    (case H_k_LimitExceeded => k_is)
    (case H_e_LimitExceeded => k_is)
    (case H_t_LimitExceeded => k_is)
    (case H_I_LimitExceeded => k_is)
    (case H_S_LimitExceeded => k_is)
    (case H_l_LimitExceeded => k_is)
    (case H_sa_LimitExceeded => k_is)
    (case H_ga_LimitExceeded => k_is)
    (case H_gg_LimitExceeded => k_is)
    (case H_no_LimitExceeded => k_is)
    (case H_in_LimitExceeded => k_is)
    (case H_ti_LimitExceeded => k_is)
    (case H_hd_LimitExceeded => k_is)
    (case H_lf_LimitExceeded => k_is)
    (case H_cf_LimitExceeded => k_is)
    (case H_ns_LimitExceeded => k_is)
    (case H_n_bool => k_is)
    (case H_n_enumerate => k_is)
    (case H_n_int => k_is)
    (case H_n_isinstance => k_is)
    (case H_n_len => k_is)
    (case H_n_list => k_is)
    (case H_n_max => k_is)
    (case H_n_min => k_is)
    (case H_n_range => k_is)
    (case H_n_sorted => k_is)
    (case H_n_tuple => k_is)
    (case H_x_MOST_TURNS => k_is)
    (case H_x_MOST_ROOTS => k_is)
    (case H_x_LATEST_ROOT => k_is)
    (case H_x_FREE_DEPTHS => k_is)
    (case H_x_TURNS_DEPTHS => k_is)
    (case H_x_MOST_UNTIL => k_is)
    (case H_x_GREATEST_PART => k_is)
    (case H_heappush => k_is)
    (case H_heappop => k_is)
