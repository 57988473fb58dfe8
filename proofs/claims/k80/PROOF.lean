import PyProof.Rows.All
import Wide.All
import OpenK.AllK
import Wide.FinOn
import HandS.Base
import HandS.Call
import HandS.List
import HandS.Comp
import HandS.Iter
import HandS.Ends
import HandS.Words
import HandS.WordsList
import HandS.IsInst
import HandS.Wide
import HandS.Style
import HandS.ClsMeth
import HandS.Defaults
import HandS.MakeKwOnly
import HandS.SlotsOwn
import HandS.Dict
import HandS.Gcd
import HandS.Exc
import HandS.ExcOwn
import HandS.TryOnly
import HandS.TryMany
import HandS.ExcField
import HandS.WordsExc
import KE.KExcInit
import HandS.SetFor
import KE.KMathGC
import KE.GoesMore
import HandS.Small
import KE.DataMinMax
import KE.DatumOrd
import PySem.Challenge.RW_tellontree_k80_whole_sums_by_all_schedul
set_option Elab.async false
set_option linter.all false
set_option maxRecDepth 100000
namespace My
open PySem L2
def top (i : Nat) : Stmt := PySem.Challenge.pw_tellontree_k80_whole_sums_by_all_schedul.main.body.getD i (.Pass ⟨0, 0, 0, 0⟩)
abbrev s_is_integer : Stmt := top 8
theorem sc_is_integer : FnScope ["thing"] ["thing"] (defScope s_is_integer) := ⟨rfl, rfl, rfl, by decide +kernel, rfl, by decide +kernel, by decide +kernel⟩
abbrev s_is_between : Stmt := top 9
theorem sc_is_between : FnScope ["thing", "low", "high"] ["thing", "low", "high"] (defScope s_is_between) := ⟨rfl, rfl, rfl, by decide +kernel, rfl, by decide +kernel, by decide +kernel⟩
abbrev s_check_count : Stmt := top 10
theorem sc_check_count : FnScope ["count", "low", "high"] ["count", "low", "high"] (defScope s_check_count) := ⟨rfl, rfl, rfl, by decide +kernel, rfl, by decide +kernel, by decide +kernel⟩
abbrev s_check_time : Stmt := top 11
theorem sc_check_time : FnScope ["time", "latest"] ["time", "latest"] (defScope s_check_time) := ⟨rfl, rfl, rfl, by decide +kernel, rfl, by decide +kernel, by decide +kernel⟩
abbrev s_Machine_init : Stmt := inClass (top 14) 0
theorem sc_Machine_init : FnScope ["self", "o", "l", "g"] ["self", "o", "l", "g"] (defScope s_Machine_init) := ⟨rfl, rfl, rfl, by decide +kernel, rfl, by decide +kernel, by decide +kernel⟩
abbrev s_slow_tree : Stmt := top 17
theorem sc_slow_tree : FnScope ["machine", "n", "letter", "gap", "waiting", "told", "known", "sender"] ["machine", "n"] (defScope s_slow_tree) := ⟨rfl, rfl, rfl, by decide +kernel, rfl, by decide +kernel, by decide +kernel⟩
abbrev s_greatest_sum : Stmt := top 18
theorem sc_greatest_sum : FnScope ["machine", "n", "time", "known", "_"] ["machine", "n", "time"] (defScope s_greatest_sum) := ⟨rfl, rfl, rfl, by decide +kernel, rfl, by decide +kernel, by decide +kernel⟩
abbrev s_most_summed : Stmt := top 19
theorem sc_most_summed : FnScope ["machine", "n", "time"] ["machine", "n", "time"] (defScope s_most_summed) := ⟨rfl, rfl, rfl, by decide +kernel, rfl, by decide +kernel, by decide +kernel⟩
abbrev s__law_source : Stmt := top 21
theorem sc__law_source : FnScope ["_law_script", "_law_cell"] ["_law_script"] (defScope s__law_source) := ⟨rfl, rfl, rfl, by decide +kernel, rfl, by decide +kernel, by decide +kernel⟩
abbrev s__law_draw : Stmt := top 22
theorem sc__law_draw : FnScope ["_law_source_here", "_law_limit", "_law_cell", "_law_digit", "_law_one", "_law_two", "_law_three"] ["_law_source_here", "_law_limit"] (defScope s__law_draw) := ⟨rfl, rfl, rfl, by decide +kernel, rfl, by decide +kernel, by decide +kernel⟩
abbrev s__law_small : Stmt := top 23
theorem sc__law_small : FnScope ["_law_source_here", "_law_o", "_law_l", "_law_g"] ["_law_source_here"] (defScope s__law_small) := ⟨rfl, rfl, rfl, by decide +kernel, rfl, by decide +kernel, by decide +kernel⟩
abbrev s__law_is : Stmt := top 24
theorem sc__law_is : FnScope ["_law_thing", "_law_due"] ["_law_thing", "_law_due"] (defScope s__law_is) := ⟨rfl, rfl, rfl, by decide +kernel, rfl, by decide +kernel, by decide +kernel⟩
abbrev s__law_best : Stmt := top 25
theorem sc__law_best : FnScope ["_law_numbers", "_law_end", "_law_hands", "_law_table", "_law_key"] ["_law_numbers", "_law_end", "_law_hands", "_law_table"] (defScope s__law_best) := ⟨rfl, rfl, rfl, by decide +kernel, rfl, by decide +kernel, by decide +kernel⟩
abbrev s__law_letters : Stmt := top 26
theorem sc__law_letters : FnScope ["_law_numbers", "_law_end", "_law_left", "_law_later", "_law_before", "_law_table", "_law_o", "_law_l", "_law_g", "_law_best_here", "_law_last", "_law_time", "_law_hands", "_law_more"] ["_law_numbers", "_law_end", "_law_left", "_law_later", "_law_before", "_law_table"] (defScope s__law_letters) := ⟨rfl, rfl, rfl, by decide +kernel, rfl, by decide +kernel, by decide +kernel⟩
abbrev s_law : Stmt := top 27
theorem sc_law : FnScope ["_law_script", "_law_source_here", "_law_turn", "_law_numbers", "_law_time", "_law_machine", "_law_table", "_law_n"] ["_law_script"] (defScope s_law) := ⟨rfl, rfl, rfl, by decide +kernel, rfl, by decide +kernel, by decide +kernel⟩
/-! ### core: rules that the layer lacks, what a draw's source is -/
section
variable {X : Cx}
/-- xs[i], read ahead of xs[i] op= e -/
theorem gt_list : PGet X (rIxL X.K) := by
  intro pins s σ H x y v u Q I rx ry h
  obtain ⟨p, xs, i, z, rfl, rfl, hq, he, q⟩ := h
  cases rx
  obtain ⟨t, rfl⟩ := ry
  obtain ⟨its, r, pl, hz⟩ := I.list hq
  obtain ⟨j, h1, h2, h3, h4, h5⟩ := atI_get he
  obtain ⟨w, ew, rw'⟩ := r.get h2
  have hl := r.length
  have hn := line63
  have fin : EP X pins σ Q w s := ⟨z, H, I, rw', q⟩
  by_cases h0 : 0 ≤ i
  · have hj : i.toNat = j := by
      rw [seqIndex_of h0 h5] at h1
      exact Option.some.inj h1
    exact PySem.wpAny_getItem_list pl.isList h0 (by omega) (by rw [hj]; simpa using ew) fin
  · have hj : (i + (its.toArray.size : Int)).toNat = j := by
      rw [seqIndex_neg (by omega) h4] at h1
      rw [List.size_toArray, ← hl]
      exact Option.some.inj h1
    exact PySem.wpAny_getItem_list_neg pl.isList (by omega) (by rw [List.size_toArray] <;> omega) (by omega) (by rw [hj]; simpa using ew) fin
end
theorem pe_powN {X : Cx} {i j z : Int} {p q pos : Pos} {k l : Nat} (hc : CPow i j) (h : i ^ j.toNat = z) : PE X (.BinOp (.Constant (.int i) k p) .Pow (.Constant (.int j) l q) pos) (tC (.int z)) :=
  ⟨fun pins s σ H Q I g => (pe_op op_pow pe_int pe_int).run pins s σ H Q I ⟨i, j, rfl, rfl, hc, by show Q (.int (i ^ j.toNat)) H; rw [h]; exact g⟩⟩
theorem ite_tt {c A B : Prop} [Decidable c] (hc : c) (h : A) : if decide c = true then A else B := by
  rw [if_pos (decide_eq_true hc)]
  exact h
theorem ite_ff {c A B : Prop} [Decidable c] (hc : ¬ c) (h : B) : if decide c = true then A else B := by
  rw [if_neg (by rw [decide_eq_false hc]; exact Bool.false_ne_true)]
  exact h
theorem ite_d {c A B : Prop} [Decidable c] (h1 : c → A) (h2 : ¬ c → B) : if decide c = true then A else B := by
  by_cases hc : c
  · exact ite_tt hc (h1 hc)
  · exact ite_ff hc (h2 hc)
theorem ite_b {b : Bool} {A B : Prop} (h1 : b = true → A) (h2 : b = false → B) : if b = true then A else B := by
  cases b with
  | true => exact iteT (h1 rfl)
  | false => exact iteF (h2 rfl)
/-! ### readings, turn by turn -/
/-- a new object -/
def NewAt (n : Nat) (o : HO) (H : Hp) (Q : VK) : Prop := n ≤ sizeLine ∧ ∀ p, H p = none → Q (.ref p) (upd H p o)
theorem Same.new {H : Hp} {p : Addr} {o : HO} (h : H p = none) : Same H (upd H p o) := fun b u e => by rw [upd_ne (ne_of_none e h)]; exact e
theorem Same.at {H H' : Hp} {b : Addr} {o : HO} (s : Same H H') (h : H b = some o) : H' b = some o := s b o h
/-- all but what stands at p is as it was -/
def But (p : Addr) (H H' : Hp) : Prop := ∀ b o, H b = some o → b ≠ p → H' b = some o
theorem But.refl (p : Addr) (H : Hp) : But p H H := fun _ _ h _ => h
theorem But.trans {p : Addr} {H H1 H2 : Hp} (a : But p H H1) (b : But p H1 H2) : But p H H2 := fun c o h n => b c o (a c o h n) n
theorem But.of_same {p : Addr} {H H' : Hp} (h : Same H H') : But p H H' := fun b o e _ => h b o e
theorem But.upd {p : Addr} {H : Hp} {o : HO} : But p H (upd H p o) := fun b u h n => by rw [upd_ne n]; exact h
theorem But.at {p b : Addr} {H H' : Hp} {o : HO} (s : But p H H') (n : b ≠ p) (h : H b = some o) : H' b = some o := s b o h n
theorem But.new {p q : Addr} {H : Hp} {o : HO} (h : H q = none) : But p H (L2.upd H q o) := But.of_same (Same.new h)
theorem But.some {p b : Addr} {H H' : Hp} {o : HO} (s : But p H H') (h : H b = Option.some o) (n : b ≠ p) : ∃ u, H' b = Option.some u := ⟨o, s b o h n⟩
theorem _root_.L2.Same.over {H H' : Hp} {D : Addr} {o u : HO} (s : Same H H') (n : H D = none) (e : H' D = some u) (hu : True := trivial) : Same H (upd H' D o) := fun b v h => (upd_ne (ne_of_none h n)).trans (s b v h)
theorem _root_.L2.Same.made0 {H : Hp} {x dx C : Addr} (nx : H x = none) (nd : H dx = none) : Same H (L2.upd (L2.upd H dx (.own x)) x (.ins C dx [])) := fun b o e => by
  rw [upd_ne (ne_of_none e nx), upd_ne (ne_of_none e nd)]; exact e
theorem But.updNone {H H' : Hp} {x L : Addr} {o : HO} (b : But x H H') (n : H L = none) : But x H (L2.upd H' L o) := fun c u hc hn => (upd_ne (ne_of_none hc n)).trans (b c u hc hn)
theorem But.updOver {H H' : Hp} {x L : Addr} {o u : HO} (b : But x H H') (n : H L = none) (e : H' L = Option.some u) : But x H (L2.upd H' L o) := b.updNone n

theorem new_at {n : Nat} {o : HO} {H : Hp} {Q : VK} (hn : n ≤ 1000) (k : ∀ p H', H p = none → Same H H' → H' p = some o → Q (.ref p) H') : NewAt n o H Q :=
  ⟨Nat.le_trans hn (by decide), fun p hp => k p _ hp (Same.new hp) upd_same⟩
theorem new_of {o : HO} {H : Hp} {Q : VK} (k : ∀ p H', H p = none → Same H H' → H' p = some o → Q (.ref p) H') : ∀ p, H p = none → Q (.ref p) (upd H p o) := fun p hp => k p _ hp (Same.new hp) upd_same
section
variable {K : PySem.W.Frag} {σ : St} {H : Hp} {Q : VK} {ta tb tc : TE} {x y v : V} {D : Ends} {t u : TS} {QT : Bool → Hp → Prop} {QA : List V → Hp → Prop} {i j : Int} {n m : Nat}
theorem r_var (e : σ[n]? = some (some v)) (q : Q v H) : tVar n σ H Q := ⟨v, e, q⟩
theorem r_c (q : Q v H) : tC v σ H Q := q
theorem r_op {r : R2} (h : ta σ H fun x H1 => tb σ H1 fun y H2 => r x y H2 Q) : tOp r ta tb σ H Q := h
theorem r_un {r : V → Hp → VK → Prop} (h : ta σ H fun x H1 => r x H1 Q) : tUn r ta σ H Q := h
theorem r_I0 {g : Int → Int → V} (q : Q (g i j) H) : rI0 g (.int i) (.int j) H Q := ⟨i, j, rfl, rfl, q⟩
theorem r_I {C : Int → Int → Prop} {g : Int → Int → V} (c : C i j) (q : Q (g i j) H) : rI C g (.int i) (.int j) H Q := ⟨i, j, rfl, rfl, c, q⟩
theorem r_add (q : Q (.int (i + j)) H) : rAdd (.int i) (.int j) H Q := ⟨i, j, rfl, rfl, q⟩
theorem r_sub (q : Q (.int (i - j)) H) : rSub (.int i) (.int j) H Q := ⟨i, j, rfl, rfl, q⟩
theorem r_U {g : Int → V} (q : Q (g i) H) : rU g (.int i) H Q := ⟨i, rfl, q⟩
theorem r_eqI (q : Q (.bl (decide (i = j))) H) : rEq (.int i) (.int j) H Q := ⟨rfl, by
  have e : decide (V.int i = V.int j) = decide (i = j) := by
    by_cases h : i = j
    · subst h; rw [decide_eq_true rfl, decide_eq_true rfl]
    · rw [decide_eq_false h, decide_eq_false fun z => h (V.int.inj z)]
  rw [e]; exact q⟩
theorem r_neI (q : Q (.bl (!decide (i = j))) H) : rNe (.int i) (.int j) H Q := ⟨rfl, by
  have e : decide (V.int i = V.int j) = decide (i = j) := by
    by_cases h : i = j
    · subst h; rw [decide_eq_true rfl, decide_eq_true rfl]
    · rw [decide_eq_false h, decide_eq_false fun z => h (V.int.inj z)]
  rw [e]; exact q⟩
theorem r_ixL {p : Addr} {xs : List V} (h : H p = some (.lst xs)) (e : atI xs i = some v) (q : Q v H) : rIxL K (.ref p) (.int i) H Q := ⟨p, xs, i, v, rfl, rfl, SqL.of h, e, q⟩
theorem r_ixT {p : Addr} {xs : List V} (h : H p = some (.tup xs)) (e : atI xs i = some v) (q : Q v H) : rIxT K (.ref p) (.int i) H Q := ⟨p, xs, i, v, rfl, rfl, SqT.of h, e, q⟩
theorem r_test (h : ta σ H fun x H' => ∃ k, x = .bl k ∧ QT k H') : tTest ta σ H QT := h
theorem r_tB (h : ta σ H fun x H' => ∃ k, x = .bl k ∧ QT k H') : tB ta σ H QT := h
theorem r_bl {b : Bool} {R : Bool → Prop} (h : R b) : ∃ k, V.bl b = .bl k ∧ R k := ⟨b, rfl, h⟩
theorem r_not {t : TT} (h : t σ H fun c H1 => QT (!c) H1) : tNot t σ H QT := h
theorem r_and {t u : TT} (h : t σ H fun c H1 => if c = true then u σ H1 QT else QT false H1) : tAnd t u σ H QT := h
theorem r_or {t u : TT} (h : t σ H fun c H1 => if c = true then QT true H1 else u σ H1 QT) : tOr t u σ H QT := h
theorem r_notV (h : ta σ H fun x H1 => ∃ c, x = .bl c ∧ Q (.bl (!c)) H1) : tNotV ta σ H Q := h
theorem r_andV (h : ta σ H fun x H1 => ∃ c, x = .bl c ∧ if c = true then tb σ H1 Q else Q (.bl false) H1) : tAndV ta tb σ H Q := h
theorem r_orV (h : ta σ H fun x H1 => ∃ c, x = .bl c ∧ if c = true then Q (.bl true) H1 else tb σ H1 Q) : tOrV ta tb σ H Q := h
theorem r_ifE {t : TT} (h : t σ H fun c H1 => if c = true then ta σ H1 Q else tb σ H1 Q) : tIf t ta tb σ H Q := h
theorem r_seq (h : t { D with nx := u D } σ H) : tSeq t u D σ H := h
theorem r_next (h : D.nx σ H) : tNext D σ H := h
theorem r_brk (h : D.bk σ H) : tBreak D σ H := h
theorem r_cont (h : D.ct σ H) : tCont D σ H := h
theorem r_drop (h : ta σ H fun _ H1 => D.nx σ H1) : tDrop ta D σ H := h
theorem r_ret (h : ta σ H D.rt) : tRet ta D σ H := h
theorem r_ifS {c : TT} (h : c σ H fun b H1 => if b = true then t D σ H1 else u D σ H1) : tIfS c t u D σ H := h
theorem r_asg {g : TG} (h : ta σ H fun x H1 => g x σ H1 D.nx) : tAsg ta g D σ H := h
theorem r_gName {R : St → Hp → Prop} (h : R (σ.set n (some v)) H) : gName n v σ H R := h
theorem r_gSub {s : TSet} {R : St → Hp → Prop} (h : ta σ H fun o H1 => tb σ H1 fun i H2 => s o i v H2 fun H3 => R σ H3) : gSub ta tb s v σ H R := h
theorem r_setL {p : Addr} {xs : List V} {k : Nat} {R : Hp → Prop} (h : H p = some (.lst xs)) (e : ixN xs.length i = some k) (q : R (upd H p (.lst (xs.set k v)))) : rSetL (.ref p) (.int i) v H R := ⟨p, xs, i, k, rfl, rfl, h, e, q⟩
theorem r_aug {ti : TIp} (e : σ[n]? = some (some x)) (h : ta σ H fun y H1 => ti x y H1 fun z H2 => D.nx (σ.set n (some z)) H2) : tAug n ta ti D σ H := ⟨x, e, h⟩
theorem r_augS {tg : V → V → Hp → VK → Prop} {tip : TIp} {ts : TSet} (h : ta σ H fun o H1 => tb σ H1 fun i H2 => tg o i H2 fun x H3 => tc σ H3 fun y H4 => tip x y H4 fun z H5 => ts o i z H5 fun H6 => D.nx σ H6) : tAugS ta tb tc tg tip ts D σ H := h
theorem r_ip {f : Int → Int → Int} (q : Q (.int (f i j)) H) : ipI f (.int i) (.int j) H Q := ⟨i, j, rfl, rfl, q⟩
theorem r_nil (h : QA [] H) : tNil σ H QA := h
theorem r_cons {tr : TA} (h : ta σ H fun x H1 => tr σ H1 fun xs H2 => QA (x :: xs) H2) : tCons ta tr σ H QA := h
theorem r_tup {t : TA} (h : t σ H fun xs H1 => NewAt xs.length (.tup xs) H1 Q) : tTup t σ H Q := h
theorem r_lst {t : TA} (h : t σ H fun xs H1 => NewAt xs.length (.lst xs) H1 Q) : tLst t σ H Q := h
theorem r_CB {r : List V → Hp → VK → Prop} {t : TA} (h : t σ H fun vs H1 => r vs H1 Q) : tCB r t σ H Q := h
theorem r_call {sp : Sp} {dvs : List V} {E : XK} {t : TA} (h : t σ H fun vs H1 => sp (vs ++ dvs) H1 Q E) : tCall sp dvs E t σ H Q := h
theorem r_callN {k l : Nat} {sp : Sp} {gV : List V → List V → List V} {E : XK} {t tk : TA} (h : t σ H fun vs H1 => tk σ H1 fun zs H2 => vs.length = k ∧ zs.length = l ∧ sp (gV vs zs) H2 Q E) : tCallN k l sp gV E t tk σ H Q := h
theorem r_fld {p C dx : Addr} {fs : List (Str × V)} {f : Str} {R : V → Prop} (hc : Cls K C) (hn : NoAttr K C f) (hx : H p = some (.ins C dx fs)) (e : fs.lookup f = some v) (q : R v) : (∃ a C dx fs v, V.ref p = .ref a ∧ H a = some (.ins C dx fs) ∧ Cls K C ∧ NoAttr K C f ∧ fs.lookup f = some v ∧ R v) := ⟨p, C, dx, fs, v, rfl, hx, hc, hn, e, q⟩
theorem r_tFld {f : Str} (h : ta σ H fun x H1 => ∃ a C dx fs v, x = .ref a ∧ H1 a = some (.ins C dx fs) ∧ Cls K C ∧ NoAttr K C f ∧ fs.lookup f = some v ∧ Q v H1) : tFld K ta f σ H Q := h
theorem r_sl {r : V → Option Int → Option Int → Hp → VK → Prop} {tl th : TO} (h : ta σ H fun x H1 => tl σ H1 fun l H2 => th σ H2 fun u H3 => r x l u H3 Q) : tSl r ta tl th σ H Q := h
theorem r_noP {R : Option Int → Hp → Prop} (h : R none H) : tNoPart σ H R := h
theorem r_part {R : Option Int → Hp → Prop} (h : ta σ H fun x H1 => ∃ i, x = .int i ∧ R (some i) H1) : tPart ta σ H R := h
theorem r_in {R : Int → Prop} (h : R i) : ∃ k, V.int i = .int k ∧ R k := ⟨i, rfl, h⟩
theorem r_Bm {T : String} {r : V → List V → Hp → VK → Prop} {t : TA} (h : ta σ H fun x H1 => tyV K T x H1 ∧ t σ H1 fun xs H2 => r x xs H2 Q) : tBM K T r ta t σ H Q := h
theorem r_app {l : Addr} {xs : List V} (h : H l = some (.lst xs)) (hz : xs.length < sizeLine) (q : Q .non (upd H l (.lst (xs ++ [y])))) : rAppend (.ref l) [y] H Q := ⟨l, xs, y, rfl, rfl, h, hz, q⟩
end
theorem at_nat {ns : List Int} {i : Int} (h0 : 0 ≤ i) (h : i < (ns.map V.int).length) : ∃ n, atI (ns.map V.int) i = some (.int n) ∧ n ∈ ns := by
  obtain ⟨j, rfl⟩ : ∃ j : Nat, i = j := ⟨i.toNat, by omega⟩
  rw [List.length_map] at h
  have hj : j < ns.length := by omega
  exact ⟨ns[j], atI_nat (by rw [List.getElem?_map, List.getElem?_eq_getElem hj]; rfl), List.getElem_mem hj⟩
theorem fmod_nn {a b : Int} (h : 0 < b) : 0 ≤ a.fmod b := by rw [Int.fmod_eq_emod_of_nonneg a (by omega)]; exact Int.emod_nonneg a (by omega)
theorem fmod_lt {a b : Int} (h : 0 < b) : a.fmod b < b := by rw [Int.fmod_eq_emod_of_nonneg a (by omega)]; exact Int.emod_lt_of_pos a h
theorem lim_div {lim : Int} (h0 : 0 < lim) (h : lim < 2 ^ 200) : CDivW lim lim := wide_div (b := 200) h0 (by omega) (by decide) (by decide)
theorem cdiv_of {i lim : Int} (h0 : 0 < lim) (h : lim < 2 ^ 200) : CDivW i lim := ⟨h0, (lim_div h0 h).2⟩
theorem mulL {i j : Int} (h1 : -(2 ^ 64) < i) (h2 : i < 2 ^ 64) : CMul i j := Or.inl ⟨h1, h2⟩
theorem mulR {i j : Int} (h1 : -(2 ^ 64) < j) (h2 : j < 2 ^ 64) : CMul i j := Or.inr ⟨h1, h2⟩
theorem powOk {i j : Int} (h1 : 0 ≤ j) (h2 : j ≤ 1000000) (h3 : i.natAbs < 2 ^ 64) : CPow i j := ⟨h1, h2, h3⟩
theorem r_for {wi : TI} {g : TG} {tb : TS} {D : Ends} {σ : St} {H : Hp} (h : wi σ H fun J H1 => ∃ W : Nat → Nat → St → Hp → Prop, (∃ m, W 0 m σ H1) ∧ ∀ i m σ H, W i m σ H →
  (J.stop i H ∧ D.nx σ H) ∨ (J.go i H ∧ ∃ N : St → Hp → Prop, (∀ σ' H', N σ' H' → ∃ m', m' < m ∧ W (i + 1) m' σ' H') ∧ ∀ x H', J.yld i H x H' → g x σ H' fun σ2 H2 => tb { D with nx := N, ct := N, bk := D.nx } σ2 H2)) : tFor wi g tb D σ H := h
theorem r_iR1 {ta : TA} {σ : St} {H : Hp} {R : It → Hp → Prop} (h : ta σ H fun vs H1 => ∃ j : Int, vs = [.int j] ∧ -(2 ^ 62) ≤ j ∧ j < 2 ^ 62 ∧ R (Itr 0 j.toNat) H1) : iRng1 ta σ H R := h
theorem r_iR2 {ta : TA} {σ : St} {H : Hp} {R : It → Hp → Prop} (h : ta σ H fun vs H1 => ∃ i j : Int, vs = [.int i, .int j] ∧ (-(2 ^ 62) ≤ i ∧ i < 2 ^ 62 ∧ -(2 ^ 62) ≤ j ∧ j < 2 ^ 62) ∧ R (Itr i (j - i).toNat) H1) : iRng2 ta σ H R := h
theorem r_tMeth {C : Addr} {m : Str} {sp : Sp} {dvs : List V} {E : XK} {ta : TE} {t : TA} {σ : St} {H : Hp} {Q : VK} (h : ta σ H fun x H1 => ∃ a dx fs, x = .ref a ∧ H1 a = some (.ins C dx fs) ∧ fs.lookup m = none ∧ t σ H1 fun vs H2 => sp (x :: (vs ++ dvs)) H2 Q E) : tMeth C m sp dvs E ta t σ H Q := h
theorem r_meth {C p dx : Addr} {fs : List (Str × V)} {m : Str} {H : Hp} {R : Prop} (hx : H p = some (.ins C dx fs)) (hl : fs.lookup m = none) (q : R) : ∃ a dx fs, V.ref p = .ref a ∧ H a = some (.ins C dx fs) ∧ fs.lookup m = none ∧ R := ⟨p, dx, fs, rfl, hx, hl, q⟩
theorem r_iT {K : PySem.W.Frag} {tl : TE} {σ : St} {H : Hp} {R : It → Hp → Prop} (h : tl σ H fun x H1 => ∃ a, x = .ref a ∧ (∃ xs, SqT K H1 a xs) ∧ R (Itt K a) H1) : iTup K tl σ H R := h
theorem r_iL {K : PySem.W.Frag} {tl : TE} {σ : St} {H : Hp} {R : It → Hp → Prop} (h : tl σ H fun x H1 => ∃ a, x = .ref a ∧ (∃ xs, SqL K H1 a xs) ∧ R (Itl K a) H1) : iList K tl σ H R := h
theorem r_lc {wi : TI} {g : TG} {tt : TT} {te : TE} {vs : List Nat} {σ : St} {H : Hp} {Q : VK} (h : wi σ H fun J H1 => ∀ D, H1 D = none → ∃ W : Nat → Nat → Hp → Prop, (∃ m, W 0 m (upd H1 D (.lst []))) ∧ ∀ i m H, W i m H →
  (J.stop i H ∧ Q (.ref D) H) ∨ (J.go i H ∧ ∃ Nx : Hp → Prop, (∀ H', Nx H' → ∃ m', m' < m ∧ W (i + 1) m' H') ∧ ∀ x H', J.yld i H x H' → g x (wipe σ vs) H' fun σ2 H2 => wipe σ2 vs = wipe σ vs ∧ tt σ2 H2 fun b H3 =>
    if b = true then te σ2 H3 fun y H4 => ∃ acc, H4 D = some (.lst acc) ∧ acc.length < sizeLine ∧ Nx (upd H4 D (.lst (acc ++ [y]))) else Nx H3)) : tLc wi g tt te vs σ H Q := h
theorem r_isiI {K : PySem.W.Frag} {H : Hp} {Q : VK} {i : Int} {n : String} (b : Bool) (h : kitB "int" n = some b) (q : Q (.bl b) H) : rIsi K [.int i, .ty n] H Q := ⟨_, _, .type "int", .type n, b, rfl, .ty n, .base (.int i), kit_ty h, q⟩
theorem r_isiB {K : PySem.W.Frag} {H : Hp} {Q : VK} {i : Bool} {n : String} (b : Bool) (h : kitB "bool" n = some b) (q : Q (.bl b) H) : rIsi K [.bl i, .ty n] H Q := ⟨_, _, .type "bool", .type n, b, rfl, .ty n, .base (.bl i), kit_ty h, q⟩
theorem r_slL {K : PySem.W.Frag} {H : Hp} {Q : VK} {a : Addr} {xs : List V} {lo hi : Option Int} (h : SqL K H a xs) (q : ∀ p H', H p = none → Same H H' → H' p = some (.lst (cutV xs lo hi)) → Q (.ref p) H') : rSlL K (.ref a) lo hi H Q := ⟨a, xs, rfl, h, new_of q⟩
theorem r_slT {K : PySem.W.Frag} {H : Hp} {Q : VK} {a : Addr} {xs : List V} {lo hi : Option Int} (h : SqT K H a xs) (hn : ¬ (HT.sIx xs.length 0 lo = 0 ∧ HT.sIx xs.length xs.length hi = xs.length)) (q : ∀ p H', H p = none → Same H H' → H' p = some (.tup (cutV xs lo hi)) → Q (.ref p) H') : rSlT K (.ref a) lo hi H Q := ⟨a, xs, rfl, h, hn, new_of q⟩
def rListOf (K : PySem.W.Frag) : List V → Hp → VK → Prop := fun xs H Q => ∃ p ys, xs = [.ref p] ∧ (SqL K H p ys ∨ SqT K H p ys) ∧ ∀ l, H l = none → Q (.ref l) (upd H l (.lst ys))
def rTupOf (K : PySem.W.Frag) : List V → Hp → VK → Prop := fun xs H Q => ∃ p ys, xs = [.ref p] ∧ ((SqL K H p ys ∧ ∀ l, H l = none → Q (.ref l) (upd H l (.tup ys))) ∨ (SqT K H p ys ∧ Q (.ref p) H))
theorem cr_list {X : Cx} : CallR X (.type "list") (rListOf X.K) := call_list_of
theorem cr_tup {X : Cx} : CallR X (.type "tuple") (rTupOf X.K) := call_tuple_of
theorem r_listS {K : PySem.W.Frag} {H : Hp} {Q : VK} {a : Addr} {xs : List V} (h : SqL K H a xs ∨ SqT K H a xs) (q : ∀ p H', H p = none → Same H H' → H' p = some (.lst xs) → Q (.ref p) H') : rListOf K [.ref a] H Q := ⟨a, xs, rfl, h, new_of q⟩
theorem r_listL {K : PySem.W.Frag} {H : Hp} {Q : VK} {a : Addr} {xs : List V} (h : H a = some (.lst xs)) (q : ∀ p H', H p = none → Same H H' → H' p = some (.lst xs) → Q (.ref p) H') : rListOf K [.ref a] H Q := r_listS (.inl (SqL.of h)) q
theorem r_listT {K : PySem.W.Frag} {H : Hp} {Q : VK} {a : Addr} {xs : List V} (h : H a = some (.tup xs)) (q : ∀ p H', H p = none → Same H H' → H' p = some (.lst xs) → Q (.ref p) H') : rListOf K [.ref a] H Q := r_listS (.inr (SqT.of h)) q
theorem r_tupL {K : PySem.W.Frag} {H : Hp} {Q : VK} {a : Addr} {xs : List V} (h : H a = some (.lst xs)) (q : ∀ p H', H p = none → Same H H' → H' p = some (.tup xs) → Q (.ref p) H') : rTupOf K [.ref a] H Q := ⟨a, xs, rfl, .inl ⟨SqL.of h, new_of q⟩⟩
theorem r_tupT {K : PySem.W.Frag} {H : Hp} {Q : VK} {a : Addr} {xs : List V} (h : H a = some (.tup xs)) (q : Q (.ref a) H) : rTupOf K [.ref a] H Q := ⟨a, xs, rfl, .inr ⟨SqT.of h, q⟩⟩
theorem r_nF {A B : Prop} (h : A) : if (!false) = true then A else B := h
theorem r_nT {A B : Prop} (h : B) : if (!true) = true then A else B := by
  rw [if_neg (by decide)]
  exact h
theorem r_nD {c A B : Prop} [Decidable c] (h1 : ¬ c → A) (h2 : c → B) : if (!decide c) = true then A else B := by
  by_cases hc : c
  · rw [decide_eq_true hc]; exact r_nT (h2 hc)
  · rw [decide_eq_false hc]; exact r_nF (h1 hc)
theorem cut_take {xs : List V} {k : Int} (h : (xs.length : Int) ≤ k) : cutV xs none (some k) = xs := by
  have e : HT.sIx xs.length xs.length (some k) = xs.length := by
    show (if k < 0 then (k + (xs.length : Int)).toNat else min k.toNat xs.length) = xs.length
    rw [if_neg (by omega)]; omega
  unfold cutV
  rw [e]
  show (xs.drop 0).take (xs.length - 0) = xs
  simp
theorem r_yes {σ : St} {H : Hp} {R : Bool → Hp → Prop} (h : R true H) : tYes σ H R := h
theorem int_of_get {ns : List Int} {i : Nat} {y : V} (h : (ns.map V.int)[i]? = some y) : ∃ z, ns[i]? = some z ∧ y = V.int z := by
  rw [List.getElem?_map] at h
  cases e : ns[i]? with
  | none => rw [e] at h; cases h
  | some z => rw [e] at h; exact ⟨z, rfl, (Option.some.inj h).symm⟩
theorem take_more {α : Type} {l : List α} {i : Nat} {x : α} (h : l[i]? = some x) : l.take (i + 1) = l.take i ++ [x] := by
  rw [List.take_succ, h]; rfl
theorem r_chain {r r' : R2} {ta tb tc : TE} {σ : St} {H : Hp} {Q : VK} (h : ta σ H fun x H1 => tb σ H1 fun y H2 => r x y H2 fun z H3 => ∃ k, z = .bl k ∧ (if k = true then tc σ H3 fun w' H4 => r' y w' H4 Q else Q (.bl false) H3)) : tChain r r' ta tb tc σ H Q := h
theorem r_sFld {K : PySem.W.Frag} {ta tv : TE} {f : Str} {D : Ends} {σ : St} {H : Hp} (h : tv σ H fun y H1 => ta σ H1 fun x H2 => ∃ a C dx fs, x = .ref a ∧ H2 a = some (.ins C dx fs) ∧ Cls K C ∧ NoAttr K C f ∧ fs.length < 1000 ∧ D.nx σ (upd H2 a (.ins C dx (putF f y fs)))) : sFld K ta tv f D σ H := h
theorem r_put {K : PySem.W.Frag} {p C dx : Addr} {fs : List (Str × V)} {f : Str} {H : Hp} {R : Addr → Addr → Addr → List (Str × V) → Prop} (hc : Cls K C) (hn : NoAttr K C f) (hx : H p = some (.ins C dx fs)) (hl : fs.length ≤ 900) (q : R p C dx fs) :
    ∃ a C dx fs, V.ref p = .ref a ∧ H a = some (.ins C dx fs) ∧ Cls K C ∧ NoAttr K C f ∧ fs.length < 1000 ∧ R a C dx fs := ⟨p, C, dx, fs, rfl, hx, hc, hn, by omega, q⟩
theorem putF_len (f : Str) (v : V) : ∀ fs : List (Str × V), (putF f v fs).length ≤ fs.length + 1
  | [] => Nat.le_refl _
  | (g, x) :: r => by
    unfold putF
    by_cases h : g = f
    · rw [if_pos h, List.length_cons, List.length_cons]; omega
    · rw [if_neg h, List.length_cons, List.length_cons]
      have := putF_len f v r
      omega
theorem putF_le {f : Str} {v : V} {fs : List (Str × V)} {n : Nat} (h : fs.length ≤ n) : (putF f v fs).length ≤ n + 1 := Nat.le_trans (putF_len f v fs) (by omega)
def MakeAt (C : Addr) (sp : Sp) (vs : List V) (E : XK) (H : Hp) (Q : VK) : Prop := ∀ x dx, H x = none → H dx = none → dx ≠ x → sp (.ref x :: vs) (upd (upd H dx (.own x)) x (.ins C dx [])) (fun v H2 => v = .non ∧ Q (.ref x) H2) E
theorem r_make {C : Addr} {sp : Sp} {dvs : List V} {E : XK} {t : TA} {σ : St} {H : Hp} {Q : VK} (h : t σ H fun vs H1 => MakeAt C sp (vs ++ dvs) E H1 Q) : tMake C sp dvs E t σ H Q := h
def rIsNo : R2 := fun x y H Q => y = .non ∧ Q (.bl (decide (x = .non))) H
def rNotNo : R2 := fun x y H Q => y = .non ∧ Q (.bl (!decide (x = .non))) H
theorem op_isNo {X : Cx} : OpR X (compareOp .Is) rIsNo := op_isN
theorem op_notNo {X : Cx} : OpR X (compareOp .IsNot) rNotNo := op_notN
theorem r_isNn {H : Hp} {Q : VK} (q : Q (.bl true) H) : rIsNo .non .non H Q := ⟨rfl, q⟩
theorem r_isNi {H : Hp} {Q : VK} {i : Int} (q : Q (.bl false) H) : rIsNo (.int i) .non H Q := ⟨rfl, q⟩
theorem r_isNr {H : Hp} {Q : VK} {i : Addr} (q : Q (.bl false) H) : rIsNo (.ref i) .non H Q := ⟨rfl, q⟩
theorem r_notNn {H : Hp} {Q : VK} (q : Q (.bl false) H) : rNotNo .non .non H Q := ⟨rfl, q⟩
theorem r_notNi {H : Hp} {Q : VK} {i : Int} (q : Q (.bl true) H) : rNotNo (.int i) .non H Q := ⟨rfl, q⟩
theorem r_notNr {H : Hp} {Q : VK} {i : Addr} (q : Q (.bl true) H) : rNotNo (.ref i) .non H Q := ⟨rfl, q⟩
theorem r_lenS {K : PySem.W.Frag} {H : Hp} {p : Addr} {xs : List V} {R : List V → Prop} (h : SqL K H p xs ∨ SqT K H p xs) (q : R xs) : ∃ (p1 : Addr) (ys : List V), [V.ref p] = [.ref p1] ∧ (SqL K H p1 ys ∨ SqT K H p1 ys) ∧ R ys := ⟨p, xs, rfl, h, q⟩
theorem r_lenL {K : PySem.W.Frag} {H : Hp} {p : Addr} {xs : List V} {R : List V → Prop} (h : H p = some (.lst xs)) (q : R xs) : ∃ (p1 : Addr) (ys : List V), [V.ref p] = [.ref p1] ∧ (SqL K H p1 ys ∨ SqT K H p1 ys) ∧ R ys := ⟨p, xs, rfl, .inl (SqL.of h), q⟩
theorem r_lenT {K : PySem.W.Frag} {H : Hp} {p : Addr} {xs : List V} {R : List V → Prop} (h : H p = some (.tup xs)) (q : R xs) : ∃ (p1 : Addr) (ys : List V), [V.ref p] = [.ref p1] ∧ (SqL K H p1 ys ∨ SqT K H p1 ys) ∧ R ys := ⟨p, xs, rfl, .inr (SqT.of h), q⟩
theorem r_in1 {i : Int} {R : Int → Prop} (h : R i) : ∃ k, [V.int i] = [.int k] ∧ R k := ⟨i, rfl, h⟩
theorem r_in2 {i j : Int} {R : Int → Int → Prop} (h : R i j) : ∃ k l, [V.int i, V.int j] = [.int k, .int l] ∧ R k l := ⟨i, j, rfl, h⟩
/-- the source of draws at p, its cells at q -/
def SrcAt (H : Hp) (p q : Addr) : Prop := ∃ (cs : List Int) (i big cnt st : Int), H p = some (.lst [.ref q, .int i, .int big, .int cnt, .int st]) ∧ H q = some (.lst (cs.map V.int)) ∧ q ≠ p ∧ 0 ≤ i ∧ 0 ≤ big ∧ cs.length ≤ 63
theorem SrcAt.keep {H H' : Hp} {p q : Addr} (h : SrcAt H p q) (s : Same H H') : SrcAt H' p q := by
  obtain ⟨cs, i, big, cnt, st, h1, h2, h3⟩ := h
  exact ⟨cs, i, big, cnt, st, s _ _ h1, s _ _ h2, h3⟩
theorem SrcAt.upd {H : Hp} {p q x : Addr} {o : HO} (h : SrcAt H p q) (h1 : x ≠ p) (h2 : x ≠ q) : SrcAt (upd H x o) p q := by
  obtain ⟨cs, i, big, cnt, st, e1, e2, h3⟩ := h
  exact ⟨cs, i, big, cnt, st, (upd_ne h1.symm).trans e1, (upd_ne h2.symm).trans e2, h3⟩
theorem SrcAt.ne {H : Hp} {p q x : Addr} (h : SrcAt H p q) (hx : H x = none) : x ≠ p := by
  obtain ⟨cs, i, big, cnt, st, h1, _⟩ := h
  exact (ne_of_none h1 hx).symm
theorem SrcAt.neq {H : Hp} {p q x : Addr} (h : SrcAt H p q) (hx : H x = none) : x ≠ q := by
  obtain ⟨cs, i, big, cnt, st, _, h1, _⟩ := h
  exact (ne_of_none h1 hx).symm
theorem But.free {p q : Addr} {H H' : Hp} (b : But p H H') (hs : SrcAt H' p q) {x : Addr} (hx : H' x = none) : H x = none := by
  cases e : H x with
  | none => rfl
  | some o =>
    obtain ⟨u, z⟩ := b.some e (hs.ne hx)
    rw [hx] at z
    cases z
theorem seq_with {t1 t2 : TS} {D : Ends} {σ : St} {H : Hp} (P : St → Hp → Prop) (h2 : ∀ σ H, P σ H → t2 D σ H) (h1 : (∀ σ H, P σ H → t2 D σ H) → t1 { D with nx := t2 D } σ H) : tSeq t1 t2 D σ H := h1 h2
theorem pe_fldK {X : Cx} {K : PySem.W.Frag} {e : Expr} {f : Str} {pos : Pos} {ta : TE} (hK : X.K = K) (he : PE X e ta) (hb : attributeBase e f X.env (eval e X.env) = eval e X.env) : PE X (.Attribute e f pos) (tFld K ta f) := by
  subst hK; exact pe_fld he hb
theorem r_cat {H : Hp} {Q : VK} {l b : Addr} {xs zs : List V} (h1 : H l = some (.lst xs)) (h2 : H b = some (.lst zs)) (hn : xs.length + zs.length ≤ 1000) (q : ∀ p H', H p = none → Same H H' → H' p = some (.lst (xs ++ zs)) → Q (.ref p) H') : rCat (.ref l) (.ref b) H Q :=
  ⟨l, b, xs, zs, rfl, rfl, h1, h2, Nat.le_trans hn (by decide), new_of q⟩
theorem r_min {K : PySem.W.Frag} {H : Hp} {Q : VK} {l : Addr} {ns : List Int} (h1 : H l = some (.lst (ns.map V.int))) (hn : 0 < ns.length) (q : ∀ m, m ∈ ns → (∀ y, y ∈ ns → m ≤ y) → Q (.int m) H) : rMin K [.ref l] H Q :=
  ⟨l, ns, rfl, SqL.of h1, hn, q⟩
section
variable {X : Cx} {K : PySem.W.Frag}
theorem ix_listK (hK : X.K = K) : IxR X (rIxL K) := by subst hK; exact ix_list
theorem ix_tupK (hK : X.K = K) : IxR X (rIxT K) := by subst hK; exact ix_tup
theorem call_len_seqK (hK : X.K = K) : CallR X (.builtin "len") (fun xs H Q => ∃ p ys, xs = [.ref p] ∧ (SqL K H p ys ∨ SqT K H p ys) ∧ Q (.int ys.length) H) := by subst hK; exact call_len_seq
theorem call_isiK (hK : X.K = K) : CallR X (.builtin "isinstance") (rIsi K) := by subst hK; exact call_isi
theorem cr_listK (hK : X.K = K) : CallR X (.type "list") (rListOf K) := by subst hK; exact cr_list
theorem cr_tupK (hK : X.K = K) : CallR X (.type "tuple") (rTupOf K) := by subst hK; exact cr_tup
theorem pg_tupK {es : List Expr} {k n : Nat} {t : TGs} {pos : Pos} (hK : X.K = K) (hc : X.calm = true) (h : PGs X es t)
    (hn : (assignEach es X.env).length = n := by rfl) (hst : (assignEach es X.env).findIdx? (·.1) = none := by rfl) : PG X (.Tuple es k pos) (gTup K n t) := by subst hK; exact pg_tup hc h hn hst
end

end My
namespace PySem
namespace MyX
open PySem.W PySem.Calls PyProof.Rows PySem.HandSPX Builtin Builtin.ObjectAttr
/-! ### errors over Exception: made, and their first field -/
abbrev exM : List Value := [.type "Exception", .type "BaseException", .type "object"]
theorem exT (x : Addr) : excTail exM [.ref x, .type "Exception", .type "BaseException", .type "object"] = true := (by decide +kernel : excTail exM exM = true)
theorem one_sz (v : Value) : [v].length ≤ sizeLine := by
  rw [sizeLine_eq]
  exact (by decide : 1 ≤ 16777216)
/-- what the written part says of a class over Exception whose __init__ is its own -/
structure XCls (K : Frag) (C fI : Addr) (f : Str) : Prop where
  cls : ∃ nm q N bs bm sn sub ab col dd k0 k1 k2 k3 k5, K.lookup C = some (excClassObj nm q C N bs bm true sn sub ab col dd k0 k1 k2 k3 k5 "Exception.__new__") ∧ excTail exM bm = true
  sa : findIn K (.ref C) "__setattr__" = some (some (.builtin "object.__setattr__"))
  ga : findIn K (.ref C) "__getattribute__" = some (some (.builtin "BaseException.__getattribute__"))
  gg : findIn K (.ref C) "__getattr__" = some none
  noN : findIn K (.ref C) f = some none
  iC : findIn K (.ref C) "__init__" = some (some (.ref fI))
  tC : typeIn K (.ref fI) = some (.type "function")
  kC : keepIn K (.ref C) = true
  exC : subIn K (.ref C) (.type "BaseException") = some true
  tyC : typeIn K (.ref C) = some (.type "type")
  hdC : hasDictIn K C = true
theorem XCls.over {K : Frag} {C fI : Addr} {f : Str} (T : XCls K C fI f) : excOver K C exM = true := by
  obtain ⟨nm, q, N, bs, bm, sn, sub, ab, col, dd, k0, k1, k2, k3, k5, hC, hbm⟩ := T.cls
  have e : clsIn K C = some { name := nm, bases := bs, mro := .ref C :: bm, ns := N, qualname := q, hasDict := true, slotNames := sn, subclasses := sub, abstract := ab, collection := col, hasDel := false } := by unfold clsIn; rw [hC] <;> rfl
  unfold excOver
  rw [e]
  show (C == C && excTail exM bm) = true
  rw [hbm, beq_self_eq_true]; rfl
section
variable {prog : Program} {w : World} {A : Around} {R : Result → Shared → Prop} {s : Shared} {K : Frag}
theorem first_field {x C fI t : Addr} {f : Str} {tk : Tok} {v : Value} (T : XCls K C fI f) (X : K.In s.heap) (hx : s.heap.get? x = some (excO C t))
    (hq : ∀ h' tk' dx, (∀ b o, b ≠ x → s.heap.get? b = some o → h'.get? b = some o) → s.heap.objs.size ≤ dx → dx ≠ x → h'.get? x = some { cls := .ref C, dict := some dx, data := .fields #[.ref t, .none, .none, .none, .bool false, .none] } →
      h'.Ns1 dx (fun y => if y = f then some v else none) → R (.ok (.ret .none)) { s with heap := h', toks := tk' }) :
    codeAny (model prog w) A (.call (.builtin "object.__setattr__") ⟨[.ref x, .str f tk, v], []⟩) R s := by
  obtain ⟨hp, g, d, tok, os⟩ := s
  refine osa_openX (od := none) PySem.F.store_Exception X ⟨hx, rfl, rfl, trivial⟩ T.over (by unfold takerIn; rw [T.noN]; rfl) fun b => ?_
  obtain ⟨cd, hc, hd'⟩ := any_some T.hdC
  have lt : x < hp.objs.size := Heap.lt_size hx
  have ne : hp.objs.size ≠ x := Nat.ne_of_gt lt
  refine wpAny_bind (wpAny_pure (wpAny_bind (instanceDict_exc (t := t) (c2 := .none) hx (looks_clsIn X hc) hd' ?_)))
  show wpAny _ _ (storeInDict hp.objs.size (.str f tk) f v) _ _ _
  refine store_in_new ?_ fun h' tk' hn hs => ?_
  · exact ⟨_, #[], _, (Heap.get?_update_ne _ _ _ _ ne).trans (Heap.get?_push_at rfl rfl), rfl, fun e he => absurd he (by simp), fun _ => rfl⟩
  · have hx1 : (hp.push (dictOf [] 0)).get? x = some (excObj C t none .none) := Heap.get?_push_of_some _ hx
    refine hq h' tk' hp.objs.size (fun b o hb ho => ?_) (Nat.le_refl _) ne ?_ hn
    · exact (hs.2 b (Nat.ne_of_lt (Heap.lt_size ho))).trans ((Heap.get?_update_ne _ _ _ _ hb).trans (Heap.get?_push_of_some _ ho))
    · exact (hs.2 x ne.symm).trans (Heap.get?_update_self _ hx1 rfl)
end
end MyX
end PySem
namespace My
open PySem L2
section
variable {X : Cx} {C : Addr} {B newId initId : String} {bmB : List Value}
/-- X() of a class without an own __init__ -/
theorem pmk_bare {x : Str} {p pos : Pos} (F : ExcBaseFacts B newId initId bmB) (q : PySem.W.excIn X.K C bmB newId = true) (gC : X.mg x = some (.ref C)) (kC : PySem.W.keepIn X.K (.ref C) = true) (r : Raises X (.ref C)) (hg : Gl X x)
    (hdb : (x == ("__debug__" : Str)) = false := by decide) : PMk X (.Call (.Name x p) [] [] pos) (fun _ H Q => Q (.ref C) none H) := by
  intro pins s σ H Q I h
  refine wpAny_Call_Name_kw (ld_glob I hg gC ?_ hdb)
  refine PySem.W.callWith_K0 I.kIn kC ?_
  obtain ⟨bm, N, nm, qn, bs, hdct, sn, sub, ab, col, dd, k0, k1, k2, k3, k5, mN, hC, hN, hni, T⟩ := exc_obj I.kIn q
  exact wpAny_call_exc_subT F T hC hN hni (fun h' e hm => mk_of I hm r h (I.hok.gone hm.new)) (Nat.zero_le _)
end
theorem pcX {X : Cx} {E : XK} (tk : Takes X fun cls d _ H => E cls d H) : Passes (L2.CX X.prog X.w) X E := passes_call tk fun _ _ _ _ h => h
/-- what the clauses of a try ask, whatever the slots hold -/
def WT (n : Nat) (W : WX) : XK := fun cls d H => ∀ σ : St, σ.length = n → W cls d σ H
theorem passesT {X : Cx} {W : WX} {n : Nat} (tk : Takes X W) (hn : X.N.length = n := by rfl) : Passes (L2.CX X.prog X.w) X (WT n W) := fun _ σ _ _ e s' I c => tk e s' (XE.of_call I (fun _ _ _ h => h σ (I.len.trans hn)) c)
theorem exm_by {K : PySem.W.Frag} {S R : Addr} {b : Bool} (h1 : PySem.W.subIn K (.ref R) (.type "BaseException") = some true) (h2 : PySem.W.isClsIn K R = true) (h3 : PySem.W.typeIn K (.ref R) = some (.type "type")) (h4 : PySem.W.subIn K (.ref S) (.ref R) = some b) :
    PySem.W.exmOne K (.ref S) (.ref R) = some b := by
  have e1 : (PySem.W.subIn K (.ref R) (.type "BaseException") == some true) = true := by rw [h1] <;> rfl
  have e2 : ((PySem.W.clsIn K R).isSome && PySem.W.typeIn K (.ref R) == some (.type "type")) = true := by
    have h2' : (PySem.W.clsIn K R).isSome = true := h2
    rw [h2', h3] <;> rfl
  show (if (PySem.W.subIn K (.ref R) (.type "BaseException") == some true) = true then (if ((PySem.W.clsIn K R).isSome && PySem.W.typeIn K (.ref R) == some (.type "type")) = true then PySem.W.subIn K (.ref S) (.ref R) else none) else none) = some b
  rw [if_pos e1, if_pos e2]
  exact h4
theorem exm_self {K : PySem.W.Frag} {S : Addr} (h1 : PySem.W.subIn K (.ref S) (.type "BaseException") = some true) (h2 : PySem.W.isClsIn K S = true) (h3 : PySem.W.typeIn K (.ref S) = some (.type "type")) (h4 : PySem.W.subIn K (.ref S) (.ref S) = some true) :
    PySem.W.exmOne K (.ref S) (.ref S) = some true := exm_by h1 h2 h3 h4
theorem _root_.PySem.MyX.XCls.xf {K : PySem.W.Frag} {C fI : Addr} {f : Str} (T : PySem.MyX.XCls K C fI f) : XfC K C := ⟨T.ga, T.gg, T.exC, T.hdC⟩
/-- raised: an error of the class at C with one field -/
def Exc1 (E : XK) (C : Addr) (f : Str) (v : V) (H : Hp) : Prop := ∀ d H', Same H H' → H' d = some (.xd [(f, v)]) → E (.ref C) (some d) H'
theorem Exc1.after {E : XK} {C : Addr} {f : Str} {v : V} {H H1 : Hp} (h : Exc1 E C f v H) (s : Same H H1) : Exc1 E C f v H1 := fun d H' s' e => h d H' (s.trans s') e
theorem r_raise {t : St → Hp → XK → Prop} {W : WX} {σ : St} {H : Hp} {D : Ends} (h : t σ H fun cls d H' => W cls d σ H') : (fun (_ : Ends) σ H => t σ H fun cls d H' => W cls d σ H') D σ H := h

/-- where the top has written what -/
structure Adr where
  a_is_integer : Addr
  d_is_integer : FuncData
  a_is_between : Addr
  d_is_between : FuncData
  a_check_count : Addr
  d_check_count : FuncData
  a_check_time : Addr
  d_check_time : FuncData
  a_Machine_init : Addr
  d_Machine_init : FuncData
  a_slow_tree : Addr
  d_slow_tree : FuncData
  a_greatest_sum : Addr
  d_greatest_sum : FuncData
  a_most_summed : Addr
  d_most_summed : FuncData
  a__law_source : Addr
  d__law_source : FuncData
  a__law_draw : Addr
  d__law_draw : FuncData
  a__law_small : Addr
  d__law_small : FuncData
  a__law_is : Addr
  d__law_is : FuncData
  a__law_best : Addr
  d__law_best : FuncData
  a__law_letters : Addr
  d__law_letters : FuncData
  a_law : Addr
  d_law : FuncData
  c_Machine : Addr
/-- what the walk asks of the top -/
structure Txt (K : PySem.W.Frag) (mg : Str → Option Value) (a : Adr) : Prop where
  F_is_integer : Fun K "is_integer" "is_integer" s_is_integer a.a_is_integer a.d_is_integer
  b_is_integer : Binds K a.d_is_integer ["thing"] []
  g_is_integer : mg "is_integer" = some (.ref a.a_is_integer)
  F_is_between : Fun K "is_between" "is_between" s_is_between a.a_is_between a.d_is_between
  b_is_between : Binds K a.d_is_between ["thing", "low", "high"] []
  g_is_between : mg "is_between" = some (.ref a.a_is_between)
  F_check_count : Fun K "check_count" "check_count" s_check_count a.a_check_count a.d_check_count
  b_check_count : Binds K a.d_check_count ["count", "low", "high"] []
  g_check_count : mg "check_count" = some (.ref a.a_check_count)
  F_check_time : Fun K "check_time" "check_time" s_check_time a.a_check_time a.d_check_time
  b_check_time : Binds K a.d_check_time ["time", "latest"] []
  g_check_time : mg "check_time" = some (.ref a.a_check_time)
  F_Machine_init : Fun K "__init__" "Machine.__init__" s_Machine_init a.a_Machine_init a.d_Machine_init
  b_Machine_init : Binds K a.d_Machine_init ["self", "o", "l", "g"] []
  mk_Machine : Mk K a.c_Machine a.a_Machine_init
  F_slow_tree : Fun K "slow_tree" "slow_tree" s_slow_tree a.a_slow_tree a.d_slow_tree
  b_slow_tree : Binds K a.d_slow_tree ["machine", "n"] []
  g_slow_tree : mg "slow_tree" = some (.ref a.a_slow_tree)
  F_greatest_sum : Fun K "greatest_sum" "greatest_sum" s_greatest_sum a.a_greatest_sum a.d_greatest_sum
  b_greatest_sum : Binds K a.d_greatest_sum ["machine", "n", "time"] []
  g_greatest_sum : mg "greatest_sum" = some (.ref a.a_greatest_sum)
  F_most_summed : Fun K "most_summed" "most_summed" s_most_summed a.a_most_summed a.d_most_summed
  b_most_summed : Binds K a.d_most_summed ["machine", "n", "time"] []
  g_most_summed : mg "most_summed" = some (.ref a.a_most_summed)
  F__law_source : Fun K "_law_source" "_law_source" s__law_source a.a__law_source a.d__law_source
  b__law_source : Binds K a.d__law_source ["_law_script"] []
  g__law_source : mg "_law_source" = some (.ref a.a__law_source)
  F__law_draw : Fun K "_law_draw" "_law_draw" s__law_draw a.a__law_draw a.d__law_draw
  b__law_draw : Binds K a.d__law_draw ["_law_source_here", "_law_limit"] []
  g__law_draw : mg "_law_draw" = some (.ref a.a__law_draw)
  F__law_small : Fun K "_law_small" "_law_small" s__law_small a.a__law_small a.d__law_small
  b__law_small : Binds K a.d__law_small ["_law_source_here"] []
  g__law_small : mg "_law_small" = some (.ref a.a__law_small)
  F__law_is : Fun K "_law_is" "_law_is" s__law_is a.a__law_is a.d__law_is
  b__law_is : Binds K a.d__law_is ["_law_thing", "_law_due"] []
  g__law_is : mg "_law_is" = some (.ref a.a__law_is)
  F__law_best : Fun K "_law_best" "_law_best" s__law_best a.a__law_best a.d__law_best
  b__law_best : Binds K a.d__law_best ["_law_numbers", "_law_end", "_law_hands", "_law_table"] []
  g__law_best : mg "_law_best" = some (.ref a.a__law_best)
  F__law_letters : Fun K "_law_letters" "_law_letters" s__law_letters a.a__law_letters a.d__law_letters
  b__law_letters : Binds K a.d__law_letters ["_law_numbers", "_law_end", "_law_left", "_law_later", "_law_before", "_law_table"] []
  g__law_letters : mg "_law_letters" = some (.ref a.a__law_letters)
  F_law : Fun K "law" "law" s_law a.a_law a.d_law
  b_law : Binds K a.d_law ["_law_script"] []
  g_law : mg "law" = some (.ref a.a_law)
  g_Machine : mg "Machine" = some (.ref a.c_Machine)
  cl_Machine : Cls K a.c_Machine
  nF_Machine_o : NoAttr K a.c_Machine "o"
  nF_Machine_l : NoAttr K a.c_Machine "l"
  nF_Machine_g : NoAttr K a.c_Machine "g"
  nF_Machine_letter : NoAttr K a.c_Machine "letter"
  nF_Machine_gap : NoAttr K a.c_Machine "gap"
  g_heappush : mg "heappush" = some (.builtin "_heapq.heappush")
  g_heappop : mg "heappop" = some (.builtin "_heapq.heappop")
  n_bool : mg "bool" = none
  n_int : mg "int" = none
  n_isinstance : mg "isinstance" = none
  n_len : mg "len" = none
  n_max : mg "max" = none
  n_min : mg "min" = none
  n_range : mg "range" = none
  n_sum : mg "sum" = none
  g_MOST_SHARING : ∃ t, mg "MOST_SHARING" = some (.int 40 t)
  g_GREATEST_PART : ∃ t, mg "GREATEST_PART" = some (.int 1000000000 t)
  g_LATEST_SUM : ∃ t, mg "LATEST_SUM" = some (.int 1000000000000 t)
end My
namespace HQ
open PySem PySem.Spec PyProof.Rows PySem.Calls
theorem kind_push : builtinKind "_heapq.heappush" = none := by decide +kernel
theorem plain_push : plainId "_heapq.heappush" = true := by decide +kernel
theorem entry_push : entryFor table "_heapq.heappush" = some Builtin.«_heapq.heappush» := entryFor_of_fast (by kernel_rfl)
theorem args_push (a b : Value) : argsOk "_heapq.heappush" ⟨[a, b], []⟩ := by unfold argsOk; kernel_rfl
theorem kind_pop : builtinKind "_heapq.heappop" = none := by decide +kernel
theorem plain_pop : plainId "_heapq.heappop" = true := by decide +kernel
theorem entry_pop : entryFor table "_heapq.heappop" = some Builtin.«_heapq.heappop» := entryFor_of_fast (by kernel_rfl)
theorem args_pop (a : Value) : argsOk "_heapq.heappop" ⟨[a], []⟩ := by unfold argsOk; kernel_rfl
theorem plain_sift : plainId "_heapq.heapify.sift" = true := by decide +kernel
theorem entry_sift : entryFor table "_heapq.heapify.sift" = some Builtin.«_heapq.heapify.sift» := entryFor_of_fast (by kernel_rfl)
/-! ### heaps: the order along the tree -/
structure Ordr {κ : Type} (lt : κ → κ → Bool) : Prop where
  asym : ∀ {a b}, lt a b = true → lt b a = false
  tr : ∀ {a b c}, lt b a = false → lt c b = false → lt c a = false
section
variable {κ : Type} {lt : κ → κ → Bool}
def sw (f : Nat → κ) (i j : Nat) : Nat → κ := fun x => if x = i then f j else if x = j then f i else f x
/-- each key is no less than its parent's, but around pos -/
structure Hole (lt : κ → κ → Bool) (f : Nat → κ) (n pos : Nat) : Prop where
  edge : ∀ i, 0 < i → i < n → i ≠ pos → (i - 1) / 2 ≠ pos → lt (f i) (f ((i - 1) / 2)) = false
  over : ∀ i, 0 < i → i < n → (i - 1) / 2 = pos → 0 < pos → lt (f i) (f ((pos - 1) / 2)) = false
structure UpOk (lt : κ → κ → Bool) (f : Nat → κ) (n pos : Nat) : Prop extends Hole lt f n pos where
  kids : ∀ i, 0 < i → i < n → (i - 1) / 2 = pos → lt (f i) (f pos) = false
def Heaped (lt : κ → κ → Bool) (f : Nat → κ) (n : Nat) : Prop := ∀ i, 0 < i → i < n → lt (f i) (f ((i - 1) / 2)) = false
theorem Ordr.irr (O : Ordr lt) (a : κ) : lt a a = false := by
  cases h : lt a a with
  | false => rfl
  | true => have := O.asym h; rw [h] at this; cases this
theorem hole_down {f : Nat → κ} {n pos c : Nat} (O : Ordr lt) (h : Hole lt f n pos) (hc : (c - 1) / 2 = pos) (c0 : 0 < c) (cn : c < n) (hd : ∀ d, 0 < d → d < n → (d - 1) / 2 = pos → lt (f d) (f c) = false) : Hole lt (sw f c pos) n c where
  edge := fun i i0 hi n1 n2 => by
    unfold sw
    by_cases e : i = pos
    · subst e
      rw [if_neg n1, if_pos rfl, if_neg n2, if_neg (show ¬ (i - 1) / 2 = i by omega)]
      exact h.over c c0 cn hc i0
    · rw [if_neg n1, if_neg e, if_neg n2]
      by_cases e2 : (i - 1) / 2 = pos
      · rw [if_pos e2]
        exact hd i i0 hi e2
      · rw [if_neg e2]
        exact h.edge i i0 hi e e2
  over := fun i i0 hi e _ => by
    unfold sw
    have e1 : i ≠ c := by omega
    have e2 : i ≠ pos := by omega
    rw [if_neg e1, if_neg e2, hc, if_neg (show ¬ pos = c by omega), if_pos rfl]
    have := h.edge i i0 hi e2 (by omega)
    rwa [e] at this
theorem hole_up {f : Nat → κ} {n pos : Nat} (O : Ordr lt) (h : UpOk lt f n pos) (p0 : 0 < pos) (hp : pos < n) (hl : lt (f pos) (f ((pos - 1) / 2)) = true) : UpOk lt (sw f ((pos - 1) / 2) pos) n ((pos - 1) / 2) := by
  generalize hq : (pos - 1) / 2 = q at hl ⊢
  have hne : q ≠ pos := by omega
  have hle := O.asym hl
  refine ⟨⟨fun i i0 hi n1 n2 => ?_, fun i i0 hi e q0 => ?_⟩, fun i i0 hi e => ?_⟩
  · unfold sw
    have e0 : i ≠ pos := fun z => by subst z; exact n2 hq
    rw [if_neg n1, if_neg e0, if_neg n2]
    by_cases e2 : (i - 1) / 2 = pos
    · rw [if_pos e2, ← hq]
      exact h.over i i0 hi e2 p0
    · rw [if_neg e2]
      exact h.edge i i0 hi e0 e2
  · unfold sw
    have e1 : i ≠ q := by omega
    rw [if_neg e1, if_neg (show ¬ (q - 1) / 2 = q by omega), if_neg (show ¬ (q - 1) / 2 = pos by omega)]
    have hqe := h.edge q q0 (by omega) hne (by omega)
    by_cases e2 : i = pos
    · rw [if_pos e2]
      exact hqe
    · rw [if_neg e2]
      have := h.edge i i0 hi e2 (by omega)
      rw [e] at this
      exact O.tr hqe this
  · unfold sw
    have e1 : i ≠ q := by omega
    rw [if_neg e1, if_pos rfl]
    by_cases e2 : i = pos
    · rw [if_pos e2]
      exact hle
    · rw [if_neg e2]
      have := h.edge i i0 hi e2 (by omega)
      rw [e] at this
      exact O.tr hle this
theorem up_done {f : Nat → κ} {n pos : Nat} (h : UpOk lt f n pos) (hd : pos = 0 ∨ lt (f pos) (f ((pos - 1) / 2)) = false) : Heaped lt f n := fun i i0 hi => by
  by_cases e : i = pos
  · subst e
    rcases hd with z | z
    · omega
    · exact z
  · by_cases e2 : (i - 1) / 2 = pos
    · rw [e2]
      exact h.kids i i0 hi e2
    · exact h.edge i i0 hi e e2
theorem heap_min {f : Nat → κ} {n : Nat} (O : Ordr lt) (h : Heaped lt f n) : ∀ i, i < n → lt (f i) (f 0) = false := by
  intro i
  induction i using Nat.strongRecOn with
  | ind i ih =>
    intro hi
    by_cases e : i = 0
    · subst e
      exact O.irr _
    · exact O.tr (ih ((i - 1) / 2) (by omega) (by omega)) (h i (by omega) hi)
theorem leaf_up {f : Nat → κ} {n pos : Nat} (h : Hole lt f n pos) (hl : n / 2 ≤ pos) : UpOk lt f n pos := ⟨h, fun i i0 hi e => absurd hi (by omega)⟩
theorem top_hole {f g : Nat → κ} {n : Nat} (h : Heaped lt f n) (hg : ∀ i, 0 < i → i < n → g i = f i) : Hole lt g n 0 where
  edge := fun i i0 hi _ n2 => by
    rw [hg i i0 hi, hg ((i - 1) / 2) (by omega) (by omega)]
    exact h i i0 hi
  over := fun i _ _ _ z => absurd z (Nat.lt_irrefl 0)
theorem end_up {f g : Nat → κ} {n : Nat} (h : Heaped lt f n) (hg : ∀ i, i < n → g i = f i) : UpOk lt g (n + 1) n where
  edge := fun i i0 hi n1 _ => by
    rw [hg i (by omega), hg ((i - 1) / 2) (by omega)]
    exact h i i0 (by omega)
  over := fun i i0 hi e _ => absurd hi (by omega)
  kids := fun i i0 hi e => absurd hi (by omega)
end
end HQ
namespace HQ
open PySem PySem.Spec PyProof.Rows PySem.Calls L2
section
variable {prog : Program} {w : World} {A : Around} {s : Shared} {E : Value → Shared → Prop}
theorem nk {id : String} {ps : List Value} {Q : Unit → Shared → Prop} (h : Q () s) : wpAny (model prog w) A (noKeywords id ⟨ps, []⟩) Q E s := wpAny_pure h
end
/-- keys of items, by data whose order is lt -/
structure Enc {κ : Type} (enc : κ → PyData) (lt : κ → κ → Bool) : Prop where
  ord : Ordr lt
  lt_eq : ∀ a b, PySem.W.dataLt (enc a) (enc b) = lt a b
  alike : ∀ a b, PySem.W.alike (enc a) (enc b) = true
  nn : ∀ a, enc a ≠ .none
  dep : ∀ a, (enc a).depth ≤ 60
section
variable {κ : Type} {enc : κ → PyData} {lt : κ → κ → Bool} {X : Cx} {pins : List (Addr × Obj)} {σ : L2.St} {H : Hp} {a : Addr}
/-- the items' data are read whatever the list at a holds -/
def HpAt (K : PySem.W.Frag) (H : Hp) (a : Addr) (enc : κ → PyData) (ps : List (V × κ)) : Prop := ∀ xs : List V, ∀ p, p ∈ ps → Dp K (L2.upd H a (.lst xs)) p.1 (enc p.2)
/-- the list at a holds these, and nothing else has changed -/
structure At (X : Cx) (pins : List (Addr × Obj)) (σ : L2.St) (H : Hp) (a : Addr) (ps : List (V × κ)) (its : List Value) (n : Nat) (s : Shared) : Prop where
  inv : Inv X pins σ (L2.upd H a (.lst (ps.map Prod.fst))) s
  ho : s.heap.get? a = some (seqObj "list" its.toArray n)
  rv : Vals (ps.map Prod.fst) its
  len : ps.length ≤ 1000
theorem At.of {ps : List (V × κ)} {s : Shared} (I : Inv X pins σ (L2.upd H a (.lst (ps.map Prod.fst))) s) (hl : ps.length ≤ 1000) : ∃ its n, At X pins σ H a ps its n s := by
  obtain ⟨_, its, n, rv, ho⟩ := (show ObjOk X.prog X.w _ s.heap a (.lst (ps.map Prod.fst)) from I.hok a _ upd_same)
  exact ⟨its, n, I, ho, rv, hl⟩
theorem At.get {ps : List (V × κ)} {its : List Value} {n i : Nat} {s : Shared} {p : V × κ} (h : At X pins σ H a ps its n s) (hi : ps[i]? = some p) : ∃ v, its[i]? = some v ∧ RelV p.1 v := h.rv.get (by rw [List.getElem?_map, hi]; rfl)
theorem At.size {ps : List (V × κ)} {its : List Value} {n : Nat} {s : Shared} (h : At X pins σ H a ps its n s) : its.length = ps.length := by rw [← h.rv.length, List.length_map]
theorem upd_upd {H : Hp} {a : Addr} {o u : HO} : L2.upd (L2.upd H a o) a u = L2.upd H a u := by
  funext b
  by_cases e : b = a
  · subst e; rw [upd_same, upd_same]
  · rw [upd_ne e, upd_ne e, upd_ne e]
/-- the list is written -/
theorem At.write {ps qs : List (V × κ)} {its : List Value} {n : Nat} {s : Shared} (h : At X pins σ H a ps its n s) (f : Array Value → Array Value) {ys : List Value} (hf : f its.toArray = ys.toArray) (rv : Vals (qs.map Prod.fst) ys) (hl : qs.length ≤ 1000) : ∃ m, At X pins σ H a qs ys m { s with heap := s.heap.update a (Obj.mapSeq f) } := by
  obtain ⟨m, hm⟩ : ∃ m, (s.heap.update a (Obj.mapSeq f)).get? a = some (seqObj "list" ys.toArray m) := ⟨_, by rw [get?_update_seq h.ho f, hf]⟩
  have I2 := h.inv.write (e := a) (o := .lst (qs.map Prod.fst)) (t' := s.toks) (h' := s.heap.update a (Obj.mapSeq f)) (by rw [upd_same]; trivial) (.inl rfl) (fun b u hb hu => (Heap.get?_update_ne _ _ _ _ hb).trans hu) ⟨_, hm⟩ ⟨by rw [List.length_map, sizeLine_eq]; omega, ys, m, rv, hm⟩
  rw [upd_upd] at I2
  exact ⟨m, I2, hm, rv, hl⟩
theorem vals_swap {xs : List V} {us : List Value} {i j : Nat} {x y : V} {u v : Value} (r : Vals xs us) (h1 : RelV x u) (h2 : RelV y v) : Vals ((xs.set i y).set j x) ((us.set i v).set j u) := Vals.set h1 j (Vals.set h2 i r)
/-- the model's compare of two items of the list -/
theorem less {ps : List (V × κ)} {its : List Value} {n : Nat} {s : Shared} {p q : V × κ} {x y : Value} {A : Around} {E : Value → Shared → Prop} {Q : Value → Shared → Prop} (O : Enc enc lt) (hD : HpAt X.K H a enc ps) (h : At X pins σ H a ps its n s) (hp : p ∈ ps) (hq : q ∈ ps) (rx : RelV p.1 x) (ry : RelV q.1 y) (hu : A.units + 60 < cLine)
    (k : Q (.bool (lt p.2 q.2)) s) : wpAny (model X.prog X.w) A (richCompare .Lt x y) Q E s := by
  obtain ⟨as, r1⟩ := Dp.reads h.inv (enc p.2) p.1 x (hD _ p hp) rx
  obtain ⟨bs, r2⟩ := Dp.reads h.inv (enc q.2) q.1 y (hD _ q hq) ry
  refine PySem.W.rcLt_alike _ _ A s x y _ _ r1 r2 (O.alike _ _) (O.nn _) ?_ X.prog X.w E Q (by rw [O.lt_eq]; exact k)
  have := Nat.min_le_left (enc p.2).depth (enc q.2).depth
  have := O.dep p.2
  omega
variable [Inhabited κ]
def fk (ps : List (V × κ)) : Nat → κ := fun i => ((ps[i]?).map Prod.snd).getD default
theorem fk_at {ps : List (V × κ)} {i : Nat} {p : V × κ} (h : ps[i]? = some p) : fk ps i = p.2 := by unfold fk; rw [h]; rfl
theorem fk_swap {ps : List (V × κ)} {i j : Nat} {p q : V × κ} (hp : ps[i]? = some p) (hq : ps[j]? = some q) (hne : i ≠ j) : fk ((ps.set i q).set j p) = sw (fk ps) i j := by
  have hi := (List.getElem?_eq_some_iff.mp hp).1
  have hj := (List.getElem?_eq_some_iff.mp hq).1
  funext x
  unfold sw
  by_cases e1 : x = i
  · subst e1
    rw [if_pos rfl, fk_at hq]
    exact fk_at (by rw [List.getElem?_set_ne hne.symm, List.getElem?_set_self hi])
  · rw [if_neg e1]
    by_cases e2 : x = j
    · subst e2
      rw [if_pos rfl, fk_at hp]
      exact fk_at (by rw [List.getElem?_set_self (by rw [List.length_set]; exact hj)])
    · rw [if_neg e2]
      unfold fk
      rw [List.getElem?_set_ne (Ne.symm e2), List.getElem?_set_ne (Ne.symm e1)]
theorem swap_perm {ps : List (V × κ)} {i j : Nat} {p q : V × κ} (hp : ps[i]? = some p) (hq : ps[j]? = some q) : ((ps.set i q).set j p).Perm ps := by
  obtain ⟨hi, e1⟩ := List.getElem?_eq_some_iff.mp hp
  obtain ⟨hj, e2⟩ := List.getElem?_eq_some_iff.mp hq
  have := List.set_set_perm (as := ps) hi hj
  rwa [e1, e2] at this
theorem HpAt.perm {K : PySem.W.Frag} {ps qs : List (V × κ)} (h : HpAt K H a enc ps) (hp : qs.Perm ps) : HpAt K H a enc qs := fun xs p hm => h xs p (hp.mem_iff.mp hm)
/-- two items of the list change their places -/
theorem At.swap {ps : List (V × κ)} {its : List Value} {n i j : Nat} {s : Shared} {p q : V × κ} {x y : Value} (h : At X pins σ H a ps its n s) (hp : ps[i]? = some p) (hq : ps[j]? = some q) (hx : its[i]? = some x) (hy : its[j]? = some y) (rx : RelV p.1 x) (ry : RelV q.1 y) :
    ∃ m, At X pins σ H a ((ps.set i q).set j p) ((its.set i y).set j x) m { s with heap := s.heap.update a (Obj.mapSeq fun xs => (xs.setIfInBounds i y).setIfInBounds j x) } :=
  h.write (fun xs => (xs.setIfInBounds i y).setIfInBounds j x) (by simp) (by rw [List.map_set, List.map_set]; exact vals_swap h.rv rx ry) (by rw [List.length_set, List.length_set]; exact h.len)
theorem sift_up {R : Result → Shared → Prop} {res : Value} {A : Around} (O : Enc enc lt) (hu : A.units + 61 < cLine) (ps0 : List (V × κ)) (k : ∀ qs its n s, At X pins σ H a qs its n s → qs.Perm ps0 → Heaped lt (fk qs) qs.length → R (.ok (.ret res)) s) :
    ∀ (pos : Nat) (ps : List (V × κ)) (its : List Value) (n : Nat) (s : Shared), At X pins σ H a ps its n s → HpAt X.K H a enc ps → ps.Perm ps0 → pos < ps.length → UpOk lt (fk ps) ps.length pos →
      codeAny (model X.prog X.w) A (.builtin "_heapq.heapify.sift" ⟨[.ref a, .bool false, .bool false, rawInt pos, rawInt 0, res, rawInt (-1)], []⟩) R s := by
  intro pos
  induction pos using Nat.strongRecOn with
  | ind pos ih =>
    intro ps its n s h hD hperm hpos hup
    refine codeAny_builtin entry_sift ?_
    rw [Around.under_plainId plain_sift _]
    unfold Builtin.«_heapq.heapify.sift»
    refine wpAny_bind ?_
    refine wpAny_bind (wpAny_seqItems h.ho rfl ?_)
    refine wpAny_pure ?_
    dsimp only
    rw [if_neg Bool.false_ne_true, Int.toNat_natCast]
    by_cases p0 : 0 < pos
    · rw [if_pos (show pos > Int.toNat 0 from p0)]
      obtain ⟨p, hp⟩ : ∃ p, ps[pos]? = some p := ⟨_, List.getElem?_eq_getElem hpos⟩
      obtain ⟨q, hq⟩ : ∃ q, ps[(pos - 1) / 2]? = some q := ⟨_, List.getElem?_eq_getElem (by omega)⟩
      obtain ⟨x, hx, rx⟩ := h.get hp
      obtain ⟨y, hy, ry⟩ := h.get hq
      have hpm := List.mem_iff_getElem?.mpr ⟨_, hp⟩
      have hqm := List.mem_iff_getElem?.mpr ⟨_, hq⟩
      refine wpAny_bind ?_
      show wpAny _ _ (match its.toArray[pos]? with | some v => pure v | none => _) _ _ _
      rw [show its.toArray[pos]? = some x by simpa using hx]
      refine wpAny_pure (wpAny_bind ?_)
      show wpAny _ _ (match its.toArray[(pos - 1) / 2]? with | some v => pure v | none => _) _ _ _
      rw [show its.toArray[(pos - 1) / 2]? = some y by simpa using hy]
      refine wpAny_pure ?_
      rw [if_neg Bool.false_ne_true]
      refine wpAny_bind (wpAny_bind (wpAny_holding (wpAny_bind (less (A := A.in1) O hD h hpm hqm rx ry (by show A.units + 1 + 60 < _; omega) (wpAny_truthy_bool (wpAny_bind (wpAny_bind (wpAny_seqItems h.ho rfl (wpAny_pure ?_)))))))))
      dsimp only
      rw [if_neg (by simp)]
      refine wpAny_pure ?_
      cases hlt : lt p.2 q.2 with
      | true =>
        rw [if_pos rfl]
        refine wpAny_bind (wpAny_bind (wpAny_bind (wpAny_seqItems h.ho rfl (wpAny_pure ?_))))
        refine wpAny_bind ?_
        show wpAny _ _ (match its.toArray[(pos - 1) / 2]? with | some v => pure v | none => _) _ _ _
        rw [show its.toArray[(pos - 1) / 2]? = some y by simpa using hy]
        refine wpAny_pure (wpAny_bind ?_)
        show wpAny _ _ (match its.toArray[pos]? with | some v => pure v | none => _) _ _ _
        rw [show its.toArray[pos]? = some x by simpa using hx]
        refine wpAny_pure ?_
        have hsz := h.size
        have hln := h.len
        refine wpAny_updateSeq h.ho rfl ?_ (by rw [List.size_toArray, sizeLine_eq]; omega) (by simp; rw [sizeLine_eq]; omega)
        obtain ⟨m, h2⟩ := h.swap hq hp hy hx ry rx
        have hsw := fk_swap hq hp (show (pos - 1) / 2 ≠ pos by omega)
        have hpm2 := (swap_perm hq hp).trans hperm
        refine wpAny_pure ⟨plainId_quiet plain_sift _, ?_⟩
        refine ih ((pos - 1) / 2) (by omega) _ _ m _ h2 (hD.perm (swap_perm hq hp)) hpm2 (by rw [List.length_set, List.length_set]; omega) ?_
        rw [hsw, List.length_set, List.length_set]
        exact hole_up O.ord hup p0 hpos (by rw [fk_at hp, fk_at hq]; exact hlt)
      | false =>
        rw [if_neg Bool.false_ne_true, if_pos (by decide)]
        refine wpAny_pure ?_
        exact k _ _ _ _ h hperm (up_done hup (.inr (by rw [fk_at hp, fk_at hq]; exact hlt)))
    · rw [if_neg (show ¬ pos > Int.toNat 0 from p0), if_pos (by decide)]
      refine wpAny_pure ?_
      exact k _ _ _ _ h hperm (up_done hup (.inl (by omega)))
theorem sift_down {R : Result → Shared → Prop} {res : Value} {A : Around} (O : Enc enc lt) (hu : A.units + 61 < cLine) (ps0 : List (V × κ)) (k : ∀ qs its n s, At X pins σ H a qs its n s → qs.Perm ps0 → Heaped lt (fk qs) qs.length → R (.ok (.ret res)) s) :
    ∀ (r pos : Nat) (ps : List (V × κ)) (its : List Value) (n : Nat) (s : Shared), ps.length - pos = r → At X pins σ H a ps its n s → HpAt X.K H a enc ps → ps.Perm ps0 → pos < ps.length → Hole lt (fk ps) ps.length pos →
      codeAny (model X.prog X.w) A (.builtin "_heapq.heapify.sift" ⟨[.ref a, .bool false, .bool true, rawInt pos, rawInt 0, res, rawInt (-1)], []⟩) R s := by
  intro r
  induction r using Nat.strongRecOn with
  | ind r ih =>
    intro pos ps its n s hr h hD hperm hpos hho
    have hsz := h.size
    have hln := h.len
    refine codeAny_builtin entry_sift ?_
    rw [Around.under_plainId plain_sift _]
    unfold Builtin.«_heapq.heapify.sift»
    refine wpAny_bind ?_
    refine wpAny_bind (wpAny_seqItems h.ho rfl ?_)
    refine wpAny_pure ?_
    dsimp only
    rw [if_pos rfl, Int.toNat_natCast, List.size_toArray, hsz]
    by_cases hin : pos < ps.length / 2
    · rw [if_pos hin]
      obtain ⟨p, hp⟩ : ∃ p, ps[pos]? = some p := ⟨_, List.getElem?_eq_getElem hpos⟩
      obtain ⟨x, hx, rx⟩ := h.get hp
      obtain ⟨q, hq⟩ : ∃ q, ps[2 * pos + 1]? = some q := ⟨_, List.getElem?_eq_getElem (by omega)⟩
      obtain ⟨y, hy, ry⟩ := h.get hq
      have hqm := List.mem_iff_getElem?.mpr ⟨_, hq⟩
      -- the swap with a child, and on
      have go : ∀ (c : Nat) (u : V × κ) (z : Value), ps[c]? = some u → its[c]? = some z → RelV u.1 z → (c = 2 * pos + 1 ∨ c = 2 * pos + 2) → (∀ d, 0 < d → d < ps.length → (d - 1) / 2 = pos → lt (fk ps d) (fk ps c) = false) →
          codeAny (model X.prog X.w) A (.builtin "_heapq.heapify.sift" ⟨[.ref a, .bool false, .bool true, rawInt c, rawInt 0, res, rawInt (-1)], []⟩) R { s with heap := s.heap.update a (Obj.mapSeq fun xs => (xs.setIfInBounds c x).setIfInBounds pos z) } := by
        intro c u z hc hz rz hcc hd
        have hcl := (List.getElem?_eq_some_iff.mp hc).1
        obtain ⟨m, h2⟩ := h.swap hc hp hz hx rz rx
        have hsw := fk_swap hc hp (show c ≠ pos by omega)
        refine ih (ps.length - c) (by omega) c _ _ m _ (by rw [List.length_set, List.length_set]) h2 (hD.perm (swap_perm hc hp)) ((swap_perm hc hp).trans hperm) (by rw [List.length_set, List.length_set]; omega) ?_
        rw [hsw, List.length_set, List.length_set]
        exact hole_down O.ord hho (by omega) (by omega) hcl hd
      by_cases h2 : 2 * pos + 1 + 1 < ps.length
      · rw [if_pos h2]
        obtain ⟨q2, hq2⟩ : ∃ q, ps[2 * pos + 1 + 1]? = some q := ⟨_, List.getElem?_eq_getElem h2⟩
        obtain ⟨y2, hy2, ry2⟩ := h.get hq2
        have hqm2 := List.mem_iff_getElem?.mpr ⟨_, hq2⟩
        refine wpAny_bind ?_
        show wpAny _ _ (match its.toArray[2 * pos + 1]? with | some v => pure v | none => _) _ _ _
        rw [show its.toArray[2 * pos + 1]? = some y by simpa using hy]
        refine wpAny_pure (wpAny_bind ?_)
        show wpAny _ _ (match its.toArray[2 * pos + 1 + 1]? with | some v => pure v | none => _) _ _ _
        rw [show its.toArray[2 * pos + 1 + 1]? = some y2 by simpa using hy2]
        refine wpAny_pure ?_
        rw [if_neg Bool.false_ne_true]
        refine wpAny_bind (wpAny_bind (wpAny_holding (wpAny_bind (less (A := A.in1) O hD h hqm hqm2 ry ry2 (by show A.units + 1 + 60 < _; omega) (wpAny_truthy_bool (wpAny_bind (wpAny_bind (wpAny_seqItems h.ho rfl (wpAny_pure ?_)))))))))
        dsimp only
        rw [if_neg (by simp [hsz])]
        refine wpAny_pure ?_
        cases hlt : lt q.2 q2.2 with
        | true =>
          rw [if_neg (by decide)]
          refine wpAny_bind (wpAny_bind (wpAny_bind (wpAny_seqItems h.ho rfl (wpAny_pure ?_))))
          refine wpAny_bind ?_
          show wpAny _ _ (match its.toArray[2 * pos + 1]? with | some v => pure v | none => _) _ _ _
          rw [show its.toArray[2 * pos + 1]? = some y by simpa using hy]
          refine wpAny_pure (wpAny_bind ?_)
          show wpAny _ _ (match its.toArray[pos]? with | some v => pure v | none => _) _ _ _
          rw [show its.toArray[pos]? = some x by simpa using hx]
          refine wpAny_pure ?_
          refine wpAny_updateSeq h.ho rfl ?_ (by rw [List.size_toArray, sizeLine_eq]; omega) (by simp; rw [sizeLine_eq]; omega)
          refine wpAny_pure ⟨plainId_quiet plain_sift _, go (2 * pos + 1) q y hq hy ry (.inl rfl) (fun d d0 dn e => ?_)⟩
          rw [fk_at hq]
          have hd : d = 2 * pos + 1 ∨ d = 2 * pos + 1 + 1 := by omega
          rcases hd with rfl | rfl
          · rw [fk_at hq]; exact O.ord.irr _
          · rw [fk_at hq2]; exact O.ord.asym hlt
        | false =>
          rw [if_pos (by decide)]
          refine wpAny_bind (wpAny_bind (wpAny_bind (wpAny_seqItems h.ho rfl (wpAny_pure ?_))))
          refine wpAny_bind ?_
          show wpAny _ _ (match its.toArray[2 * pos + 1 + 1]? with | some v => pure v | none => _) _ _ _
          rw [show its.toArray[2 * pos + 1 + 1]? = some y2 by simpa using hy2]
          refine wpAny_pure (wpAny_bind ?_)
          show wpAny _ _ (match its.toArray[pos]? with | some v => pure v | none => _) _ _ _
          rw [show its.toArray[pos]? = some x by simpa using hx]
          refine wpAny_pure ?_
          refine wpAny_updateSeq h.ho rfl ?_ (by rw [List.size_toArray, sizeLine_eq]; omega) (by simp; rw [sizeLine_eq]; omega)
          refine wpAny_pure ⟨plainId_quiet plain_sift _, go (2 * pos + 1 + 1) q2 y2 hq2 hy2 ry2 (.inr rfl) (fun d d0 dn e => ?_)⟩
          rw [fk_at hq2]
          have hd : d = 2 * pos + 1 ∨ d = 2 * pos + 1 + 1 := by omega
          rcases hd with rfl | rfl
          · rw [fk_at hq]; exact hlt
          · rw [fk_at hq2]; exact O.ord.irr _
      · rw [if_neg h2]
        refine wpAny_bind (wpAny_bind (wpAny_bind (wpAny_seqItems h.ho rfl (wpAny_pure ?_))))
        refine wpAny_bind ?_
        show wpAny _ _ (match its.toArray[2 * pos + 1]? with | some v => pure v | none => _) _ _ _
        rw [show its.toArray[2 * pos + 1]? = some y by simpa using hy]
        refine wpAny_pure (wpAny_bind ?_)
        show wpAny _ _ (match its.toArray[pos]? with | some v => pure v | none => _) _ _ _
        rw [show its.toArray[pos]? = some x by simpa using hx]
        refine wpAny_pure ?_
        refine wpAny_updateSeq h.ho rfl ?_ (by rw [List.size_toArray, sizeLine_eq]; omega) (by simp; rw [sizeLine_eq]; omega)
        refine wpAny_pure ⟨plainId_quiet plain_sift _, go (2 * pos + 1) q y hq hy ry (.inl rfl) (fun d d0 dn e => ?_)⟩
        rw [fk_at hq]
        have hd : d = 2 * pos + 1 := by omega
        subst hd
        rw [fk_at hq]; exact O.ord.irr _
    · rw [if_neg hin]
      refine wpAny_pure ⟨plainId_quiet plain_sift _, ?_⟩
      exact sift_up O hu ps0 k pos ps its n s h hD hperm hpos (leaf_up hho (by omega))
end
section
variable {κ : Type} [Inhabited κ] {X : Cx}
/-- heappush(l, y): l holds items with keys, heaped -/
def rPush (enc : κ → PyData) (lt : κ → κ → Bool) (K : PySem.W.Frag) : List V → Hp → VK → Prop := fun vs H Q => ∃ (a : Addr) (y : V) (k : κ) (ps : List (V × κ)), vs = [.ref a, y] ∧ H a = some (.lst (ps.map Prod.fst)) ∧ HpAt K H a enc (ps ++ [(y, k)]) ∧ Heaped lt (fk ps) ps.length ∧ ps.length ≤ 900 ∧
  ∀ qs : List (V × κ), qs.Perm (ps ++ [(y, k)]) → Heaped lt (fk qs) qs.length → Q .non (L2.upd H a (.lst (qs.map Prod.fst)))
/-- heappop(l) -/
def rPop (enc : κ → PyData) (lt : κ → κ → Bool) (K : PySem.W.Frag) : List V → Hp → VK → Prop := fun vs H Q => ∃ (a : Addr) (ps : List (V × κ)), vs = [.ref a] ∧ H a = some (.lst (ps.map Prod.fst)) ∧ HpAt K H a enc ps ∧ Heaped lt (fk ps) ps.length ∧ 0 < ps.length ∧ ps.length ≤ 1000 ∧
  ∀ (p : V × κ) (qs : List (V × κ)), (p :: qs).Perm ps → (∀ q, q ∈ ps → lt q.2 p.2 = false) → Heaped lt (fk qs) qs.length → Q p.1 (L2.upd H a (.lst (qs.map Prod.fst)))
theorem upd_id {H : Hp} {a : Addr} {o : HO} (h : H a = some o) : L2.upd H a o = H := by
  funext b
  by_cases e : b = a
  · subst e; rw [upd_same, h]
  · rw [upd_ne e]
theorem is_list {prog : Program} {w : World} {A : Around} {s : Shared} {E : Value → Shared → Prop} {Q : Bool → Shared → Prop} {a : Addr} {its : Array Value} {n : Nat} (ho : s.heap.get? a = some (seqObj "list" its n)) (h : Q true s) : wpAny (model prog w) A (isInstance (.ref a) (.type "list")) Q E s :=
  wpAny_isInstance (T := "list") ⟨_, ho, rfl⟩ sub_list_self h
theorem vals_split : ∀ {xs ys : List V} {us ws : List Value}, Vals (xs ++ ys) (us ++ ws) → xs.length = us.length → Vals xs us ∧ Vals ys ws
  | [], ys, [], ws, r, _ => ⟨.nil, r⟩
  | x :: xs, ys, u :: us, ws, r, h => by
    cases r with
    | cons a b =>
      obtain ⟨c, d⟩ := vals_split b (Nat.succ.inj h)
      exact ⟨.cons a c, d⟩
  | [], _, _ :: _, _, _, h => by cases h
  | _ :: _, _, [], _, _, h => by cases h
theorem vals2 {a : Addr} {y : V} {us : List Value} (r : Vals [V.ref a, y] us) : ∃ u, us = [.ref a, u] ∧ RelV y u := by
  cases r with
  | cons r t =>
    cases t with
    | cons r2 t =>
      cases t
      cases r
      exact ⟨_, rfl, r2⟩
theorem cr_push {enc : κ → PyData} {lt : κ → κ → Bool} (O : Enc enc lt) (hu : X.A.units + 64 < cLine) : CallR X (.builtin "_heapq.heappush") (rPush enc lt X.K) := by
  intro pins s σ H vs us Q I r h
  obtain ⟨a, y, k, ps, rfl, ha, hD, hh, hl, kk⟩ := h
  obtain ⟨u, rfl, ru⟩ := vals2 r
  have I0 := I
  rw [← upd_id ha] at I0
  obtain ⟨its, n, h0⟩ := At.of (a := a) (ps := ps) I0 (by omega)
  have hsz := h0.size
  refine call_function_tree kind_push plain_push entry_push (args_push _ _) ?_
  unfold Builtin.«_heapq.heappush»
  refine wpAny_bind (wpAny_bind (nk ?_))
  refine wpAny_bind (wpAny_of_eq (a := ()) (by rfl) ?_)
  refine wpAny_bind (wpAny_bind (is_list h0.ho ?_))
  refine wpAny_pure ?_
  refine wpAny_pure ?_
  dsimp only
  refine wpAny_bind (wpAny_updateSeq h0.ho rfl ?_ (by rw [List.size_toArray, sizeLine_eq]; omega) (by simp; rw [sizeLine_eq]; omega))
  obtain ⟨m, h1⟩ := h0.write (qs := ps ++ [(y, k)]) (fun xs => xs.push u) (ys := its ++ [u]) (by simp) (by rw [List.map_append]; exact Vals.append h0.rv (.cons ru .nil)) (by simp; omega)
  refine wpAny_bind (wpAny_bind (wpAny_seqItems h1.ho rfl (wpAny_pure ?_)))
  refine wpAny_pure ⟨plainId_quiet plain_sift _, ?_⟩
  have hs1 : (its ++ [u]).toArray.size - 1 = ps.length := by simp [hsz]
  rw [hs1]
  refine sift_up O (by omega) (ps ++ [(y, k)]) (fun qs its' n' s' h2 hp hq => ?_) ps.length _ _ m _ h1 hD (List.Perm.refl _) (by simp) ?_
  · exact ⟨.non, _, h2.inv, rfl, kk qs hp hq⟩
  · rw [List.length_append, List.length_singleton]
    exact end_up hh (fun i hi => by
      unfold fk
      rw [List.getElem?_append_left hi])
theorem cr_pop {enc : κ → PyData} {lt : κ → κ → Bool} (O : Enc enc lt) (hu : X.A.units + 64 < cLine) : CallR X (.builtin "_heapq.heappop") (rPop enc lt X.K) := by
  intro pins s σ H vs us Q I r h
  obtain ⟨a, ps, rfl, ha, hD, hh, h0l, hl, kk⟩ := h
  rw [Vals.ref1 r]
  have I0 := I
  rw [← upd_id ha] at I0
  obtain ⟨its, n, h0⟩ := At.of (a := a) (ps := ps) I0 hl
  have hsz := h0.size
  refine call_function_tree kind_pop plain_pop entry_pop (args_pop _) ?_
  unfold Builtin.«_heapq.heappop»
  refine wpAny_bind (wpAny_bind ?_)
  refine wpAny_bind (nk ?_)
  refine wpAny_pure ?_
  refine wpAny_bind (wpAny_bind (is_list h0.ho ?_))
  refine wpAny_pure ?_
  refine wpAny_pure ?_
  dsimp only
  refine wpAny_bind (wpAny_bind (wpAny_seqItems h0.ho rfl (wpAny_pure ?_)))
  have hmin : ∀ p0, ps[0]? = some p0 → ∀ q, q ∈ ps → lt q.2 p0.2 = false := fun p0 hp0 q hq => by
    obtain ⟨i, hi⟩ := List.mem_iff_getElem?.mp hq
    have := heap_min O.ord hh i (List.getElem?_eq_some_iff.mp hi).1
    rwa [fk_at hi, fk_at hp0] at this
  rcases List.eq_nil_or_concat ps with rfl | ⟨init, lp, hps⟩
  · exact absurd h0l (Nat.lt_irrefl 0)
  rw [List.concat_eq_append] at hps
  subst hps
  rcases List.eq_nil_or_concat its with rfl | ⟨iti, last, hits⟩
  · rw [List.length_append, List.length_singleton, List.length_nil] at hsz; omega
  rw [List.concat_eq_append] at hits
  subst hits
  have hsz2 : iti.length = init.length := by simpa using hsz
  have hlast : RelV lp.1 last := by
    obtain ⟨v, hv, rv⟩ := h0.get (i := init.length) (p := lp) (by rw [List.getElem?_append_right (Nat.le_refl _), Nat.sub_self]; rfl)
    rw [← hsz2, List.getElem?_append_right (Nat.le_refl _), Nat.sub_self] at hv
    cases hv
    exact rv
  have hinit : Vals (init.map Prod.fst) iti := by
    have r0 := h0.rv
    rw [List.map_append] at r0
    exact (vals_split r0 (by rw [List.length_map, hsz2])).1
  rw [show (iti ++ [last]).toArray.back? = some last by simp]
  dsimp only
  have hsl : init.length + 1 ≤ 1000 := by simpa using hl
  refine wpAny_bind (wpAny_updateSeq h0.ho rfl ?_ (by rw [List.size_toArray, sizeLine_eq]; simp; omega) (by simp; rw [sizeLine_eq]; omega))
  obtain ⟨m, h1⟩ := h0.write (qs := init) (fun xs => xs.pop) (ys := iti) (by simp) hinit (by omega)
  by_cases hone : init = []
  · subst hone
    rw [if_pos (by simp at hsz2; simp [hsz2])]
    refine wpAny_pure ?_
    exact ⟨lp.1, _, h1.inv, hlast, kk lp [] (by simp) (hmin lp rfl) (fun i h1 h2 => absurd h2 (Nat.not_lt_zero _))⟩
  · rw [if_neg (by
      have : iti.length ≠ 0 := by rw [hsz2]; exact fun z => hone (List.length_eq_zero_iff.mp z)
      simp; intro z; exact this (by rw [z]; rfl))]
    obtain ⟨p0, rest, rfl⟩ : ∃ p0 rest, init = p0 :: rest := by
      cases init with
      | nil => exact absurd rfl hone
      | cons p0 rest => exact ⟨p0, rest, rfl⟩
    obtain ⟨x0, hx0, rx0⟩ := h0.get (i := 0) (p := p0) rfl
    refine wpAny_bind ?_
    show wpAny _ _ (match (iti ++ [last]).toArray[0]? with | some v => pure v | none => _) _ _ _
    rw [show (iti ++ [last]).toArray[0]? = some x0 by rw [List.getElem?_toArray]; exact hx0]
    refine wpAny_pure (wpAny_bind (wpAny_updateSeq h1.ho rfl ?_ (by rw [List.size_toArray, sizeLine_eq]; omega) (by simp; rw [sizeLine_eq]; omega)))
    obtain ⟨m2, h2⟩ := h1.write (qs := lp :: rest) (fun xs => xs.setIfInBounds 0 last) (ys := iti.set 0 last) (by simp) (by
      have := Vals.set hlast 0 h1.rv
      rwa [List.map_cons, List.set_cons_zero] at this) (by simp at hsl ⊢; omega)
    refine wpAny_pure ⟨plainId_quiet plain_sift _, ?_⟩
    have hperm : (p0 :: (lp :: rest)).Perm (p0 :: rest ++ [lp]) := by
      rw [List.cons_append]
      exact List.Perm.cons _ (by simpa using (List.perm_append_comm (l₁ := [lp]) (l₂ := rest)))
    refine sift_down O (by omega) (lp :: rest) (fun qs its' n' s' h3 hp hq => ?_) _ 0 _ _ m2 _ rfl h2 (fun xs p hp => hD xs p (hperm.mem_iff.mp (List.mem_cons_of_mem _ hp))) (List.Perm.refl _) (by simp) ?_
    · exact ⟨p0.1, _, h3.inv, rx0, kk p0 qs ((List.Perm.cons _ hp).trans hperm) (hmin p0 rfl) hq⟩
    · refine top_hole (f := fk (p0 :: rest ++ [lp])) (fun i i0 hi => hh i i0 (by simp at hi ⊢; omega)) fun i i0 hi => ?_
      unfold fk
      obtain ⟨j, rfl⟩ : ∃ j, i = j + 1 := ⟨i - 1, by omega⟩
      rw [List.cons_append, List.getElem?_cons_succ, List.getElem?_cons_succ, List.getElem?_append_left (by simpa using hi)]
end
end HQ
namespace My
open PySem L2

local macro_rules | `(tactic| walk_at "src") => `(tactic| first | assumption | (refine' SrcAt.keep ?h ?s; (case s => assumption); (case h => walk_at "src")))
local macro_rules | `(tactic| walk_at "ne") => `(tactic| first | assumption | (apply Ne.symm; assumption) | (refine' SrcAt.ne ?a ?b; (case b => assumption); (case a => walk_at "src")))
local macro_rules | `(tactic| walk_at "hp") => `(tactic| first
  | assumption
  | with_reducible exact upd_same
  | (refine' Same.at ?s ?h; (case s => assumption); (case h => walk_at "hp"))
  | (refine' But.at ?s ?n ?h; (case s => assumption); (case n => walk_at "ne"); (case h => walk_at "hp"))
  | (rw [upd_ne (by first | assumption | (apply Ne.symm; assumption))]; walk_at "hp"))
local macro_rules | `(tactic| walk_at "side") => `(tactic| first | assumption | decide | omega | exact mulL (by omega) (by omega) | exact mulR (by omega) (by omega) | exact cdiv_of (by omega) (by omega) | exact powOk (by omega) (by omega) (by decide) | exact mulL (Int.lt_of_lt_of_le (by decide) (fmod_nn (by decide))) (Int.lt_trans (fmod_lt (by decide)) (by decide)))
local macro_rules | `(tactic| walk_at "pl") => `(tactic| ((repeat with_reducible refine putF_le ?_); with_unfolding_all exact Nat.le_of_ble_eq_true rfl))
local macro_rules | `(tactic| walk_at "lk") => `(tactic| first | assumption | (rw [lookup_putF, if_pos rfl]) | (rw [lookup_putF, if_neg (by decide +kernel)]; walk_at "lk"))
local macro_rules | `(tactic| walk_at "cls") => `(tactic| first | with_unfolding_all exact Txt.cl_Machine (by assumption) | with_unfolding_all exact Txt.nF_Machine_o (by assumption) | with_unfolding_all exact Txt.nF_Machine_l (by assumption) | with_unfolding_all exact Txt.nF_Machine_g (by assumption) | with_unfolding_all exact Txt.nF_Machine_letter (by assumption) | with_unfolding_all exact Txt.nF_Machine_gap (by assumption))
/-- one turn of a reading -/
local macro_rules | `(tactic| walk_at "rd") => `(tactic| with_reducible first
  | (refine r_seq ?_; fail_if_success (refine r_ifS ?_))
  | refine r_asg ?_
  | refine r_gName ?_
  | (refine' r_var ?hv ?_; (case hv => with_unfolding_all exact rfl))
  | refine r_c ?_
  | refine r_op ?_
  | refine r_I0 ?_
  | (refine' r_I ?hc ?_; (case hc => walk_at "side"))
  | refine r_add ?_
  | refine r_sub ?_
  | refine r_eqI ?_
  | refine r_neI ?_
  | (refine' r_ixL ?hp ?he ?_; (case hp => walk_at "hp"); (case he => with_unfolding_all exact rfl))
  | (refine' r_ixT ?hp ?he ?_; (case hp => walk_at "hp"); (case he => with_unfolding_all exact rfl))
  | refine r_cons ?_
  | refine r_nil ?_
  | refine r_CB ?_
  | refine r_call ?_
  | refine r_test ?_
  | refine r_tB ?_
  | refine r_bl ?_
  | refine r_in ?_
  | refine Or.inl (r_in1 ?_)
  | refine r_in1 ?_
  | refine r_in2 ?_
  | (refine' r_lenL ?hp ?_; (case hp => walk_at "hp"))
  | (refine' r_lenT ?hp ?_; (case hp => walk_at "hp"))
  | refine r_ifS ?_
  | refine r_and ?_
  | refine r_or ?_
  | refine r_not ?_
  | refine r_andV ?_
  | refine r_orV ?_
  | refine r_notV ?_
  | refine r_ifE ?_
  | refine r_ret ?_
  | refine r_next ?_
  | refine r_drop ?_
  | refine r_gSub ?_
  | (refine' r_setL ?hp ?he ?_; (case hp => walk_at "hp"); (case he => with_unfolding_all exact rfl))
  | (refine' r_aug ?he ?_; (case he => with_unfolding_all exact rfl))
  | refine r_augS ?_
  | refine r_ip ?_
  | refine r_tup ?_
  | refine r_lst ?_
  | refine r_tFld ?_
  | (refine' r_fld ?hc ?hn ?hx ?he ?_; (case hx => walk_at "hp"); (case hc => walk_at "cls"); (case hn => walk_at "cls"); (case he => walk_at "lk"))
  | (refine' r_put ?hc ?hn ?hx ?hl ?_; (case hx => walk_at "hp"); (case hc => walk_at "cls"); (case hn => walk_at "cls"); (case hl => walk_at "pl"))
  | refine r_sl ?_
  | refine r_noP ?_
  | refine r_part ?_
  | refine r_un ?_
  | refine r_U ?_
  | refine r_Bm ?_
  | refine r_cont ?_
  | refine r_brk ?_
  | refine r_isNn ?_
  | refine r_isNi ?_
  | refine r_isNr ?_
  | refine r_notNn ?_
  | refine r_notNi ?_
  | refine r_notNr ?_
  | refine r_chain ?_
  | refine r_sFld ?_
  | refine r_make ?_
  | refine r_yes ?_
  | refine r_lc ?_
  | refine r_isiI true (by decide +kernel) ?_
  | refine r_isiI false (by decide +kernel) ?_
  | refine r_for ?_
  | refine r_iR1 ?_
  | refine r_iR2 ?_
  | refine r_iL ?_
  | refine r_tMeth ?_
  | (refine' r_meth ?hx ?hl ?_; (case hx => walk_at "hp"); (case hl => walk_at "no"))
  | refine r_iT ?_
  | refine iteT ?_
  | refine r_nF ?_
  | refine r_nT ?_
  | refine iteF ?_)
local macro_rules | `(tactic| walk_at "rdi") => `(tactic| with_reducible (refine r_seq ?_; refine r_ifS ?_))

/-! ### the law's draws -/
def spDraw : Sp := fun vs H Q _ => ∃ (p q : Addr) (lim : Int), vs = [.ref p, .int lim] ∧ SrcAt H p q ∧ 0 < lim ∧ lim < 2 ^ 200 ∧
  ∀ (r : Int) (H' : Hp), 0 ≤ r → r < lim → SrcAt H' p q → But p H H' → Q (.int r) H'
section
variable {P : Program} {w : World} {K : PySem.W.Frag} {mg : Str → Option Value} {base : Heap} {a : Adr}
theorem ok__law_draw (T : Txt K mg a) : FnOk P w K mg base CX0 1 a.a__law_draw a.d__law_draw ["_law_source_here", "_law_limit"] spDraw := by
  refine T.F__law_draw.ok sc__law_draw (fun vs H Q E h => ?_) (fun cdv A outer s H vs Q E hr h => ?_)
  · obtain ⟨p, q, lim, rfl, _⟩ := h
    rfl
  · obtain ⟨p, q, lim, rfl, ⟨cs, i, big, cnt, st, h1, h2, h3, hi, hb, hl⟩, hl0, hl1, k⟩ := h
    refine ⟨_, (pss_cons (ps_augS (pv 0) pe_int gt_list pe_int ip_add set_list)
 (pss_cons (ps_if (PW.pt (pw_and (pt_cmpR op_eq (pe_ix ix_list (pv 0) pe_int (fun _ _ => rfl)) pe_int (nomark _)) (pw_and1 (pt_cmpR op_lt (pe_ix ix_list (pv 0) pe_int (fun _ _ => rfl)) (pe_callB call_len_seq (by rfl) T.n_len (by decide +kernel) (pa_cons (pe_ix ix_list (pv 0) pe_int (fun _ _ => rfl)) pa_nil)) (nomark _))))) (pss_cons (ps_set (i := 2) sc__law_draw.nd rfl (Or.inl rfl) (pe_ix ix_list (pe_ix ix_list (pv 0) pe_int (fun _ _ => rfl)) (pe_ix ix_list (pv 0) pe_int (fun _ _ => rfl)) (fun _ _ => rfl)))
 (pss_cons (ps_augS (pv 0) pe_int gt_list pe_int ip_add set_list)
 (pss_one (ps_if (pt_cmpR op_ge (pv 2) (pe_powN (z := 1000000000000000000) ⟨by decide, by decide, by decide⟩ (by decide +kernel)) (nomark _)) (pss_one (ps_asg (pv 2) (pg_sub (pv 0) pe_int set_list)))
 (pss_one (ps_asg (pe_op op_modN (pe_callTy call_int1 (by rfl) T.n_int (by decide +kernel) (pa_cons (pe_op op_add (pe_op op_add (pe_op op_mul (pe_ix ix_list (pv 0) pe_int (fun _ _ => rfl)) pe_int) (pe_op op_mul (pv 2) pe_int)) pe_int) pa_nil)) pe_int) (pg_sub (pv 0) pe_int set_list)))))))
 pss_nil)
 (pss_cons (ps_if (pt_cmpR op_gt (pe_ix ix_list (pv 0) pe_int (fun _ _ => rfl)) pe_int (nomark _)) (pss_cons (ps_set (i := 3) sc__law_draw.nd rfl (Or.inl rfl) (pe_op op_modN (pe_callTy call_int1 (by rfl) T.n_int (by decide +kernel) (pa_cons (pe_ix ix_list (pv 0) pe_int (fun _ _ => rfl)) pa_nil)) (pv 1)))
 (pss_cons (ps_asg (pe_op op_fdivW (pe_ix ix_list (pv 0) pe_int (fun _ _ => rfl)) (pv 1)) (pg_sub (pv 0) pe_int set_list))
 (pss_one (ps_ret (pv 3)))))
 pss_nil)
 (pss_cons (ps_set (i := 4) sc__law_draw.nd rfl (Or.inl rfl) (pe_op op_modN (pe_callTy call_int1 (by rfl) T.n_int (by decide +kernel) (pa_cons (pe_op op_mul (pe_op op_add (pe_ix ix_list (pv 0) pe_int (fun _ _ => rfl)) (pe_op op_mul pe_int (pe_ix ix_list (pv 0) pe_int (fun _ _ => rfl)))) pe_int) pa_nil)) pe_int))
 (pss_cons (ps_set (i := 5) sc__law_draw.nd rfl (Or.inl rfl) (pe_op op_modN (pe_callTy call_int1 (by rfl) T.n_int (by decide +kernel) (pa_cons (pe_op op_mul (pv 4) (pe_op op_add (pe_op op_fdivW (pv 4) pe_int) pe_int)) pa_nil)) pe_int))
 (pss_cons (ps_set (i := 6) sc__law_draw.nd rfl (Or.inl rfl) (pe_op op_modN (pe_callTy call_int1 (by rfl) T.n_int (by decide +kernel) (pa_cons (pe_op op_mul (pv 5) (pe_op op_add (pe_op op_fdivW (pv 5) pe_int) pe_int)) pa_nil)) pe_int))
 (pss_one (ps_ret (pe_op op_modN (pe_callTy call_int1 (by rfl) T.n_int (by decide +kernel) (pa_cons (pe_op op_fdivW (pv 6) pe_int) pa_nil)) (pv 1)))))))))), ?_⟩
    -- src[3] += 1
    repeat walk_at "rd"
    with_reducible refine seq_with (fun σ H' => ∃ (i big cnt st : Int) (v : Option V), σ = [some (.ref p), some (.int lim), v, none, none, none, none] ∧ H' p = some (.lst [.ref q, .int i, .int big, .int cnt, .int st]) ∧ H' q = some (.lst (cs.map V.int)) ∧ But p H H' ∧ 0 ≤ i ∧ 0 ≤ big) ?_ (fun rest => ?_)
    · clear h1 h2 hi hb
      rintro σ H' ⟨i, big, cnt, st, v, rfl, hp, hq, bt, hi, hb⟩
      walk_at "rdi"
      repeat walk_at "rd"
      refine ite_d (fun hc => ?_) (fun hc => ?_)
      · repeat walk_at "rd"
        exact k _ _ (fmod_nn hl0) (fmod_lt hl0) ⟨cs, i, _, cnt, st, upd_same, (upd_ne h3).trans hq, h3, hi, Int.ediv_nonneg hb (by omega), hl⟩ (bt.trans But.upd)
      · repeat walk_at "rd"
        exact k _ _ (fmod_nn hl0) (fmod_lt hl0) ⟨cs, i, _, cnt, st, hp, hq, h3, hi, hb, hl⟩ bt
    · have nq : H q ≠ none := by rw [h2]; intro z; cases z
      have hp1 : upd H p (HO.lst ([V.ref q, V.int i, V.int big, V.int cnt, V.int st].set (Int.toNat 3) (V.int (cnt + 1)))) p = some (.lst [.ref q, .int i, .int big, .int (cnt + 1), .int st]) := upd_same
      have hq1 : upd H p (HO.lst ([V.ref q, V.int i, V.int big, V.int cnt, V.int st].set (Int.toNat 3) (V.int (cnt + 1)))) q = some (.lst (cs.map V.int)) := (upd_ne h3).trans h2
      have bt1 : But p H (upd H p (HO.lst ([V.ref q, V.int i, V.int big, V.int cnt, V.int st].set (Int.toNat 3) (V.int (cnt + 1))))) := But.upd
      generalize upd H p (HO.lst ([V.ref q, V.int i, V.int big, V.int cnt, V.int st].set (Int.toNat 3) (V.int (cnt + 1)))) = H1 at hp1 hq1 bt1 ⊢
      clear h1 h2
      have no : ∀ (v : Option V), _ := fun v => rest [some (.ref p), some (.int lim), v, none, none, none, none] H1 ⟨i, big, cnt + 1, st, v, rfl, hp1, hq1, bt1, hi, hb⟩
      repeat walk_at "rd"
      refine ite_d (fun hc => ?_) (fun hc => ?_)
      · repeat walk_at "rd"
        refine ite_d (fun hc2 => ?_) (fun hc2 => ?_)
        · obtain ⟨c, hc3, _⟩ := at_nat (ns := cs) hi hc2
          repeat walk_at "rd"
          refine r_ixL hq1 hc3 ?_
          repeat walk_at "rd"
          refine ite_d (fun hc4 => ?_) (fun hc4 => ?_)
          · repeat walk_at "rd"
            exact rest _ _ ⟨i + 1, c, cnt + 1, st, _, rfl, upd_same, (upd_ne h3).trans ((upd_ne h3).trans hq1), (bt1.trans But.upd).trans But.upd, by omega, by omega⟩
          · repeat walk_at "rd"
            exact rest _ _ ⟨i + 1, big, cnt + 1, _, _, rfl, upd_same, (upd_ne h3).trans ((upd_ne h3).trans hq1), (bt1.trans But.upd).trans But.upd, by omega, by omega⟩
        · ((repeat walk_at "rd"); exact no none)
      · ((repeat walk_at "rd"); exact no none)

end

/-! ### the machine's numbers, its times, whether a thing is an int -/
/-- o, l, g of a machine, at t -/
structure NumAt (H : Hp) (t : Addr) (o l g : Int) : Prop where
  at_ : H t = some (.tup [.int o, .int l, .int g])
  o0 : 0 ≤ o
  o9 : o ≤ 1000000000
  l0 : 0 ≤ l
  l9 : l ≤ 1000000000
  g1 : 1 ≤ g
  g9 : g ≤ 1000000000
  pos : 0 < 2 * o + l
theorem NumAt.keep {H H' : Hp} {t : Addr} {o l g : Int} (N : NumAt H t o l g) (h : H' t = H t) : NumAt H' t o l g := { N with at_ := h.trans N.at_ }
def spNumbers : Sp := fun vs H Q _ => ∃ (p q : Addr), vs = [.ref p] ∧ SrcAt H p q ∧ ∀ (t : Addr) (o l g : Int) (H' : Hp), NumAt H' t o l g → H t = none → SrcAt H' p q → But p H H' → Q (.ref t) H'
def gapOf (o g : Int) : Int := if g > o then g else o
def spIs : Sp := fun vs H Q _ => ∃ (i j : Int), vs = [.int i, .int j] ∧ Q (.bl (decide (i = j))) H
def spSource (K : PySem.W.Frag) : Sp := fun vs H Q _ => ∃ (b : Addr) (ns : List Int), vs = [.ref b] ∧ SqL K H b (ns.map V.int) ∧ ns.length ≤ 63 ∧ ∀ (p q : Addr) (H' : Hp), SrcAt H' p q → H p = none → H q = none → Same H H' → Q (.ref p) H'
section
variable {P : Program} {w : World} {K : PySem.W.Frag} {mg : Str → Option Value} {base : Heap} {a : Adr}
theorem ok__law_source (T : Txt K mg a) : FnOk P w K mg base CX0 1 a.a__law_source a.d__law_source ["_law_script"] (spSource K) := by
  refine T.F__law_source.ok sc__law_source (fun vs H Q E h => ?_) (fun cdv A outer s H vs Q E hr h => ?_)
  · obtain ⟨i, j, rfl, _⟩ := h
    rfl
  · obtain ⟨b, ns, rfl, hS, hl, k⟩ := h
    refine ⟨_, (pss_one (ps_ret (pe_lst (pa_cons (pe_lc (own := [("_law_cell", 1)]) (g := gName 1) (tt := tYes) rfl sc__law_source.nd (pi_list (pe_slice sl_list (pv 0) po_none (po_some pe_int))) (blkOk_by (own := [("_law_cell", 1)]) (N := ["_law_script", "_law_cell"]) (sc := defScope s__law_source) (by decide +kernel)) (fun _ _ _ _ _ => (pg_name (i := 1) sc__law_source.nd rfl (Or.inl rfl))) (fun _ _ _ _ _ => pts_nil) (fun _ _ _ _ _ => (pe_callTy call_int1 (by rfl) T.n_int (by decide +kernel) (pa_cons (pv 1) pa_nil)))) (pa_cons pe_int (pa_cons pe_int (pa_cons pe_int (pa_cons pe_int pa_nil)))))))), ?_⟩
    repeat walk_at "rd"
    refine r_slL hS (fun p0 H1 n0 s1 e0 => ?_)
    rw [cut_take (by rw [List.length_map]; omega)] at e0
    refine ⟨p0, rfl, ⟨_, SqL.of e0⟩, fun D hD => lc_list (K := K) (a := p0) (xs := ns.map V.int) (fun i H' => H' D = some (.lst ((ns.take i).map V.int)) ∧ H' p0 = some (.lst (ns.map V.int)) ∧ Same H H') ?_ (fun i H' _ h => SqL.of h.2.1) ?_ ?_⟩
    · exact ⟨upd_same, (upd_ne (ne_of_none e0 hD)).trans e0, s1.trans (Same.new hD)⟩
    · rintro i x H2 hi ⟨h1, h2, h3⟩
      obtain ⟨z, hz, rfl⟩ := int_of_get hi
      repeat walk_at "rd"
      refine ⟨rfl, ?_⟩
      repeat walk_at "rd"
      have nD : H D = none := s1.free hD
      refine ⟨_, h1, small1000 (by rw [List.length_map, List.length_take]; omega), ?_, (upd_ne (ne_of_none e0 hD)).trans h2, h3.over nD h1⟩
      rw [upd_same, take_more hz, List.map_append]
      rfl
    · rintro H2 ⟨h1, h2, h3⟩
      repeat walk_at "rd"
      refine new_at (Nat.le_of_ble_eq_true rfl) (fun p H3 np s3 e3 => ?_)
      rw [List.length_map, List.take_length] at h1
      exact k p D _ ⟨ns, 0, 0, 0, 7, e3, s3 _ _ h1, ne_of_none h1 np, by decide, by decide, hl⟩ (h3.free np) (s1.free hD) (h3.trans s3)
end

/-! ### integers, machines -/
/-- whether the value is an int and no bool -/
def IntV (K : PySem.W.Frag) (H : Hp) (x : V) (b : Bool) : Prop := ∃ (t : Value) (b1 b2 : Bool), TyX K H x t ∧ PySem.W.kitOne K t (.type "int") = some b1 ∧ PySem.W.kitOne K t (.type "bool") = some b2 ∧ b = (b1 && !b2)
theorem IntV.int {K : PySem.W.Frag} {H : Hp} {i : Int} : IntV K H (.int i) true := ⟨_, true, false, .base (.int i), kit_ty (by decide +kernel), kit_ty (by decide +kernel), rfl⟩
theorem r_isi {K : PySem.W.Frag} {H : Hp} {Q : VK} {x : V} {t : Value} {n : String} {b : Bool} (ty : TyX K H x t) (h : PySem.W.kitOne K t (.type n) = some b) (q : Q (.bl b) H) : rIsi K [x, .ty n] H Q := ⟨_, _, t, .type n, b, rfl, .ty n, ty, h, q⟩
def spIsInteger (K : PySem.W.Frag) : Sp := fun vs H Q _ => ∃ (x : V) (b : Bool), vs = [x] ∧ IntV K H x b ∧ Q (.bl b) H
def spBetween (K : PySem.W.Frag) : Sp := fun vs H Q _ => ∃ (x : V) (lo hi : Int) (b : Bool), vs = [x, .int lo, .int hi] ∧ IntV K H x b ∧ (b = false → Q (.bl false) H) ∧ (b = true → ∃ i, x = .int i ∧ Q (.bl (decide (lo ≤ i ∧ i ≤ hi))) H)
theorem r_between {K : PySem.W.Frag} {H : Hp} {Q : VK} {E : XK} {i lo hi : Int} (q : Q (.bl (decide (lo ≤ i ∧ i ≤ hi))) H) : spBetween K [.int i, .int lo, .int hi] H Q E := ⟨_, lo, hi, true, rfl, IntV.int, (fun z => Bool.noConfusion z), fun _ => ⟨i, rfl, q⟩⟩
/-- the attributes of a machine -/
def mf (o l g : Int) : List (Str × V) := putF "gap" (.int (gapOf o g)) (putF "letter" (.int (2 * o + l)) (putF "g" (.int g) (putF "l" (.int l) (putF "o" (.int o) []))))
def MachAt (C : Addr) (H : Hp) (m : Addr) (o l g : Int) : Prop := ∃ dx, H m = some (.ins C dx (mf o l g))
theorem MachAt.keep {C m : Addr} {H H' : Hp} {o l g : Int} (h : MachAt C H m o l g) (s : Same H H') : MachAt C H' m o l g := let ⟨dx, e⟩ := h; ⟨dx, s _ _ e⟩
theorem mf_o {o l g : Int} : (mf o l g).lookup ("o" : Str) = some (.int o) := by unfold mf; walk_at "lk"
theorem mf_l {o l g : Int} : (mf o l g).lookup ("l" : Str) = some (.int l) := by unfold mf; walk_at "lk"
theorem mf_g {o l g : Int} : (mf o l g).lookup ("g" : Str) = some (.int g) := by unfold mf; walk_at "lk"
theorem mf_letter {o l g : Int} : (mf o l g).lookup ("letter" : Str) = some (.int (2 * o + l)) := by unfold mf; walk_at "lk"
theorem mf_gap {o l g : Int} : (mf o l g).lookup ("gap" : Str) = some (.int (gapOf o g)) := by unfold mf; walk_at "lk"
theorem MachAt.but {C m p : Addr} {H H' : Hp} {o l g : Int} (h : MachAt C H m o l g) (s : But p H H') (n : m ≠ p) : MachAt C H' m o l g := let ⟨dx, e⟩ := h; ⟨dx, s _ _ e n⟩
def spMachine (C : Addr) : Sp := fun vs H Q _ => ∃ (m dx : Addr) (o l g : Int), vs = [.ref m, .int o, .int l, .int g] ∧ H m = some (.ins C dx []) ∧ (0 ≤ o ∧ o ≤ 1000000000) ∧ (0 ≤ l ∧ l ≤ 1000000000) ∧ (1 ≤ g ∧ g ≤ 1000000000) ∧ 0 < 2 * o + l ∧ ∀ H', MachAt C H' m o l g → But m H H' → Q .non H'
local macro_rules | `(tactic| walk_at "lk") => `(tactic| first | exact mf_o | exact mf_l | exact mf_g | exact mf_letter | exact mf_gap)
section
variable {P : Program} {w : World} {K : PySem.W.Frag} {mg : Str → Option Value} {base : Heap} {a : Adr}
theorem ok_is_integer (T : Txt K mg a) : FnOk P w K mg base CX0 1 a.a_is_integer a.d_is_integer ["thing"] (spIsInteger K) := by
  refine T.F_is_integer.ok sc_is_integer (fun vs H Q E h => ?_) (fun cdv A outer s H vs Q E hr h => ?_)
  · obtain ⟨x, b, rfl, _⟩ := h
    rfl
  · obtain ⟨x, b, rfl, ⟨t, b1, b2, ty, h1, h2, rfl⟩, k⟩ := h
    refine ⟨_, (pss_one (ps_ret (pe_and (pe_callB call_isi (by rfl) T.n_isinstance (by decide +kernel) (pa_cons (pv 0) (pa_cons (pe_bltn (v := .ty "int") (u := .type "int") (by rfl) T.n_int (by decide +kernel) rfl) pa_nil))) (pe_one (pe_not (pe_callB call_isi (by rfl) T.n_isinstance (by decide +kernel) (pa_cons (pv 0) (pa_cons (pe_bltn (v := .ty "bool") (u := .type "bool") (by rfl) T.n_bool (by decide +kernel) rfl) pa_nil)))))))), ?_⟩
    repeat walk_at "rd"
    refine r_isi ty h1 ?_
    refine ⟨b1, rfl, ?_⟩
    cases b1 with
    | false => exact iteF k
    | true =>
      repeat walk_at "rd"
      refine r_isi ty h2 ?_
      exact ⟨b2, rfl, k⟩
theorem ok_is_between (T : Txt K mg a) : FnOk P w K mg base CX0 2 a.a_is_between a.d_is_between ["thing", "low", "high"] (spBetween K) := by
  refine T.F_is_between.ok sc_is_between (fun vs H Q E h => ?_) (fun cdv A outer s H vs Q E hr h => ?_)
  · obtain ⟨x, lo, hi, b, rfl, _⟩ := h
    rfl
  · obtain ⟨x, lo, hi, b, rfl, iv, k0, k1⟩ := h
    refine ⟨_, (pss_one (ps_ret (pe_and (pe_call (ok_is_integer T) (hr.mono (by decide)) (by rfl) T.g_is_integer T.F_is_integer.kp T.b_is_integer .nil pass0 (pa_cons (pv 0) pa_nil)) (pe_one (pe_chain op_le op_le (pv 1) (pv 0) (pv 2)))))), ?_⟩
    repeat walk_at "rd"
    refine ⟨x, b, rfl, iv, ?_⟩
    refine ⟨b, rfl, ?_⟩
    cases b with
    | false => exact iteF (k0 rfl)
    | true =>
      obtain ⟨i, rfl, q⟩ := k1 rfl
      repeat walk_at "rd"
      refine ite_d (fun h1 => ?_) (fun h1 => ?_)
      · repeat walk_at "rd"
        rw [decide_eq_decide.mpr (show lo ≤ i ∧ i ≤ hi ↔ i ≤ hi from ⟨fun h => h.2, fun h => ⟨h1, h⟩⟩)] at q
        exact q
      · rw [decide_eq_false (show ¬ (lo ≤ i ∧ i ≤ hi) from fun h => h1 h.1)] at q
        exact q
theorem ok_Machine_init (T : Txt K mg a) : FnOk P w K mg base CX0 3 a.a_Machine_init a.d_Machine_init ["self", "o", "l", "g"] (spMachine a.c_Machine) := by
  refine T.F_Machine_init.ok sc_Machine_init (fun vs H Q E h => ?_) (fun cdv A outer s H vs Q E hr h => ?_)
  · obtain ⟨m, dx, o, l, g, rfl, _⟩ := h
    rfl
  · obtain ⟨m, dx, o, l, g, rfl, hm, ho, hl, hg, hp, k⟩ := h
    refine ⟨_, (pss_cons (ps_if (pt_not (pt_val (pe_call (ok_is_between T) (hr.mono (by decide)) (by rfl) T.g_is_between T.F_is_between.kp T.b_is_between .nil pass0 (pa_cons (pv 1) (pa_cons pe_int (pa_cons (pe_glob (v := .int 1000000000) (by rfl) T.g_GREATEST_PART.choose_spec ⟨_, rfl⟩) pa_nil)))))) (pss_one ps_never)
 pss_nil)
 (pss_cons (ps_if (pt_not (pt_val (pe_call (ok_is_between T) (hr.mono (by decide)) (by rfl) T.g_is_between T.F_is_between.kp T.b_is_between .nil pass0 (pa_cons (pv 2) (pa_cons pe_int (pa_cons (pe_glob (v := .int 1000000000) (by rfl) T.g_GREATEST_PART.choose_spec ⟨_, rfl⟩) pa_nil)))))) (pss_one ps_never)
 pss_nil)
 (pss_cons (ps_if (pt_not (pt_val (pe_call (ok_is_between T) (hr.mono (by decide)) (by rfl) T.g_is_between T.F_is_between.kp T.b_is_between .nil pass0 (pa_cons (pv 3) (pa_cons pe_int (pa_cons (pe_glob (v := .int 1000000000) (by rfl) T.g_GREATEST_PART.choose_spec ⟨_, rfl⟩) pa_nil)))))) (pss_one ps_never)
 pss_nil)
 (pss_cons (ps_if (pt_cmpR op_eq (pe_op op_add (pe_op op_mul pe_int (pv 1)) (pv 2)) pe_int (nomark _)) (pss_one ps_never)
 pss_nil)
 (pss_cons (ps_fld (pv 0) (pv 1) rfl)
 (pss_cons (ps_fld (pv 0) (pv 2) rfl)
 (pss_cons (ps_fld (pv 0) (pv 3) rfl)
 (pss_cons (ps_fld (pv 0) (pe_op op_add (pe_op op_mul pe_int (pv 1)) (pv 2)) rfl)
 (pss_one (ps_fld (pv 0) (pe_callB (call_max2 rfl) (by rfl) T.n_max (by decide +kernel) (pa_cons (pv 1) (pa_cons (pv 3) pa_nil))) rfl)))))))))), ?_⟩
    walk_at "rdi"
    repeat walk_at "rd"
    refine r_between ?_
    repeat walk_at "rd"
    refine r_nD (fun h => absurd ho h) (fun _ => ?_)
    walk_at "rd"
    walk_at "rdi"
    repeat walk_at "rd"
    refine r_between ?_
    repeat walk_at "rd"
    refine r_nD (fun h => absurd hl h) (fun _ => ?_)
    walk_at "rd"
    walk_at "rdi"
    repeat walk_at "rd"
    refine r_between ?_
    repeat walk_at "rd"
    refine r_nD (fun h => absurd hg h) (fun _ => ?_)
    walk_at "rd"
    walk_at "rdi"
    repeat walk_at "rd"
    refine ite_d (fun h => absurd h (by omega)) (fun _ => ?_)
    repeat walk_at "rd"
    refine k _ ⟨dx, ?_⟩ ?_
    · exact upd_same
    · exact But.upd.trans (But.upd.trans (But.upd.trans (But.upd.trans But.upd)))
end

/-! ### own rules: C(..) by a local name, x op y by an own def, targets in a tuple -/
/-- the slot n holds the class at C: a new instance -/
def tMakeL (n : Nat) (C : Addr) (sp : Sp) (dvs : List V) (E : XK) (t : TA) : TE := fun σ H Q => σ[n]? = some (some (.ref C)) ∧ tMake C sp dvs E t σ H Q
/-- x op y, x an instance with a dict, y of a known type -/
def rOwnD (K : PySem.W.Frag) (C : Addr) (sp : Sp) (E : XK) : R2 := fun x y H Q => ∃ m dx fs tb, x = .ref m ∧ H m = some (.ins C dx fs) ∧ TyX K H y tb ∧ PySem.W.notFirst K C tb = true ∧ sp [x, y] H Q E
section
variable {X : Cx} {CX : CXT} {k i : Nat} {f C : Addr} {fd : FuncData} {ps : List Str} {sp : Sp} {dvs : List V} {ds : List Value} {E : XK} {x : Str} {p pos : Pos} {e : Expr} {es : List Expr} {t : TA}
theorem pe_makeL (M : Mk X.K C f) (F : FnOk X.prog X.w X.K X.mg X.base CX k f fd ps sp) (hr : Room (k + 1) X.A) (hN : X.N[i]? = some x) (hv : Vis X.env.scope x) (hb : Binds X.K fd ps ds) (hd : Vals dvs ds) (hx : Passes CX X E) (ha : PA X (e :: es) t)
    (hdb : (x == ("__debug__" : Str)) = false := by decide) (hcd : (x == ("__classdict__" : Str)) = false := by decide)
    (he : starEach (e :: es) X.env = (false, eval e X.env) :: starEach es X.env := by rfl) (hpl : (backTo pos (starEach es X.env)).any (·.1) = false := by rfl) : PE X (.Call (.Name x p) (e :: es) [] pos) (tMakeL i C sp dvs E t) := by
  refine ⟨fun pins s σ H Q I h => wpAny_Call_Name_kw (thn ((pe_var (pos := p) hN hv hdb hcd).run pins s σ H (fun v H1 => v = .ref C ∧ H1 = H) I ⟨.ref C, h.1, rfl, rfl⟩) fun u s1 g => ?_)⟩
  obtain ⟨v, H1, J, r1, rfl, rfl⟩ := g
  cases r1
  exact PySem.W.callWith_K (h₀ := X.base) J.ok.mod.kin M.kp (thn (ha.run pos pins s1 σ _ _ J h.2) fun us s2 ⟨vs, H2, J2, r, q⟩ => ⟨J2.kIn, run_make M F hr hb hd hx J2 r q⟩) he hpl
theorem op_ownD {op : CmpOp} {g : Addr} {n : Nat} (hop : ∀ a b, compareOp op a b = richCompare op a b) (hs : PySem.W.findIn X.K (.ref C) (cmpInfo op).2.1 = some (some (.ref g))) (hf : PySem.W.isFn X.K (.ref g) = true) (F : FnR X.prog X.w X.K X.mg X.base CX n g sp)
    (hr : Room n X.A) (hx : Passes CX X E) : OpR X (compareOp op) (rOwnD X.K C sp E) := by
  intro pins s σ H x y v u Q I rx ry h
  obtain ⟨m, dx, fs, tb, rfl, hm, ty, hn, q⟩ := h
  obtain rfl : v = Value.ref m := rx
  obtain ⟨mA, J, _⟩ := ins_get I.hok hm
  obtain ⟨od, J, _⟩ := J.look
  obtain ⟨Pk, Z, pz, _⟩ := kit_of I ry ty
  obtain ⟨mF, hF⟩ := I.fr
  rw [hop]
  refine PySem.W.cmp_K (op := op) (tb := tb) hr.units0 hF I.ok.mod.kin J (Z.ty _ _ I.kIn pz) hn hs hf ?_
  refine wpAny_mono (wpAny_call (run_fnR (us := [.ref m, u]) (vs := [.ref m, y]) F hr hx I (.cons rfl (.cons ry .nil)) q)) (fun w s' z => ?_) fun _ _ x => x
  exact (let ⟨z', H', I', rz, qz⟩ := z; SlX.cmpback rz ⟨z', H', I', rz, qz⟩)
end
theorem kit_self {K : PySem.W.Frag} {C : Addr} : PySem.W.kitOne K (.ref C) (.ref C) = some true := by
  unfold PySem.W.kitOne
  rw [if_pos (by simp)]
theorem kit_no {K : PySem.W.Frag} {C : Addr} {n : String} (h1 : PySem.W.isClsIn K C = true) (h2 : PySem.W.typeIn K (.ref C) = some (.type "type")) (h3 : PySem.W.subIn K (.type n) (.ref C) = some false) : PySem.W.kitOne K (.type n) (.ref C) = some false := by
  have e : ((PySem.W.clsIn K C).isSome && PySem.W.typeIn K (.ref C) == some (.type "type")) = true := by
    rw [show (PySem.W.clsIn K C).isSome = true from h1, h2]
    rfl
  unfold PySem.W.kitOne
  rw [if_neg (by simp)]
  show (if ((PySem.W.clsIn K C).isSome && PySem.W.typeIn K (.ref C) == some (.type "type")) = true then PySem.W.subIn K (.type n) (.ref C) else none) = some false
  rw [if_pos e]
  exact h3
theorem nf_self {K : PySem.W.Frag} {C : Addr} : PySem.W.notFirst K C (.ref C) = true := by
  unfold PySem.W.notFirst
  simp
theorem nf_no {K : PySem.W.Frag} {C : Addr} {n : String} (h3 : PySem.W.subIn K (.type n) (.ref C) = some false) : PySem.W.notFirst K C (.type n) = true := by
  unfold PySem.W.notFirst
  rw [h3]
  simp
section
variable {K : PySem.W.Frag} {σ : St} {H : Hp} {Q : VK} {R : St → Hp → Prop} {n : Nat} {v : V} {vs : List V}
theorem r_gTup {t : TGs} {p : Addr} (h : H p = some (.tup vs)) (hl : vs.length = n) (q : t vs σ H R) : gTup K n t (.ref p) σ H R := ⟨p, vs, rfl, SqT.of h, hl, q⟩
theorem r_gCons {t : TG} {u : TGs} (h : t v σ H fun σ' H' => u vs σ' H' R) : gCons t u (v :: vs) σ H R := ⟨v, vs, rfl, h⟩
theorem r_gNil (h : R σ H) : gNil [] σ H R := ⟨rfl, h⟩
theorem r_par {i j : Nat} {ta : TA} {D : Ends} (h : ta σ H fun vs H1 => ∃ v w, vs = [v, w] ∧ D.nx ((σ.set i (some v)).set j (some w)) H1) : tPar i j ta D σ H := h
theorem r_par3 {i j l : Nat} {ta : TA} {D : Ends} (h : ta σ H fun vs H1 => ∃ u v w, vs = [u, v, w] ∧ D.nx (((σ.set i (some u)).set j (some v)).set l (some w)) H1) : tPar3 i j l ta D σ H := h
theorem r_ex2 {u v : V} {R : V → V → Prop} (q : R u v) : ∃ x y, [u, v] = [x, y] ∧ R x y := ⟨_, _, rfl, q⟩
theorem r_ex3 {u v w : V} {R : V → V → V → Prop} (q : R u v w) : ∃ x y z, [u, v, w] = [x, y, z] ∧ R x y z := ⟨_, _, _, rfl, q⟩
theorem r_nDT {c A B : Prop} [Decidable c] (hc : c) (h : B) : if (!decide c) = true then A else B := r_nD (fun z => absurd hc z) fun _ => h
theorem r_neB {a b : Bool} (q : Q (.bl (!decide (a = b))) H) : rNe (.bl a) (.bl b) H Q := ⟨rfl, by
  have e : decide (V.bl a = V.bl b) = decide (a = b) := by cases a <;> cases b <;> decide
  rw [e]; exact q⟩
theorem r_isB {a b : Bool} (q : Q (.bl (decide (a = b))) H) : rIsB (.bl a) (.bl b) H Q := ⟨a, b, rfl, rfl, q⟩
theorem r_notB {a b : Bool} (q : Q (.bl (!decide (a = b))) H) : rNotB (.bl a) (.bl b) H Q := ⟨a, b, rfl, rfl, q⟩
theorem r_dnew (k : ∀ p H', H p = none → Same H H' → H' p = some (.dK []) → Q (.ref p) H') : tDNewK σ H Q := new_of k
theorem r_makeL {C : Addr} {sp : Sp} {dvs : List V} {E : XK} {t : TA} (e : σ[n]? = some (some (.ref C))) (h : tMake C sp dvs E t σ H Q) : tMakeL n C sp dvs E t σ H Q := ⟨e, h⟩
theorem r_cmeth {C : Addr} {sp : Sp} {E : XK} {t : TA} (h : t σ H fun vs H2 => sp (.ref C :: vs) H2 Q E) : ClX.tCMeth C sp E (tC (.ref C)) t σ H Q := ⟨rfl, h⟩
theorem eq_ints {xs ys : List Int} : PyData.eqvAll (xs.map PyData.int) (ys.map PyData.int) = decide (xs = ys) := by
  induction xs generalizing ys with
  | nil => cases ys <;> rfl
  | cons x xs ih =>
    cases ys with
    | nil => rfl
    | cons y ys =>
      show (PyData.eqv (.int x) (.int y) && PyData.eqvAll (xs.map PyData.int) (ys.map PyData.int)) = _
      rw [ih]
      show ((x == y) && decide (xs = ys)) = _
      by_cases h : x = y
      · subst h; simp
      · simp [h]
theorem dp_ints (xs : List Int) : DpAll K H (xs.map V.int) (xs.map PyData.int) := by
  induction xs with
  | nil => exact .nil
  | cons x xs ih => exact .cons (.int x) ih
/-- == of two tuples of ints -/
theorem r_eqT {p q : Addr} {xs ys : List Int} (h1 : H p = some (.tup (xs.map V.int))) (h2 : H q = some (.tup (ys.map V.int))) (s1 : SeqAt.shaped (.tuple (xs.map PyData.int)) = true) (s2 : SeqAt.shaped (.tuple (ys.map PyData.int)) = true)
    (k : Q (.bl (decide (xs = ys))) H) : rEqD K (.ref p) (.ref q) H Q := ⟨_, _, .tup (SqT.of h1) (dp_ints xs), .tup (SqT.of h2) (dp_ints ys), s1, s2, by
  show Q (.bl (PyData.eqvAll (xs.map PyData.int) (ys.map PyData.int))) H
  rw [eq_ints]; exact k⟩
end
theorem r_Machine {C : Addr} {H : Hp} {Q : VK} {E : XK} {o l g : Int} (ho : 0 ≤ o ∧ o ≤ 1000000000) (hl : 0 ≤ l ∧ l ≤ 1000000000) (hg : 1 ≤ g ∧ g ≤ 1000000000) (hp : 0 < 2 * o + l) (k : ∀ m H', H m = none → MachAt C H' m o l g → Same H H' → Q (.ref m) H') :
    MakeAt C (spMachine C) ([.int o, .int l, .int g] ++ []) E H Q :=
  fun x dx nx nd _ => ⟨x, dx, o, l, g, rfl, upd_same, ho, hl, hg, hp, fun H' hm bt => ⟨rfl, k x H' nx hm (Same.made nx nd bt)⟩⟩

local macro_rules | `(tactic| walk_at "rd") => `(tactic| with_reducible first
  | (refine' r_gTup ?hp ?hl ?_; (case hp => walk_at "hp"); (case hl => with_unfolding_all exact rfl))
  | refine r_gCons ?_
  | refine r_gNil ?_
  | refine r_par ?_
  | refine r_par3 ?_
  | refine r_ex2 ?_
  | refine r_ex3 ?_
  | refine r_nDT rfl ?_
  | refine r_neB ?_
  | refine r_isB ?_
  | refine r_notB ?_
  | refine r_cmeth ?_
  | (refine' r_makeL ?he ?_; (case he => with_unfolding_all exact rfl))
  | refine r_isiB true (by decide +kernel) ?_
  | refine r_isiB false (by decide +kernel) ?_
  | refine r_callN ?_
  | refine r_andV ?_)

/-! ### min(xs), xs a list of pairs of ints -/
def pairD (p : Int × Int) : PyData := .tuple [.int p.1, .int p.2]
/-- this pair is no later than that one -/
def LeP (p q : Int × Int) : Prop := p.1 < q.1 ∨ (p.1 = q.1 ∧ p.2 ≤ q.2)
theorem LeP.trans {p q r : Int × Int} (h : LeP p q) (k : LeP q r) : LeP p r := by
  unfold LeP at *; omega
theorem LeP.refl (p : Int × Int) : LeP p p := .inr ⟨rfl, Int.le_refl _⟩
theorem lt_pair {p q : Int × Int} : PySem.W.dataLt (pairD p) (pairD q) = if p.1 = q.1 then decide (p.2 < q.2) else decide (p.1 < q.1) := by
  have ha : ∀ a b : Int, PySem.W.alike (.int a) (.int b) = true := fun a b => by simp only [PySem.W.alike]
  unfold pairD
  rw [PySem.W.dataLt_tuple]
  by_cases c : p.1 = q.1
  · rw [if_pos c, PySem.W.dataLt_all_yes (ha _ _) (by show (p.1 == q.1) = true; simp [c])]
    by_cases d : p.2 = q.2
    · rw [PySem.W.dataLt_all_yes (ha _ _) (by show (p.2 == q.2) = true; simp [d]), decide_eq_false (show ¬ p.2 < q.2 by omega)]
      exact PyProof.Rows.lex_irrefl _
    · rw [PySem.W.dataLt_all_no (ha _ _) (by show (p.2 == q.2) = false; simp [d])]
      exact PySem.W.dataLt_int _ _
  · rw [if_neg c, PySem.W.dataLt_all_no (ha _ _) (by show (p.1 == q.1) = false; simp [c])]
    exact PySem.W.dataLt_int _ _
theorem min_pair : ∀ (ps : List (Int × Int)) (p : Int × Int), ∃ m, m ∈ p :: ps ∧ PySem.W.minD (pairD p) (ps.map pairD) = pairD m ∧ ∀ q, q ∈ p :: ps → LeP m q
  | [], p => ⟨p, List.mem_singleton.mpr rfl, rfl, fun q hq => by rw [List.mem_singleton] at hq; subst hq; exact LeP.refl _⟩
  | q :: ps, p => by
    have e : PySem.W.minD (pairD p) ((q :: ps).map pairD) = PySem.W.minD (if PySem.W.dataLt (pairD q) (pairD p) = true then pairD q else pairD p) (ps.map pairD) := rfl
    rw [e, lt_pair]
    by_cases c : (if q.1 = p.1 then decide (q.2 < p.2) else decide (q.1 < p.1)) = true
    · rw [if_pos c]
      have hle : LeP q p := by
        unfold LeP
        split at c
        · have := of_decide_eq_true c; omega
        · have := of_decide_eq_true c; omega
      obtain ⟨m, hm, e, h⟩ := min_pair ps q
      refine ⟨m, List.mem_cons_of_mem _ hm, e, fun r hr => ?_⟩
      rcases List.mem_cons.mp hr with rfl | hr
      · exact (h q (List.mem_cons_self ..)).trans hle
      · exact h r hr
    · rw [if_neg c]
      have hle : LeP p q := by
        unfold LeP
        split at c
        · rw [decide_eq_true_eq] at c; omega
        · rw [decide_eq_true_eq] at c; omega
      obtain ⟨m, hm, e, h⟩ := min_pair ps p
      refine ⟨m, ?_, e, fun r hr => ?_⟩
      · rcases List.mem_cons.mp hm with rfl | hm
        · exact List.mem_cons_self ..
        · exact List.mem_cons_of_mem _ (List.mem_cons_of_mem _ hm)
      · rcases List.mem_cons.mp hr with rfl | hr
        · exact h r (List.mem_cons_self ..)
        · rcases List.mem_cons.mp hr with rfl | hr
          · exact (h p (List.mem_cons_self ..)).trans hle
          · exact h r (List.mem_cons_of_mem _ hr)
/-- items that are pairs -/
def PairsAt (H : Hp) : List V → List (Int × Int) → Prop
  | [], [] => True
  | x :: xs, p :: ps => (∃ t, x = .ref t ∧ H t = some (.tup [.int p.1, .int p.2])) ∧ PairsAt H xs ps
  | _, _ => False
theorem PairsAt.keep {H H' : Hp} (s : Same H H') : ∀ {xs : List V} {ps : List (Int × Int)}, PairsAt H xs ps → PairsAt H' xs ps
  | [], [], _ => trivial
  | _ :: _, _ :: _, ⟨⟨t, e, h⟩, r⟩ => ⟨⟨t, e, s _ _ h⟩, r.keep s⟩
theorem PairsAt.upd {H : Hp} {L : Addr} {zs : List V} {o : HO} (e : H L = some (.lst zs)) : ∀ {xs : List V} {ps : List (Int × Int)}, PairsAt H xs ps → PairsAt (L2.upd H L o) xs ps
  | [], [], _ => trivial
  | _ :: _, _ :: _, ⟨⟨t, e1, h⟩, r⟩ => ⟨⟨t, e1, (upd_ne (fun z => by rw [z, e] at h; cases h)).trans h⟩, r.upd e⟩
theorem PairsAt.snoc {H : Hp} {t : Addr} {p : Int × Int} (ht : H t = some (.tup [.int p.1, .int p.2])) : ∀ {xs : List V} {ps : List (Int × Int)}, PairsAt H xs ps → PairsAt H (xs ++ [.ref t]) (ps ++ [p])
  | [], [], _ => ⟨⟨t, rfl, ht⟩, trivial⟩
  | _ :: _, _ :: _, ⟨h, r⟩ => ⟨h, r.snoc ht⟩
theorem PairsAt.at {H : Hp} : ∀ {xs : List V} {ps : List (Int × Int)} {i : Nat} {x : V}, PairsAt H xs ps → xs[i]? = some x → ∃ (t : Addr) (p : Int × Int), x = .ref t ∧ ps[i]? = some p ∧ H t = some (.tup [.int p.1, .int p.2])
  | x :: _, p :: _, 0, y, ⟨⟨t, e, h⟩, _⟩, hy => by
    obtain rfl : x = y := by simpa using hy
    exact ⟨t, p, e, rfl, h⟩
  | _ :: _, _ :: _, i + 1, y, ⟨_, r⟩, hy => r.at (i := i) (by simpa using hy)
  | [], [], _, _, _, hy => by simp at hy
theorem PairsAt.len {H : Hp} : ∀ {xs : List V} {ps : List (Int × Int)}, PairsAt H xs ps → xs.length = ps.length
  | [], [], _ => rfl
  | _ :: _, _ :: _, ⟨_, r⟩ => congrArg Nat.succ r.len
theorem PairsAt.dp {K : PySem.W.Frag} {H : Hp} : ∀ {xs : List V} {ps : List (Int × Int)}, PairsAt H xs ps → DpAll K H xs (ps.map pairD)
  | [], [], _ => .nil
  | _ :: _, _ :: _, ⟨⟨_, e, h⟩, r⟩ => by subst e; exact .cons (.tup (SqT.of h) (.cons (.int _) (.cons (.int _) .nil))) r.dp
def rMinP (K : PySem.W.Frag) : List V → Hp → VK → Prop := fun vs H Q => ∃ (a : Addr) (xs : List V) (ps : List (Int × Int)), vs = [.ref a] ∧ SqL K H a xs ∧ PairsAt H xs ps ∧ 0 < ps.length ∧ ∀ t p, p ∈ ps → (∀ q, q ∈ ps → LeP p q) → H t = some (.tup [.int p.1, .int p.2]) → Q (.ref t) H
theorem alike_pair (p q : Int × Int) : PySem.W.alike (pairD p) (pairD q) = true := by
  simp only [pairD, PySem.W.alike, PySem.W.alikeAll, Bool.and_self]
theorem alike_pairs (ps : List (Int × Int)) : PySem.W.AlikeAll (ps.map pairD) := by
  refine ⟨fun x hx y hy => ?_, fun x hx => ?_⟩
  · obtain ⟨p, _, rfl⟩ := List.mem_map.mp hx
    obtain ⟨q, _, rfl⟩ := List.mem_map.mp hy
    exact alike_pair p q
  · obtain ⟨p, _, rfl⟩ := List.mem_map.mp hx
    intro z; cases z
theorem dep_pairs : ∀ ps : List (Int × Int), PyData.depthAll (ps.map pairD) ≤ 2
  | [] => by decide
  | p :: ps => by
    have h := dep_pairs ps
    show max (PyData.depth (pairD p)) (PyData.depthAll (ps.map pairD)) ≤ 2
    have h1 : PyData.depth (pairD p) ≤ 2 := Nat.le_of_ble_eq_true rfl
    exact Nat.max_le.mpr ⟨h1, h⟩
theorem cr_minP {X : Cx} (hc : X.calm = true) (hu : X.A.units + 64 < cLine) : CallR X (.builtin "min") (rMinP X.K) := by
  intro pins s σ H vs us Q I r h
  obtain ⟨a, xs, ps, rfl, hs, hp, hne, q⟩ := h
  obtain ⟨its, rv, hl, _⟩ := I.list hs
  rw [Vals.ref1 r]
  cases ps with
  | nil => cases hne
  | cons p ps =>
    obtain ⟨as, hr⟩ := Dp.readsAll I ((p :: ps).map pairD) xs its hp.dp rv
    have hlen : its.length = ps.length + 1 := by rw [← rv.length, hp.len]; rfl
    have hr2 : ReadsAll s.heap its.toArray.toList ((p :: ps).map pairD) as := by rw [List.toList_toArray]; exact hr
    refine PySem.call_min_walkH (PySem.W.iter_listW (A := X.A.in1) (I.ok.hd hc) hl.isList fun s₂ e W st hfp hw hk => ?_)
    refine ⟨_, _, _, _, _, _, _, s.heap, _, rfl, W, st, hfp, by rw [List.size_toArray]; omega, hw, hk, PySem.W.cmpIn_lt (A := X.A.in1) hr2 (alike_pairs (p :: ps)) (by
      have := dep_pairs (p :: ps)
      show X.A.units + 1 + _ < _
      omega), fun v s' hP m => ?_⟩
    obtain ⟨h', tk, rfl, hk'⟩ := PySem.W.moved_old e rfl m
    have e1 : its.toArray.size - 1 = (ps.map pairD).length := by rw [List.size_toArray, List.length_map]; omega
    rw [e1] at hP
    have e2 := (PySem.W.argBest_fold PySem.W.dataLt PyData.none (pairD p) (ps.map pairD) (ps.map pairD).length (Nat.le_refl _)).2
    rw [List.take_length] at e2
    obtain ⟨k, hk0⟩ : ∃ k, argBest (fun i j => PySem.W.dataLt ((pairD p :: ps.map pairD).getD i .none) ((pairD p :: ps.map pairD).getD j .none)) (ps.map pairD).length = k := ⟨_, rfl⟩
    rw [hk0] at e2
    have hP : its.toArray[argBest (fun i j => PySem.W.dataLt ((pairD p :: ps.map pairD).getD i .none) ((pairD p :: ps.map pairD).getD j .none)) (ps.map pairD).length]? = some v := hP
    rw [hk0] at hP
    have hv : its[k]? = some v := by simpa using hP
    obtain ⟨y, hy⟩ : ∃ y : V, xs[k]? = some y := by
      cases e : xs[k]? with
      | some y => exact ⟨y, rfl⟩
      | none =>
        have z := rv.none_of e
        rw [z] at hv
        cases hv
    obtain ⟨v', hv', ryv⟩ := rv.get hy
    obtain rfl : v' = v := Option.some.inj (hv'.symm.trans hv)
    obtain ⟨t, pk, rfl, hpk, ht⟩ := hp.at hy
    obtain ⟨mm, hm, em, hmin⟩ := min_pair ps p
    have e3 : (pairD p :: ps.map pairD).getD k .none = pairD pk := by
      rw [List.getD_eq_getElem?_getD, ← List.map_cons, List.getElem?_map, hpk]; rfl
    rw [e3] at e2
    have e4 : pairD pk = pairD mm := e2.trans em
    have e5 : pk = mm := by
      unfold pairD at e4
      injection e4 with e4
      obtain ⟨a1, a2⟩ := List.cons.inj e4
      obtain ⟨a2, _⟩ := List.cons.inj a2
      exact Prod.ext (PyData.int.inj a1) (PyData.int.inj a2)
    subst e5
    exact ⟨.ref t, H, I.kept hk', ryv, q t pk hm hmin ht⟩

/-! ### a machine's numbers, told at once; what a law is -/
structure Num (o l g : Int) : Prop where
  no : 0 ≤ o ∧ o ≤ 1000000000
  nl : 0 ≤ l ∧ l ≤ 1000000000
  ng : 1 ≤ g ∧ g ≤ 1000000000
  np : 0 < 2 * o + l
theorem NumAt.num {H : Hp} {t : Addr} {o l g : Int} (n : NumAt H t o l g) : Num o l g := ⟨⟨n.o0, n.o9⟩, ⟨n.l0, n.l9⟩, ⟨n.g1, n.g9⟩, n.pos⟩
def spLaw (K : PySem.W.Frag) : Sp := fun vs H Q _ => ∃ (b : Addr) (ns : List Int), vs = [.ref b] ∧ SqL K H b (ns.map V.int) ∧ ns.length ≤ 63 ∧ ∀ H', Q (.bl true) H'
theorem MachAt.upd {C m R : Addr} {H : Hp} {o l g : Int} {xs : List V} {u : HO} (h : MachAt C H m o l g) (e : H R = some (.lst xs)) : MachAt C (L2.upd H R u) m o l g :=
  let ⟨dx, z⟩ := h; ⟨dx, (upd_ne (ne_of z e (by intro y; cases y))).trans z⟩

/-! ### the slower tree: who is told when -/
def ltP (p q : Int × Int) : Bool := if p.1 = q.1 then decide (p.2 < q.2) else decide (p.1 < q.1)
theorem encP : HQ.Enc pairD ltP where
  ord := ⟨fun {a b} h => by
      unfold ltP at *
      by_cases c : a.1 = b.1
      · rw [if_pos c] at h
        rw [if_pos c.symm]
        have := of_decide_eq_true h
        exact decide_eq_false (by omega)
      · rw [if_neg c] at h
        rw [if_neg (Ne.symm c)]
        have := of_decide_eq_true h
        exact decide_eq_false (by omega), fun {a b c} h1 h2 => by
      unfold ltP at *
      have k : ∀ {p q : Int × Int}, (if p.1 = q.1 then decide (p.2 < q.2) else decide (p.1 < q.1)) = false ↔ q.1 < p.1 ∨ (p.1 = q.1 ∧ q.2 ≤ p.2) := fun {p q} => by
        by_cases e : p.1 = q.1
        · rw [if_pos e, decide_eq_false_iff_not]; omega
        · rw [if_neg e, decide_eq_false_iff_not]; omega
      rw [k] at *
      omega⟩
  lt_eq := fun a b => lt_pair
  alike := alike_pair
  nn := fun a => by intro z; cases z
  dep := fun a => by show 1 ≤ 60; decide
/-- items that are new pairs -/
def Refs (H : Hp) (ps : List (V × (Int × Int))) : Prop := ∀ p, p ∈ ps → ∃ t : Addr, p.1 = .ref t ∧ H t = some (.tup [.int p.2.1, .int p.2.2])
theorem Refs.keep {H H' : Hp} {ps : List (V × (Int × Int))} (h : Refs H ps) (s : Same H H') : Refs H' ps := fun p hp => let ⟨t, e, z⟩ := h p hp; ⟨t, e, s _ _ z⟩
theorem Refs.upd {H : Hp} {L : Addr} {zs : List V} {o : HO} {ps : List (V × (Int × Int))} (h : Refs H ps) (e : H L = some (.lst zs)) : Refs (L2.upd H L o) ps := fun p hp => let ⟨t, e1, z⟩ := h p hp; ⟨t, e1, (upd_ne (fun y => by rw [y, e] at z; cases z)).trans z⟩
theorem Refs.perm {H : Hp} {ps qs : List (V × (Int × Int))} (h : Refs H ps) (hp : ∀ p, p ∈ qs → p ∈ ps) : Refs H qs := fun p hm => h p (hp p hm)
theorem Refs.snoc {H : Hp} {ps : List (V × (Int × Int))} {t : Addr} {k : Int × Int} (h : Refs H ps) (e : H t = some (.tup [.int k.1, .int k.2])) : Refs H (ps ++ [(.ref t, k)]) := fun p hp => by
  rcases List.mem_append.mp hp with hp | hp
  · exact h p hp
  · rw [List.mem_singleton] at hp; subst hp; exact ⟨t, rfl, e⟩
theorem Refs.hp {K : PySem.W.Frag} {H : Hp} {a : Addr} {zs : List V} {ps : List (V × (Int × Int))} (h : Refs H ps) (e : H a = some (.lst zs)) : HQ.HpAt K H a pairD ps := fun xs p hp => by
  obtain ⟨t, e1, z⟩ := (h.upd (o := .lst xs) e) p hp
  rw [e1]
  exact .tup (SqT.of z) (.cons (.int _) (.cons (.int _) .nil))
def keysOf (cs : List Int) : List (Int × Int) := cs.zipIdx.map fun p => (p.1, (p.2 : Int))
theorem keys_at {cs : List Int} {i : Nat} : (keysOf cs)[i]? = (cs[i]?).map fun c => (c, (i : Int)) := by
  unfold keysOf
  rw [List.getElem?_map, List.getElem?_zipIdx]
  cases cs[i]? <;> simp
theorem keys_len {cs : List Int} : (keysOf cs).length = cs.length := by unfold keysOf; rw [List.length_map, List.length_zipIdx]
theorem keys_snoc {cs : List Int} {c : Int} : keysOf (cs ++ [c]) = keysOf cs ++ [(c, (cs.length : Int))] := by
  unfold keysOf
  rw [List.zipIdx_append, List.map_append]
  simp
theorem keys_set {cs : List Int} {i : Nat} {c : Int} : keysOf (cs.set i c) = (keysOf cs).set i (c, (i : Int)) := by
  apply List.ext_getElem?
  intro j
  rw [keys_at]
  by_cases e : i = j
  · subst e
    by_cases hi : i < cs.length
    · rw [List.getElem?_set_self hi, List.getElem?_set_self (by rw [keys_len]; exact hi)]; rfl
    · rw [List.getElem?_eq_none (by rw [List.length_set]; omega), List.getElem?_eq_none (by rw [List.length_set, keys_len]; omega)]; rfl
  · rw [List.getElem?_set_ne e, List.getElem?_set_ne e, keys_at]
theorem perm_out {α : Type} {a : α} : ∀ {l : List α} {i : Nat}, l[i]? = some a → l.Perm (a :: l.eraseIdx i) ∧ ∀ b, (l.set i b).Perm (b :: l.eraseIdx i)
  | [], _, h => by simp at h
  | x :: l, 0, h => by
    obtain rfl : x = a := by simpa using h
    exact ⟨List.Perm.refl _, fun b => List.Perm.refl _⟩
  | x :: l, i + 1, h => by
    obtain ⟨h1, h2⟩ := perm_out (l := l) (i := i) (by simpa using h)
    rw [List.eraseIdx_cons_succ]
    exact ⟨(List.Perm.cons x h1).trans (List.Perm.swap _ _ _), fun b => by rw [List.set_cons_succ]; exact (List.Perm.cons x (h2 b)).trans (List.Perm.swap _ _ _)⟩
theorem perm_set {α : Type} {a b : α} {l rest : List α} {i : Nat} (h : l[i]? = some a) (hp : (a :: rest).Perm l) : (b :: rest).Perm (l.set i b) := by
  obtain ⟨h1, h2⟩ := perm_out h
  have h3 : rest.Perm (l.eraseIdx i) := List.Perm.cons_inv (hp.trans h1)
  exact (List.Perm.cons b h3).trans (h2 b).symm
/-- j hands have been told, at ks; the next sendings of all come at cs -/
inductive SlowR (L G : Int) : Nat → List Int → List Int → Prop
  | zero : SlowR L G 0 [L] []
  | step {j : Nat} {cs ks : List Int} {i : Nat} {c : Int} (h : SlowR L G j cs ks) (hi : cs[i]? = some c) (hm : ∀ x, x ∈ cs → c ≤ x) (hf : ∀ k, k < i → cs[k]? ≠ some c) : SlowR L G (j + 1) (cs.set i (c + G) ++ [c + L]) (ks ++ [c])
theorem SlowR.len {L G : Int} {j : Nat} {cs ks : List Int} (h : SlowR L G j cs ks) : cs.length = j + 1 ∧ ks.length = j := by
  induction h with
  | zero => exact ⟨rfl, rfl⟩
  | step h hi hm hf ih =>
    rw [List.length_append, List.length_append, List.length_set, List.length_singleton]
    exact ⟨by omega, by rw [List.length_singleton]; omega⟩
theorem SlowR.uniq {L G : Int} {j : Nat} : ∀ {cs ks cs' ks' : List Int}, SlowR L G j cs ks → SlowR L G j cs' ks' → cs = cs' ∧ ks = ks' := by
  induction j with
  | zero =>
    intro cs ks cs' ks' h h'
    cases h; cases h'; exact ⟨rfl, rfl⟩
  | succ j ih =>
    intro cs ks cs' ks' h h'
    cases h with
    | step h hi hm hf =>
      rename_i cs0 ks0 i c
      cases h' with
      | step h2 hi2 hm2 hf2 =>
        rename_i cs1 ks1 i2 c2
        obtain ⟨rfl, rfl⟩ := ih h h2
        have e1 : c = c2 := by
          have := hm c2 (List.mem_iff_getElem?.mpr ⟨_, hi2⟩)
          have := hm2 c (List.mem_iff_getElem?.mpr ⟨_, hi⟩)
          omega
        subst e1
        have e2 : i = i2 := by
          rcases Nat.lt_trichotomy i i2 with z | z | z
          · exact absurd hi (hf2 i z)
          · exact z
          · exact absurd hi2 (hf i2 z)
        subst e2
        exact ⟨rfl, rfl⟩
theorem SlowR.back {L G : Int} {j : Nat} {cs ks : List Int} (h : SlowR L G (j + 1) cs ks) : ∃ cs' ks' c, SlowR L G j cs' ks' ∧ ks = ks' ++ [c] := by
  cases h with
  | step h hi hm hf => exact ⟨_, _, _, h, rfl⟩
theorem SlowR.prefix {L G : Int} {j : Nat} : ∀ {m : Nat} {cs ks cs' ks' : List Int}, SlowR L G j cs ks → SlowR L G (j + m) cs' ks' → ks = ks'.take j
  | 0, cs, ks, cs', ks', h, h' => by
    obtain ⟨_, rfl⟩ := h.uniq h'
    rw [List.take_of_length_le (by have := h.len.2; omega)]
  | m + 1, cs, ks, cs', ks', h, h' => by
    obtain ⟨cs2, ks2, c, h2, rfl⟩ := SlowR.back (j := j + m) h'
    rw [h.prefix h2, List.take_append_of_le_length (by have := h2.len.2; omega)]
def posP (x : Int) : Int := if x > 0 then x else 0
/-- how many numbers can be added -/
def GS (o : Int) (ks : List Int) (t : Int) : Int := t + 1 + (ks.map fun k => posP (t - k - o)).sum
theorem posP_nn (x : Int) : 0 ≤ posP x := by unfold posP; split <;> omega
theorem posP_mono {x y : Int} (h : x ≤ y) : posP x ≤ posP y := by unfold posP; split <;> split <;> omega
theorem posP_up (x : Int) : posP x ≤ posP (x + 1) ∧ posP (x + 1) ≤ posP x + 1 := by unfold posP; split <;> split <;> omega
theorem sumP_nn (o t : Int) : ∀ ks : List Int, 0 ≤ (ks.map fun k => posP (t - k - o)).sum
  | [] => Int.le_refl _
  | k :: ks => by
    rw [List.map_cons, List.sum_cons]
    have := posP_nn (t - k - o)
    have := sumP_nn o t ks
    omega
theorem GS_mono {o s t : Int} (h : s ≤ t) : ∀ ks : List Int, GS o ks s ≤ GS o ks t := fun ks => by
  unfold GS
  have : (ks.map fun k => posP (s - k - o)).sum ≤ (ks.map fun k => posP (t - k - o)).sum := by
    induction ks with
    | nil => exact Int.le_refl _
    | cons k ks ih =>
      rw [List.map_cons, List.map_cons, List.sum_cons, List.sum_cons]
      have := posP_mono (show s - k - o ≤ t - k - o by omega)
      omega
  omega
theorem GS_up {o t : Int} (ks : List Int) : GS o ks t + 1 ≤ GS o ks (t + 1) ∧ GS o ks (t + 1) ≤ GS o ks t + 1 + ks.length := by
  unfold GS
  have : (ks.map fun k => posP (t - k - o)).sum ≤ (ks.map fun k => posP (t + 1 - k - o)).sum ∧ (ks.map fun k => posP (t + 1 - k - o)).sum ≤ (ks.map fun k => posP (t - k - o)).sum + ks.length := by
    induction ks with
    | nil => exact ⟨Int.le_refl _, Int.le_refl _⟩
    | cons k ks ih =>
      rw [List.map_cons, List.map_cons, List.sum_cons, List.sum_cons, List.length_cons]
      have := posP_up (t - k - o)
      rw [show t - k - o + 1 = t + 1 - k - o by omega] at this
      omega
  omega
theorem GS_snoc {o t c : Int} (ks : List Int) : GS o (ks ++ [c]) t = GS o ks t + posP (t - c - o) := by
  unfold GS
  have : ∀ l : List Int, (l ++ [posP (t - c - o)]).sum = l.sum + posP (t - c - o) := fun l => by
    induction l with
    | nil => simp
    | cons x l ih => rw [List.cons_append, List.sum_cons, List.sum_cons, ih]; omega
  rw [List.map_append, List.map_singleton, this]
  omega
theorem GS_ge {o t : Int} (ks : List Int) : t + 1 ≤ GS o ks t := by
  unfold GS
  have := sumP_nn o t ks
  omega

/-! ### the slower tree, read -/
def slL (o l : Int) : Int := 2 * o + l + 1
def slG (o g : Int) : Int := if o + 1 > g then o + 1 else g
def spSlow (M : Addr) : Sp := fun vs H Q _ => ∃ (m : Addr) (n : Nat) (o l g : Int), vs = [.ref m, .int n] ∧ MachAt M H m o l g ∧ Num o l g ∧ 1 ≤ n ∧ n ≤ 40 ∧
  ∀ (p : Addr) (xs : List V) (qs : List (Int × Int)) (cs : List Int) H', SlowR (slL o l) (slG o g) (n - 1) cs (qs.map Prod.fst) → Same H H' → H' p = some (.lst xs) → PairsAt H' xs qs → Q (.ref p) H'
section
variable {P : Program} {w : World} {K : PySem.W.Frag} {mg : Str → Option Value} {base : Heap} {a : Adr}
theorem ok_slow_tree (T : Txt K mg a) : FnOk P w K mg base CX0 1 a.a_slow_tree a.d_slow_tree ["machine", "n"] (spSlow a.c_Machine) := by
  refine T.F_slow_tree.ok sc_slow_tree (fun vs H Q E h => ?_) (fun cdv A0 outer s H vs Q E hr h => ?_)
  · obtain ⟨m, n, o, l, g, rfl, _⟩ := h
    rfl
  · obtain ⟨m, n, o, l, g, rfl, ⟨dx, hm⟩, N, n1, n40, k⟩ := h
    refine ⟨_, (pss_cons (ps_set (i := 2) sc_slow_tree.nd rfl (Or.inl rfl) (pe_op op_add (pe_fld (pv 0) rfl) pe_int))
 (pss_cons (ps_set (i := 3) sc_slow_tree.nd rfl (Or.inl rfl) (pe_callB (call_max2 rfl) (by rfl) T.n_max (by decide +kernel) (pa_cons (pe_fld (pv 0) rfl) (pa_cons (pe_op op_add (pe_fld (pv 0) rfl) pe_int) pa_nil))))
 (pss_cons (ps_set (i := 4) sc_slow_tree.nd rfl (Or.inl rfl) (pe_lst (pa_cons (pe_tup (pa_cons (pv 2) (pa_cons pe_int pa_nil))) pa_nil)))
 (pss_cons (ps_set (i := 5) sc_slow_tree.nd rfl (Or.inl rfl) (pe_lst pa_nil))
 (pss_cons (ps_while PassesOwn.never (pt_cmpR op_lt (pe_callB call_len_seq (by rfl) T.n_len (by decide +kernel) (pa_cons (pv 5) pa_nil)) (pe_op op_sub (pv 1) pe_int) (nomark _)) (pss_cons (ps_asg (pe_callBfun (HQ.cr_pop encP hr.units) (by rfl) T.g_heappop (pa_cons (pv 4) pa_nil)) (pg_tup (by rfl) (pgs_cons (pg_name (i := 6) sc_slow_tree.nd rfl (Or.inl rfl)) (pgs_cons (pg_name (i := 7) sc_slow_tree.nd rfl (Or.inl rfl)) pgs_nil))))
 (pss_cons (ps_expr (pe_bm PySem.F.plainAttrs_list PySem.F.slot_list_append PySem.F.type_list_append mt_append (pv 5) (pa_cons (pe_tup (pa_cons (pv 6) (pa_cons (pv 7) pa_nil))) pa_nil)))
 (pss_cons (ps_expr (pe_callBfun (HQ.cr_push encP hr.units) (by rfl) T.g_heappush (pa_cons (pv 4) (pa_cons (pe_tup (pa_cons (pe_op op_add (pv 6) (pv 3)) (pa_cons (pv 7) pa_nil))) pa_nil))))
 (pss_one (ps_expr (pe_callBfun (HQ.cr_push encP hr.units) (by rfl) T.g_heappush (pa_cons (pv 4) (pa_cons (pe_tup (pa_cons (pe_op op_add (pv 6) (pv 2)) (pa_cons (pe_callB call_len_seq (by rfl) T.n_len (by decide +kernel) (pa_cons (pv 5) pa_nil)) pa_nil))) pa_nil)))))))))
 (pss_one (ps_ret (pv 5)))))))), ?_⟩
    repeat walk_at "rd"
    have eg : (if o + 1 > g then o + 1 else g) = slG o g := rfl
    have el : 2 * o + l + 1 = slL o l := rfl
    rw [eg, el]
    refine new_at (Nat.le_of_ble_eq_true rfl) (fun t0 H1 n0 s1 e1 => ?_)
    repeat walk_at "rd"
    refine new_at (Nat.le_of_ble_eq_true rfl) (fun W H2 nW s2 eW => ?_)
    have e1 := s2 _ _ e1
    have nWH := s1.free nW
    have s2 := s1.trans s2
    repeat walk_at "rd"
    refine new_at (Nat.zero_le _) (fun D H3 nD s3 eD => ?_)
    have nDH := s2.free nD
    have hWD : W ≠ D := ne_of_none eW nD
    have eW := s3 _ _ eW
    have e1 := s3 _ _ e1
    have s3 := s2.trans s3
    clear s1 s2 nW nD n0
    repeat walk_at "rd"
    refine while_by (fun σ H' => ∃ (v6 v7 : Option V) (j : Nat) (cs : List Int) (ps : List (V × (Int × Int))) (xs : List V) (qs : List (Int × Int)), σ = [some (.ref m), some (.int n), some (.int (slL o l)), some (.int (slG o g)), some (.ref W), some (.ref D), v6, v7] ∧ Same H H' ∧ SlowR (slL o l) (slG o g) j cs (qs.map Prod.fst) ∧ j ≤ n - 1 ∧
      H' W = some (.lst (ps.map Prod.fst)) ∧ Refs H' ps ∧ (ps.map Prod.snd).Perm (keysOf cs) ∧ HQ.Heaped ltP (HQ.fk ps) ps.length ∧ H' D = some (.lst xs) ∧ PairsAt H' xs qs)
      (fun σ H' => match H' D with | some (.lst xs) => n - xs.length | _ => 0) ⟨_, _, 0, [slL o l], [(.ref t0, (slL o l, 0))], [], [], rfl, s3, .zero, Nat.zero_le _, eW, (fun p hp => by rw [List.mem_singleton] at hp; subst hp; exact ⟨t0, rfl, e1⟩), List.Perm.refl _, (fun i i0 hi => absurd hi (by simp; omega)), eD, trivial⟩ ?_ ?_
    · clear s3 eW eD e1
      rintro σ H4 ⟨v6, v7, j, cs, ps, xs, qs, rfl, s4, hR, hj, eW, hRe, hP, hH, eD, hA⟩
      have hlen := hR.len
      have hxl : xs.length = j := by rw [hA.len, ← List.length_map (f := Prod.fst)]; exact hlen.2
      have hpl : ps.length = j + 1 := by rw [← List.length_map (f := Prod.snd), hP.length_eq, keys_len]; exact hlen.1
      repeat walk_at "rd"
      rw [hxl]
      refine ite_d (fun hc => ?_) (fun hc => ?_)
      · repeat walk_at "rd"
        refine ⟨W, ps, rfl, eW, hRe.hp eW, hH, by omega, by omega, fun p rest hperm hmin hH2 => ?_⟩
        obtain ⟨t, ep, et⟩ := hRe p (hperm.mem_iff.mp (List.mem_cons_self ..))
        obtain ⟨pv, c, sd⟩ := p
        obtain rfl : pv = .ref t := ep
        have et : H4 t = some (.tup [.int c, .int sd]) := et
        have hkp : ((c, sd) :: rest.map Prod.snd).Perm (keysOf cs) := (hperm.map Prod.snd).trans hP
        obtain ⟨i, hi⟩ := List.mem_iff_getElem?.mp (hkp.mem_iff.mp (List.mem_cons_self ..))
        have hci : cs[i]? = some c ∧ sd = i := by
          rw [keys_at] at hi
          cases e : cs[i]? with
          | none => rw [e] at hi; cases hi
          | some c' =>
            rw [e] at hi
            have := Option.some.inj hi
            exact ⟨congrArg some (Prod.mk.inj this).1, (Prod.mk.inj this).2.symm⟩
        obtain ⟨hci, rfl⟩ := hci
        have hle : ∀ (k : Nat) x, cs[k]? = some x → ltP (x, (k : Int)) (c, (i : Int)) = false := fun k x hx => by
          have hm : (x, (k : Int)) ∈ ps.map Prod.snd := hP.mem_iff.mpr (List.mem_iff_getElem?.mpr ⟨k, by rw [keys_at, hx]; rfl⟩)
          obtain ⟨q, hq, eq⟩ := List.mem_map.mp hm
          have := hmin q hq
          rwa [eq] at this
        have hle1 : ∀ x, x ∈ cs → c ≤ x := fun x hx => by
          obtain ⟨k, hk⟩ := List.mem_iff_getElem?.mp hx
          have h := hle k x hk
          unfold ltP at h
          dsimp only at h
          split at h
          · omega
          · have := of_decide_eq_false h; omega
        have hle2 : ∀ k, k < i → cs[k]? ≠ some c := fun k hk e => by
          have h := hle k c e
          unfold ltP at h
          dsimp only at h
          rw [if_pos rfl] at h
          have := of_decide_eq_false h
          omega
        have hR2 := SlowR.step hR hci hle1 hle2
        have hil : i < cs.length := (List.getElem?_eq_some_iff.mp hci).1
        have hrl : rest.length = j := by have := hperm.length_eq; rw [List.length_cons] at this; omega
        have s5 := s4.over (o := HO.lst (rest.map Prod.fst)) nWH eW
        have hR5 := (hRe.perm (qs := rest) fun q hq => hperm.mem_iff.mp (List.mem_cons_of_mem _ hq)).upd (o := HO.lst (rest.map Prod.fst)) eW
        have et5 : L2.upd H4 W (HO.lst (rest.map Prod.fst)) t = some (.tup [.int c, .int i]) := (upd_ne (fun z => by rw [z, eW] at et; cases et)).trans et
        have eD5 : L2.upd H4 W (HO.lst (rest.map Prod.fst)) D = some (.lst xs) := (upd_ne hWD.symm).trans eD
        have hA5 := hA.upd (o := HO.lst (rest.map Prod.fst)) eW
        have eW5 : L2.upd H4 W (HO.lst (rest.map Prod.fst)) W = some (.lst (rest.map Prod.fst)) := upd_same
        generalize L2.upd H4 W (HO.lst (rest.map Prod.fst)) = H5 at s5 hR5 et5 eD5 hA5 eW5 ⊢
        repeat walk_at "rd"
        refine ⟨.inl ⟨rfl, _, SqL.of eD5⟩, ?_⟩
        repeat walk_at "rd"
        refine new_at (Nat.le_of_ble_eq_true rfl) (fun u1 H6 n6 s6 e6 => ?_)
        have eD6 := s6 _ _ eD5
        have eW6 := s6 _ _ eW5
        repeat walk_at "rd"
        refine r_app eD6 (small1000 (by omega)) ?_
        have s7 := (s5.trans s6).over (o := HO.lst (xs ++ [.ref u1])) nDH eD6
        have hR7 := (hR5.keep s6).upd (o := HO.lst (xs ++ [.ref u1])) eD6
        have hA7 := ((hA5.keep s6).snoc (p := (c, (i : Int))) e6).upd (o := HO.lst (xs ++ [.ref u1])) eD6
        have eD7 : L2.upd H6 D (HO.lst (xs ++ [.ref u1])) D = some (.lst (xs ++ [.ref u1])) := upd_same
        have eW7 : L2.upd H6 D (HO.lst (xs ++ [.ref u1])) W = some (.lst (rest.map Prod.fst)) := (upd_ne hWD).trans eW6
        generalize L2.upd H6 D (HO.lst (xs ++ [.ref u1])) = H7 at s7 hR7 hA7 eD7 eW7 ⊢
        repeat walk_at "rd"
        refine new_at (Nat.le_of_ble_eq_true rfl) (fun u2 H8 n8 s8 e8 => ?_)
        have eD8 := s8 _ _ eD7
        have eW8 := s8 _ _ eW7
        have hA8 := hA7.keep s8
        have hR8 := (hR7.keep s8).snoc (k := (c + slG o g, (i : Int))) e8
        have s8 := s7.trans s8
        repeat walk_at "rd"
        refine ⟨W, .ref u2, (c + slG o g, (i : Int)), rest, rfl, eW8, hR8.hp eW8, hH2, by omega, fun p1 hp1 hh1 => ?_⟩
        have hp1l : p1.length = j + 1 := by rw [hp1.length_eq, List.length_append, List.length_singleton]; omega
        have s9 := s8.over (o := HO.lst (p1.map Prod.fst)) nWH eW8
        have hR9 := (hR8.perm (qs := p1) fun q hq => hp1.mem_iff.mp hq).upd (o := HO.lst (p1.map Prod.fst)) eW8
        have hA9 := hA8.upd (o := HO.lst (p1.map Prod.fst)) eW8
        have eW9 : L2.upd H8 W (HO.lst (p1.map Prod.fst)) W = some (.lst (p1.map Prod.fst)) := upd_same
        have eD9 : L2.upd H8 W (HO.lst (p1.map Prod.fst)) D = some (.lst (xs ++ [.ref u1])) := (upd_ne hWD.symm).trans eD8
        generalize L2.upd H8 W (HO.lst (p1.map Prod.fst)) = H9 at s9 hR9 hA9 eW9 eD9 ⊢
        repeat walk_at "rd"
        have hl1 : ((xs ++ [V.ref u1]).length : Int) = ((j + 1 : Nat) : Int) := by rw [List.length_append, List.length_singleton, hxl]
        rw [hl1]
        refine new_at (Nat.le_of_ble_eq_true rfl) (fun u3 H10 n10 s10 e10 => ?_)
        have eD10 := s10 _ _ eD9
        have eW10 := s10 _ _ eW9
        have hA10 := hA9.keep s10
        have hR10 := (hR9.keep s10).snoc (k := (c + slL o l, ((j + 1 : Nat) : Int))) e10
        have s10 := s9.trans s10
        repeat walk_at "rd"
        refine ⟨W, .ref u3, (c + slL o l, ((j + 1 : Nat) : Int)), p1, rfl, eW10, hR10.hp eW10, hh1, by omega, fun p2 hp2 hh2 => ?_⟩
        have hP2 : (p2.map Prod.snd).Perm (keysOf (cs.set i (c + slG o g) ++ [c + slL o l])) := by
          rw [keys_snoc, List.length_set, hlen.1, keys_set]
          refine (hp2.map Prod.snd).trans ?_
          rw [List.map_append]
          refine List.Perm.append_right _ ((hp1.map Prod.snd).trans ?_)
          rw [List.map_append]
          exact List.perm_append_comm.trans (perm_set (by rw [keys_at, hci]; rfl) hkp)
        refine ⟨⟨_, _, j + 1, _, p2, xs ++ [.ref u1], qs ++ [(c, (i : Int))], rfl, s10.over nWH eW10, by rw [List.map_append]; exact hR2, by omega, upd_same, (hR10.perm fun q hq => hp2.mem_iff.mp hq).upd eW10, hP2, hh2, (upd_ne hWD.symm).trans eD10, hA10.upd eW10⟩, ?_⟩
        rw [show L2.upd H10 W (HO.lst (p2.map Prod.fst)) D = some (.lst (xs ++ [.ref u1])) from (upd_ne hWD.symm).trans eD10, eD]
        dsimp only
        rw [List.length_append, List.length_singleton]
        omega
      · repeat walk_at "rd"
        obtain rfl : j = n - 1 := by omega
        exact k D xs qs cs _ hR s4 eD hA
    · rintro σ H' Q1 Q2 hq ⟨y1, e1, p, ys, e2, hs, y2, e3, i, j, r1, r2, i2, j2, r3, r4, b, r5, q⟩
      exact ⟨y1, e1, p, ys, e2, hs, y2, e3, i, j, r1, r2, i2, j2, r3, r4, b, r5, hq _ _ q⟩
end

/-! ### sums by the slower tree -/
theorem first_min : ∀ {cs : List Int}, cs ≠ [] → ∃ (i : Nat) (c : Int), cs[i]? = some c ∧ (∀ x, x ∈ cs → c ≤ x) ∧ ∀ k, k < i → cs[k]? ≠ some c
  | [], h => absurd rfl h
  | x :: cs, _ => by
    cases cs with
    | nil => exact ⟨0, x, rfl, fun y hy => by rw [List.mem_singleton] at hy; omega, fun k hk => absurd hk (Nat.not_lt_zero _)⟩
    | cons y cs =>
      obtain ⟨i, c, h1, h2, h3⟩ := first_min (cs := y :: cs) (by intro z; cases z)
      by_cases c0 : x ≤ c
      · refine ⟨0, x, rfl, fun z hz => ?_, fun k hk => absurd hk (Nat.not_lt_zero _)⟩
        rcases List.mem_cons.mp hz with rfl | hz
        · exact Int.le_refl _
        · exact Int.le_trans c0 (h2 z hz)
      · refine ⟨i + 1, c, by simpa using h1, fun z hz => ?_, fun k hk => ?_⟩
        · rcases List.mem_cons.mp hz with rfl | hz
          · omega
          · exact h2 z hz
        · cases k with
          | zero => intro e; have : x = c := by simpa using e
                    omega
          | succ k => rw [List.getElem?_cons_succ]; exact h3 k (by omega)
theorem SlowR.ex (L G : Int) : ∀ j : Nat, ∃ cs ks, SlowR L G j cs ks
  | 0 => ⟨_, _, .zero⟩
  | j + 1 => by
    obtain ⟨cs, ks, h⟩ := SlowR.ex L G j
    obtain ⟨i, c, h1, h2, h3⟩ := first_min (cs := cs) (fun z => by have := h.len.1; rw [z] at this; cases this)
    exact ⟨_, _, .step h h1 h2 h3⟩
def spCheckCount : Sp := fun vs H Q _ => ∃ (t lo hi : Int), vs = [.int t, .int lo, .int hi] ∧ lo ≤ t ∧ t ≤ hi ∧ Q .non H
def spCheckTime : Sp := fun vs H Q _ => ∃ (t hi : Int), vs = [.int t, .int hi] ∧ 0 ≤ t ∧ t ≤ hi ∧ Q .non H
def spGreatest (M : Addr) : Sp := fun vs H Q _ => ∃ (m : Addr) (n : Nat) (t o l g : Int), vs = [.ref m, .int n, .int t] ∧ MachAt M H m o l g ∧ Num o l g ∧ 1 ≤ n ∧ n ≤ 40 ∧ ∀ cs ks H', SlowR (slL o l) (slG o g) (n - 1) cs ks → Same H H' → Q (.int (GS o ks t)) H'
def spMost (M : Addr) : Sp := fun vs H Q _ => ∃ (m : Addr) (n : Nat) (t o l g : Int), vs = [.ref m, .int n, .int t] ∧ MachAt M H m o l g ∧ Num o l g ∧ 1 ≤ n ∧ n ≤ 40 ∧ 0 ≤ t ∧ t ≤ 1000000000000 ∧ ∀ cs ks H', SlowR (slL o l) (slG o g) (n - 1) cs ks → Same H H' → Q (.int (GS o ks t)) H'
section
variable {P : Program} {w : World} {K : PySem.W.Frag} {mg : Str → Option Value} {base : Heap} {a : Adr}
theorem ok_check_count (T : Txt K mg a) : FnOk P w K mg base CX0 3 a.a_check_count a.d_check_count ["count", "low", "high"] spCheckCount := by
  refine T.F_check_count.ok sc_check_count (fun vs H Q E h => ?_) (fun cdv A outer s H vs Q E hr h => ?_)
  · obtain ⟨t, lo, hi, rfl, _⟩ := h
    rfl
  · obtain ⟨t, lo, hi, rfl, h0, h1, k⟩ := h
    refine ⟨_, (pss_one (ps_if (pt_not (pt_val (pe_call (ok_is_between T) (hr.mono (by decide)) (by rfl) T.g_is_between T.F_is_between.kp T.b_is_between .nil pass0 (pa_cons (pv 0) (pa_cons (pv 1) (pa_cons (pv 2) pa_nil)))))) (pss_one ps_never)
 pss_nil)), ?_⟩
    repeat walk_at "rd"
    refine r_between ?_
    repeat walk_at "rd"
    refine r_nDT ⟨h0, h1⟩ ?_
    repeat walk_at "rd"
    exact k
theorem ok_check_time (T : Txt K mg a) : FnOk P w K mg base CX0 3 a.a_check_time a.d_check_time ["time", "latest"] spCheckTime := by
  refine T.F_check_time.ok sc_check_time (fun vs H Q E h => ?_) (fun cdv A outer s H vs Q E hr h => ?_)
  · obtain ⟨t, hi, rfl, _⟩ := h
    rfl
  · obtain ⟨t, hi, rfl, h0, h1, k⟩ := h
    refine ⟨_, (pss_one (ps_if (pt_not (pt_val (pe_call (ok_is_between T) (hr.mono (by decide)) (by rfl) T.g_is_between T.F_is_between.kp T.b_is_between .nil pass0 (pa_cons (pv 0) (pa_cons pe_int (pa_cons (pv 1) pa_nil)))))) (pss_one ps_never)
 pss_nil)), ?_⟩
    repeat walk_at "rd"
    refine r_between ?_
    repeat walk_at "rd"
    refine r_nDT ⟨h0, h1⟩ ?_
    repeat walk_at "rd"
    exact k
theorem ok_greatest_sum (T : Txt K mg a) : FnOk P w K mg base CX0 2 a.a_greatest_sum a.d_greatest_sum ["machine", "n", "time"] (spGreatest a.c_Machine) := by
  refine T.F_greatest_sum.ok sc_greatest_sum (fun vs H Q E h => ?_) (fun cdv A outer s H vs Q E hr h => ?_)
  · obtain ⟨m, n, t, o, l, g, rfl, _⟩ := h
    rfl
  · obtain ⟨m, n, t, o, l, g, rfl, hm, N, n1, n40, k⟩ := h
    obtain ⟨dx, em⟩ := id hm
    refine ⟨_, (pss_one (ps_ret (pe_op op_add (pe_op op_add (pv 2) pe_int) (pe_callB (cr_sum rfl) (by rfl) T.n_sum (by decide +kernel) (pa_cons (pe_lc (own := [("known", 3), ("_", 4)]) (g := gTup K 2 (gCons (gName 3) (gCons (gName 4) (gNil)))) (tt := tYes) rfl sc_greatest_sum.nd (pi_list (pe_call (ok_slow_tree T) (hr.mono (by decide)) (by rfl) T.g_slow_tree T.F_slow_tree.kp T.b_slow_tree .nil pass0 (pa_cons (pv 0) (pa_cons (pv 1) pa_nil)))) (blkOk_by (own := [("known", 3), ("_", 4)]) (N := ["machine", "n", "time", "known", "_"]) (sc := defScope s_greatest_sum) (by decide +kernel)) (fun _ _ _ _ _ => (pg_tupK (K := K) (n := 2) rfl (by rfl) (pgs_cons (pg_name (i := 3) sc_greatest_sum.nd rfl (Or.inl rfl)) (pgs_cons (pg_name (i := 4) sc_greatest_sum.nd rfl (Or.inl rfl)) pgs_nil)))) (fun _ _ _ _ _ => pts_nil) (fun _ _ _ _ _ => (pe_callB (call_max2 rfl) (by rfl) T.n_max (by decide +kernel) (pa_cons pe_int (pa_cons (pe_op op_sub (pe_op op_sub (pv 2) (pv 3)) (pe_fldK (K := K) rfl (pv 0) rfl)) pa_nil))))) pa_nil))))), ?_⟩
    repeat walk_at "rd"
    refine ⟨m, n, o, l, g, rfl, hm, N, n1, n40, fun p xs qs cs H1 hR s1 ep hA => ?_⟩
    have em := s1 _ _ em
    have hlq : qs.length ≤ 39 := by have := hR.len.2; rw [List.length_map] at this; omega
    refine ⟨p, rfl, ⟨_, SqL.of ep⟩, fun L hL => lc_list (K := K) (a := p) (xs := xs) (fun i H' => H' L = some (.lst (((qs.take i).map fun q => posP (t - q.1 - o)).map V.int)) ∧ H' p = some (.lst xs) ∧ Same H1 H') ?_ (fun i H' _ h => SqL.of h.2.1) ?_ ?_⟩
    · exact ⟨upd_same, (upd_ne (ne_of_none ep hL)).trans ep, Same.new hL⟩
    · rintro i x H2 hi ⟨h1, h2, h3⟩
      obtain ⟨u, q, rfl, hq, hu⟩ := (hA.keep h3).at hi
      have em := h3 _ _ em
      repeat walk_at "rd"
      refine ⟨rfl, ?_⟩
      repeat walk_at "rd"
      refine ⟨_, h1, small1000 (by rw [List.length_map, List.length_map, List.length_take]; omega), ?_, (upd_ne (ne_of_none ep hL)).trans h2, h3.over hL h1⟩
      rw [upd_same, take_more hq, List.map_append, List.map_append]
      rfl
    · rintro H2 ⟨h1, h2, h3⟩
      have hlx : xs.length = qs.length := hA.len
      rw [hlx, List.take_length] at h1
      refine ⟨L, _, rfl, SqL.of h1, ?_⟩
      have e : t + 1 + (qs.map fun q => posP (t - q.1 - o)).sum = GS o (qs.map Prod.fst) t := by unfold GS; rw [List.map_map]; rfl
      repeat walk_at "rd"
      rw [e]
      exact k cs _ H2 hR (s1.trans h3)
theorem ok_most_summed (T : Txt K mg a) : FnOk P w K mg base CX0 4 a.a_most_summed a.d_most_summed ["machine", "n", "time"] (spMost a.c_Machine) := by
  refine T.F_most_summed.ok sc_most_summed (fun vs H Q E h => ?_) (fun cdv A outer s H vs Q E hr h => ?_)
  · obtain ⟨m, n, t, o, l, g, rfl, _⟩ := h
    rfl
  · obtain ⟨m, n, t, o, l, g, rfl, hm, N, n1, n40, t0, t9, k⟩ := h
    refine ⟨_, (pss_cons (ps_expr (pe_call (ok_check_count T) (hr.mono (by decide)) (by rfl) T.g_check_count T.F_check_count.kp T.b_check_count .nil pass0 (pa_cons (pv 1) (pa_cons pe_int (pa_cons (pe_glob (v := .int 40) (by rfl) T.g_MOST_SHARING.choose_spec ⟨_, rfl⟩) pa_nil)))))
 (pss_cons (ps_expr (pe_call (ok_check_time T) (hr.mono (by decide)) (by rfl) T.g_check_time T.F_check_time.kp T.b_check_time .nil pass0 (pa_cons (pv 2) (pa_cons (pe_glob (v := .int 1000000000000) (by rfl) T.g_LATEST_SUM.choose_spec ⟨_, rfl⟩) pa_nil))))
 (pss_one (ps_ret (pe_call (ok_greatest_sum T) (hr.mono (by decide)) (by rfl) T.g_greatest_sum T.F_greatest_sum.kp T.b_greatest_sum .nil pass0 (pa_cons (pv 0) (pa_cons (pv 1) (pa_cons (pv 2) pa_nil)))))))), ?_⟩
    repeat walk_at "rd"
    refine ⟨n, 1, 40, rfl, by omega, by omega, ?_⟩
    repeat walk_at "rd"
    refine ⟨t, _, rfl, t0, t9, ?_⟩
    repeat walk_at "rd"
    exact ⟨m, n, t, o, l, g, rfl, hm, N, n1, n40, k⟩
end

/-! ### the greatest sum, by all schedules -/
/-- how many hands but the root the slower tree knows by a time -/
def Bn (L G x : Nat) : Nat := if h : L = 0 ∨ G = 0 ∨ x < L then 0 else 1 + Bn L G (x - L) + Bn L G (x - G)
termination_by x
decreasing_by all_goals omega
section
variable {L G : Nat}
theorem Bn_lo {x : Nat} (h : x < L) : Bn L G x = 0 := by rw [Bn, dif_pos (.inr (.inr h))]
theorem Bn_hi {x : Nat} (h1 : 1 ≤ L) (h2 : 1 ≤ G) (h : L ≤ x) : Bn L G x = 1 + Bn L G (x - L) + Bn L G (x - G) := by
  rw [Bn, dif_neg (by omega)]
theorem Bn_up (h1 : 1 ≤ L) (h2 : 1 ≤ G) (x : Nat) : Bn L G x ≤ Bn L G (x + 1) := by
  induction x using Nat.strongRecOn with
  | _ x ih =>
    by_cases h : x < L
    · rw [Bn_lo h]; exact Nat.zero_le _
    · rw [Bn_hi h1 h2 (x := x) (by omega), Bn_hi h1 h2 (x := x + 1) (by omega)]
      have a := ih (x - L) (by omega)
      rw [show x - L + 1 = x + 1 - L by omega] at a
      by_cases c : G ≤ x
      · have b := ih (x - G) (by omega)
        rw [show x - G + 1 = x + 1 - G by omega] at b
        omega
      · rw [show x - G = 0 by omega, show x + 1 - G = 0 by omega]
        omega
theorem Bn_mono (h1 : 1 ≤ L) (h2 : 1 ≤ G) {x y : Nat} (h : x ≤ y) : Bn L G x ≤ Bn L G y := by
  induction h with
  | refl => exact Nat.le_refl _
  | step h ih => exact Nat.le_trans ih (Bn_up h1 h2 _)
/-- what m hands but the root can add within x units -/
def Sm (L G m : Nat) : Nat → Nat
  | 0 => 0
  | x + 1 => Sm L G m x + min m (Bn L G x)
theorem Sm_le {m k : Nat} (h : m ≤ k) : ∀ x, Sm L G m x ≤ Sm L G k x
  | 0 => Nat.le_refl _
  | x + 1 => by
    have := Sm_le h x
    unfold Sm
    omega
theorem Sm_mono {m x y : Nat} (h : x ≤ y) : Sm L G m x ≤ Sm L G m y := by
  induction h with
  | refl => exact Nat.le_refl _
  | step h ih => exact Nat.le_trans ih (by rw [Sm]; omega)
theorem Sm_lo {m : Nat} : ∀ {x : Nat}, x ≤ L → Sm L G m x = 0
  | 0, _ => rfl
  | x + 1, h => by rw [Sm, Sm_lo (x := x) (by omega), Bn_lo (by omega)]; omega
theorem Sm_zero : ∀ {x : Nat}, Sm L G 0 x = 0
  | 0 => rfl
  | x + 1 => by rw [Sm, Sm_zero (x := x)]; omega
/-- with the hand itself: what h hands can add within q units -/
theorem Sm_own {h q : Nat} (h1 : 1 ≤ h) : q + Sm L G (h - 1) q = Nat.rec 0 (fun x r => r + min h (1 + Bn L G x)) q := by
  induction q with
  | zero => rfl
  | succ q ih =>
    show q + 1 + (Sm L G (h - 1) q + min (h - 1) (Bn L G q)) = Nat.rec 0 (fun x r => r + min h (1 + Bn L G x)) q + min h (1 + Bn L G q)
    rw [← ih]
    omega
theorem own_mono {h : Nat} {p q : Nat} (e : p ≤ q) : p + Sm L G (h - 1) p ≤ q + Sm L G (h - 1) q := by
  have := Sm_mono (L := L) (G := G) (m := h - 1) e
  omega
theorem sum_split (h1 : 1 ≤ L) (h2 : 1 ≤ G) {h left : Nat} (c1 : 1 ≤ h) (c2 : h ≤ left) : ∀ X : Nat,
    (X - L) + Sm L G (h - 1) (X - L) + Sm L G (left - h) (X - G) ≤ Sm L G left X
  | 0 => by rw [show 0 - L = 0 by omega, show 0 - G = 0 by omega]; exact Nat.le_refl _
  | X + 1 => by
    have ih := sum_split h1 h2 c1 c2 X
    rw [Sm]
    by_cases a : X < L
    · rw [show X + 1 - L = 0 by omega, Bn_lo a]
      have : Sm L G (left - h) (X + 1 - G) ≤ 0 := by rw [Sm_lo (by omega)]; omega
      rw [Sm]
      omega
    · rw [Bn_hi h1 h2 (x := X) (by omega), show X + 1 - L = X - L + 1 by omega, Sm]
      by_cases b : G ≤ X
      · rw [show X + 1 - G = X - G + 1 by omega, Sm]
        omega
      · rw [show X + 1 - G = 0 by omega, Sm]
        rw [show X - G = 0 by omega] at ih
        rw [show X - G = 0 by omega]
        omega
theorem sum_up (h1 : 1 ≤ L) (h2 : 1 ≤ G) {h left : Nat} (c1 : 1 ≤ h) (c2 : h ≤ left) {X q : Nat} (e : q ≤ X - L) :
    q + Sm L G (h - 1) q + Sm L G (left - h) (X - G) ≤ Sm L G left X :=
  Nat.le_trans (Nat.add_le_add_right (own_mono e) _) (sum_split h1 h2 c1 c2 X)
theorem first_full (left : Nat) : ∀ X : Nat, (∀ t, t < X → Bn L G t < left) ∨ ∃ u, u < X ∧ left ≤ Bn L G u ∧ ∀ t, t < u → Bn L G t < left
  | 0 => .inl fun t h => absurd h (Nat.not_lt_zero _)
  | X + 1 => by
    rcases first_full left X with h | ⟨u, a, b, c⟩
    · by_cases e : Bn L G X < left
      · exact .inl fun t ht => by
          rcases Nat.lt_or_eq_of_le (Nat.le_of_lt_succ ht) with z | rfl
          · exact h t z
          · exact e
      · exact .inr ⟨X, Nat.lt_succ_self _, by omega, h⟩
    · exact .inr ⟨u, by omega, b, c⟩
theorem share_ex (h1 : 1 ≤ L) (h2 : 1 ≤ G) {left X : Nat} (hl : 1 ≤ left) (hX : L < X) : ∃ h, 1 ≤ h ∧ h ≤ left ∧ ∀ t, L ≤ t → t < X → min left (Bn L G t) ≤ min h (1 + Bn L G (t - L)) + min (left - h) (Bn L G (t - G)) := by
  rcases first_full (L := L) (G := G) left X with hf | ⟨u, a, b, c⟩
  · have e := Bn_hi h1 h2 (x := X - 1) (by omega)
    have f := hf (X - 1) (by omega)
    refine ⟨left - Bn L G (X - 1 - G), by omega, by omega, fun t t1 t2 => ?_⟩
    have m1 := Bn_mono h1 h2 (x := t - L) (y := X - 1 - L) (by omega)
    have m2 := Bn_mono h1 h2 (x := t - G) (y := X - 1 - G) (by omega)
    rw [Bn_hi h1 h2 t1]
    omega
  · have uL : L ≤ u := by
      by_cases z : u < L
      · rw [Bn_lo z] at b; omega
      · omega
    have eu := Bn_hi h1 h2 uL
    by_cases z : u = L
    · subst z
      have z0 : Bn u G (u - G) = 0 := Bn_lo (by omega)
      rw [Nat.sub_self] at eu
      have z1 : Bn u G 0 = 0 := Bn_lo (by omega)
      refine ⟨left, hl, Nat.le_refl _, fun t t1 t2 => ?_⟩
      rw [Bn_hi h1 h2 t1]
      omega
    · have ev := Bn_hi h1 h2 (x := u - 1) (by omega)
      have fv := c (u - 1) (by omega)
      have n1 := Bn_mono h1 h2 (x := u - 1 - L) (y := u - L) (by omega)
      have n2 := Bn_mono h1 h2 (x := u - 1 - G) (y := u - G) (by omega)
      refine ⟨max (1 + Bn L G (u - 1 - L)) (left - Bn L G (u - G)), by omega, by omega, fun t t1 t2 => ?_⟩
      rw [Bn_hi h1 h2 t1]
      by_cases y : t < u
      · have m1 := Bn_mono h1 h2 (x := t - L) (y := u - 1 - L) (by omega)
        have m2 := Bn_mono h1 h2 (x := t - G) (y := u - 1 - G) (by omega)
        omega
      · have m1 := Bn_mono h1 h2 (x := u - L) (y := t - L) (by omega)
        have m2 := Bn_mono h1 h2 (x := u - G) (y := t - G) (by omega)
        omega
theorem sum_down (h1 : 1 ≤ L) (h2 : 1 ≤ G) {left X : Nat} (hl : 1 ≤ left) (hX : L < X) : ∃ h, 1 ≤ h ∧ h ≤ left ∧ Sm L G left X ≤ (X - L) + Sm L G (h - 1) (X - L) + Sm L G (left - h) (X - G) := by
  obtain ⟨h, a, b, c⟩ := share_ex h1 h2 hl hX
  refine ⟨h, a, b, ?_⟩
  have k : ∀ Y, Y ≤ X → Sm L G left Y ≤ (Y - L) + Sm L G (h - 1) (Y - L) + Sm L G (left - h) (Y - G) := by
    intro Y
    induction Y with
    | zero => intro _; exact Nat.zero_le _
    | succ Y ih =>
      intro hY
      have ih := ih (by omega)
      by_cases z : Y < L
      · rw [Sm_lo (by omega)]; exact Nat.zero_le _
      · have cc := c Y (by omega) (by omega)
        rw [Sm, show Y + 1 - L = Y - L + 1 by omega, Sm]
        by_cases y : G ≤ Y
        · rw [show Y + 1 - G = Y - G + 1 by omega, Sm]
          omega
        · rw [show Y - G = 0 by omega, Bn_lo (by omega : 0 < L)] at cc
          rw [show Y - G = 0 by omega] at ih
          rw [show Y + 1 - G = 0 by omega]
          omega
  exact k X (Nat.le_refl _)
end

/-! ### the slower tree's times, counted -/
def sumN (f : Int → Nat) (cs : List Int) : Nat := (cs.map f).sum
theorem sumN_app (f : Int → Nat) (a b : List Int) : sumN f (a ++ b) = sumN f a + sumN f b := by
  unfold sumN; rw [List.map_append, List.sum_append]
theorem sumN_one (f : Int → Nat) (x : Int) : sumN f [x] = f x := by unfold sumN; simp
theorem sumN_set (f : Int → Nat) {c d : Int} : ∀ {cs : List Int} {i : Nat}, cs[i]? = some c → sumN f (cs.set i d) + f c = sumN f cs + f d
  | [], _, h => by simp at h
  | x :: cs, 0, h => by
    obtain rfl : x = c := by simpa using h
    show (f d + _) + f x = (f x + _) + f d
    omega
  | x :: cs, i + 1, h => by
    have := sumN_set f (cs := cs) (i := i) (d := d) (by simpa using h)
    show (f x + sumN f (cs.set i d)) + f c = (f x + sumN f cs) + f d
    omega
theorem sumN_zero (f : Int → Nat) : ∀ {cs : List Int}, (∀ c, c ∈ cs → f c = 0) → sumN f cs = 0
  | [], _ => rfl
  | x :: cs, h => by
    show f x + sumN f cs = 0
    rw [h x (List.mem_cons_self ..), sumN_zero f fun c hc => h c (List.mem_cons_of_mem _ hc)]
def leN (t : Nat) (c : Int) : Nat := if c ≤ (t : Int) then 1 else 0
/-- what a sending that comes at c brings until t -/
def frN (L G t : Nat) (c : Int) : Nat := if c ≤ (t : Int) then Bn L G (t - c.toNat + L) else 0
theorem sumN_leN (t : Nat) : ∀ (cs : List Int), sumN (leN t) cs ≤ cs.length
  | [] => Nat.le_refl _
  | x :: cs => by
    have := sumN_leN t cs
    have e : leN t x ≤ 1 := by unfold leN; split <;> omega
    show leN t x + sumN (leN t) cs ≤ cs.length + 1
    omega
theorem sumN_leN_all (t : Nat) : ∀ {cs : List Int}, (∀ c, c ∈ cs → c ≤ (t : Int)) → sumN (leN t) cs = cs.length
  | [], _ => rfl
  | x :: cs, h => by
    show leN t x + sumN (leN t) cs = cs.length + 1
    rw [sumN_leN_all t fun c hc => h c (List.mem_cons_of_mem _ hc)]
    unfold leN
    rw [if_pos (h x (List.mem_cons_self ..))]
    omega
theorem frN_split {L G t : Nat} {c : Int} (h1 : 1 ≤ L) (h2 : 1 ≤ G) (c0 : 0 ≤ c) : frN L G t c = leN t c + frN L G t (c + G) + frN L G t (c + L) := by
  unfold frN leN
  by_cases a : c ≤ (t : Int)
  · rw [if_pos a, if_pos a, Bn_hi h1 h2 (by omega), show t - c.toNat + L - L = t - c.toNat by omega]
    by_cases b : c + (L : Int) ≤ t
    · rw [if_pos b, show t - (c + (L : Int)).toNat + L = t - c.toNat by omega]
      by_cases d : c + (G : Int) ≤ t
      · rw [if_pos d, show t - (c + (G : Int)).toNat + L = t - c.toNat + L - G by omega]
        omega
      · rw [if_neg d, Bn_lo (x := t - c.toNat + L - G) (by omega)]
        omega
    · rw [if_neg b, Bn_lo (x := t - c.toNat) (by omega)]
      by_cases d : c + (G : Int) ≤ t
      · rw [if_pos d, show t - (c + (G : Int)).toNat + L = t - c.toNat + L - G by omega]
        omega
      · rw [if_neg d, Bn_lo (x := t - c.toNat + L - G) (by omega)]
  · rw [if_neg a, if_neg a, if_neg (by omega), if_neg (by omega)]
theorem SlowR.count {L G : Nat} {L' G' : Int} {j : Nat} {cs ks : List Int} (h1 : 1 ≤ L) (h2 : 1 ≤ G) (eL : L' = L) (eG : G' = G) (h : SlowR L' G' j cs ks) :
    ks.length = j ∧ (∀ k, k ∈ ks → 0 ≤ k) ∧ (∀ c, c ∈ cs → 0 ≤ c) ∧ (∀ k, k ∈ ks → ∀ c, c ∈ cs → k ≤ c) ∧ ∀ t, Bn L G t = sumN (leN t) ks + sumN (frN L G t) cs := by
  subst eL eG
  induction h with
  | zero =>
    refine ⟨rfl, fun k hk => (by cases hk), fun c hc => by rw [List.mem_singleton] at hc; omega, fun k hk => (by cases hk), fun t => ?_⟩
    rw [sumN_one]
    unfold frN
    by_cases a : (L : Int) ≤ t
    · rw [if_pos a, show t - ((L : Nat) : Int).toNat + L = t by omega]
      show _ = 0 + _
      omega
    · rw [if_neg a, Bn_lo (by omega)]; rfl
  | step h hi hm hf ih =>
    rename_i j cs ks i c
    obtain ⟨n, k0, c0, kc, e⟩ := ih
    have hc := List.mem_iff_getElem?.mpr ⟨i, hi⟩
    have cc := c0 c hc
    have hmem : ∀ x, x ∈ cs.set i (c + G) ++ [c + (L : Int)] → c ≤ x := fun x hx => by
      rcases List.mem_append.mp hx with hx | hx
      · rcases List.mem_or_eq_of_mem_set hx with hx | rfl
        · exact hm x hx
        · omega
      · rw [List.mem_singleton] at hx; omega
    refine ⟨by rw [List.length_append, n]; rfl, fun k hk => ?_, fun x hx => Int.le_trans cc (hmem x hx), fun k hk x hx => ?_, fun t => ?_⟩
    · rcases List.mem_append.mp hk with hk | hk
      · exact k0 k hk
      · rw [List.mem_singleton] at hk; omega
    · have := hmem x hx
      rcases List.mem_append.mp hk with hk | hk
      · have := kc k hk c hc; omega
      · rw [List.mem_singleton] at hk; omega
    · rw [sumN_app, sumN_app, sumN_one, sumN_one, e t]
      have s := sumN_set (frN L G t) (d := c + (G : Int)) hi
      have f := frN_split (L := L) (G := G) (t := t) h1 h2 cc
      omega
theorem SlowR.least {L G : Nat} {L' G' : Int} {j : Nat} {cs ks : List Int} (h1 : 1 ≤ L) (h2 : 1 ≤ G) (eL : L' = L) (eG : G' = G) (h : SlowR L' G' j cs ks) (t : Nat) :
    sumN (leN t) ks = min j (Bn L G t) := by
  obtain ⟨n, k0, c0, kc, e⟩ := SlowR.count h1 h2 eL eG h
  by_cases z : ∃ c, c ∈ cs ∧ c ≤ (t : Int)
  · obtain ⟨c, hc, ct⟩ := z
    have a := sumN_leN_all t (cs := ks) fun k hk => by have := kc k hk c hc; omega
    have := e t
    omega
  · have a := sumN_zero (frN L G t) (cs := cs) fun c hc => by
      unfold frN
      rw [if_neg fun y => z ⟨c, hc, y⟩]
    have := e t
    have := sumN_leN t ks
    omega
def sumTo (f : Nat → Nat) : Nat → Nat
  | 0 => 0
  | x + 1 => sumTo f x + f x
theorem sumTo_le (k : Int) (k0 : 0 ≤ k) : ∀ x : Nat, ((sumTo (fun t => leN t k) x : Nat) : Int) = posP ((x : Int) - k)
  | 0 => by show (0 : Int) = _; unfold posP; rw [if_neg (by omega)]
  | x + 1 => by
    have := sumTo_le k k0 x
    show ((sumTo (fun t => leN t k) x + leN x k : Nat) : Int) = _
    unfold posP leN at *
    split at this <;> split <;> split <;> omega
theorem sumTo_ks : ∀ (ks : List Int) (x : Nat), (∀ k, k ∈ ks → 0 ≤ k) → ((sumTo (fun t => sumN (leN t) ks) x : Nat) : Int) = (ks.map fun k => posP ((x : Int) - k)).sum
  | [], x, _ => by
    have : ∀ x, sumTo (fun t => sumN (leN t) []) x = 0 := fun x => by
      induction x with
      | zero => rfl
      | succ x ih => show sumTo _ x + 0 = 0; rw [ih]
    rw [this]; rfl
  | k :: ks, x, h => by
    have : ∀ x, sumTo (fun t => sumN (leN t) (k :: ks)) x = sumTo (fun t => leN t k) x + sumTo (fun t => sumN (leN t) ks) x := fun x => by
      induction x with
      | zero => rfl
      | succ x ih =>
        show sumTo _ x + sumN (leN x) (k :: ks) = (sumTo _ x + leN x k) + (sumTo _ x + sumN (leN x) ks)
        rw [ih, show sumN (leN x) (k :: ks) = leN x k + sumN (leN x) ks from rfl]
        omega
    rw [this, List.map_cons, List.sum_cons, ← sumTo_le k (h k (List.mem_cons_self ..)) x, ← sumTo_ks ks x fun c hc => h c (List.mem_cons_of_mem _ hc)]
    omega
theorem posP_neg {ks : List Int} {f : Int → Int} (h : ∀ k, k ∈ ks → f k ≤ 0) : (ks.map fun k => posP (f k)).sum = 0 := by
  induction ks with
  | nil => rfl
  | cons k ks ih =>
    rw [List.map_cons, List.sum_cons, ih fun c hc => h c (List.mem_cons_of_mem _ hc)]
    have := h k (List.mem_cons_self ..)
    unfold posP
    rw [if_neg (by omega)]
    rfl
theorem SlowR.sum {L G : Nat} {L' G' : Int} {j : Nat} {cs ks : List Int} {o t : Int} (h1 : 1 ≤ L) (h2 : 1 ≤ G) (eL : L' = L) (eG : G' = G) (h : SlowR L' G' j cs ks) :
    GS o ks t = t + 1 + (Sm L G j (t - o).toNat : Nat) := by
  have k0 := (SlowR.count h1 h2 eL eG h).2.1
  have e : ∀ x, sumTo (fun t => sumN (leN t) ks) x = Sm L G j x := fun x => by
    induction x with
    | zero => rfl
    | succ x ih => show sumTo _ x + sumN (leN x) ks = Sm L G j x + min j (Bn L G x); rw [ih, SlowR.least h1 h2 eL eG h]
  unfold GS
  by_cases z : 0 ≤ t - o
  · rw [← e, sumTo_ks ks _ k0, Int.toNat_of_nonneg z, show (fun k => posP (t - k - o)) = fun k => posP (t - o - k) from funext fun k => by rw [show t - k - o = t - o - k by omega]]
  · rw [show (t - o).toNat = 0 by omega, posP_neg fun k hk => by have := k0 k hk; omega]
    rfl

local macro_rules | `(tactic| walk_at "src") => `(tactic| first | assumption | (refine' SrcAt.keep ?h ?s; (case s => assumption); (case h => walk_at "src")))
local macro_rules | `(tactic| walk_at "ne") => `(tactic| first | assumption | (apply Ne.symm; assumption) | (refine' SrcAt.ne ?a ?b; (case b => assumption); (case a => walk_at "src")))
local macro_rules | `(tactic| walk_at "hp") => `(tactic| first
  | assumption
  | with_reducible exact upd_same
  | (refine' Same.at ?s ?h; (case s => assumption); (case h => walk_at "hp"))
  | (refine' But.at ?s ?n ?h; (case s => assumption); (case n => walk_at "ne"); (case h => walk_at "hp"))
  | (rw [upd_ne (by first | assumption | (apply Ne.symm; assumption))]; walk_at "hp"))
local macro_rules | `(tactic| walk_at "side") => `(tactic| first | assumption | decide | omega | exact mulL (by omega) (by omega) | exact mulR (by omega) (by omega) | exact cdiv_of (by omega) (by omega) | exact powOk (by omega) (by omega) (by decide) | exact mulL (Int.lt_of_lt_of_le (by decide) (fmod_nn (by decide))) (Int.lt_trans (fmod_lt (by decide)) (by decide)))
local macro_rules | `(tactic| walk_at "pl") => `(tactic| ((repeat with_reducible refine putF_le ?_); with_unfolding_all exact Nat.le_of_ble_eq_true rfl))
local macro_rules | `(tactic| walk_at "lk") => `(tactic| first | assumption | (rw [lookup_putF, if_pos rfl]) | (rw [lookup_putF, if_neg (by decide +kernel)]; walk_at "lk"))
local macro_rules | `(tactic| walk_at "cls") => `(tactic| first | with_unfolding_all exact Txt.cl_Machine (by assumption) | with_unfolding_all exact Txt.nF_Machine_o (by assumption) | with_unfolding_all exact Txt.nF_Machine_l (by assumption) | with_unfolding_all exact Txt.nF_Machine_g (by assumption) | with_unfolding_all exact Txt.nF_Machine_letter (by assumption) | with_unfolding_all exact Txt.nF_Machine_gap (by assumption))
/-- one turn of a reading -/
local macro_rules | `(tactic| walk_at "rd") => `(tactic| with_reducible first
  | (refine r_seq ?_; fail_if_success (refine r_ifS ?_))
  | refine r_asg ?_
  | refine r_gName ?_
  | (refine' r_var ?hv ?_; (case hv => with_unfolding_all exact rfl))
  | refine r_c ?_
  | refine r_op ?_
  | refine r_I0 ?_
  | (refine' r_I ?hc ?_; (case hc => walk_at "side"))
  | refine r_add ?_
  | refine r_sub ?_
  | refine r_eqI ?_
  | refine r_neI ?_
  | (refine' r_ixL ?hp ?he ?_; (case hp => walk_at "hp"); (case he => with_unfolding_all exact rfl))
  | (refine' r_ixT ?hp ?he ?_; (case hp => walk_at "hp"); (case he => with_unfolding_all exact rfl))
  | refine r_cons ?_
  | refine r_nil ?_
  | refine r_CB ?_
  | refine r_call ?_
  | refine r_test ?_
  | refine r_tB ?_
  | refine r_bl ?_
  | refine r_in ?_
  | refine Or.inl (r_in1 ?_)
  | refine r_in1 ?_
  | refine r_in2 ?_
  | (refine' r_lenL ?hp ?_; (case hp => walk_at "hp"))
  | (refine' r_lenT ?hp ?_; (case hp => walk_at "hp"))
  | refine r_ifS ?_
  | refine r_and ?_
  | refine r_or ?_
  | refine r_not ?_
  | refine r_andV ?_
  | refine r_orV ?_
  | refine r_notV ?_
  | refine r_ifE ?_
  | refine r_ret ?_
  | refine r_next ?_
  | refine r_drop ?_
  | refine r_gSub ?_
  | (refine' r_setL ?hp ?he ?_; (case hp => walk_at "hp"); (case he => with_unfolding_all exact rfl))
  | (refine' r_aug ?he ?_; (case he => with_unfolding_all exact rfl))
  | refine r_augS ?_
  | refine r_ip ?_
  | refine r_tup ?_
  | refine r_lst ?_
  | refine r_tFld ?_
  | (refine' r_fld ?hc ?hn ?hx ?he ?_; (case hx => walk_at "hp"); (case hc => walk_at "cls"); (case hn => walk_at "cls"); (case he => walk_at "lk"))
  | (refine' r_put ?hc ?hn ?hx ?hl ?_; (case hx => walk_at "hp"); (case hc => walk_at "cls"); (case hn => walk_at "cls"); (case hl => walk_at "pl"))
  | refine r_sl ?_
  | refine r_noP ?_
  | refine r_part ?_
  | refine r_un ?_
  | refine r_U ?_
  | refine r_Bm ?_
  | refine r_cont ?_
  | refine r_brk ?_
  | refine r_isNn ?_
  | refine r_isNi ?_
  | refine r_isNr ?_
  | refine r_notNn ?_
  | refine r_notNi ?_
  | refine r_notNr ?_
  | refine r_chain ?_
  | refine r_sFld ?_
  | refine r_make ?_
  | refine r_yes ?_
  | refine r_lc ?_
  | refine r_isiI true (by decide +kernel) ?_
  | refine r_isiI false (by decide +kernel) ?_
  | refine r_for ?_
  | refine r_iR1 ?_
  | refine r_iR2 ?_
  | refine r_iL ?_
  | refine r_tMeth ?_
  | (refine' r_meth ?hx ?hl ?_; (case hx => walk_at "hp"); (case hl => walk_at "no"))
  | refine r_iT ?_
  | refine iteT ?_
  | refine r_nF ?_
  | refine r_nT ?_
  | refine iteF ?_)
local macro_rules | `(tactic| walk_at "rdi") => `(tactic| with_reducible (refine r_seq ?_; refine r_ifS ?_))

local macro_rules | `(tactic| walk_at "rd") => `(tactic| with_reducible first
  | (refine' r_gTup ?hp ?hl ?_; (case hp => walk_at "hp"); (case hl => with_unfolding_all exact rfl))
  | refine r_gCons ?_
  | refine r_gNil ?_
  | refine r_par ?_
  | refine r_par3 ?_
  | refine r_ex2 ?_
  | refine r_ex3 ?_
  | refine r_nDT rfl ?_
  | refine r_neB ?_
  | refine r_isB ?_
  | refine r_notB ?_
  | refine r_cmeth ?_
  | (refine' r_makeL ?he ?_; (case he => with_unfolding_all exact rfl))
  | refine r_isiB true (by decide +kernel) ?_
  | refine r_isiB false (by decide +kernel) ?_
  | refine r_callN ?_
  | refine r_andV ?_)

theorem u1 {u c : Nat} (h : u + 64 < c) : u + 1 < c := by omega
/-! ### the law's own latest plan -/
def rInD1 : R2 := fun x y H Q => ∃ a o, y = .ref a ∧ DGet H a x o ∧ Q (.bl o.isSome) H
def rNinD1 : R2 := fun x y H Q => ∃ a o, y = .ref a ∧ DGet H a x o ∧ Q (.bl (!o.isSome)) H
theorem op_inD1 {X : Cx} (hu : X.A.units + 1 < cLine) : OpR X (compareOp .In) rInD1 := by
  intro pins s σ H x y v u Q I rx ry h
  obtain ⟨a, o, rfl, g, q⟩ := h
  cases (show u = Value.ref a from ry)
  exact d_in hu I g rx fun s' I' => ⟨.bl o.isSome, _, I', rfl, q⟩
theorem op_ninD1 {X : Cx} (hu : X.A.units + 1 < cLine) : OpR X (compareOp .NotIn) rNinD1 := by
  intro pins s σ H x y v u Q I rx ry h
  obtain ⟨a, o, rfl, g, q⟩ := h
  cases (show u = Value.ref a from ry)
  exact d_notIn hu I g rx fun s' I' => ⟨.bl (!o.isSome), _, I', rfl, q⟩

/-! ### the law of k80: the search of all schedules -/
structure NumS (o l g : Int) : Prop where
  no : 0 ≤ o ∧ o ≤ 3
  nl : 0 ≤ l ∧ l ≤ 4
  ng : 1 ≤ g ∧ g ≤ 6
  np : 0 < 2 * o + l
theorem NumS.num {o l g : Int} (n : NumS o l g) : Num o l g := ⟨⟨n.no.1, by have := n.no; omega⟩, ⟨n.nl.1, by have := n.nl; omega⟩, ⟨n.ng.1, by have := n.ng; omega⟩, n.np⟩
def spSmallS : Sp := fun vs H Q _ => ∃ (p q : Addr), vs = [.ref p] ∧ SrcAt H p q ∧ ∀ (t : Addr) (o l g : Int) (H' : Hp), NumS o l g → H' t = some (.tup [.int o, .int l, .int g]) → H t = none → SrcAt H' p q → But p H H' → Q (.ref t) H'
def nL (o l : Int) : Nat := (slL o l).toNat
def nG (o g : Int) : Nat := (slG o g).toNat
theorem NumS.eL {o l g : Int} (n : NumS o l g) : slL o l = nL o l ∧ 1 ≤ nL o l := by
  have := n.no; have := n.nl; have := n.np
  unfold nL slL
  omega
theorem NumS.eG {o l g : Int} (n : NumS o l g) : slG o g = nG o g ∧ 1 ≤ nG o g := by
  have := n.no; have := n.ng
  unfold nG slG
  split <;> omega
/-- what can be added by hands that the given one tells for -/
def Ws (o l g : Int) (m : Nat) (x : Int) : Int := (Sm (nL o l) (nG o g) m (x - o).toNat : Nat)
def bestV (o l g : Int) (h : Nat) (e : Int) : Int := e + 1 + Ws o l g (h - 1) e
theorem Ws_nn {o l g : Int} {m : Nat} {x : Int} : 0 ≤ Ws o l g m x := by unfold Ws; omega
theorem Ws_lo {o l g : Int} (n : NumS o l g) {m : Nat} {x : Int} (h : x - o ≤ slL o l) : Ws o l g m x = 0 := by
  have := n.eL
  unfold Ws
  rw [Sm_lo (by omega)]
  rfl
theorem Ws_mono {o l g : Int} {m : Nat} {x y : Int} (h : x ≤ y) : Ws o l g m x ≤ Ws o l g m y := by
  unfold Ws
  have := Sm_mono (L := nL o l) (G := nG o g) (m := m) (x := (x - o).toNat) (y := (y - o).toNat) (by omega)
  omega
theorem Ws_le {o l g : Int} {m k : Nat} {x : Int} (h : m ≤ k) : Ws o l g m x ≤ Ws o l g k x := by
  unfold Ws
  have := Sm_le (L := nL o l) (G := nG o g) h (x - o).toNat
  omega
theorem Ws_up {o l g : Int} (n : NumS o l g) {h left : Nat} (h1 : 1 ≤ h) (h2 : h ≤ left) {s y : Int} (e : s ≤ y - slL o l) : s - o + Ws o l g (h - 1) s + Ws o l g (left - h) (y - slG o g) ≤ Ws o l g left y := by
  have eL := n.eL; have eG := n.eG
  by_cases c : s - o ≤ 0
  · have a : Ws o l g (h - 1) s = 0 := Ws_lo n (by omega)
    have b := Ws_mono (o := o) (l := l) (g := g) (m := left - h) (x := y - slG o g) (y := y) (by omega)
    have d := Ws_le (o := o) (l := l) (g := g) (m := left - h) (k := left) (x := y) (by omega)
    omega
  · have := sum_up (L := nL o l) (G := nG o g) eL.2 eG.2 h1 h2 (X := (y - o).toNat) (q := (s - o).toNat) (by omega)
    unfold Ws
    rw [show (y - slG o g - o).toNat = (y - o).toNat - nG o g by omega]
    omega
theorem Ws_down {o l g : Int} (n : NumS o l g) {left : Nat} (hl : 1 ≤ left) {x : Int} (hx : slL o l < x - o) : ∃ h : Nat, 1 ≤ h ∧ h ≤ left ∧ Ws o l g left x ≤ (x - slL o l) - o + Ws o l g (h - 1) (x - slL o l) + Ws o l g (left - h) (x - slG o g) := by
  have eL := n.eL; have eG := n.eG
  obtain ⟨h, a, b, c⟩ := sum_down (L := nL o l) (G := nG o g) eL.2 eG.2 hl (X := (x - o).toNat) (by omega)
  refine ⟨h, a, b, ?_⟩
  unfold Ws
  rw [show (x - slG o g - o).toNat = (x - o).toNat - nG o g by omega, show (x - slL o l - o).toNat = (x - o).toNat - nL o l by omega]
  omega
/-! the table of what was found -/
def boxK : List (List L2.Key) := (List.range 10).flatMap fun e : Nat => (List.range 4).map fun h : Nat => [.inl (e : Int), .inl ((h : Int) + 1)]
theorem boxK_mem {e h : Int} (e0 : 0 ≤ e) (e9 : e ≤ 9) (h1 : 1 ≤ h) (h4 : h ≤ 4) : ([.inl e, .inl h] : List L2.Key) ∈ boxK := by
  unfold boxK
  rw [List.mem_flatMap]
  refine ⟨e.toNat, List.mem_range.mpr (by omega), List.mem_map.mpr ⟨(h - 1).toNat, List.mem_range.mpr (by omega), ?_⟩⟩
  rw [Int.toNat_of_nonneg e0, Int.toNat_of_nonneg (by omega : (0 : Int) ≤ h - 1), show h - 1 + 1 = h by omega]
theorem nodup_lenA {α : Type} [DecidableEq α] : ∀ (l D : List α), l.Nodup → (∀ x, x ∈ l → x ∈ D) → l.length ≤ D.length
  | [], _, _, _ => Nat.zero_le _
  | x :: l, D, hn, hs => by
    rw [List.nodup_cons] at hn
    have h1 := nodup_lenA l (D.erase x) hn.2 fun y hy => (List.mem_erase_of_ne (fun e : y = x => hn.1 (e ▸ hy))).mpr (hs y (List.mem_cons_of_mem _ hy))
    have h2 := List.length_erase_of_mem (hs x (List.mem_cons_self ..))
    have h3 := List.length_pos_of_mem (hs x (List.mem_cons_self ..))
    rw [List.length_cons]
    omega
def Row80 (o l g : Int) (kv : List L2.Key × V) : Prop := ∃ (e : Int) (h : Nat), kv = ([.inl e, .inl (h : Int)], .int (bestV o l g h e))
def Tab80 (H : Hp) (T : Addr) (o l g : Int) : Prop := ∃ kvs : List (List L2.Key × V), H T = some (.dT kvs) ∧ (kvs.map Prod.fst).Nodup ∧ (∀ k, k ∈ kvs.map Prod.fst → k ∈ boxK) ∧ ∀ kv, kv ∈ kvs → Row80 o l g kv
theorem Tab80.keep {H H' : Hp} {T : Addr} {o l g : Int} (h : Tab80 H T o l g) (s : Same H H') : Tab80 H' T o l g := let ⟨kvs, e, z⟩ := h; ⟨kvs, s _ _ e, z⟩
theorem Tab80.get {H : Hp} {T : Addr} {o l g : Int} (t : Tab80 H T o l g) {b : Addr} {e : Int} {h : Nat} (eb : H b = some (.tup [.int e, .int (h : Int)])) :
    ∃ r, DGet H T (.ref b) r ∧ (r = none ∨ r = some (.int (bestV o l g h e))) := by
  obtain ⟨kvs, eT, _, _, hr⟩ := t
  refine ⟨valV kvs [.inl e, .inl (h : Int)], .inr ⟨kvs, [.inl e, .inl (h : Int)], b, .inl eT, rfl, eb, rfl⟩, ?_⟩
  unfold valV
  cases z : kvs.find? fun kv => decide (kv.1 = [.inl e, .inl (h : Int)]) with
  | none => exact .inl rfl
  | some kv =>
    refine .inr ?_
    obtain ⟨e', h', rfl⟩ := hr kv (List.mem_of_find?_eq_some z)
    have y := List.find?_some z
    have y : ([Sum.inl e', Sum.inl (h' : Int)] : List L2.Key) = [.inl e, .inl (h : Int)] := of_decide_eq_true y
    simp only [List.cons.injEq, Sum.inl.injEq, and_true] at y
    obtain ⟨rfl, y⟩ := y
    obtain rfl : h' = h := by omega
    rfl
theorem Tab80.put {H : Hp} {T : Addr} {o l g : Int} (t : Tab80 H T o l g) {b : Addr} {e : Int} {h : Nat} (eb : H b = some (.tup [.int e, .int (h : Int)])) (e0 : 0 ≤ e) (e9 : e ≤ 9) (h1 : 1 ≤ h) (h4 : h ≤ 4) :
    ∃ H', DPut H T (.ref b) (.int (bestV o l g h e)) H' ∧ Tab80 H' T o l g ∧ But T H H' ∧ (b ≠ T → DGet H' T (.ref b) (some (.int (bestV o l g h e)))) := by
  obtain ⟨kvs, eT, hn, hb, hr⟩ := t
  refine ⟨_, .inr ⟨kvs, [.inl e, .inl (h : Int)], b, eT, rfl, eb, ?_, rfl⟩, ⟨putK kvs [.inl e, .inl (h : Int)] (.int (bestV o l g h e)), upd_same, ?_⟩, But.upd, fun hb => .inr ⟨putK kvs [.inl e, .inl (h : Int)] (.int (bestV o l g h e)), [.inl e, .inl (h : Int)], b, .inl upd_same, rfl, (upd_ne hb).trans eb, by rw [valV_put, if_pos rfl]⟩⟩
  · have := nodup_lenA _ boxK hn hb
    rw [List.length_map] at this
    exact small1000 (Nat.le_trans this (by decide +kernel))
  · unfold putK
    by_cases z : (kvs.any fun kv => decide (kv.1 = [.inl e, .inl (h : Int)])) = true
    · rw [if_pos z]
      have ek : (kvs.map (fun kv => if kv.1 = [.inl e, .inl (h : Int)] then (kv.1, V.int (bestV o l g h e)) else kv)).map Prod.fst = kvs.map Prod.fst := by
        rw [List.map_map]
        refine List.map_congr_left fun kv _ => ?_
        show (if kv.1 = _ then _ else kv).1 = kv.1
        split <;> rfl
      rw [ek]
      refine ⟨hn, hb, fun kv hkv => ?_⟩
      obtain ⟨kv', hm, rfl⟩ := List.mem_map.mp hkv
      split
      · rename_i c; rw [c]; exact ⟨e, h, rfl⟩
      · exact hr _ hm
    · rw [if_neg z, List.map_append]
      refine ⟨?_, fun k hk => ?_, fun kv hkv => ?_⟩
      · rw [List.nodup_append]
        refine ⟨hn, List.nodup_cons.mpr ⟨List.not_mem_nil, List.nodup_nil⟩, fun k hk k' hk' e' => z ?_⟩
        obtain ⟨kv, hm, rfl⟩ := List.mem_map.mp hk
        rw [List.map_singleton, List.mem_singleton] at hk'
        rw [List.any_eq_true]
        exact ⟨kv, hm, decide_eq_true (e'.trans hk')⟩
      · rcases List.mem_append.mp hk with hk | hk
        · exact hb k hk
        · rw [List.map_singleton, List.mem_singleton] at hk
          rw [hk]; exact boxK_mem e0 e9 (by omega) (by omega)
      · rcases List.mem_append.mp hkv with hkv | hkv
        · exact hr kv hkv
        · rw [List.mem_singleton] at hkv; exact ⟨e, h, hkv⟩
structure Ask80 (H : Hp) (t T : Addr) (o l g : Int) : Prop where
  num : NumS o l g
  at_ : H t = some (.tup [.int o, .int l, .int g])
  ne : t ≠ T
  tab : Tab80 H T o l g
theorem Ask80.keep {H H' : Hp} {t T : Addr} {o l g : Int} (h : Ask80 H t T o l g) (s : Same H H') : Ask80 H' t T o l g := ⟨h.num, s _ _ h.at_, h.ne, h.tab.keep s⟩
theorem Ask80.but {H H' : Hp} {t T : Addr} {o l g : Int} (h : Ask80 H t T o l g) (s : But T H H') (b : Tab80 H' T o l g) : Ask80 H' t T o l g := ⟨h.num, s _ _ h.at_ h.ne, h.ne, b⟩
def spBest80 (n : Nat) : Sp := fun vs H Q _ => ∃ (t T : Addr) (e o l g : Int) (h : Nat), vs = [.ref t, .int e, .int (h : Int), .ref T] ∧ Ask80 H t T o l g ∧ 0 ≤ e ∧ e ≤ 9 ∧ 1 ≤ h ∧ h ≤ n ∧ n ≤ 4 ∧
  ∀ H', But T H H' → Tab80 H' T o l g → Q (.int (bestV o l g h e)) H'
/-- what is left of the end, and of the time before which the next letter comes -/
def eN (o e later : Int) : Int := e - later * o - later
def xN (o g e later before : Int) : Int := if before - gapOf o g + 1 < eN o e later then before - gapOf o g + 1 else eN o e later
def spLet80 (n : Nat) : Sp := fun vs H Q _ => ∃ (t T : Addr) (e later before o l g : Int) (left : Nat), vs = [.ref t, .int e, .int (left : Int), .int later, .int before, .ref T] ∧ Ask80 H t T o l g ∧ 0 ≤ e ∧ e ≤ 9 ∧ 0 ≤ later ∧ left < n ∧ n ≤ 4 ∧ (-1000000 ≤ before ∧ before ≤ 1000000) ∧ later ≤ 1000000 - 100000 * left ∧
  ∀ (r : Int) H', 0 ≤ r → (∀ y, xN o g e later before ≤ y → eN o e later ≤ y ∨ slG o g = gapOf o g → r ≤ Ws o l g left y) → (xN o g e later before = eN o e later ∨ slG o g = gapOf o g → Ws o l g left (xN o g e later before) ≤ r) → But T H H' → Tab80 H' T o l g → Q (.int r) H'
theorem r_dnew80 {σ : St} {H : Hp} {Q : VK} (k : ∀ p H', H p = none → Same H H' → H' p = some (.dT []) → Q (.ref p) H') : tDNewT σ H Q := fun p hp => k p _ hp (Same.new hp) upd_same
theorem r_dget80 {td ty : TE} {σ : St} {H : Hp} {Q : VK} (h : td σ H fun x H1 => ty σ H1 fun y H2 => ∃ a v, x = .ref a ∧ DGet H2 a y (some v) ∧ Q v H2) : tDGet td ty σ H Q := h
section
variable {P : Program} {w : World} {K : PySem.W.Frag} {mg : Str → Option Value} {base : Heap} {a : Adr}
theorem ok__law_small (T : Txt K mg a) : FnOk P w K mg base CX0 2 a.a__law_small a.d__law_small ["_law_source_here"] spSmallS := by
  refine T.F__law_small.ok sc__law_small (fun vs H Q E h => ?_) (fun cdv A outer s H vs Q E hr h => ?_)
  · obtain ⟨p, q, rfl, _⟩ := h
    rfl
  · obtain ⟨p, q, rfl, hs, k⟩ := h
    refine ⟨_, (pss_cons (ps_set (i := 1) sc__law_small.nd rfl (Or.inl rfl) (pe_call (ok__law_draw T) (hr.mono (by decide)) (by rfl) T.g__law_draw T.F__law_draw.kp T.b__law_draw .nil pass0 (pa_cons (pv 0) (pa_cons pe_int pa_nil))))
 (pss_cons (ps_set (i := 2) sc__law_small.nd rfl (Or.inl rfl) (pe_call (ok__law_draw T) (hr.mono (by decide)) (by rfl) T.g__law_draw T.F__law_draw.kp T.b__law_draw .nil pass0 (pa_cons (pv 0) (pa_cons pe_int pa_nil))))
 (pss_cons (ps_set (i := 3) sc__law_small.nd rfl (Or.inl rfl) (pe_op op_add pe_int (pe_call (ok__law_draw T) (hr.mono (by decide)) (by rfl) T.g__law_draw T.F__law_draw.kp T.b__law_draw .nil pass0 (pa_cons (pv 0) (pa_cons pe_int pa_nil)))))
 (pss_cons (ps_if (pt_cmpR op_eq (pe_op op_add (pe_op op_mul pe_int (pv 1)) (pv 2)) pe_int (nomark _)) (pss_one (ps_set (i := 2) sc__law_small.nd rfl (Or.inl rfl) pe_int))
 pss_nil)
 (pss_one (ps_ret (pe_tup (pa_cons (pv 1) (pa_cons (pv 2) (pa_cons (pv 3) pa_nil)))))))))), ?_⟩
    repeat walk_at "rd"
    refine ⟨p, q, 4, rfl, hs, by decide, by decide, fun o H1 o0 o4 hs1 b1 => ?_⟩
    repeat walk_at "rd"
    refine ⟨p, q, 5, rfl, hs1, by decide, by decide, fun l H2 l0 l4 hs2 b2 => ?_⟩
    repeat walk_at "rd"
    refine ⟨p, q, 6, rfl, hs2, by decide, by decide, fun g H3 g0 g4 hs3 b3 => ?_⟩
    have b3 := (b1.trans b2).trans b3
    repeat first | walk_at "rd" | walk_at "rdi"
    refine ite_d (fun hc => ?_) (fun hc => ?_)
    · repeat walk_at "rd"
      refine new_at (Nat.le_of_ble_eq_true rfl) (fun u H4 nu su eu => ?_)
      exact k u o 1 (1 + g) _ ⟨by omega, by omega, by omega, by omega⟩ eu (b3.free hs3 nu) (hs3.keep su) (b3.trans (But.of_same su))
    · repeat walk_at "rd"
      refine new_at (Nat.le_of_ble_eq_true rfl) (fun u H4 nu su eu => ?_)
      exact k u o l (1 + g) _ ⟨by omega, by omega, by omega, by omega⟩ eu (b3.free hs3 nu) (hs3.keep su) (b3.trans (But.of_same su))
theorem best_step {n : Nat} (T : Txt K mg a) (hL : FnOk P w K mg base CX0 (2 * n + 3) a.a__law_letters a.d__law_letters ["_law_numbers", "_law_end", "_law_left", "_law_later", "_law_before", "_law_table"] (spLet80 (n + 1))) :
    FnOk P w K mg base CX0 (2 * n + 4) a.a__law_best a.d__law_best ["_law_numbers", "_law_end", "_law_hands", "_law_table"] (spBest80 (n + 1)) := by
  refine T.F__law_best.ok sc__law_best (fun vs H Q E h => ?_) (fun cdv A outer s H vs Q E hr h => ?_)
  · obtain ⟨t, T0, e, o, l, g, h, rfl, _⟩ := h
    rfl
  · obtain ⟨t, T0, e, o, l, g, hn, rfl, hA, e0, e9, h1, hh, hn4, k⟩ := h
    refine ⟨_, (pss_cons (ps_set (i := 4) sc__law_best.nd rfl (Or.inl rfl) (pe_tup (pa_cons (pv 1) (pa_cons (pv 2) pa_nil))))
 (pss_cons (ps_if (pt_cmpR (op_ninD1 (u1 hr.units)) (pv 4) (pv 3) (by rfl)) (pss_one (ps_asg (pe_op op_add (pe_op op_add (pv 1) pe_int) (pe_call hL (hr.mono (by omega)) (by rfl) T.g__law_letters T.F__law_letters.kp T.b__law_letters .nil pass0 (pa_cons (pv 0) (pa_cons (pv 1) (pa_cons (pe_op op_sub (pv 2) pe_int) (pa_cons pe_int (pa_cons (pe_op op_add (pv 1) pe_int) (pa_cons (pv 3) pa_nil)))))))) (pg_sub (pv 3) (pv 4) (set_dict (u1 hr.units)))))
 pss_nil)
 (pss_one (ps_ret (pe_dget (u1 hr.units) (pv 3) (pv 4) (fun _ _ => rfl)))))), ?_⟩
    repeat walk_at "rd"
    refine new_at (Nat.le_of_ble_eq_true rfl) (fun b H1 nb s1 eb => ?_)
    have hA1 := hA.keep s1
    repeat walk_at "rd"
    with_reducible refine seq_with (fun σ H' => σ = [some (.ref t), some (.int e), some (.int (hn : Int)), some (.ref T0), some (.ref b)] ∧ But T0 H1 H' ∧ Tab80 H' T0 o l g ∧ DGet H' T0 (.ref b) (some (.int (bestV o l g hn e)))) ?_ (fun rest => ?_)
    · rintro σ H2 ⟨rfl, b2, t2, g2⟩
      repeat walk_at "rd"
      refine r_dget80 ?_
      repeat walk_at "rd"
      refine ⟨T0, _, rfl, g2, ?_⟩
      exact k _ ((But.of_same s1).trans b2) t2
    · obtain ⟨r, hg, hv⟩ := hA1.tab.get eb
      repeat walk_at "rd"
      refine ⟨T0, r, rfl, hg, ?_⟩
      rcases hv with rfl | rfl
      · refine r_bl (iteT ?_)
        repeat walk_at "rd"
        refine ⟨t, T0, e, 0, e + 100, o, l, g, hn - 1, by rw [show ((hn - 1 : Nat) : Int) = (hn : Int) - 1 by omega]; rfl, hA1, e0, e9, by decide, by omega, hn4, by omega, by omega, fun r H2 r0 up lo b2 t2 => ?_⟩
        have N := hA.num
        have hbT : b ≠ T0 := fun z => by obtain ⟨kvs, ek, _⟩ := hA1.tab; rw [z, ek] at eb; cases eb
        have xe : xN o g e 0 (e + 100) = eN o e 0 := by
          have := N.no; have := N.ng
          have hM : gapOf o g ≤ 6 := by unfold gapOf; split <;> omega
          unfold xN eN
          rw [Int.zero_mul, if_neg (by omega)]
        have ee : eN o e 0 = e := by unfold eN; rw [Int.zero_mul]; omega
        have er : r = Ws o l g (hn - 1) e := by
          have u := up e (by rw [xe, ee]; exact Int.le_refl _) (.inl (by rw [ee]; exact Int.le_refl _))
          have v := lo (.inl xe)
          rw [xe, ee] at v
          omega
        subst er
        have eb2 := b2 _ _ eb hbT
        have ev : e + 1 + Ws o l g (hn - 1) e = bestV o l g hn e := rfl
        repeat walk_at "rd"
        rw [ev]
        obtain ⟨H3, hp, t3, b3, g3⟩ := t2.put eb2 e0 e9 h1 (by omega)
        refine ⟨T0, H3, rfl, hp, ?_⟩
        exact rest _ _ ⟨rfl, b2.trans b3, t3, g3 hbT⟩
      · refine r_bl (iteF ?_)
        repeat first | exact rest _ _ ⟨rfl, But.refl _ _, hA1.tab, hg⟩ | walk_at "rd"
set_option maxHeartbeats 4000000 in
theorem letters_step {n : Nat} (T : Txt K mg a) (hB : FnOk P w K mg base CX0 (2 * n + 2) a.a__law_best a.d__law_best ["_law_numbers", "_law_end", "_law_hands", "_law_table"] (spBest80 n))
    (hL : FnOk P w K mg base CX0 (2 * n + 1) a.a__law_letters a.d__law_letters ["_law_numbers", "_law_end", "_law_left", "_law_later", "_law_before", "_law_table"] (spLet80 n)) :
    FnOk P w K mg base CX0 (2 * n + 3) a.a__law_letters a.d__law_letters ["_law_numbers", "_law_end", "_law_left", "_law_later", "_law_before", "_law_table"] (spLet80 (n + 1)) := by
  refine T.F__law_letters.ok sc__law_letters (fun vs H Q E h => ?_) (fun cdv A outer s H vs Q E hr h => ?_)
  · obtain ⟨t, T0, e, later, before, o, l, g, left, rfl, _⟩ := h
    rfl
  · obtain ⟨t, T0, e, later, before, o, l, g, left, rfl, hA, e0, e9, la0, hln, hn4, hbf, hlat, k⟩ := h
    refine ⟨_, (pss_cons (ps_asg (pv 0) (pg_tup (by rfl) (pgs_cons (pg_name (i := 6) sc__law_letters.nd rfl (Or.inl rfl)) (pgs_cons (pg_name (i := 7) sc__law_letters.nd rfl (Or.inl rfl)) (pgs_cons (pg_name (i := 8) sc__law_letters.nd rfl (Or.inl rfl)) pgs_nil)))))
 (pss_cons (ps_set (i := 9) sc__law_letters.nd rfl (Or.inl rfl) pe_int)
 (pss_cons (ps_if (pt_cmpR op_gt (pe_op op_mul (pe_op op_add (pv 3) pe_int) (pe_op op_add (pv 6) pe_int)) (pv 1) (nomark _)) (pss_one (ps_ret (pv 9)))
 pss_nil)
 (pss_cons (ps_set (i := 10) sc__law_letters.nd rfl (Or.inl rfl) (pe_callB (call_min2 rfl) (by rfl) T.n_min (by decide +kernel) (pa_cons (pe_op op_sub (pe_op op_sub (pe_op op_sub (pv 1) (pe_op op_mul (pv 3) (pv 6))) (pv 3)) pe_int) (pa_cons (pe_op op_sub (pv 4) (pe_callB (call_max2 rfl) (by rfl) T.n_max (by decide +kernel) (pa_cons (pv 6) (pa_cons (pv 8) pa_nil)))) pa_nil))))
 (pss_cons (ps_for (by exact PassesOwn.never) rfl (pi_range2 (by rfl) T.n_range (pa_cons (pe_op op_add (pe_op op_mul pe_int (pv 6)) (pv 7)) (pa_cons (pe_op op_add (pv 10) pe_int) pa_nil))) (pg_name (i := 11) sc__law_letters.nd rfl (Or.inl rfl))
 (pss_one (ps_for (by exact PassesOwn.never) rfl (pi_range2 (by rfl) T.n_range (pa_cons pe_int (pa_cons (pe_op op_add (pv 2) pe_int) pa_nil))) (pg_name (i := 12) sc__law_letters.nd rfl (Or.inl rfl))
 (pss_cons (ps_set (i := 13) sc__law_letters.nd rfl (Or.inl rfl) (pe_op op_sub (pe_op op_sub (pe_call hB (hr.mono (by omega)) (by rfl) T.g__law_best T.F__law_best.kp T.b__law_best .nil pass0 (pa_cons (pv 0) (pa_cons (pe_op op_sub (pe_op op_sub (pv 11) (pe_op op_mul pe_int (pv 6))) (pv 7)) (pa_cons (pv 12) (pa_cons (pv 5) pa_nil))))) (pv 6)) pe_int))
 (pss_cons (ps_aug (i := 13) sc__law_letters.nd rfl (Or.inl rfl) (pe_call hL (hr.mono (by omega)) (by rfl) T.g__law_letters T.F__law_letters.kp T.b__law_letters .nil pass0 (pa_cons (pv 0) (pa_cons (pv 1) (pa_cons (pe_op op_sub (pv 2) (pv 12)) (pa_cons (pe_op op_add (pv 3) pe_int) (pa_cons (pv 11) (pa_cons (pv 5) pa_nil))))))) ip_add)
 (pss_one (ps_set (i := 9) sc__law_letters.nd rfl (Or.inl rfl) (pe_callB (call_max2 rfl) (by rfl) T.n_max (by decide +kernel) (pa_cons (pv 9) (pa_cons (pv 13) pa_nil))))))))))
 (pss_one (ps_ret (pv 9)))))))), ?_⟩
    have N := hA.num
    have et := hA.at_
    have no := N.no; have nl := N.nl; have ng := N.ng; have np := N.np
    have w0 : 0 ≤ later * o := Int.mul_nonneg la0 no.1
    have w1 : later * o ≤ later * 3 := Int.mul_le_mul_of_nonneg_left no.2 la0
    have w2 : (later + 1) * (o + 1) = later * o + later + o + 1 := by rw [Int.add_mul, Int.mul_add, Int.one_mul, Int.mul_one]; omega
    have w3 : (later + 1) * o = later * o + o := by rw [Int.add_mul, Int.one_mul]
    have hxE : xN o g e later before ≤ eN o e later := by unfold xN; split <;> omega
    have hE : eN o e later = e - later * o - later := rfl
    have hsL : slL o l = 2 * o + l + 1 := rfl
    repeat first | walk_at "rd" | walk_at "rdi"
    refine ite_d (fun hc => ?_) (fun hc => ?_)
    · repeat walk_at "rd"
      refine k 0 _ (Int.le_refl _) (fun y _ _ => Ws_nn) (fun _ => ?_) (But.refl _ _) hA.tab
      rw [Ws_lo N (by omega)]
      exact Int.le_refl _
    · repeat walk_at "rd"
      have hlast : (if before - (if g > o then g else o) < e - later * o - later - 1 then before - (if g > o then g else o) else e - later * o - later - 1) = xN o g e later before - 1 := by
        unfold xN eN gapOf
        generalize (if g > o then g else o) = M
        split <;> split <;> omega
      rw [hlast]
      have hxb : -2000000 ≤ xN o g e later before := by
        have hM : gapOf o g ≤ 6 := by unfold gapOf; split <;> omega
        unfold xN
        split <;> omega
      have hGM : (slG o g = o + 1 ∧ g ≤ o + 1) ∨ (slG o g = g ∧ o + 1 ≤ g) := by unfold slG; split <;> omega
      have hM : (gapOf o g = g ∧ o ≤ g) ∨ (gapOf o g = o ∧ g ≤ o) := by unfold gapOf; split <;> omega
      generalize hX : xN o g e later before = X0 at *
      generalize hG : slG o g = G at *
      generalize hMM : gapOf o g = M at *
      repeat walk_at "rd"
      refine ⟨by omega, for_range (lo := 2 * o + l) (n := (X0 - 1 + 1 - (2 * o + l)).toNat) (fun i σ H' => ∃ (v11 v12 v13 : Option V) (b : Int), σ = [some (.ref t), some (.int e), some (.int left), some (.int later), some (.int before), some (.ref T0), some (.int o), some (.int l), some (.int g), some (.int b), some (.int (X0 - 1)), v11, v12, v13] ∧ 0 ≤ b ∧
        (∀ y, X0 ≤ y → eN o e later ≤ y ∨ G = M → b ≤ Ws o l g left y) ∧ ((X0 = eN o e later ∨ G = M) → X0 - 1 < 2 * o + l + i → 2 * o + l ≤ X0 - 1 → ∀ h : Nat, 1 ≤ h → h ≤ left → (X0 - slL o l) - o + Ws o l g (h - 1) (X0 - slL o l) + Ws o l g (left - h) (X0 - G) ≤ b) ∧ But T0 H H' ∧ Ask80 H' t T0 o l g)
        ⟨_, _, _, 0, rfl, Int.le_refl _, fun y _ _ => Ws_nn, fun _ h1 h2 => absurd h1 (by omega), But.refl _ _, hA⟩ ?_ ?_⟩
      · clear et hA
        rintro i σ H1 hi ⟨v11, v12, v13, b, rfl, b0, bu, bl, bt, hA⟩
        repeat walk_at "rd"
        rw [show ((left : Int) + 1 - 1).toNat = left by omega]
        refine ⟨by omega, for_range (lo := 1) (n := left) (fun j σ H' => ∃ (v12 v13 : Option V) (b : Int), σ = [some (.ref t), some (.int e), some (.int left), some (.int later), some (.int before), some (.ref T0), some (.int o), some (.int l), some (.int g), some (.int b), some (.int (X0 - 1)), some (.int (2 * o + l + (i : Nat))), v12, v13] ∧ 0 ≤ b ∧
          (∀ y, X0 ≤ y → eN o e later ≤ y ∨ G = M → b ≤ Ws o l g left y) ∧ ((X0 = eN o e later ∨ G = M) → X0 - 1 = 2 * o + l + i → ∀ h : Nat, 1 ≤ h → h ≤ left → h ≤ j → (X0 - slL o l) - o + Ws o l g (h - 1) (X0 - slL o l) + Ws o l g (left - h) (X0 - G) ≤ b) ∧ But T0 H H' ∧ Ask80 H' t T0 o l g)
          ⟨_, _, b, rfl, b0, bu, fun _ _ h h1 _ h2 => absurd h1 (by omega), bt, hA⟩ ?_ ?_⟩
        · clear b0 bu bl bt hA b v12 v13
          rintro j σ H2 hj ⟨v12, v13, b, rfl, b0, bu, bl, bt, hA⟩
          rw [show (1 : Int) + (j : Nat) = ((j + 1 : Nat) : Int) by omega]
          repeat walk_at "rd"
          refine ⟨t, T0, 2 * o + l + (i : Nat) - 2 * o - l, o, l, g, j + 1, rfl, hA, by omega, by omega, by omega, by omega, by omega, fun H3 b3 t3 => ?_⟩
          have hA3 := hA.but b3 t3
          repeat walk_at "rd"
          refine ⟨t, T0, e, later + 1, 2 * o + l + (i : Nat), o, l, g, left - (j + 1), by rw [show ((left - (j + 1) : Nat) : Int) = (left : Int) - ((j + 1 : Nat) : Int) by omega]; rfl, hA3, e0, e9, by omega, by omega, by omega, by omega, by omega, fun r H4 r0 up lo b4 t4 => ?_⟩
          have hA4 := hA3.but b4 t4
          have hbt := (bt.trans b3).trans b4
          rw [hG, hMM] at up lo
          have hE' : eN o e (later + 1) = eN o e later - (o + 1) := by unfold eN; rw [w3]; omega
          have hx' : xN o g e (later + 1) (2 * o + l + (i : Nat)) = if 2 * o + l + (i : Nat) - M + 1 < eN o e later - (o + 1) then 2 * o + l + (i : Nat) - M + 1 else eN o e later - (o + 1) := by unfold xN; rw [hMM, hE']
          rw [hE'] at up lo
          have hbv : bestV o l g (j + 1) (2 * o + l + (i : Nat) - 2 * o - l) = ((i : Nat) : Int) + 1 + Ws o l g j (i : Nat) := by
            rw [show 2 * o + l + ((i : Nat) : Int) - 2 * o - l = ((i : Nat) : Int) by omega]; rfl
          repeat walk_at "rd"
          rw [hbv]
          have u1 : ∀ y, X0 ≤ y → eN o e later ≤ y ∨ G = M → ((i : Nat) : Int) + 1 + Ws o l g j (i : Nat) - o - 1 + r ≤ Ws o l g left y := fun y hy1 hy2 => by
            have a1 := up (y - G) (by rw [hx']; split <;> omega) (by omega)
            have a2 := Ws_up N (h := j + 1) (left := left) (by omega) (by omega) (s := ((i : Nat) : Int)) (y := y) (by omega)
            rw [hG, Nat.add_sub_cancel] at a2
            omega
          have l1 : (X0 = eN o e later ∨ G = M) → X0 - 1 = 2 * o + l + i → (X0 - slL o l) - o + Ws o l g j (X0 - slL o l) + Ws o l g (left - (j + 1)) (X0 - G) ≤ ((i : Nat) : Int) + 1 + Ws o l g j (i : Nat) - o - 1 + r := fun ht hX1 => by
            have ex : xN o g e (later + 1) (2 * o + l + (i : Nat)) = X0 - G := by rw [hx']; split <;> omega
            have a1 := lo (by rw [ex]; omega)
            rw [ex] at a1
            rw [show X0 - slL o l = ((i : Nat) : Int) by omega]
            omega
          generalize ((i : Nat) : Int) + 1 + Ws o l g j (i : Nat) - o - 1 + r = z at u1 l1
          refine ⟨_, _, if z > b then z else b, rfl, by split <;> omega, fun y h1 h2 => ?_, fun ht hX1 h h1 h2 h3 => ?_, hbt, hA4⟩
          · have := u1 y h1 h2
            have := bu y h1 h2
            split <;> omega
          · by_cases c : h ≤ j
            · have := bl ht hX1 h h1 h2 c
              split <;> omega
            · obtain rfl : h = j + 1 := by omega
              have := l1 ht hX1
              rw [Nat.add_sub_cancel]
              split <;> omega
        · clear b0 bu bl bt hA b v12 v13
          rintro σ H2 ⟨v12, v13, b, rfl, b0, bu, bl, bt, hA⟩
          exact ⟨_, _, _, b, rfl, b0, bu, fun ht h1 h2 h h3 h4 => bl ht (by omega) h h3 h4 h4, bt, hA⟩
      · clear et hA
        rintro σ H1 ⟨v11, v12, v13, b, rfl, b0, bu, bl, bt, hA⟩
        repeat walk_at "rd"
        refine k b H1 b0 bu (fun ht => ?_) bt hA.tab
        by_cases c : slL o l < X0 - o
        · rcases Nat.eq_zero_or_pos left with z | z
          · subst z
            unfold Ws
            rw [Sm_zero]
            exact b0
          · obtain ⟨h, h1, h2, h3⟩ := Ws_down N z c
            have := bl ht (by omega) (by omega) h h1 h2
            rw [hG] at h3
            omega
        · rw [Ws_lo N (by omega)]
          exact b0
theorem best_none (T : Txt K mg a) : FnOk P w K mg base CX0 2 a.a__law_best a.d__law_best ["_law_numbers", "_law_end", "_law_hands", "_law_table"] (spBest80 0) := by
  refine T.F__law_best.ok sc__law_best (fun vs H Q E h => ?_) (fun cdv A outer s H vs Q E hr h => ?_)
  · obtain ⟨t, T0, e, o, l, g, h, rfl, _⟩ := h
    rfl
  · obtain ⟨t, T0, e, o, l, g, hn, rfl, hA, e0, e9, h1, hh, hn4, k⟩ := h
    omega
theorem let_none (T : Txt K mg a) : FnOk P w K mg base CX0 1 a.a__law_letters a.d__law_letters ["_law_numbers", "_law_end", "_law_left", "_law_later", "_law_before", "_law_table"] (spLet80 0) := by
  refine T.F__law_letters.ok sc__law_letters (fun vs H Q E h => ?_) (fun cdv A outer s H vs Q E hr h => ?_)
  · obtain ⟨t, T0, e, later, before, o, l, g, left, rfl, _⟩ := h
    rfl
  · obtain ⟨t, T0, e, later, before, o, l, g, left, rfl, hA, e0, e9, la0, hln, hn4, hbf, hlat, k⟩ := h
    omega
theorem both_80 (T : Txt K mg a) : ∀ n : Nat, FnOk P w K mg base CX0 (2 * n + 2) a.a__law_best a.d__law_best ["_law_numbers", "_law_end", "_law_hands", "_law_table"] (spBest80 n) ∧
    FnOk P w K mg base CX0 (2 * n + 1) a.a__law_letters a.d__law_letters ["_law_numbers", "_law_end", "_law_left", "_law_later", "_law_before", "_law_table"] (spLet80 n)
  | 0 => ⟨best_none T, let_none T⟩
  | n + 1 => by
    obtain ⟨hB, hL⟩ := both_80 T n
    have h := letters_step T hB hL
    exact ⟨best_step T h, h⟩
theorem ok__law_best (T : Txt K mg a) : FnOk P w K mg base CX0 10 a.a__law_best a.d__law_best ["_law_numbers", "_law_end", "_law_hands", "_law_table"] (spBest80 4) := (both_80 T 4).1
theorem ok__law_is (T : Txt K mg a) : FnOk P w K mg base CX0 1 a.a__law_is a.d__law_is ["_law_thing", "_law_due"] spIs := by
  refine T.F__law_is.ok sc__law_is (fun vs H Q E h => ?_) (fun cdv A outer s H vs Q E hr h => ?_)
  · obtain ⟨i, j, rfl, _⟩ := h
    rfl
  · obtain ⟨i, j, rfl, k⟩ := h
    refine ⟨_, (pss_one (ps_ret (pe_and (pe_callB call_isi (by rfl) T.n_isinstance (by decide +kernel) (pa_cons (pv 0) (pa_cons (pe_bltn (v := .ty "int") (u := .type "int") (by rfl) T.n_int (by decide +kernel) rfl) pa_nil))) (pe_and (pe_not (pe_callB call_isi (by rfl) T.n_isinstance (by decide +kernel) (pa_cons (pv 0) (pa_cons (pe_bltn (v := .ty "bool") (u := .type "bool") (by rfl) T.n_bool (by decide +kernel) rfl) pa_nil)))) (pe_one (pe_cmpR op_eq (pv 0) (pv 1) (nomark _))))))), ?_⟩
    repeat walk_at "rd"
    exact k
set_option maxHeartbeats 4000000 in
theorem ok_law (T : Txt K mg a) : FnOk P w K mg base CX0 12 a.a_law a.d_law ["_law_script"] (spLaw K) := by
  refine T.F_law.ok sc_law (fun vs H Q E h => ?_) (fun cdv A0 outer s H vs Q E hr h => ?_)
  · obtain ⟨b, ns, rfl, _⟩ := h
    rfl
  · obtain ⟨b, ns, rfl, hS, hl, k⟩ := h
    refine ⟨_, (pss_cons (ps_set (i := 1) sc_law.nd rfl (Or.inl rfl) (pe_call (ok__law_source T) (hr.mono (by decide)) (by rfl) T.g__law_source T.F__law_source.kp T.b__law_source .nil pass0 (pa_cons (pv 0) pa_nil)))
 (pss_cons (ps_for (by exact PassesOwn.never) rfl (pi_range1 (by rfl) T.n_range (pa_cons pe_int pa_nil)) (pg_name (i := 2) sc_law.nd rfl (Or.inl rfl))
 (pss_cons (ps_set (i := 3) sc_law.nd rfl (Or.inl rfl) (pe_call (ok__law_small T) (hr.mono (by decide)) (by rfl) T.g__law_small T.F__law_small.kp T.b__law_small .nil pass0 (pa_cons (pv 1) pa_nil)))
 (pss_cons (ps_set (i := 4) sc_law.nd rfl (Or.inl rfl) (pe_call (ok__law_draw T) (hr.mono (by decide)) (by rfl) T.g__law_draw T.F__law_draw.kp T.b__law_draw .nil pass0 (pa_cons (pv 1) (pa_cons pe_int pa_nil))))
 (pss_cons (ps_set (i := 5) sc_law.nd rfl (Or.inl rfl) (pe_make T.mk_Machine (ok_Machine_init T) (hr.mono (by decide)) (by rfl) T.g_Machine T.b_Machine_init .nil pass0 (pa_cons (pe_ix ix_tup (pv 3) pe_int (fun _ _ => rfl)) (pa_cons (pe_ix ix_tup (pv 3) pe_int (fun _ _ => rfl)) (pa_cons (pe_ix ix_tup (pv 3) pe_int (fun _ _ => rfl)) pa_nil)))))
 (pss_cons (ps_set (i := 6) sc_law.nd rfl (Or.inl rfl) pe_dnewT)
 (pss_one (ps_for (by exact PassesOwn.never) rfl (pi_range2 (by rfl) T.n_range (pa_cons pe_int (pa_cons pe_int pa_nil))) (pg_name (i := 7) sc_law.nd rfl (Or.inl rfl))
 (pss_one (ps_if (pt_not (pt_val (pe_call (ok__law_is T) (hr.mono (by decide)) (by rfl) T.g__law_is T.F__law_is.kp T.b__law_is .nil pass0 (pa_cons (pe_call (ok_most_summed T) (hr.mono (by decide)) (by rfl) T.g_most_summed T.F_most_summed.kp T.b_most_summed .nil pass0 (pa_cons (pv 5) (pa_cons (pv 7) (pa_cons (pv 4) pa_nil)))) (pa_cons (pe_call (ok__law_best T) (hr.mono (by decide)) (by rfl) T.g__law_best T.F__law_best.kp T.b__law_best .nil pass0 (pa_cons (pv 3) (pa_cons (pv 4) (pa_cons (pv 7) (pa_cons (pv 6) pa_nil))))) pa_nil))))) (pss_one (ps_ret pe_bl))
 pss_nil)))))))))
 (pss_one (ps_ret pe_bl)))), ?_⟩
    repeat walk_at "rd"
    refine ⟨b, ns, rfl, hS, hl, fun p q H0 hs0 np nq s0 => ?_⟩
    repeat walk_at "rd"
    refine ⟨by decide, by decide, for_range (lo := 0) (n := 2) (fun i σ H' => ∃ (v2 v3 v4 v5 v6 v7 : Option V), σ = [some (.ref b), some (.ref p), v2, v3, v4, v5, v6, v7] ∧ SrcAt H' p q) ⟨_, _, _, _, _, _, rfl, hs0⟩ ?_ ?_⟩
    · clear hs0
      rintro i σ H1 hi ⟨v2, v3, v4, v5, v6, v7, rfl, hs⟩
      repeat walk_at "rd"
      refine ⟨p, q, rfl, hs, fun t o l g H2 N et nt hs2 b2 => ?_⟩
      have ntp := hs.ne nt
      repeat walk_at "rd"
      refine ⟨p, q, 10, rfl, hs2, by decide, by decide, fun tm H3 t0 t10 hs3 b3 => ?_⟩
      have et := b3 _ _ et ntp
      repeat walk_at "rd"
      refine r_Machine N.num.no N.num.nl N.num.ng N.num.np (fun m H4 nm hm s4 => ?_)
      have hs4 := hs3.keep s4
      have et := s4 _ _ et
      repeat walk_at "rd"
      refine r_dnew80 (fun T0 H5 nT s5 eT => ?_)
      have hs5 := hs4.keep s5
      have hTp := hs4.ne nT
      have hTq := hs4.neq nT
      have htT : t ≠ T0 := ne_of_none et nT
      have hmT : m ≠ T0 := by obtain ⟨dx, em⟩ := hm; exact ne_of_none em nT
      have et := s5 _ _ et
      have hm := hm.keep s5
      have hA : Ask80 H5 t T0 o l g := ⟨N, et, htT, ⟨[], eT, List.nodup_nil, (fun k hk => (by cases hk)), (fun k hk => (by cases hk))⟩⟩
      clear b2 b3 s4 s5 hs hs2 hs3 hs4 nm nt et
      repeat walk_at "rd"
      refine ⟨by decide, for_range (lo := 1) (n := 4) (fun j σ H' => ∃ (v7 : Option V), σ = [some (.ref b), some (.ref p), some (.int (0 + (i : Nat))), some (.ref t), some (.int tm), some (.ref m), some (.ref T0), v7] ∧ SrcAt H' p q ∧ MachAt a.c_Machine H' m o l g ∧ Ask80 H' t T0 o l g) ⟨_, rfl, hs5, hm, hA⟩ ?_ ?_⟩
      · clear hs5 hm hA eT nT
        rintro j σ H6 hj ⟨v7, rfl, hs, hm, hA⟩
        rw [show (1 : Int) + (j : Nat) = ((j + 1 : Nat) : Int) by omega]
        repeat first | walk_at "rd" | walk_at "rdi"
        refine ⟨m, j + 1, tm, o, l, g, rfl, hm, N.num, by omega, by omega, t0, by omega, fun cs ks H7 hR s7 => ?_⟩
        have hA := hA.keep s7
        have hm := hm.keep s7
        have hs := hs.keep s7
        have ev : GS o ks tm = bestV o l g (j + 1) tm := hR.sum N.eL.2 N.eG.2 N.eL.1 N.eG.1
        repeat walk_at "rd"
        refine ⟨t, T0, tm, o, l, g, j + 1, rfl, hA, t0, by omega, by omega, by omega, by decide, fun H8 b8 t8 => ?_⟩
        have hA := hA.but b8 t8
        have hm := hm.but b8 hmT
        have hs : SrcAt H8 p q := by
          obtain ⟨cs, i, big, cnt, st, h1, h2, h3⟩ := hs
          exact ⟨cs, i, big, cnt, st, b8 _ _ h1 (Ne.symm hTp), b8 _ _ h2 (Ne.symm hTq), h3⟩
        repeat walk_at "rd"
        refine ⟨_, _, rfl, ?_⟩
        rw [decide_eq_true ev]
        repeat first | exact ⟨_, rfl, hs, hm, hA⟩ | walk_at "rd"
      · rintro σ H6 ⟨v7, rfl, hs, hm, hA⟩
        repeat first | exact ⟨_, _, _, _, _, _, rfl, hs⟩ | walk_at "rd"
    · rintro σ H1 ⟨v2, v3, v4, v5, v6, v7, rfl, hs⟩
      repeat walk_at "rd"
      exact k _
end

theorem all_mk {P : Program} {w : World} {K : PySem.W.Frag} {h : Heap} {mg : Str → Option Value} {fa : Addr} (X : K.In h) (G : h.Ns mainGlobals mg) (hfa : mg "law" = some (.ref fa))
    {c_Machine : Addr} {oc_is_integer : Value} {od_is_integer : Option Addr} {an_is_integer : Option Addr} {sl_is_integer : Array (Option Value)} {kV_is_integer : Value} {dc_is_integer : Value} {pm_is_integer : Value} {cd_is_integer : Value} {ct_is_integer : Value} {f_is_integer : Addr} {oc_is_between : Value} {od_is_between : Option Addr} {an_is_between : Option Addr} {sl_is_between : Array (Option Value)} {kV_is_between : Value} {dc_is_between : Value} {pm_is_between : Value} {cd_is_between : Value} {ct_is_between : Value} {f_is_between : Addr} {oc_check_count : Value} {od_check_count : Option Addr} {an_check_count : Option Addr} {sl_check_count : Array (Option Value)} {kV_check_count : Value} {dc_check_count : Value} {pm_check_count : Value} {cd_check_count : Value} {ct_check_count : Value} {f_check_count : Addr} {oc_check_time : Value} {od_check_time : Option Addr} {an_check_time : Option Addr} {sl_check_time : Array (Option Value)} {kV_check_time : Value} {dc_check_time : Value} {pm_check_time : Value} {cd_check_time : Value} {ct_check_time : Value} {f_check_time : Addr} {oc_Machine_init : Value} {od_Machine_init : Option Addr} {an_Machine_init : Option Addr} {sl_Machine_init : Array (Option Value)} {kV_Machine_init : Value} {dc_Machine_init : Value} {pm_Machine_init : Value} {cd_Machine_init : Value} {ct_Machine_init : Value} {f_Machine_init : Addr} {oc_slow_tree : Value} {od_slow_tree : Option Addr} {an_slow_tree : Option Addr} {sl_slow_tree : Array (Option Value)} {kV_slow_tree : Value} {dc_slow_tree : Value} {pm_slow_tree : Value} {cd_slow_tree : Value} {ct_slow_tree : Value} {f_slow_tree : Addr} {oc_greatest_sum : Value} {od_greatest_sum : Option Addr} {an_greatest_sum : Option Addr} {sl_greatest_sum : Array (Option Value)} {kV_greatest_sum : Value} {dc_greatest_sum : Value} {pm_greatest_sum : Value} {cd_greatest_sum : Value} {ct_greatest_sum : Value} {f_greatest_sum : Addr} {oc_most_summed : Value} {od_most_summed : Option Addr} {an_most_summed : Option Addr} {sl_most_summed : Array (Option Value)} {kV_most_summed : Value} {dc_most_summed : Value} {pm_most_summed : Value} {cd_most_summed : Value} {ct_most_summed : Value} {f_most_summed : Addr} {oc__law_source : Value} {od__law_source : Option Addr} {an__law_source : Option Addr} {sl__law_source : Array (Option Value)} {kV__law_source : Value} {dc__law_source : Value} {pm__law_source : Value} {cd__law_source : Value} {ct__law_source : Value} {f__law_source : Addr} {oc__law_draw : Value} {od__law_draw : Option Addr} {an__law_draw : Option Addr} {sl__law_draw : Array (Option Value)} {kV__law_draw : Value} {dc__law_draw : Value} {pm__law_draw : Value} {cd__law_draw : Value} {ct__law_draw : Value} {f__law_draw : Addr} {oc__law_small : Value} {od__law_small : Option Addr} {an__law_small : Option Addr} {sl__law_small : Array (Option Value)} {kV__law_small : Value} {dc__law_small : Value} {pm__law_small : Value} {cd__law_small : Value} {ct__law_small : Value} {f__law_small : Addr} {oc__law_is : Value} {od__law_is : Option Addr} {an__law_is : Option Addr} {sl__law_is : Array (Option Value)} {kV__law_is : Value} {dc__law_is : Value} {pm__law_is : Value} {cd__law_is : Value} {ct__law_is : Value} {f__law_is : Addr} {oc__law_best : Value} {od__law_best : Option Addr} {an__law_best : Option Addr} {sl__law_best : Array (Option Value)} {kV__law_best : Value} {dc__law_best : Value} {pm__law_best : Value} {cd__law_best : Value} {ct__law_best : Value} {f__law_best : Addr} {oc__law_letters : Value} {od__law_letters : Option Addr} {an__law_letters : Option Addr} {sl__law_letters : Array (Option Value)} {kV__law_letters : Value} {dc__law_letters : Value} {pm__law_letters : Value} {cd__law_letters : Value} {ct__law_letters : Value} {f__law_letters : Addr} {oc_law : Value} {od_law : Option Addr} {an_law : Option Addr} {sl_law : Array (Option Value)} {kV_law : Value} {dc_law : Value} {pm_law : Value} {cd_law : Value} {ct_law : Value} {f_law : Addr} {t_MOST_SHARING : Tok} {t_GREATEST_PART : Tok} {t_LATEST_SUM : Tok}
    (H_g_Machine : PySem.W.nsIn K mainGlobals "Machine" = some (some (.ref c_Machine)))
    (H_a_is_integer : PySem.W.nsIn K mainGlobals "is_integer" = some (some (.ref f_is_integer)))
    (H_l_is_integer : K.lookup f_is_integer = some ⟨oc_is_integer, od_is_integer, .func (PySem.W.fnOf "is_integer" "is_integer" (defArgs s_is_integer) (defBody s_is_integer) (defScope s_is_integer) .none kV_is_integer dc_is_integer pm_is_integer an_is_integer cd_is_integer ct_is_integer), sl_is_integer⟩)
    (H_c_is_integer : PySem.W.codeIn K cd_is_integer "is_integer" = true)
    (H_k_is_integer : PySem.W.keepIn K (.ref f_is_integer) = true)
    (H_a_is_between : PySem.W.nsIn K mainGlobals "is_between" = some (some (.ref f_is_between)))
    (H_l_is_between : K.lookup f_is_between = some ⟨oc_is_between, od_is_between, .func (PySem.W.fnOf "is_between" "is_between" (defArgs s_is_between) (defBody s_is_between) (defScope s_is_between) .none kV_is_between dc_is_between pm_is_between an_is_between cd_is_between ct_is_between), sl_is_between⟩)
    (H_c_is_between : PySem.W.codeIn K cd_is_between "is_between" = true)
    (H_k_is_between : PySem.W.keepIn K (.ref f_is_between) = true)
    (H_a_check_count : PySem.W.nsIn K mainGlobals "check_count" = some (some (.ref f_check_count)))
    (H_l_check_count : K.lookup f_check_count = some ⟨oc_check_count, od_check_count, .func (PySem.W.fnOf "check_count" "check_count" (defArgs s_check_count) (defBody s_check_count) (defScope s_check_count) .none kV_check_count dc_check_count pm_check_count an_check_count cd_check_count ct_check_count), sl_check_count⟩)
    (H_c_check_count : PySem.W.codeIn K cd_check_count "check_count" = true)
    (H_k_check_count : PySem.W.keepIn K (.ref f_check_count) = true)
    (H_a_check_time : PySem.W.nsIn K mainGlobals "check_time" = some (some (.ref f_check_time)))
    (H_l_check_time : K.lookup f_check_time = some ⟨oc_check_time, od_check_time, .func (PySem.W.fnOf "check_time" "check_time" (defArgs s_check_time) (defBody s_check_time) (defScope s_check_time) .none kV_check_time dc_check_time pm_check_time an_check_time cd_check_time ct_check_time), sl_check_time⟩)
    (H_c_check_time : PySem.W.codeIn K cd_check_time "check_time" = true)
    (H_k_check_time : PySem.W.keepIn K (.ref f_check_time) = true)
    (H_a_Machine_init : PySem.W.findIn K (.ref c_Machine) "__init__" = some (some (.ref f_Machine_init)))
    (H_i_Machine_init : PySem.W.isFn K (.ref f_Machine_init) = true)
    (H_l_Machine_init : K.lookup f_Machine_init = some ⟨oc_Machine_init, od_Machine_init, .func (PySem.W.fnOf "__init__" "Machine.__init__" (defArgs s_Machine_init) (defBody s_Machine_init) (defScope s_Machine_init) .none kV_Machine_init dc_Machine_init pm_Machine_init an_Machine_init cd_Machine_init ct_Machine_init), sl_Machine_init⟩)
    (H_c_Machine_init : PySem.W.codeIn K cd_Machine_init "Machine.__init__" = true)
    (H_k_Machine_init : PySem.W.keepIn K (.ref f_Machine_init) = true)
    (H_a_slow_tree : PySem.W.nsIn K mainGlobals "slow_tree" = some (some (.ref f_slow_tree)))
    (H_l_slow_tree : K.lookup f_slow_tree = some ⟨oc_slow_tree, od_slow_tree, .func (PySem.W.fnOf "slow_tree" "slow_tree" (defArgs s_slow_tree) (defBody s_slow_tree) (defScope s_slow_tree) .none kV_slow_tree dc_slow_tree pm_slow_tree an_slow_tree cd_slow_tree ct_slow_tree), sl_slow_tree⟩)
    (H_c_slow_tree : PySem.W.codeIn K cd_slow_tree "slow_tree" = true)
    (H_k_slow_tree : PySem.W.keepIn K (.ref f_slow_tree) = true)
    (H_a_greatest_sum : PySem.W.nsIn K mainGlobals "greatest_sum" = some (some (.ref f_greatest_sum)))
    (H_l_greatest_sum : K.lookup f_greatest_sum = some ⟨oc_greatest_sum, od_greatest_sum, .func (PySem.W.fnOf "greatest_sum" "greatest_sum" (defArgs s_greatest_sum) (defBody s_greatest_sum) (defScope s_greatest_sum) .none kV_greatest_sum dc_greatest_sum pm_greatest_sum an_greatest_sum cd_greatest_sum ct_greatest_sum), sl_greatest_sum⟩)
    (H_c_greatest_sum : PySem.W.codeIn K cd_greatest_sum "greatest_sum" = true)
    (H_k_greatest_sum : PySem.W.keepIn K (.ref f_greatest_sum) = true)
    (H_a_most_summed : PySem.W.nsIn K mainGlobals "most_summed" = some (some (.ref f_most_summed)))
    (H_l_most_summed : K.lookup f_most_summed = some ⟨oc_most_summed, od_most_summed, .func (PySem.W.fnOf "most_summed" "most_summed" (defArgs s_most_summed) (defBody s_most_summed) (defScope s_most_summed) .none kV_most_summed dc_most_summed pm_most_summed an_most_summed cd_most_summed ct_most_summed), sl_most_summed⟩)
    (H_c_most_summed : PySem.W.codeIn K cd_most_summed "most_summed" = true)
    (H_k_most_summed : PySem.W.keepIn K (.ref f_most_summed) = true)
    (H_a__law_source : PySem.W.nsIn K mainGlobals "_law_source" = some (some (.ref f__law_source)))
    (H_l__law_source : K.lookup f__law_source = some ⟨oc__law_source, od__law_source, .func (PySem.W.fnOf "_law_source" "_law_source" (defArgs s__law_source) (defBody s__law_source) (defScope s__law_source) .none kV__law_source dc__law_source pm__law_source an__law_source cd__law_source ct__law_source), sl__law_source⟩)
    (H_c__law_source : PySem.W.codeIn K cd__law_source "_law_source" = true)
    (H_k__law_source : PySem.W.keepIn K (.ref f__law_source) = true)
    (H_a__law_draw : PySem.W.nsIn K mainGlobals "_law_draw" = some (some (.ref f__law_draw)))
    (H_l__law_draw : K.lookup f__law_draw = some ⟨oc__law_draw, od__law_draw, .func (PySem.W.fnOf "_law_draw" "_law_draw" (defArgs s__law_draw) (defBody s__law_draw) (defScope s__law_draw) .none kV__law_draw dc__law_draw pm__law_draw an__law_draw cd__law_draw ct__law_draw), sl__law_draw⟩)
    (H_c__law_draw : PySem.W.codeIn K cd__law_draw "_law_draw" = true)
    (H_k__law_draw : PySem.W.keepIn K (.ref f__law_draw) = true)
    (H_a__law_small : PySem.W.nsIn K mainGlobals "_law_small" = some (some (.ref f__law_small)))
    (H_l__law_small : K.lookup f__law_small = some ⟨oc__law_small, od__law_small, .func (PySem.W.fnOf "_law_small" "_law_small" (defArgs s__law_small) (defBody s__law_small) (defScope s__law_small) .none kV__law_small dc__law_small pm__law_small an__law_small cd__law_small ct__law_small), sl__law_small⟩)
    (H_c__law_small : PySem.W.codeIn K cd__law_small "_law_small" = true)
    (H_k__law_small : PySem.W.keepIn K (.ref f__law_small) = true)
    (H_a__law_is : PySem.W.nsIn K mainGlobals "_law_is" = some (some (.ref f__law_is)))
    (H_l__law_is : K.lookup f__law_is = some ⟨oc__law_is, od__law_is, .func (PySem.W.fnOf "_law_is" "_law_is" (defArgs s__law_is) (defBody s__law_is) (defScope s__law_is) .none kV__law_is dc__law_is pm__law_is an__law_is cd__law_is ct__law_is), sl__law_is⟩)
    (H_c__law_is : PySem.W.codeIn K cd__law_is "_law_is" = true)
    (H_k__law_is : PySem.W.keepIn K (.ref f__law_is) = true)
    (H_a__law_best : PySem.W.nsIn K mainGlobals "_law_best" = some (some (.ref f__law_best)))
    (H_l__law_best : K.lookup f__law_best = some ⟨oc__law_best, od__law_best, .func (PySem.W.fnOf "_law_best" "_law_best" (defArgs s__law_best) (defBody s__law_best) (defScope s__law_best) .none kV__law_best dc__law_best pm__law_best an__law_best cd__law_best ct__law_best), sl__law_best⟩)
    (H_c__law_best : PySem.W.codeIn K cd__law_best "_law_best" = true)
    (H_k__law_best : PySem.W.keepIn K (.ref f__law_best) = true)
    (H_a__law_letters : PySem.W.nsIn K mainGlobals "_law_letters" = some (some (.ref f__law_letters)))
    (H_l__law_letters : K.lookup f__law_letters = some ⟨oc__law_letters, od__law_letters, .func (PySem.W.fnOf "_law_letters" "_law_letters" (defArgs s__law_letters) (defBody s__law_letters) (defScope s__law_letters) .none kV__law_letters dc__law_letters pm__law_letters an__law_letters cd__law_letters ct__law_letters), sl__law_letters⟩)
    (H_c__law_letters : PySem.W.codeIn K cd__law_letters "_law_letters" = true)
    (H_k__law_letters : PySem.W.keepIn K (.ref f__law_letters) = true)
    (H_a_law : PySem.W.nsIn K mainGlobals "law" = some (some (.ref f_law)))
    (H_l_law : K.lookup f_law = some ⟨oc_law, od_law, .func (PySem.W.fnOf "law" "law" (defArgs s_law) (defBody s_law) (defScope s_law) .none kV_law dc_law pm_law an_law cd_law ct_law), sl_law⟩)
    (H_c_law : PySem.W.codeIn K cd_law "law" = true)
    (H_k_law : PySem.W.keepIn K (.ref f_law) = true)
    (H_pg_Machine : PySem.W.plainGet K c_Machine Str.empty = true)
    (H_hd_Machine : PySem.W.hasDictIn K c_Machine = true)
    (H_po_Machine : PySem.W.plainOver K c_Machine = true)
    (H_sa_Machine : PySem.W.findIn K (.ref c_Machine) "__setattr__" = some (some (.builtin "object.__setattr__")))
    (H_mk_Machine : PySem.W.makesIn K c_Machine = true)
    (H_kc_Machine : PySem.W.keepIn K (.ref c_Machine) = true)
    (H_nF_Machine_o : PySem.W.findIn K (.ref c_Machine) "o" = some none)
    (H_nF_Machine_l : PySem.W.findIn K (.ref c_Machine) "l" = some none)
    (H_nF_Machine_g : PySem.W.findIn K (.ref c_Machine) "g" = some none)
    (H_nF_Machine_letter : PySem.W.findIn K (.ref c_Machine) "letter" = some none)
    (H_nF_Machine_gap : PySem.W.findIn K (.ref c_Machine) "gap" = some none)
    (H_n_bool : PySem.W.nsIn K mainGlobals "bool" = some none)
    (H_n_int : PySem.W.nsIn K mainGlobals "int" = some none)
    (H_n_isinstance : PySem.W.nsIn K mainGlobals "isinstance" = some none)
    (H_n_len : PySem.W.nsIn K mainGlobals "len" = some none)
    (H_n_max : PySem.W.nsIn K mainGlobals "max" = some none)
    (H_n_min : PySem.W.nsIn K mainGlobals "min" = some none)
    (H_n_range : PySem.W.nsIn K mainGlobals "range" = some none)
    (H_n_sum : PySem.W.nsIn K mainGlobals "sum" = some none)
    (H_x_MOST_SHARING : PySem.W.nsIn K mainGlobals "MOST_SHARING" = some (some (.int 40 t_MOST_SHARING)))
    (H_x_GREATEST_PART : PySem.W.nsIn K mainGlobals "GREATEST_PART" = some (some (.int 1000000000 t_GREATEST_PART)))
    (H_x_LATEST_SUM : PySem.W.nsIn K mainGlobals "LATEST_SUM" = some (some (.int 1000000000000 t_LATEST_SUM)))
    (H_heappush : PySem.W.nsIn K mainGlobals "heappush" = some (some (.builtin "_heapq.heappush")))
    (H_heappop : PySem.W.nsIn K mainGlobals "heappop" = some (some (.builtin "_heapq.heappop")))
    : ∃ fd : FuncData, (∀ (s : Shared) (v : Value), BindsTo s fd ⟨[v], []⟩ [("_law_script", v)]) ∧ ∀ base : Heap, K.In base → base.Ns mainGlobals mg → FnOk P w K mg base CX0 12 fa fd ["_law_script"] (spLaw K) := by
  have e := hfa.symm.trans (PySem.W.mg_of X G H_a_law)
  cases e
  let a : Adr := { a_is_integer := f_is_integer, d_is_integer := PySem.W.fnOf "is_integer" "is_integer" (defArgs s_is_integer) (defBody s_is_integer) (defScope s_is_integer) .none kV_is_integer dc_is_integer pm_is_integer an_is_integer cd_is_integer ct_is_integer, a_is_between := f_is_between, d_is_between := PySem.W.fnOf "is_between" "is_between" (defArgs s_is_between) (defBody s_is_between) (defScope s_is_between) .none kV_is_between dc_is_between pm_is_between an_is_between cd_is_between ct_is_between, a_check_count := f_check_count, d_check_count := PySem.W.fnOf "check_count" "check_count" (defArgs s_check_count) (defBody s_check_count) (defScope s_check_count) .none kV_check_count dc_check_count pm_check_count an_check_count cd_check_count ct_check_count, a_check_time := f_check_time, d_check_time := PySem.W.fnOf "check_time" "check_time" (defArgs s_check_time) (defBody s_check_time) (defScope s_check_time) .none kV_check_time dc_check_time pm_check_time an_check_time cd_check_time ct_check_time, a_Machine_init := f_Machine_init, d_Machine_init := PySem.W.fnOf "__init__" "Machine.__init__" (defArgs s_Machine_init) (defBody s_Machine_init) (defScope s_Machine_init) .none kV_Machine_init dc_Machine_init pm_Machine_init an_Machine_init cd_Machine_init ct_Machine_init, a_slow_tree := f_slow_tree, d_slow_tree := PySem.W.fnOf "slow_tree" "slow_tree" (defArgs s_slow_tree) (defBody s_slow_tree) (defScope s_slow_tree) .none kV_slow_tree dc_slow_tree pm_slow_tree an_slow_tree cd_slow_tree ct_slow_tree, a_greatest_sum := f_greatest_sum, d_greatest_sum := PySem.W.fnOf "greatest_sum" "greatest_sum" (defArgs s_greatest_sum) (defBody s_greatest_sum) (defScope s_greatest_sum) .none kV_greatest_sum dc_greatest_sum pm_greatest_sum an_greatest_sum cd_greatest_sum ct_greatest_sum, a_most_summed := f_most_summed, d_most_summed := PySem.W.fnOf "most_summed" "most_summed" (defArgs s_most_summed) (defBody s_most_summed) (defScope s_most_summed) .none kV_most_summed dc_most_summed pm_most_summed an_most_summed cd_most_summed ct_most_summed, a__law_source := f__law_source, d__law_source := PySem.W.fnOf "_law_source" "_law_source" (defArgs s__law_source) (defBody s__law_source) (defScope s__law_source) .none kV__law_source dc__law_source pm__law_source an__law_source cd__law_source ct__law_source, a__law_draw := f__law_draw, d__law_draw := PySem.W.fnOf "_law_draw" "_law_draw" (defArgs s__law_draw) (defBody s__law_draw) (defScope s__law_draw) .none kV__law_draw dc__law_draw pm__law_draw an__law_draw cd__law_draw ct__law_draw, a__law_small := f__law_small, d__law_small := PySem.W.fnOf "_law_small" "_law_small" (defArgs s__law_small) (defBody s__law_small) (defScope s__law_small) .none kV__law_small dc__law_small pm__law_small an__law_small cd__law_small ct__law_small, a__law_is := f__law_is, d__law_is := PySem.W.fnOf "_law_is" "_law_is" (defArgs s__law_is) (defBody s__law_is) (defScope s__law_is) .none kV__law_is dc__law_is pm__law_is an__law_is cd__law_is ct__law_is, a__law_best := f__law_best, d__law_best := PySem.W.fnOf "_law_best" "_law_best" (defArgs s__law_best) (defBody s__law_best) (defScope s__law_best) .none kV__law_best dc__law_best pm__law_best an__law_best cd__law_best ct__law_best, a__law_letters := f__law_letters, d__law_letters := PySem.W.fnOf "_law_letters" "_law_letters" (defArgs s__law_letters) (defBody s__law_letters) (defScope s__law_letters) .none kV__law_letters dc__law_letters pm__law_letters an__law_letters cd__law_letters ct__law_letters, a_law := fa, d_law := PySem.W.fnOf "law" "law" (defArgs s_law) (defBody s_law) (defScope s_law) .none kV_law dc_law pm_law an_law cd_law ct_law, c_Machine := c_Machine }
  have F_is_integer := fun_mk (st := s_is_integer) H_l_is_integer H_c_is_integer H_k_is_integer
  have F_is_between := fun_mk (st := s_is_between) H_l_is_between H_c_is_between H_k_is_between
  have F_check_count := fun_mk (st := s_check_count) H_l_check_count H_c_check_count H_k_check_count
  have F_check_time := fun_mk (st := s_check_time) H_l_check_time H_c_check_time H_k_check_time
  have F_Machine_init := fun_mk (st := s_Machine_init) H_l_Machine_init H_c_Machine_init H_k_Machine_init
  have F_slow_tree := fun_mk (st := s_slow_tree) H_l_slow_tree H_c_slow_tree H_k_slow_tree
  have F_greatest_sum := fun_mk (st := s_greatest_sum) H_l_greatest_sum H_c_greatest_sum H_k_greatest_sum
  have F_most_summed := fun_mk (st := s_most_summed) H_l_most_summed H_c_most_summed H_k_most_summed
  have F__law_source := fun_mk (st := s__law_source) H_l__law_source H_c__law_source H_k__law_source
  have F__law_draw := fun_mk (st := s__law_draw) H_l__law_draw H_c__law_draw H_k__law_draw
  have F__law_small := fun_mk (st := s__law_small) H_l__law_small H_c__law_small H_k__law_small
  have F__law_is := fun_mk (st := s__law_is) H_l__law_is H_c__law_is H_k__law_is
  have F__law_best := fun_mk (st := s__law_best) H_l__law_best H_c__law_best H_k__law_best
  have F__law_letters := fun_mk (st := s__law_letters) H_l__law_letters H_c__law_letters H_k__law_letters
  have F_law := fun_mk (st := s_law) H_l_law H_c_law H_k_law
  have T : Txt K mg a := {
    F_is_integer := F_is_integer,
    b_is_integer := F_is_integer.binds (ps := ["thing"]) fun _ _ _ _ _ _ us hl => match us, hl with | [_], _ => rfl,
    g_is_integer := PySem.W.mg_of X G H_a_is_integer,
    F_is_between := F_is_between,
    b_is_between := F_is_between.binds (ps := ["thing", "low", "high"]) fun _ _ _ _ _ _ us hl => match us, hl with | [_, _, _], _ => rfl,
    g_is_between := PySem.W.mg_of X G H_a_is_between,
    F_check_count := F_check_count,
    b_check_count := F_check_count.binds (ps := ["count", "low", "high"]) fun _ _ _ _ _ _ us hl => match us, hl with | [_, _, _], _ => rfl,
    g_check_count := PySem.W.mg_of X G H_a_check_count,
    F_check_time := F_check_time,
    b_check_time := F_check_time.binds (ps := ["time", "latest"]) fun _ _ _ _ _ _ us hl => match us, hl with | [_, _], _ => rfl,
    g_check_time := PySem.W.mg_of X G H_a_check_time,
    F_Machine_init := F_Machine_init,
    b_Machine_init := F_Machine_init.binds (ps := ["self", "o", "l", "g"]) fun _ _ _ _ _ _ us hl => match us, hl with | [_, _, _, _], _ => rfl,
    mk_Machine := ⟨H_mk_Machine, H_a_Machine_init, H_i_Machine_init, H_kc_Machine⟩,
    F_slow_tree := F_slow_tree,
    b_slow_tree := F_slow_tree.binds (ps := ["machine", "n"]) fun _ _ _ _ _ _ us hl => match us, hl with | [_, _], _ => rfl,
    g_slow_tree := PySem.W.mg_of X G H_a_slow_tree,
    F_greatest_sum := F_greatest_sum,
    b_greatest_sum := F_greatest_sum.binds (ps := ["machine", "n", "time"]) fun _ _ _ _ _ _ us hl => match us, hl with | [_, _, _], _ => rfl,
    g_greatest_sum := PySem.W.mg_of X G H_a_greatest_sum,
    F_most_summed := F_most_summed,
    b_most_summed := F_most_summed.binds (ps := ["machine", "n", "time"]) fun _ _ _ _ _ _ us hl => match us, hl with | [_, _, _], _ => rfl,
    g_most_summed := PySem.W.mg_of X G H_a_most_summed,
    F__law_source := F__law_source,
    b__law_source := F__law_source.binds (ps := ["_law_script"]) fun _ _ _ _ _ _ us hl => match us, hl with | [_], _ => rfl,
    g__law_source := PySem.W.mg_of X G H_a__law_source,
    F__law_draw := F__law_draw,
    b__law_draw := F__law_draw.binds (ps := ["_law_source_here", "_law_limit"]) fun _ _ _ _ _ _ us hl => match us, hl with | [_, _], _ => rfl,
    g__law_draw := PySem.W.mg_of X G H_a__law_draw,
    F__law_small := F__law_small,
    b__law_small := F__law_small.binds (ps := ["_law_source_here"]) fun _ _ _ _ _ _ us hl => match us, hl with | [_], _ => rfl,
    g__law_small := PySem.W.mg_of X G H_a__law_small,
    F__law_is := F__law_is,
    b__law_is := F__law_is.binds (ps := ["_law_thing", "_law_due"]) fun _ _ _ _ _ _ us hl => match us, hl with | [_, _], _ => rfl,
    g__law_is := PySem.W.mg_of X G H_a__law_is,
    F__law_best := F__law_best,
    b__law_best := F__law_best.binds (ps := ["_law_numbers", "_law_end", "_law_hands", "_law_table"]) fun _ _ _ _ _ _ us hl => match us, hl with | [_, _, _, _], _ => rfl,
    g__law_best := PySem.W.mg_of X G H_a__law_best,
    F__law_letters := F__law_letters,
    b__law_letters := F__law_letters.binds (ps := ["_law_numbers", "_law_end", "_law_left", "_law_later", "_law_before", "_law_table"]) fun _ _ _ _ _ _ us hl => match us, hl with | [_, _, _, _, _, _], _ => rfl,
    g__law_letters := PySem.W.mg_of X G H_a__law_letters,
    F_law := F_law,
    b_law := F_law.binds (ps := ["_law_script"]) fun _ _ _ _ _ _ us hl => match us, hl with | [_], _ => rfl,
    g_law := PySem.W.mg_of X G H_a_law,
    g_Machine := PySem.W.mg_of X G H_g_Machine,
    cl_Machine := ⟨H_pg_Machine, H_hd_Machine, H_po_Machine, H_sa_Machine⟩,
    nF_Machine_o := H_nF_Machine_o,
    nF_Machine_l := H_nF_Machine_l,
    nF_Machine_g := H_nF_Machine_g,
    nF_Machine_letter := H_nF_Machine_letter,
    nF_Machine_gap := H_nF_Machine_gap,
    n_bool := PySem.W.mg_none_of X G H_n_bool,
    n_int := PySem.W.mg_none_of X G H_n_int,
    n_isinstance := PySem.W.mg_none_of X G H_n_isinstance,
    n_len := PySem.W.mg_none_of X G H_n_len,
    n_max := PySem.W.mg_none_of X G H_n_max,
    n_min := PySem.W.mg_none_of X G H_n_min,
    n_range := PySem.W.mg_none_of X G H_n_range,
    n_sum := PySem.W.mg_none_of X G H_n_sum,
    g_MOST_SHARING := ⟨_, PySem.W.mg_of X G H_x_MOST_SHARING⟩,
    g_GREATEST_PART := ⟨_, PySem.W.mg_of X G H_x_GREATEST_PART⟩,
    g_LATEST_SUM := ⟨_, PySem.W.mg_of X G H_x_LATEST_SUM⟩,
    g_heappush := PySem.W.mg_of X G H_heappush,
    g_heappop := PySem.W.mg_of X G H_heappop }
  exact ⟨a.d_law, fun s v => .of_eq rfl, fun base _ _ => ok_law T⟩
theorem walk {l : PySem.W.OpenLaw} {q : Program} {loose : List Str} {XP : (Str → Option Value) → Heap → Prop} {YP : World → Heap → Prop} {d : DefRec} {K : Params → PySem.W.Frag} (hn : l.most = some 63) (hdf : d.params.defaults = [])
    (hY : ∀ (w : World) (h : Heap), YP w h → (K w.params).In h)
    (F : ∀ (w : World) (mg : Str → Option Value) (fa : Addr) (h : Heap), (K w.params).In h → h.Ns mainGlobals mg → mg d.name = some (.ref fa) →
      ∃ fd : FuncData, (∀ (s : Shared) (u : Value), BindsTo s fd ⟨[u], []⟩ [("_law_script", u)]) ∧ ∀ base : Heap, (K w.params).In base → base.Ns mainGlobals mg → FnOk l.prog w (K w.params) mg base CX0 12 fa fd ["_law_script"] (spLaw (K w.params))) :
    PySem.W.WalkO q loose XP YP l.row.toRowW d [] (fun f vs => PySem.call f vs) :=
  L2.walk_of (n := 63) (k := 12) (x := "_law_script") (CX := fun _ => CX0) (sp := fun w => spLaw (K w.params)) hn (by decide) hdf ⟨rfl, by decide, by decide⟩ hY F (fun _ _ a ns hl _ hS => ⟨a, ns, rfl, hS, hl, fun _ => rfl⟩) fun _ _ _ _ _ z => z
end My
open PySem PySem.W PyProof.Rows
set_option maxRecDepth 100000 in
set_option maxHeartbeats 0 in
theorem PySem.Challenge.cw_tellontree_k80_whole_sums_by_all_schedul_holds : PySem.Challenge.rw_tellontree_k80_whole_sums_by_all_schedul.Holds := by
  w_on; o_law; k_head; (case hw => w_witness2)
  k_fill
  refine My.walk (l := PySem.Challenge.rw_tellontree_k80_whole_sums_by_all_schedul) rfl rfl (fun w h Y => PySem.W.kIn_of Y) ?F
  case F =>
    intro w mg fa h KX G hmg
    refine' My.all_mk KX G hmg ?H_g_Machine ?H_a_is_integer ?H_l_is_integer ?H_c_is_integer ?H_k_is_integer ?H_a_is_between ?H_l_is_between ?H_c_is_between ?H_k_is_between ?H_a_check_count ?H_l_check_count ?H_c_check_count ?H_k_check_count ?H_a_check_time ?H_l_check_time ?H_c_check_time ?H_k_check_time ?H_a_Machine_init ?H_i_Machine_init ?H_l_Machine_init ?H_c_Machine_init ?H_k_Machine_init ?H_a_slow_tree ?H_l_slow_tree ?H_c_slow_tree ?H_k_slow_tree ?H_a_greatest_sum ?H_l_greatest_sum ?H_c_greatest_sum ?H_k_greatest_sum ?H_a_most_summed ?H_l_most_summed ?H_c_most_summed ?H_k_most_summed ?H_a__law_source ?H_l__law_source ?H_c__law_source ?H_k__law_source ?H_a__law_draw ?H_l__law_draw ?H_c__law_draw ?H_k__law_draw ?H_a__law_small ?H_l__law_small ?H_c__law_small ?H_k__law_small ?H_a__law_is ?H_l__law_is ?H_c__law_is ?H_k__law_is ?H_a__law_best ?H_l__law_best ?H_c__law_best ?H_k__law_best ?H_a__law_letters ?H_l__law_letters ?H_c__law_letters ?H_k__law_letters ?H_a_law ?H_l_law ?H_c_law ?H_k_law ?H_pg_Machine ?H_hd_Machine ?H_po_Machine ?H_sa_Machine ?H_mk_Machine ?H_kc_Machine ?H_nF_Machine_o ?H_nF_Machine_l ?H_nF_Machine_g ?H_nF_Machine_letter ?H_nF_Machine_gap ?H_n_bool ?H_n_int ?H_n_isinstance ?H_n_len ?H_n_max ?H_n_min ?H_n_range ?H_n_sum ?H_x_MOST_SHARING ?H_x_GREATEST_PART ?H_x_LATEST_SUM ?H_heappush ?H_heappop
    (case H_g_Machine => k_is)
    (case H_a_is_integer => k_is)
    (case H_l_is_integer => k_is)
    (case H_c_is_integer => k_is)
    (case H_k_is_integer => k_is)
    (case H_a_is_between => k_is)
    (case H_l_is_between => k_is)
    (case H_c_is_between => k_is)
    (case H_k_is_between => k_is)
    (case H_a_check_count => k_is)
    (case H_l_check_count => k_is)
    (case H_c_check_count => k_is)
    (case H_k_check_count => k_is)
    (case H_a_check_time => k_is)
    (case H_l_check_time => k_is)
    (case H_c_check_time => k_is)
    (case H_k_check_time => k_is)
    (case H_a_Machine_init => k_is)
    (case H_i_Machine_init => k_is)
    (case H_l_Machine_init => k_is)
    (case H_c_Machine_init => k_is)
    (case H_k_Machine_init => k_is)
    (case H_a_slow_tree => k_is)
    (case H_l_slow_tree => k_is)
    (case H_c_slow_tree => k_is)
    (case H_k_slow_tree => k_is)
    (case H_a_greatest_sum => k_is)
    (case H_l_greatest_sum => k_is)
    (case H_c_greatest_sum => k_is)
    (case H_k_greatest_sum => k_is)
    (case H_a_most_summed => k_is)
    (case H_l_most_summed => k_is)
    (case H_c_most_summed => k_is)
    (case H_k_most_summed => k_is)
    (case H_a__law_source => k_is)
    (case H_l__law_source => k_is)
    (case H_c__law_source => k_is)
    (case H_k__law_source => k_is)
    (case H_a__law_draw => k_is)
    (case H_l__law_draw => k_is)
    (case H_c__law_draw => k_is)
    (case H_k__law_draw => k_is)
    (case H_a__law_small => k_is)
    (case H_l__law_small => k_is)
    (case H_c__law_small => k_is)
    (case H_k__law_small => k_is)
    (case H_a__law_is => k_is)
    (case H_l__law_is => k_is)
    (case H_c__law_is => k_is)
    (case H_k__law_is => k_is)
    (case H_a__law_best => k_is)
    (case H_l__law_best => k_is)
    (case H_c__law_best => k_is)
    (case H_k__law_best => k_is)
    (case H_a__law_letters => k_is)
    (case H_l__law_letters => k_is)
    (case H_c__law_letters => k_is)
    (case H_k__law_letters => k_is)
    (case H_a_law => k_is)
    (case H_l_law => k_is)
    (case H_c_law => k_is)
    (case H_k_law => k_is)
    (case H_pg_Machine => k_is)
    (case H_hd_Machine => k_is)
    (case H_po_Machine => k_is)
    (case H_sa_Machine => k_is)
    (case H_mk_Machine => k_is)
    (case H_kc_Machine => k_is)
    (case H_nF_Machine_o => k_is)
    (case H_nF_Machine_l => k_is)
    (case H_nF_Machine_g => k_is)
    (case H_nF_Machine_letter => k_is)
    (case H_nF_Machine_gap => k_is)
    (case H_n_bool => k_is)
    (case H_n_int => k_is)
    (case H_n_isinstance => k_is)
    (case H_n_len => k_is)
    (case H_n_max => k_is)
    (case H_n_min => k_is)
    (case H_n_range => k_is)
    (case H_n_sum => k_is)
    (case H_x_MOST_SHARING => k_is)
    (case H_x_GREATEST_PART => k_is)
    (case H_x_LATEST_SUM => k_is)
    (case H_heappush => k_is)
    (case H_heappop => k_is)
